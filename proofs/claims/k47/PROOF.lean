import PyProof.Rows.All
import Wide.All
import OpenK.AllK
import Wide.FinOn
import KE.KOpsOwn
import KE.GoesMore
import KE.GoesEnum
import HandS.ForMost
import HandS.Star
import HandS.Conv
import HandS.Deep
import HandS.DictTup
import HandS.IsInst
import HandS.Walk
import HandS.SlotsOwn
import HandS.TupAny
import HandS.Property
import KE.KDflt
import HandS.Lambda
import HandS.EndTab
import HandS.Nested
import HandS.Words
import HandS.SetFor
import HandS.ExcIs
import HandS.ExcField
import KE.KExcIs
import HandS.More
import PyProof.InstEq
import KE.KItemsList
import KE.KDictWalk
import HandS.SortInts
import HandS.ListItems
import HandS.DictComp
import HandS.Iter
import HandS.Sort
import OpenK.KMeth
import HandS.Strs
import HandS.List
import HandS.Style
import PyProof.EqAt
import PyProof.EqKinds
import PyProof.TupleCall
import KE.KDictList
import HandS.Base
import HandS.Call
import HandS.Dict
import HandS.TupMul
import HandS.GenBody
import HandS.GenYield
import PyProof.GenComp
import HandS.GenList
import PyProof.FString3
import HandS.FStr
import HandS.Text
import HandS.Codes
import HandS.NoneIn
import HandS.OwnEq
import HandS.EndOwn
import KE.KNestM
import HandS.ExcSuper
import HandS.ExcInit
import HandS.RaiseMore
import HandS.WordsExc
import HandS.TupSets
import HandS.GenCall
import HandS.Small
import HandS.Flow
import HandS.Finally
import KE.KExcSuper
import PySem.Challenge.RW_rowdominoes_k47_charts
set_option Elab.async false
set_option maxRecDepth 100000
section
set_option maxHeartbeats 4000000
/-! Own signs of own classes, as rules of the hand layer. -/
namespace Own
open PySem PySem.Spec PyProof.Rows L2

section
variable {X : Cx} {CX : CXT} {n : Nat} {C g : Addr} {sp : Sp} {E : XK}

/-- an instance of C, as the library's rules want it -/
theorem insAt {pins : List (Addr × Obj)} {sl : L2.St} {H : Hp} {st : Shared} {a dx : Addr} {fs : List (Str × V)} (inv : Inv X pins sl H st) (ea : H a = some (.ins C dx fs)) :
    ∃ od, PySem.W.InstAt st.heap a (PySem.W.instObj C dx) C (some od) := by
  obtain ⟨mm, ob, _⟩ := ins_get inv.hok ea
  obtain ⟨od, at1, _⟩ := ob.look
  exact ⟨od, at1⟩
/-- the def of a sign, called with the object and one more -/
theorem run2 {pins : List (Addr × Obj)} {sl : L2.St} {H : Hp} {st : Shared} {Q : VK} {a : Addr} {y : V} {u : Value} (F : FnR X.prog X.w X.K X.mg X.base CX n g sp) (hr : Room n X.A) (hx : Passes CX X E) (inv : Inv X pins sl H st) (ry : RelV y u)
    (h : sp [.ref a, y] H Q E) : wpAny (model X.prog X.w) X.A (call (.ref g) [.ref a, u]) (PySem.W.CmpBack (EP X pins sl Q)) X.xe st := by
  have go := wpAny_call (run_fnR (us := [.ref a, u]) (vs := [.ref a, y]) F hr hx inv (.cons rfl (.cons ry .nil)) h)
  refine wpAny_mono go (fun r st' z => ?_) fun _ _ z => z
  obtain ⟨z', H', inv', rz, qz⟩ := z
  exact SlX.cmpback rz ⟨z', H', inv', rz, qz⟩

/-- x op y: the class of x has the sign's def, y is an instance of it, too -/
def rBin (C : Addr) (sp : Sp) (E : XK) : R2 := fun x y H Q => ∃ a dx fs b dy gs, x = .ref a ∧ y = .ref b ∧ H a = some (.ins C dx fs) ∧ H b = some (.ins C dy gs) ∧ sp [x, y] H Q E
theorem op_bin {op : Operator} (hc : PySem.W.selfFirst X.K C = true) (hs : PySem.W.findIn X.K (.ref C) (PySem.dunder op.info.2) = some (some (.ref g))) (hf : PySem.W.isFn X.K (.ref g) = true)
    (F : FnR X.prog X.w X.K X.mg X.base CX n g sp) (hr : Room n X.A) (hx : Passes CX X E) : OpR X (binaryOp op) (rBin C sp E) := by
  intro pins st sl H x y v u Q inv rx ry h
  obtain ⟨a, dx, fs, b, dy, gs, rfl, rfl, ea, eb, h⟩ := h
  obtain rfl : v = Value.ref a := rx
  obtain rfl : u = Value.ref b := ry
  obtain ⟨_, ja⟩ := insAt inv ea
  obtain ⟨_, jb⟩ := insAt inv eb
  obtain ⟨_, fr⟩ := inv.fr
  exact PySem.W.binop_K fr inv.ok.mod.kin ja jb.type hc hs hf (run2 (y := .ref b) F hr hx inv rfl h)

/-- x op y: y an int, a bool, None or a text -/
def flatTy : V → Option String
  | .int _ => some "int"
  | .bl _ => some "bool"
  | .non => some "NoneType"
  | .str _ => some "str"
  | _ => none
theorem typeOf_flat {y : V} {u : Value} {t : String} (h : flatTy y = some t) (r : RelV y u) : typeOf u = pure (.type t) := by
  cases y with
  | int i => obtain ⟨k, rfl⟩ := r; cases h; rfl
  | bl i => cases r; cases h; rfl
  | non => cases r; cases h; rfl
  | str i => obtain ⟨k, rfl⟩ := r; cases h; rfl
  | byt i => cases h
  | flt i => cases h
  | ref i => cases h
  | ty i => cases h
def rBinF (K : PySem.W.Frag) (C : Addr) (nm : String) (sp : Sp) (E : XK) : R2 := fun x y H Q => ∃ a dx fs t fo ro, x = .ref a ∧ H a = some (.ins C dx fs) ∧ flatTy y = some t ∧
  PySem.W.findIn K (.type t) (PySem.dunder nm) = some fo ∧ PySem.W.findIn K (.type t) (dunderR nm) = some ro ∧ PySem.W.subIn K (.type t) (.ref C) = some false ∧ sp [x, y] H Q E

/-- len(x): the class of x has __len__ -/
def rLen (C : Addr) (sp : Sp) (E : XK) : List V → Hp → VK → Prop := fun xs H Q => ∃ a dx fs, xs = [.ref a] ∧ H a = some (.ins C dx fs) ∧ sp [.ref a] H (fun z H' => ∃ k : Int, z = .int k ∧ 0 ≤ k ∧ k < 2 ^ 63 ∧ Q z H') E
theorem call_len (hs : PySem.W.findIn X.K (.ref C) "__len__" = some (some (.ref g))) (hf : PySem.W.isFn X.K (.ref g) = true) (F : FnR X.prog X.w X.K X.mg X.base CX n g sp) (hr : Room (n + 1) X.A) (hx : Passes CX X E) :
    CallR X (.builtin "len") (rLen C sp E) := by
  intro pins st sl H xs us Q inv r h
  obtain ⟨a, dx, fs, rfl, ea, h⟩ := h
  obtain ⟨u, rfl, ru⟩ := r.one
  obtain rfl : u = Value.ref a := ru
  obtain ⟨_, ja⟩ := insAt inv ea
  obtain ⟨_, fr⟩ := inv.fr
  have go := wpAny_call (SlX.run_at (A := X.A.in1) (us := [.ref a]) (ws := [.ref a]) F hr.in1 inv.env0.in1 hx inv (.cons rfl .nil) h)
  refine PySem.W.len_K fr inv.ok.mod.kin ja hs hf (wpAny_mono go (fun v st' z => ?_) fun _ _ z => z)
  obtain ⟨z', H', inv', rz, k, rfl, h0, h1, qz⟩ := z
  obtain ⟨t, rfl⟩ := rz
  exact ⟨⟨h0, h1⟩, .int k, H', inv'.tok _, ⟨_, rfl⟩, qz⟩
end

/-! ### C(), C(e), C(*e) where __init__ has a star -/
section
variable {X : Cx} {CX : CXT} {k : Nat} {f C : Addr} {sp : Sp} {E : XK} {x : Str} {e : Expr} {te : TE} {p ps pos : Pos}
theorem pe_makeR0 (M : Mk X.K C f) (F : FnR X.prog X.w X.K X.mg X.base CX k f sp) (hr : Room (k + 1) X.A) (hg : Gl X x) (hm : X.mg x = some (.ref C)) (hx : Passes CX X E) (hdb : (x == ("__debug__" : Str)) = false := by decide) :
    PE X (.Call (.Name x p) [] [] pos) (StX.tMakeR C sp E tNil) := by
  refine ⟨fun pins st sl H Q inv h => wpAny_Call_Name_kw (ld_glob inv hg hm ?_ hdb)⟩
  exact PySem.W.callWith_K0 inv.kIn M.kp (StX.run_makeR (us := []) M F hr hx inv .nil h)
/-- C(*e) -/
def tMakeS (K : PySem.W.Frag) (C : Addr) (sp : Sp) (E : XK) (te : TE) : TE := fun sl H Q => te sl H fun y H1 => ∃ a xs, y = V.ref a ∧ (SqT K H1 a xs ∨ SqL K H1 a xs) ∧ ∀ z dz, H1 z = Option.none → H1 dz = Option.none → dz ≠ z →
  sp (V.ref z :: xs) (upd (upd H1 dz (.own z)) z (.ins C dz [])) (fun v H2 => v = .non ∧ Q (.ref z) H2) E
theorem pe_makeS (M : Mk X.K C f) (F : FnR X.prog X.w X.K X.mg X.base CX k f sp) (hr : Room (k + 1) X.A) (hg : Gl X x) (hm : X.mg x = some (.ref C)) (hx : Passes CX X E) (he : PE X e te) (hdb : (x == ("__debug__" : Str)) = false := by decide)
    (hst : starEach [.Starred e ps] X.env = [(true, eval e X.env)] := by rfl) : PE X (.Call (.Name x p) [.Starred e ps] [] pos) (tMakeS X.K C sp E te) := by
  refine ⟨fun pins st sl H Q inv h => wpAny_Call_Name_kw (ld_glob inv hg hm ?_ hdb)⟩
  refine PySem.W.callWith_S (h₀ := X.base) inv.ok.mod.kin M.kp (thn (he.run pins st sl H _ inv h) fun v s1 z => ?_) hst
  obtain ⟨y, H1, inv1, ry, a, xs, ey, hxs, q⟩ := z
  subst ey
  obtain rfl : v = Value.ref a := ry
  exact StX.star_any inv1 hxs fun us s2 inv2 rv => ⟨inv2.kIn, StX.run_makeR M F hr hx inv2 rv q⟩
end

/-! ### enumerate(tuple) -/
section
def Item (K : PySem.W.Frag) (a : Addr) : It :=
  ⟨fun i H => ∃ (xs : List V) (x : V), SqT K H a xs ∧ xs[i]? = some x, fun i H v H' => ∃ T x, v = .ref T ∧ H T = none ∧ H' = upd H T (.tup [.int (i : Nat), x]) ∧ ∀ ys, SqT K H a ys → ys[i]? = some x, fun i H => ∃ ys : List V, SqT K H a ys ∧ ys.length = i⟩
theorem walk_item {K : PySem.W.Frag} {a : Addr} {xs : List V} : Walk (Item K a) xs.length (fun H => SqT K H a xs) (YPair (fun i => some (.int (i : Nat))) (fun i => xs[i]?)) := by
  refine ⟨fun i _ hi q => ⟨xs, xs[i], q, by simp [hi]⟩, fun _ q => ⟨xs, q, rfl⟩, fun i H v H' _ q y => ?_⟩
  obtain ⟨T, x, e1, e2, e3, e4⟩ := y
  exact ⟨T, .int (i : Nat), x, e1, e2, e3, rfl, e4 xs q⟩
theorem two_cases {b en it : Addr} (hb : b ∈ [en, it]) : b = en ∨ b = it := by simpa using hb
theorem turn_item {P : Program} {w : World} {K : PySem.W.Frag} {elts : List Expr} {kk : Nat} {tpos : Pos} (a en it : Addr) (hat : a ≠ it) :
    Turn P w K (.Tuple elts kk tpos) (Item K a) [en, it] en (fun i h => (∃ old, IsEnum h en it ((i : Nat) : Int) old) ∧ h.IsTupleIter it a i ∧ en ≠ it ∧ en ≠ a) where
  mem := by simp
  obj := fun i h st b hb => by
    obtain ⟨⟨_, q⟩, ⟨oo, q1, _, q2⟩, _⟩ := st
    rcases two_cases hb with rfl | rfl
    · exact ⟨_, q, fun v z => nomatch z⟩
    · exact ⟨oo, q1, fun v z => by rw [q2] at z; cases z⟩
  keep := fun i h h' st k => let ⟨⟨old, q⟩, q1, q2⟩ := st; ⟨⟨old, k en (by simp) _ q⟩, q1.at fun o z => k it (by simp) o z, q2⟩
  item := by
    intro X hP hw hK hc i pins st sl H E inv free now hg
    subst hP hw hK
    obtain ⟨⟨old, q⟩, q1, q2, q3⟩ := now
    obtain ⟨xs, x, hq, hx⟩ := hg
    obtain ⟨its, rv, hp, _⟩ := inv.tuple hq
    obtain ⟨u, hu, ru⟩ := rv.get hx
    have lt1 : en < st.heap.objs.size := Heap.lt_size q
    have lt2 : it < st.heap.objs.size := by obtain ⟨_, z, _⟩ := q1; exact Heap.lt_size z
    have lt3 : a < st.heap.objs.size := by obtain ⟨_, z, _⟩ := hp; exact Heap.lt_size z
    have dr := Draws.tuple (prog := X.prog) (w := X.w) (A := X.A.in1) (show X.A.in1.handled = none from inv.ok.hd hc) it a hat its.toArray
    have hi : i < its.toArray.size := by
      have := (List.getElem?_eq_some_iff.mp hu).1
      simpa using this
    refine wpAny_pyNext_enum_itemD dr q ⟨q1, hp⟩ hi q2 (by simp [q2, q3]) fun x' h1 tk hx' ho hs1 hT hsz hk => ?_
    obtain rfl : x' = u := by
      have z : its.toArray[i]? = some u := by simpa using hu
      rw [z] at hx'
      exact (Option.some.inj hx').symm
    refine ⟨_, rfl, wpAny_letOwnedTupleGo_enum (s := { st with heap := h1, toks := tk + 1 }) ho fun h2 he2 sb => ?_⟩
    have hT2 : h2.get? st.heap.objs.size = some { cls := .type "tuple", data := .seq #[.int i tk, x'] } := (sb.2 _ (Nat.ne_of_gt lt1)).trans hT
    have pair : ObjOk X.prog X.w (upd H st.heap.objs.size (.tup [.int (i : Nat), x])) h2 st.heap.objs.size (.tup [.int (i : Nat), x]) :=
      ⟨by show 2 ≤ sizeLine; decide, [.int i tk, x'], .cons ⟨_, rfl⟩ (.cons ru .nil), ⟨_, hT2, rfl, _, rfl⟩⟩
    have inv2 : Inv X pins sl (upd H st.heap.objs.size (.tup [.int (i : Nat), x])) { st with heap := h2, toks := tk + 1 } :=
      inv.turnedNew (ch := [en, it]) (fun b ob hb z => (sb.2 b (fun y => hb (by simp [y]))).trans (hk b ob (fun y => hb (by simp [y])) (fun y => hb (by simp [y])) z)) free (Nat.le_refl _) pair
    refine ⟨.ref st.heap.objs.size, _, inv2, rfl, ⟨_, x, rfl, inv.hok.fresh (Nat.le_refl _), rfl, fun ys hy => by rw [inv.tuple_inj hy hq]; exact hx⟩, ⟨⟨x', ?_⟩, hs1.1.at fun o z => (sb.2 it (Ne.symm q2)).trans z, q2, q3⟩, fun b hb => ?_⟩
    · have e1 : ((i + 1 : Nat) : Int) = (i : Int) + 1 := by omega
      rw [e1]
      exact he2
    · have hb' : b < st.heap.objs.size := by
        rcases two_cases hb with rfl | rfl
        · exact lt1
        · exact lt2
      rw [upd_ne (Nat.ne_of_lt hb')]
      exact (free b hb).1
  done := by
    intro X hP hw hK hc i pins st sl H E inv free now hg
    subst hP hw hK
    obtain ⟨⟨old, q⟩, q1, q2, q3⟩ := now
    obtain ⟨xs, hq, hx⟩ := hg
    obtain ⟨its, rv, hp, _⟩ := inv.tuple hq
    obtain ⟨f0, f1, f2, f3, f4, f5⟩ := free it (by simp)
    have len := rv.length
    have dr := Draws.tuple (prog := X.prog) (w := X.w) (A := X.A.in1) (show X.A.in1.handled = none from inv.ok.hd hc) it a hat (its.toArray)
    have hn : i = its.toArray.size := by rw [List.size_toArray, ← len, hx]
    subst hn
    exact wpAny_pyNext_enum_endD dr q ⟨q1, hp⟩ fun h1 eb => ⟨rfl, inv.turned (t' := st.toks) (fun b o hb z => eb b o hb z) f0 f1 f3 f4 f5⟩
  self := fun A i s Q E now h => let ⟨⟨_, q⟩, _⟩ := now; wpAny_pyIter_enum q h

theorem new_enum {v : Value} {o : Obj} {G : Heap → Prop} (B : Begins v o G) :
    Meets (Builtin.«enumerate.__new__» ⟨[.type "enumerate", v], []⟩) (fun _ R st => G st.heap ∧
      R (.ok (.ret (.ref (st.heap.push o).objs.size))) { st with heap := (st.heap.push o).push { cls := .type "enumerate", data := .fields #[.none, .bool false, .ref st.heap.objs.size, rawInt 0, .none, .none] } }) :=
  .of_wp fun prog w A R st h => by
    obtain ⟨hp, g, d, tk, os⟩ := st; obtain ⟨h1, h⟩ := h
    have hsub := sub_enumerate
    have it1 : ∀ {A' : Around} {E : Value → Shared → Prop} {Q : Value → Shared → Prop}, Q (.ref hp.objs.size) ⟨hp.push o, g, d, tk, os⟩ → wpAny (model prog w) A' (pyIter v) Q E ⟨hp, g, d, tk, os⟩ :=
      fun z => B.iter prog w _ _ ⟨hp, g, d, tk, os⟩ _ h1 z
    wp_walk using it1
    refine wpAny_stack_any fun fs => wpAny_pure ?_
    split
    · rename_i c _ _ _ _ _
      cases (c == Value.type "enumerate")
      · wp_walk using it1
        exact ⟨_, rfl, h⟩
      · wp_walk using it1
        exact ⟨_, rfl, h⟩
    · wp_walk using it1
      exact ⟨_, rfl, h⟩
section
variable {prog : Program} {w : World} {A : Around} {E : Value → Shared → Prop} {st : Shared}
theorem call_enum {v : Value} {o : Obj} {G : Heap → Prop} {Q : Value → Shared → Prop} (B : Begins v o G) (h1 : G st.heap)
    (h : ∀ h', IsEnum h' (st.heap.objs.size + 1) st.heap.objs.size 0 .none → h'.get? st.heap.objs.size = some o → h'.objs.size = st.heap.objs.size + 2 →
      (∀ b u, st.heap.get? b = some u → h'.get? b = some u) → Q (.ref (st.heap.objs.size + 1)) { st with heap := h' }) :
    wpAny (model prog w) A (call (.type "enumerate") [v]) Q E st := by
  refine callType_new F.called_enumerate (by decide) (F.typeCall_enumerate_1 _) (F.newCall_enumerate_1 _) (fun obj => F.args_object_init_2 obj _) F.entry_enumerate_new (new_enum B) ⟨h1, ?_⟩
  have sz : (st.heap.push o).objs.size = st.heap.objs.size + 1 := Heap.size_push ..
  show _ ∧ _
  rw [sz]
  have en : IsEnum ((st.heap.push o).push { cls := .type "enumerate", data := .fields #[.none, .bool false, .ref st.heap.objs.size, rawInt 0, .none, .none] }) (st.heap.objs.size + 1) st.heap.objs.size 0 .none := by
    have z := Heap.get?_push_size (st.heap.push o) (o := { cls := .type "enumerate", data := .fields #[.none, .bool false, .ref st.heap.objs.size, rawInt 0, .none, .none] }) rfl
    rw [sz] at z
    exact z
  exact ⟨⟨_, en, rfl⟩, h _ en (Heap.get?_push_of_some _ (Heap.get?_push_size _ B.free)) (by rw [Heap.size_push, sz]) fun b u z => Heap.get?_push_of_some _ (Heap.get?_push_of_some _ z)⟩
end
def iEnumT (K : PySem.W.Frag) (ta : TA) : TI := fun sl H R => ta sl H fun vs H1 => ∃ a xs, vs = [.ref a] ∧ SqT K H1 a xs ∧ R (Item K a) H1
theorem pi_enumT {X : Cx} {e : Expr} {ta : TA} {p pos tpos : Pos} {elts : List Expr} {kk : Nat} (hg : Gl X "enumerate") (hm : X.mg "enumerate" = none) (ha : PA X [e] ta) (hs : starEach [e] X.env = [(false, eval e X.env)] := by rfl) :
    PI X (.Tuple elts kk tpos) (.Call (.Name "enumerate" p) [e] [] pos) (iEnumT X.K ta) := by
  refine ⟨fun pins st sl H R inv h => Call_ (ld_blt inv hg hm boot_enumerate (PyProof.Rows.callWith_type1 (thn (ha.run pos pins st sl H _ inv h) fun us s1 z => ?_) hs rfl))⟩
  obtain ⟨vs, H1, inv1, r1, a, xs, ex, hq, q⟩ := z
  subst ex
  obtain ⟨u, rfl, ru⟩ := r1.one
  obtain rfl : u = Value.ref a := ru
  obtain ⟨its, rv, hp, _⟩ := inv1.tuple hq
  have lt3 : a < s1.heap.objs.size := by obtain ⟨_, z, _⟩ := hp; exact Heap.lt_size z
  refine call_enum (begins_tuple a its.toArray) hp fun h' en hit hsz hk => wpAny_pyIter_enum en ?_
  have inv2 : Inv X pins sl H1 { s1 with heap := h' } := inv1.kept (t' := s1.toks) hk
  refine ⟨s1.heap.objs.size + 1, [s1.heap.objs.size + 1, s1.heap.objs.size], _, _, H1, rfl, inv2, turn_item a (s1.heap.objs.size + 1) s1.heap.objs.size (Nat.ne_of_lt lt3), ⟨⟨.none, en⟩, ⟨_, hit, rfl, rfl⟩, Nat.succ_ne_self _, Nat.ne_of_gt (Nat.lt_succ_of_lt lt3)⟩, fun b hb => ?_, q⟩
  have low : s1.heap.objs.size ≤ b := by
    rcases two_cases hb with rfl | rfl
    · exact Nat.le_add_right _ _
    · exact Nat.le_refl _
  exact inv1.fpOk low (inv1.hok.fresh low)
end

/-! ### list(range(a, b, -1)) -/
section
def dnV (a b : Int) : List V := (List.range (a - b).toNat).map fun i => V.int (a - (i : Nat))
theorem dnV_length (a b : Int) : (dnV a b).length = (a - b).toNat := by unfold dnV; simp
def tDown (ta : TA) : TE := fun sl H Q => ta sl H fun vs H1 => ∃ i j : Int, vs = [.int i, .int j, .int (-1)] ∧ -1000000 ≤ i ∧ i ≤ 1000000 ∧ -1000000 ≤ j ∧ j ≤ 1000000 ∧ ∀ q, H1 q = none → Q (.ref q) (upd H1 q (.lst (dnV i j)))
theorem pe_listDown {X : Cx} {a b c : Expr} {ta : TA} {p pos rp rpos : Pos} (hc : X.calm = true) (hg : Gl X "list") (hm : X.mg "list" = none) (hg2 : Gl X "range") (hm2 : X.mg "range" = none) (ha : PA X [a, b, c] ta)
    (hs : starEach [a, b, c] X.env = (false, eval a X.env) :: starEach [b, c] X.env := by rfl) (hpl : (backTo rpos (starEach [b, c] X.env)).any (·.1) = false := by rfl)
    (na : starEach [.Call (.Name "range" rp) [a, b, c] [] rpos] X.env = (false, eval (.Call (.Name "range" rp) [a, b, c] [] rpos) X.env) :: starEach [] X.env := by rfl) :
    PE X (.Call (.Name "list" p) [.Call (.Name "range" rp) [a, b, c] [] rpos] [] pos) (tDown ta) := by
  refine ⟨fun pins st sl H Q inv h => ?_⟩
  refine Call_ (ld_blt inv hg hm boot_list (PyProof.Rows.callWith_type1 (args_cons ?_ na) na))
  refine Call_ (ld_blt inv hg2 hm2 boot_range (PyProof.Rows.callWith_type1 (thn (ha.run rpos pins st sl H _ inv h) fun us s1 z => ?_) hs hpl))
  obtain ⟨vs, H1, inv1, r1, i, j, e, b1, b2, b3, b4, q⟩ := z
  subst e
  cases r1 with
  | cons r rr =>
    cases rr with
    | cons r' rr =>
      cases rr with
      | cons r'' rr =>
        cases rr
        obtain ⟨t, rfl⟩ := r
        obtain ⟨t', rfl⟩ := r'
        obtain ⟨t'', rfl⟩ := r''
        obtain ⟨c0, c1, c2, c3⟩ := RgC.neg (i := i) (j := j) (by omega) (by omega) (by omega) (by omega)
        refine call_range_3 c0 (args_nil ?_) (.inl (PyProof.noPylong_small c1))
        have inv2 : Inv X pins sl H1 { s1 with heap := s1.heap.push { cls := .type "range", data := .fields #[.int i t, .int j t', .int (-1) t''] } } := inv1.kept (t' := s1.toks) fun b o e => Heap.get?_push_of_some _ e
        refine call_list_range (n := (i - j).toNat) (inv2.ok.hd hc) (IsRange.new ..) c2 c3 (by omega) fun h' tk acc c' hk e' hi => ?_
        refine ⟨.ref _, upd H1 _ (.lst (dnV i j)), inv2.laid hk (Nat.le_refl _) (show ObjOk X.prog X.w _ _ _ (.lst (dnV i j)) from ⟨?_, acc.toList, c', ?_, ?_⟩), rfl, q _ (inv2.hok.fresh (Nat.le_refl _))⟩
        · rw [dnV_length, sizeLine_eq]; omega
        · have e : acc.toList.length = (i - j).toNat := by rw [Array.length_toList]; exact hi.1
          unfold dnV
          rw [← e]
          refine vals_of_get acc.toList _ fun k u hk => ?_
          obtain ⟨t, rfl⟩ := hi.2 k u (by rw [← hk, Array.getElem?_toList])
          exact ⟨t, by congr 1; omega⟩
        · rw [Array.toArray_toList]; exact e'
end
end Own

/-! Lambdas as values: made, kept in lists, handed to a def that calls them. -/
namespace LamV
open PySem PySem.Spec PyProof.Rows L2 LamX NdefX
/-- a lambda as it was made -/
structure LF where
  qual : Str
  params : Arguments
  body : Expr
  scope : Scope
  cl : List (Str × Addr)
  dV : Value
  c : Addr
abbrev LF.data (F : LF) (doc pm ctv : Value) : FuncData := PySem.W.kdv_fn "<lambda>" F.qual F.params (.expr F.body) F.scope F.cl F.dV doc pm (.ref F.c) ctv
/-- at f stands the lambda F -/
def LamO (f : Addr) (F : LF) : HO := .ext fun h => ∃ (doc pm ctv : Value), h.get? f = some ({ cls := .type "function", data := .func (F.data doc pm ctv) } : Obj)
theorem lamO_at {P : Program} {w : World} {H : Hp} {hp : Heap} {f : Addr} {F : LF} (ok : HOk P w H hp) (e : H f = some (LamO f F)) : ∃ (doc pm ctv : Value), hp.get? f = some ({ cls := .type "function", data := .func (F.data doc pm ctv) } : Obj) :=
  (ok f _ e).1
section
variable {X : Cx} {pins : List (Addr × Obj)} {sl : L2.St} {H : Hp} {st : Shared}
theorem lamO_laid {F : LF} {ob : Obj} {tk : Nat} {doc pm ctv : Value} (inv : Inv X pins sl H st) (eo : ob = { cls := .type "function", data := .func (F.data doc pm ctv) }) :
    Inv X pins sl (upd H st.heap.objs.size (LamO st.heap.objs.size F)) { st with heap := st.heap.push ob, toks := tk } := by
  subst eo
  have got : (st.heap.push ({ cls := .type "function", data := .func (F.data doc pm ctv) } : Obj)).get? st.heap.objs.size = some ({ cls := .type "function", data := .func (F.data doc pm ctv) } : Obj) := Heap.get?_push_size _ rfl
  exact inv.laid (a := st.heap.objs.size) (fun _ _ q => Heap.get?_push_of_some _ q) (Nat.le_refl _) ⟨⟨doc, pm, ctv, got⟩, ⟨_, got⟩, fun _ _ ⟨a, b, c, z⟩ k => ⟨a, b, c, k _ z⟩⟩
/-- what a new lambda leaves -/
def Born (T : List (Addr × Str)) (H : Hp) (Q : VK) (F : Addr → LF) : Prop :=
  ∀ (f c' : Addr) (H1 : Hp), ExtN H H1 → (∀ b, H1 b = none → H b = none) → Tabs T H1 → H f = none → H1 f = some (LamO f (F c')) → H1 c' = some (CodeO c' (F c').qual) → Q (.ref f) H1
theorem born {T : List (Addr × Str)} {c P : Addr} {params : Arguments} {body : Expr} {scope : Scope} {pos : Pos} {dV : Value} {Q : VK} (inv : Inv X pins sl H st) (TB : TabB X.base X.mg c P) (ec : X.env.code = .ref c)
    (inT : (P, X.env.qual ++ "<lambda>") ∈ T) (one : ∀ p ∈ T, p.1 = P → p.2 = X.env.qual ++ "<lambda>") (tabs : Tabs T H) (frees : ∀ y ∈ scope.names, y.2 = .free → ∃ c, X.env.cells.lookup y.1 = some c)
    (k : Born T H Q fun c' => ⟨X.env.qual ++ "<lambda>", params, body, scope, cloFrom X.env.cells scope.names [], dV, c'⟩) :
    wpAny (model X.prog X.w) X.A (makeTail "<lambda>" (X.env.qual ++ "<lambda>") params (.expr body) scope X.env dV .none none pos pos.line) (EP X pins sl Q) X.xe st := by
  obtain ⟨ps, eP, trip, all⟩ := tabs _ inT
  have bmP : st.heap.BuiltinsAt X.mg P := TB.bm.keeps inv.bk
  have atP : st.heap.get? P = some { cls := .none, data := .fields ps } := inv.hok P _ eP
  cases found : codeAmong pos ps.toList with
  | none =>
    refine PySem.W.kdv_makeTail (mg := X.mg) (c := c) (P := P) (ps := ps) (closure_ok frees) inv.ok.glob (inv.mod.glob.keeps inv.bk) ec (TB.code.keeps inv.bk) atP trip found TB.gP bmP fun c' ctv doc hp tk but ge lt rec tb => ?_
    obtain ⟨c2, oc, vs, t, e2, hoc, hd, hv⟩ := rec
    cases e2
    have nc : H c' = none := inv.hok.fresh ge
    have j1 := inv_table (t' := tk) (more := #[rawInt pos.line, rawInt pos.col, .ref c']) (h' := hp) inv eP (fun b o n q => but b o n q) tb ge ⟨oc, vs, t, hoc, hd, hv⟩
    have ex : ExtN H (upd (upd H P (.tbl (ps ++ #[rawInt pos.line, rawInt pos.col, .ref c']))) c' (CodeO c' (X.env.qual ++ "<lambda>"))) := fun b o q n => by
      rw [upd_ne (ne_of_none q nc), upd_ne (fun z => n ps (by rw [z, eP] at q; exact (Option.some.inj q).symm))]
      exact q
    have eL : (ps ++ #[rawInt pos.line, rawInt pos.col, .ref c']).toList = ps.toList ++ [rawInt pos.line, rawInt pos.col, .ref c'] := by simp
    have t1 : Tabs T (upd (upd H P (.tbl (ps ++ #[rawInt pos.line, rawInt pos.col, .ref c']))) c' (CodeO c' (X.env.qual ++ "<lambda>"))) := fun p hp => by
      by_cases same : p.1 = P
      · rw [one p hp same, same]
        refine ⟨_, by rw [upd_ne (ne_of_none eP nc), upd_same], by rw [eL]; exact PySem.TriplesOk_snoc _ _ _ _ trip, fun p' cv q => ?_⟩
        rw [eL] at q
        rcases among_app _ trip q with z | z
        · obtain ⟨c0, q1, q2⟩ := all p' cv z
          exact ⟨c0, q1, ex _ _ q2 codeO_ne⟩
        · exact ⟨c', z, upd_same⟩
      · obtain ⟨ps', q1, q2, q3⟩ := tabs p hp
        refine ⟨ps', by rw [upd_ne (ne_of_none q1 nc), upd_ne same]; exact q1, q2, fun p' cv q => ?_⟩
        obtain ⟨c0, r1, r2⟩ := q3 p' cv q
        exact ⟨c0, r1, ex _ _ r2 codeO_ne⟩
    have nf := j1.hok.fresh (Nat.le_refl _)
    have j2 := lamO_laid (F := ⟨X.env.qual ++ "<lambda>", params, body, scope, cloFrom X.env.cells scope.names [], dV, c'⟩) (tk := tk) (doc := doc) (pm := (X.mg "__name__").getD .none) (ctv := ctv) j1 rfl
    refine ⟨.ref hp.objs.size, _, j2, rfl, k hp.objs.size c' _ (fun b o q n => ?_) (fun b q => upd_none (upd_none (upd_none q))) (fun p hp => (t1 p hp).ext fun b o q => ?_) (inv.hok.fresh (Nat.le_trans ge (Nat.le_of_lt lt))) upd_same ?_⟩
    · have q1 := ex b o q n
      exact (upd_ne (ne_of_none q1 nf)).trans q1
    · exact (upd_ne (ne_of_none q nf)).trans q
    · exact (upd_ne (Nat.ne_of_lt lt)).trans upd_same
  | some cv =>
    obtain ⟨c', ecv, known⟩ := all pos cv found
    subst ecv
    refine PySem.W.kdv_makeTailHit (mg := X.mg) (c := c) (P := P) (ps := ps) (closure_ok frees) inv.ok.glob (inv.mod.glob.keeps inv.bk) ec (TB.code.keeps inv.bk) atP trip found bmP fun ctv doc hp tk keep sz => ?_
    have j1 : Inv X pins sl H { st with heap := hp, toks := tk } := inv.kept keep
    have nf : H hp.objs.size = none := j1.hok.fresh (Nat.le_refl _)
    have j2 := lamO_laid (F := ⟨X.env.qual ++ "<lambda>", params, body, scope, cloFrom X.env.cells scope.names [], dV, c'⟩) (tk := tk) (doc := doc) (pm := (X.mg "__name__").getD .none) (ctv := ctv) j1 rfl
    refine ⟨.ref hp.objs.size, _, j2, rfl, k hp.objs.size c' _ (fun b o q n => ?_) (fun b q => upd_none q) (fun p hp => (tabs p hp).ext fun b o q => ?_) nf upd_same ?_⟩
    · exact (upd_ne (ne_of_none q nf)).trans q
    · exact (upd_ne (ne_of_none q nf)).trans q
    · exact (upd_ne (ne_of_none known nf)).trans known
/-! ### the expression -/
def tLamN (T : List (Addr × Str)) (F : Addr → LF) : TE := fun _ H Q => Tabs T H ∧ Born T H Q F
def tLamD (T : List (Addr × Str)) (te : TE) (F : Addr → Addr → LF) : TE := fun sl H Q => te sl H fun v H1 => Tabs T H1 ∧ ∀ t, H1 t = none → Born T (upd H1 t (.tup [v])) Q (F t)
theorem pe_lam0 {T : List (Addr × Str)} {c P : Addr} {params : Arguments} {body : Expr} {scope : Scope} {pos : Pos} (TB : TabB X.base X.mg c P) (ec : X.env.code = .ref c) (inT : (P, X.env.qual ++ "<lambda>") ∈ T)
    (one : ∀ p ∈ T, p.1 = P → p.2 = X.env.qual ++ "<lambda>") (frees : ∀ y ∈ scope.names, y.2 = .free → X.env.scope.names.lookup y.1 = some .cell ∨ X.env.scope.names.lookup y.1 = some .free) (nod : defaultsOf params X.env = ([], [])) :
    PE X (.Lambda params body scope pos) (tLamN T fun c' => ⟨X.env.qual ++ "<lambda>", params, body, scope, cloFrom X.env.cells scope.names [], .none, c'⟩) := by
  refine ⟨fun pins st sl H Q inv h => PySem.W.kla_eval nod ?_⟩
  rw [makeFunction_eq]
  simp only [List.zip_nil_right, List.filterMap_nil, List.isEmpty_nil, if_true, pure_bind]
  exact born inv TB ec inT one h.1 (fun y hy e => (frees y hy e).elim (fun z => inv.ok.has _ (.inl z)) fun z => inv.ok.has _ (.inr z)) h.2
theorem pe_lam1 {T : List (Addr × Str)} {c P : Addr} {params : Arguments} {body e : Expr} {scope : Scope} {pos : Pos} {te : TE} (TB : TabB X.base X.mg c P) (ec : X.env.code = .ref c) (inT : (P, X.env.qual ++ "<lambda>") ∈ T)
    (one : ∀ p ∈ T, p.1 = P → p.2 = X.env.qual ++ "<lambda>") (frees : ∀ y ∈ scope.names, y.2 = .free → X.env.scope.names.lookup y.1 = some .cell ∨ X.env.scope.names.lookup y.1 = some .free) (ed : params.defaults = [e]) (ek : params.kw_defaults = []) (he : PE X e te) :
    PE X (.Lambda params body scope pos) (tLamD T te fun t c' => ⟨X.env.qual ++ "<lambda>", params, body, scope, cloFrom X.env.cells scope.names [], .ref t, c'⟩) := by
  refine ⟨fun pins st sl H Q inv h => PySem.W.kdv_lam (by rw [ed]; rfl) ek ?_⟩
  rw [ed]
  refine PySem.W.kdv_all1 (wpAny_mono (he.run pins st sl H _ inv h) (fun u s1 q => PySem.W.kdv_all0 ?_) fun _ _ z => z)
  obtain ⟨v, H1, i1, rv, tabs, k⟩ := q
  rw [makeFunction_eq]
  simp only [List.zip_nil_right, List.filterMap_nil, List.isEmpty_nil, if_true, pure_bind, List.isEmpty_cons, Bool.false_eq_true, if_false]
  refine wpAny_bind (wpAny_newTextTuple ?_)
  have nt : H1 s1.heap.objs.size = none := i1.hok.fresh (Nat.le_refl _)
  have i2 : Inv X pins sl (upd H1 s1.heap.objs.size (.tup [v])) { s1 with heap := s1.heap.push { cls := .type "tuple", data := .seq [u].toArray }, toks := s1.toks } :=
    i1.laid (fun _ _ z => Heap.get?_push_of_some _ z) (Nat.le_refl _) ⟨by show 1 ≤ sizeLine; decide, [u], .cons rv .nil, ⟨_, Heap.get?_push_size _ rfl, rfl, _, rfl⟩⟩
  exact born i2 TB ec inT one (fun p hp => (tabs p hp).ext fun b o z => (upd_ne (ne_of_none z nt)).trans z) (fun y hy e => (frees y hy e).elim (fun z => i2.ok.has _ (.inl z)) fun z => i2.ok.has _ (.inr z)) (k _ nt)
end
/-! ### the body -/
/-- captured names, globals, and own names that the maker's frame has not -/
structure LamN (N : List Str) (sc scope : Scope) : Prop where
  kind : scope.kind = .function
  co : scope.isCoroutine = false
  gen : scope.isGenerator = false
  own : ∀ y ∈ scope.names, y.2 ≠ .cell ∧ (y.2 = .local → y.1 ∉ N)
  free : ∀ y ∈ scope.names, y.2 = .free → sc.names.lookup y.1 = some .cell ∨ sc.names.lookup y.1 = some .free
def lamNB (N : List Str) (sc scope : Scope) : Bool :=
  decide (scope.kind = .function) && !scope.isCoroutine && !scope.isGenerator && scope.names.all fun y => !decide (y.2 = .cell) && (!decide (y.2 = .local) || !N.contains y.1) && (!decide (y.2 = .free) || decide (sc.names.lookup y.1 = some .cell) || decide (sc.names.lookup y.1 = some .free))
theorem lamN_by {N : List Str} {sc scope : Scope} (h : lamNB N sc scope = true) : LamN N sc scope := by
  unfold lamNB at h
  simp only [Bool.and_eq_true, Bool.or_eq_true, Bool.not_eq_true', decide_eq_true_eq, decide_eq_false_iff_not, List.all_eq_true] at h
  obtain ⟨⟨⟨a, b⟩, c⟩, d⟩ := h
  refine ⟨a, b, c, fun y hy => ⟨(d y hy).1.1, fun e z => ?_⟩, fun y hy e => ?_⟩
  · rcases (d y hy).1.2 with q | q
    · exact q e
    · rw [List.contains_iff_mem.mpr z] at q
      cases q
  · rcases (d y hy).2 with (q | q) | q
    · exact absurd e q
    · exact .inl q
    · exact .inr q
/-- the maker's cells stand as they stood -/
def Kept (X : Cx) (h0 : Heap) (HZ : Hp) (h : Heap) : Prop := ∀ y c, X.env.cells.lookup y = some c → HZ c = none ∧ ∀ o, h0.get? c = some o → ∃ sl, h.get? c = some { o with slots := sl }
section
variable {X : Cx} {pins : List (Addr × Obj)} {sl : L2.St} {H HZ : Hp} {st s1 : Shared}
theorem enter {A : Around} {outer : List Env} {E : XK} {scope : Scope} {f c' : Addr} {h1 : Heap} {tk : Nat} {bs : List (Str × Value)} (inv : Inv X pins sl H st) (L : LamN X.N X.env.scope scope) (e0 : Env0 X.prog X.w X.K X.mg X.base A outer s1 HZ) (hd : A.handled = none)
    (kept : Kept X st.heap HZ s1.heap) (ns : h1.Ns s1.heap.objs.size fun y => bs.reverse.lookup y) (grow : ∀ b o, s1.heap.get? b = some o → h1.get? b = some o) :
    Inv (lamCx X A outer s1 HZ E scope f c') [] sl HZ { s1 with heap := h1, toks := tk } := by
  have frees : ∀ y ∈ scope.names, y.2 = .free → ∃ c, X.env.cells.lookup y.1 = some c := fun y hy e => (L.free y hy e).elim (fun z => inv.ok.has _ (.inl z)) fun z => inv.ok.has _ (.inr z)
  have same : ∀ {y c}, (cloFrom X.env.cells scope.names []).lookup y = some c → X.env.cells.lookup y = some c := fun {y c} e => clo_cm frees e
  have cell : ∀ {y : Str} {c : Addr} {v : Option Value}, X.env.cells.lookup y = some c → st.heap.IsCell c v → h1.IsCell c v := fun {y c v} q ⟨o, ho, hv⟩ => by
    obtain ⟨sl, z⟩ := (kept y c q).2 o ho
    exact ⟨_, grow _ _ z, hv⟩
  have noex : ∀ b : Addr, b ∉ (lamCx X A outer s1 HZ E scope f c').ex := fun b z => absurd (show b ∈ ([] : List Addr) from z) (by simp)
  refine ⟨⟨e0.mod, L.kind, rfl, rfl, Nat.le_refl _, fun y z c a b => inv.ok.inj y z c (same a) (same b), fun y hy => ?_, fun y c z _ => ?_, fun _ => hd, Around.frames_deeper e0.frames, .inr ⟨rfl, rfl⟩, fun b z => absurd z (noex b), e0.bs, e0.bsz, fun b _ _ => noex b,
      fun b z => absurd z (noex b), e0.funs, e0.frf⟩,
    rfl, e0.bare, Un.kept grow, ⟨_, ns, fun i y v a b d => ?_⟩, fun y c e => ?_, e0.hok.fresh (Nat.le_refl _), fun y c e => (kept y c (same e)).1, fun q hq => absurd (show q ∈ ([] : List (Addr × Obj)) ++ [] from hq) (by simp), e0.hok.kept grow, inv.len⟩
  · have hy : scope.names.lookup y = some .cell ∨ scope.names.lookup y = some .free := hy
    rcases hy with z | z
    · exact absurd rfl (L.own _ (PySem.mem_of_lookup z)).1
    · obtain ⟨c, q⟩ := frees _ (PySem.mem_of_lookup z) rfl
      exact ⟨c, clo_has frees (PySem.mem_of_lookup z) q⟩
  · have z : false = true := z
    cases z
  · have d : Vis scope y := d
    have a : X.N[i]? = some y := a
    rcases d with k | k | k
    · exact absurd (List.mem_of_getElem? a) ((L.own _ (PySem.mem_of_lookup k)).2 rfl)
    · exact absurd rfl (L.own _ (PySem.mem_of_lookup k)).1
    · obtain ⟨m, hn, look⟩ := inv.loc
      have fr := L.free _ (PySem.mem_of_lookup k) rfl
      obtain ⟨u, r, q⟩ := look i y v a b (fr.elim (fun z => .inr (.inl z)) fun z => .inr (.inr z))
      obtain ⟨c1, h1'⟩ := frees _ (PySem.mem_of_lookup k) rfl
      refine ⟨u, r, .inr ⟨.inr k, c1, clo_has frees (PySem.mem_of_lookup k) h1', ?_⟩⟩
      rcases q with ⟨k', _⟩ | ⟨_, c2, q1, q2⟩
      · have k' : X.env.scope.names.lookup y = some .local := k'
        rcases fr with z | z <;> rw [show X.env.scope.names.lookup y = _ from z] at k' <;> cases k'
      · have e : c2 = c1 := Option.some.inj (q1.symm.trans h1')
        subst e
        exact cell h1' q2
  · obtain ⟨w', z⟩ := inv.cell y c (same e)
    exact ⟨w', cell (same e) z⟩
/-- a call without arguments finds its bindings -/
def Bound (P : Program) (w : World) (F : LF) (D : Hp → Prop) : Prop := ∀ (s : Shared) (H : Hp), HOk P w H s.heap → D H → ∀ doc pm ctv, ∃ bs, BindsTo s (F.data doc pm ctv) ⟨[], []⟩ bs ∧ ∀ y ∈ bs, F.scope.names.lookup y.1 = some .local
/-- v(), in the def that got the lambda: that def's context, entered at s1 with H1 -/
theorem pe_act {CXg : CXT} {Eg : XK} {Ng : List Str} {qg : Str} {sg : Scope} {g f : Addr} {cdg : Value} {F : LF} {D : Hp → Prop} {k i : Nat} {a : Str} {pn : List (Addr × Obj)} {xe : Value → Shared → Prop} {W : WX} {E : XK} {tb : TE} {p1 p2 : Pos} {H1 : Hp}
    (inv : Inv X pins sl H st) (eq : F.qual = X.env.qual ++ "<lambda>") (ec : F.cl = cloFrom X.env.cells F.scope.names []) (L : LamN X.N X.env.scope F.scope) (bd : Bound X.prog X.w F D) (kept : Kept X st.heap H1 s1.heap)
    (tk : Takes ((cxOf CXg X.prog X.w X.K X.mg X.base Ng qg sg g cdg X.A X.stack s1 H1 Eg).tr pn xe) W) (hW : ∀ cls d σ' H', E cls d H' → W cls d σ' H') (hr : Room (k + 1) (X.A.deeper (envOfC qg sg s1.heap.objs.size g cdg)))
    (hbody : ∀ (A : Around) (outer : List Env) (s : Shared) (H : Hp), Room k (A.deeper (lamEnv X F.scope s.heap.objs.size f F.c)) → PE (lamCx X A outer s H E F.scope f F.c) F.body tb)
    (hN : Ng[i]? = some a) (hv : Vis sg a) (hd : (a == ("__debug__" : Str)) = false := by decide) (hcd : (a == ("__classdict__" : Str)) = false := by decide) :
    PE ((cxOf CXg X.prog X.w X.K X.mg X.base Ng qg sg g cdg X.A X.stack s1 H1 Eg).tr pn xe) (.Call (.Name a p1) [] [] p2)
      (fun σZ HZ Q => σZ[i]? = some (some (.ref f)) ∧ HZ f = some (LamO f F) ∧ HZ F.c = some (CodeO F.c F.qual) ∧ D HZ ∧ tb sl HZ Q) := by
  refine ⟨fun pinsZ sZ σZ HZ Q IZ h => ?_⟩
  obtain ⟨at_, isF, isC, dv, go⟩ := h
  refine wpAny_Call_Name_kw (thn ((pe_var (pos := p1) (i := i) hN hv hd hcd).run pinsZ sZ σZ HZ (fun v H2 => v = .ref f ∧ H2 = HZ) IZ ⟨.ref f, at_, rfl, rfl⟩) fun u s2 ⟨v, H2, J, rv, qv⟩ => ?_)
  obtain ⟨ev, eH⟩ := qv
  subst ev
  rw [eH] at J
  obtain rfl : u = Value.ref f := rv
  obtain ⟨doc, pm, ctv, ob⟩ := lamO_at J.hok isF
  refine PySem.W.callWith_F0 ⟨_, _, _, _, ob⟩ ?_
  have un : Un (frs X.stack) [] H1 HZ s1.heap s2.heap := J.base
  have kept2 : Kept X st.heap HZ s2.heap := fun y c q => by
    obtain ⟨n1, k1⟩ := kept y c q
    obtain ⟨v0, o0, ho0, _⟩ := inv.cell y c q
    obtain ⟨sl0, z0⟩ := k1 o0 ho0
    refine ⟨un.free c _ z0 n1 (by simp), fun o ho => ?_⟩
    obtain ⟨sl1, z1⟩ := k1 o ho
    obtain ⟨sl2, z2⟩ := un.any z1 n1 (by simp)
    exact ⟨sl2, z2⟩
  obtain ⟨bs, bto, bl⟩ := bd s2 HZ J.hok dv doc pm ctv
  have rc : codeAny (model X.prog X.w) (X.A.deeper (envOfC qg sg s1.heap.objs.size g cdg)) (.call (.ref f) ⟨[], []⟩) (CR (L2.CX X.prog X.w) (envOfC qg sg s1.heap.objs.size g cdg :: X.stack) X.prog X.w HZ s2 Q E) s2 := by
    refine PySem.W.kla_callFunE hr.depth ob rfl L.co L.gen rfl (codeO_at J.hok isC) (bto _ _ _ _ ?_)
    refine wpAny_newFunctionEnv (fun y hy => (L.own y hy).1) bl (fun h1 ns sb => ⟨J.nolimit.fresh _ sb, ?_⟩) L.kind
    have grow : ∀ b o, s2.heap.get? b = some o → h1.get? b = some o := fun b o e => sb.extBut b o (Nat.ne_of_lt (Heap.lt_size e)) (Heap.get?_push_of_some _ e)
    have start : Inv (lamCx X (X.A.deeper (envOfC qg sg s1.heap.objs.size g cdg)) (envOfC qg sg s1.heap.objs.size g cdg :: X.stack) s2 HZ E F.scope f F.c) [] sl HZ { s2 with heap := h1, toks := s2.toks + bs.length } :=
      enter inv L J.env0 hr.hd kept2 ns grow
    show codeAny _ _ (.expr F.body (PySem.W.envX F.qual F.scope s2.heap.objs.size f (.ref F.c) F.cl)) _ _
    rw [eq, ec]
    refine PySem.W.kla_codeExpr (wpAny_mono ((hbody _ _ s2 HZ (hr.deeper _)).run [] _ _ HZ Q start go) (fun v s' q => ?_) fun e s' q => q)
    obtain ⟨u', H', J', rv', q'⟩ := q
    exact ⟨u', H', J'.os, J'.bare, J'.base, J'.hok, rv', q'⟩
  have ps : Passes (L2.CX X.prog X.w) ((cxOf CXg X.prog X.w X.K X.mg X.base Ng qg sg g cdg X.A X.stack s1 H1 Eg).tr pn xe) E := passes_call tk hW
  refine wpAny_call (codeAny_mono rc fun r s' q => ?_)
  match r, q with
  | .error e, q => exact ps pinsZ σZ HZ s2 e s' J q
  | .ok (.ret u), q => exact J.after q
  | .ok .next, q => exact False.elim q
  | .ok .brk, q => exact False.elim q
  | .ok .cont, q => exact False.elim q
/-- the def that calls what it got, at the first slot: TT tells what it makes of the lambda's reading -/
def Gives (X : Cx) (Ng : List Str) (x : Str) (sg : Scope) (g : Addr) (cdg : Value) (bg : List Stmt) (a : Str) (TT : (XK → Hp → VK → Prop) → Hp → VK → Prop) : Prop :=
  ∀ (f : Addr) (is : Hp → Prop) (s : Shared) (H : Hp) (Q : VK) (tl : XK → Hp → VK → Prop),
    (∀ (W : WX) (pn : List (Addr × Obj)) (xe : Value → Shared → Prop) (E : XK) (p1 p2 : Pos), Takes ((cxOf CX0 X.prog X.w X.K X.mg X.base Ng x sg g cdg X.A X.stack s H E0).tr pn xe) W → (∀ cls d σ' H', E cls d H' → W cls d σ' H') →
      PE ((cxOf CX0 X.prog X.w X.K X.mg X.base Ng x sg g cdg X.A X.stack s H E0).tr pn xe) (.Call (.Name a p1) [] [] p2) (fun σZ HZ Q => σZ[0]? = some (some (.ref f)) ∧ is HZ ∧ tl E HZ Q)) →
    is H → TT tl H Q →
    ∃ t, PSs (cxOf CX0 X.prog X.w X.K X.mg X.base Ng x sg g cdg X.A X.stack s H E0).nox bg t ∧ t { nx := fun _ H' => Q .non H', rt := Q } (L2.start Ng [.ref f]) H
/-- a written lambda's place in the maker's frame: its words, and its body's reading -/
structure Form where
  params : Arguments
  body : Expr
  scope : Scope
  t : XK → TE
def LF.is (F : LF) (f : Addr) (D : Hp → Prop) (HZ : Hp) : Prop := HZ f = some (LamO f F) ∧ HZ F.c = some (CodeO F.c F.qual) ∧ D HZ
/-- F is the lambda of these words, made here -/
structure LF.Of (F : LF) (X : Cx) (o : Form) (D : Hp → Prop) (k : Nat) : Prop where
  qual : F.qual = X.env.qual ++ "<lambda>"
  body : F.body = o.body
  scope : F.scope = o.scope
  cl : F.cl = cloFrom X.env.cells F.scope.names []
  names : LamN X.N X.env.scope F.scope
  bound : Bound X.prog X.w F D
  reads : ∀ (A : Around) (outer : List Env) (s : Shared) (H : Hp) (E : XK) (f c' : Addr), Room k (A.deeper (lamEnv X o.scope s.heap.objs.size f c')) → PE (lamCx X A outer s H E o.scope f c') o.body (o.t E)
theorem code_give {x a : Str} {g f : Addr} {k : Nat} {pg : Arguments} {bg : List Stmt} {sg : Scope} {dV kV doc pm cdv ct oc : Value} {an od : Option Addr} {osl : Array (Option Value)} {Ng : List Str} {TT : (XK → Hp → VK → Prop) → Hp → VK → Prop}
    {F : LF} {o : Form} {D : Hp → Prop} {H1 : Hp} {Q : VK} (inv : Inv X pins sl H st) (of : F.Of X o D k)
    (lk : X.K.lookup g = some ⟨oc, od, .func (PySem.W.fnOf x x pg bg sg dV kV doc pm an cdv ct), osl⟩) (hcg : PySem.W.codeIn X.K cdv x = true) (hb : L2.Binds X.K (PySem.W.fnOf x x pg bg sg dV kV doc pm an cdv ct) [a] []) (Sg : FnScope Ng [a] sg) (hNg : Ng[0]? = some a) (hva : Vis sg a)
    (hG : Gives X Ng x sg g cdv bg a TT) (hr : Room (k + 2) X.A) (e0 : Env0 X.prog X.w X.K X.mg X.base X.A X.stack s1 H1) (kept : Kept X st.heap H1 s1.heap) (is : F.is f D H1) (go : TT (fun E H' Q' => o.t E sl H' Q') H1 Q)
    (hd : (a == ("__debug__" : Str)) = false := by decide) (hcd : (a == ("__classdict__" : Str)) = false := by decide) :
    codeAny (model X.prog X.w) X.A (.call (.ref g) ⟨[.ref f], []⟩) (CR CX0 X.stack X.prog X.w H1 s1 Q E0) s1 := by
  refine run_ofS (N := Ng) (ps := [a]) (us := [.ref f]) (vs := [.ref f]) lk hcg Sg hr e0 (hb s1 [.ref f] (e0.mod.kin.keeps fun b o e => (e0.bs b o e).1) rfl) (.cons rfl .nil) rfl fun hr' => ?_
  obtain ⟨eq, eb, es, ec, L, bd, hbody⟩ := of
  have hb' : ∀ (E : XK) (A : Around) (outer : List Env) (s : Shared) (H : Hp), Room k (A.deeper (lamEnv X F.scope s.heap.objs.size f F.c)) → PE (lamCx X A outer s H E F.scope f F.c) F.body (o.t E) := by
    rw [es, eb]
    exact fun E A outer s H r => hbody A outer s H E f F.c r
  obtain ⟨t', ht', hq'⟩ := hG f (F.is f D) s1 H1 Q (fun E H' Q' => o.t E sl H' Q') (fun W pn xe E p1 p2 tk hW => ⟨fun pinsZ sZ σZ HZ Q' IZ h =>
    (pe_act (i := 0) inv eq ec L bd kept tk hW hr' (hb' E) hNg hva hd hcd).run pinsZ sZ σZ HZ Q' IZ ⟨h.1, h.2.1.1, h.2.1.2.1, h.2.1.2.2, h.2.2⟩⟩) is go
  exact ⟨t', ht'.nox, hq'⟩
theorem Kept.here (inv : Inv X pins sl H st) : Kept X st.heap H st.heap := fun y c q => ⟨inv.freeC y c q, fun o ho => ⟨o.slots, ho⟩⟩
/-- back from the call -/
theorem back {Y : Cx} {pinsY : List (Addr × Obj)} {slY : L2.St} {HY : Hp} {sY : Shared} {Q : VK} {v : Value} {args : Args} (J : Inv Y pinsY slY HY sY)
    (rc : codeAny (model Y.prog Y.w) Y.A (.call v args) (CR CX0 Y.stack Y.prog Y.w HY sY Q E0) sY) : wpAny (model Y.prog Y.w) Y.A (call v args.pos args.kw) (EP Y pinsY slY Q) Y.xe sY := by
  refine wpAny_call (codeAny_mono rc fun r s' q => ?_)
  match r, q with
  | .ok (.ret u), q => exact J.after q
  | .error e, q => exact False.elim q
  | .ok .brk, q => exact False.elim q
  | .ok .cont, q => exact False.elim q
  | .ok .next, q => exact False.elim q
/-- the reading of x(e), e a lambda made in the frame of X at the slots sl -/
def tGive (X : Cx) (k : Nat) (TT : (XK → Hp → VK → Prop) → Hp → VK → Prop) (ta : TA) (sl : L2.St) : TE := fun slY H Q => ta slY H fun vs H1 =>
  ∃ (f : Addr) (F : LF) (o : Form) (D : Hp → Prop), vs = [.ref f] ∧ F.Of X o D k ∧ F.is f D H1 ∧ TT (fun E H' Q' => o.t E sl H' Q') H1 Q
theorem pe_give {x a : Str} {g : Addr} {k : Nat} {pg : Arguments} {bg : List Stmt} {sg : Scope} {dV kV doc pm cdv ct oc : Value} {an od : Option Addr} {osl : Array (Option Value)} {Ng : List Str} {TT : (XK → Hp → VK → Prop) → Hp → VK → Prop} {e : Expr} {ta : TA} {p pos : Pos}
    (hg : Gl X x) (hm : X.mg x = some (.ref g)) (hk : PySem.W.keepIn X.K (.ref g) = true)
    (lk : X.K.lookup g = some ⟨oc, od, .func (PySem.W.fnOf x x pg bg sg dV kV doc pm an cdv ct), osl⟩) (hcg : PySem.W.codeIn X.K cdv x = true) (hb : L2.Binds X.K (PySem.W.fnOf x x pg bg sg dV kV doc pm an cdv ct) [a] []) (Sg : FnScope Ng [a] sg) (hNg : Ng[0]? = some a) (hva : Vis sg a)
    (hG : Gives X Ng x sg g cdv bg a TT) (hr : Room (k + 2) X.A) (ha : PA X [e] ta) (he : starEach [e] X.env = [(false, eval e X.env)] := by rfl)
    (hdb : (x == ("__debug__" : Str)) = false := by decide) (hd : (a == ("__debug__" : Str)) = false := by decide) (hcd : (a == ("__classdict__" : Str)) = false := by decide) :
    PE X (.Call (.Name x p) [e] [] pos) (fun sl H Q => tGive X k TT ta sl sl H Q) := by
  refine ⟨fun pins st sl H Q inv h => wpAny_Call_Name_kw (ld_glob inv hg hm ?_ hdb)⟩
  refine PySem.W.callWith_K (h₀ := X.base) inv.ok.mod.kin hk (thn (ha.run pos pins st sl H _ inv h) fun us s1 ⟨vs, H1, J, r, q⟩ => ⟨J.kIn, ?_⟩) he (by rfl)
  obtain ⟨f, F, o, D, rfl, of, is, go⟩ := q
  obtain ⟨u, rfl, ru⟩ : ∃ u, us = [u] ∧ RelV (.ref f) u := by
    cases r with
    | cons a b => cases b; exact ⟨_, rfl, a⟩
  obtain rfl : u = .ref f := ru
  exact back (args := ⟨[.ref f], []⟩) J (code_give J of lk hcg hb Sg hNg hva hG hr J.env0 (Kept.here J) is go hd hcd)
/-- .. in a block of the frame of X -/
theorem pe_giveB {x a : Str} {g : Addr} {k : Nat} {pg : Arguments} {bg : List Stmt} {sg : Scope} {dV kV doc pm cdv ct oc : Value} {an od : Option Addr} {osl : Array (Option Value)} {Ng : List Str} {TT : (XK → Hp → VK → Prop) → Hp → VK → Prop} {e : Expr} {ta : TA} {p pos : Pos}
    {scope : Scope} {cenv : Env} {fp : List Addr} (inv : Inv X pins sl H st) (nfp : ∀ b ∈ fp, ∀ y c, X.env.cells.lookup y = some c → c ≠ b) (hg : Gl (X.blk st H scope cenv fp) x) (hm : X.mg x = some (.ref g)) (hk : PySem.W.keepIn X.K (.ref g) = true)
    (lk : X.K.lookup g = some ⟨oc, od, .func (PySem.W.fnOf x x pg bg sg dV kV doc pm an cdv ct), osl⟩) (hcg : PySem.W.codeIn X.K cdv x = true) (hb : L2.Binds X.K (PySem.W.fnOf x x pg bg sg dV kV doc pm an cdv ct) [a] []) (Sg : FnScope Ng [a] sg) (hNg : Ng[0]? = some a) (hva : Vis sg a)
    (hG : Gives X Ng x sg g cdv bg a TT) (hr : Room (k + 2) X.A) (ha : PA (X.blk st H scope cenv fp) [e] ta) (he : starEach [e] cenv = [(false, eval e cenv)] := by rfl)
    (hdb : (x == ("__debug__" : Str)) = false := by decide) (hd : (a == ("__debug__" : Str)) = false := by decide) (hcd : (a == ("__classdict__" : Str)) = false := by decide) :
    PE (X.blk st H scope cenv fp) (.Call (.Name x p) [e] [] pos) (tGive X k TT ta sl) := by
  refine ⟨fun pinsY sY slY HY Q invY h => wpAny_Call_Name_kw (ld_glob invY hg hm ?_ hdb)⟩
  refine PySem.W.callWith_K (h₀ := X.base) invY.ok.mod.kin hk (thn (ha.run pos pinsY sY slY HY _ invY h) fun us s1 ⟨vs, H1, J, r, q⟩ => ⟨J.kIn, ?_⟩) he (by rfl)
  obtain ⟨f, F, o, D, rfl, of, is, go⟩ := q
  obtain ⟨u, rfl, ru⟩ : ∃ u, us = [u] ∧ RelV (.ref f) u := by
    cases r with
    | cons a b => cases b; exact ⟨_, rfl, a⟩
  obtain rfl : u = .ref f := ru
  have un := J.base
  have kept : Kept X st.heap H1 s1.heap := fun y c q => by
    have out : c ∉ fp := fun z => nfp c z y c q rfl
    obtain ⟨v0, o0, ho0, _⟩ := inv.cell y c q
    have n0 := inv.freeC y c q
    exact ⟨un.free c _ ho0 n0 out, fun o ho => un.any ho n0 out⟩
  exact back (Y := X.blk st H scope cenv fp) (args := ⟨[.ref f], []⟩) J (code_give (X := X) inv of lk hcg hb Sg hNg hva hG hr J.env0 kept is go hd hcd)
/-! ### a comprehension that keeps nothing, its test told of the frame as it stands -/
def tNone (wi : TI) (g : TG) (tt : L2.St → TT) (vs : List Nat) : TE := fun sl H Q => wi sl H fun J H1 => ∀ D, H1 D = none → ∃ W : Nat → Nat → Hp → Prop, (∃ m, W 0 m (upd H1 D (.lst []))) ∧
  ∀ i m G, W i m G → (J.stop i G ∧ Q (.ref D) G) ∨ (J.go i G ∧ ∀ x G1, J.yld i G x G1 → g x (wipe sl vs) G1 fun s2 G2 => wipe s2 vs = wipe sl vs ∧ tt sl s2 G2 fun b G3 => b = false ∧ ∃ m', m' < m ∧ W (i + 1) m' G3)
theorem pe_none {elt tg iter : Expr} {ifs : List Expr} {scope : Scope} {own : List (Str × Nat)} {pos : Pos} {wi : TI} {g : TG} {tt : L2.St → TT} (calm : X.calm = true) (nd : X.N.Nodup) (hi : PI X tg iter wi) (ok : BlkOk X.N X.env.scope scope own)
    (hg : ∀ (s : Shared) (H : Hp) (C : Addr) (cl : List (Str × Addr)) (fp : List Addr), PG (X.blk s H scope (compEnvC scope cl C X.env) fp) tg g)
    (ht : ∀ (pins : List (Addr × Obj)) (st : Shared) (sl : L2.St) (H : Hp) (C : Addr) (cl : List (Str × Addr)) (fp : List Addr), Inv X pins sl H st → (∀ b ∈ fp, ∀ y c, X.env.cells.lookup y = some c → c ≠ b) → PTs (X.blk st H scope (compEnvC scope cl C X.env) fp) ifs (tt sl))
    (hs : ∀ x, foldedSetIterable iter X.env x = pure x := by intro _; rfl) : PE X (.ListComp elt [⟨tg, iter, ifs, 0⟩] scope pos) (tNone wi g tt (own.map (·.2))) := by
  refine ⟨fun pins st sl H Q inv h => ?_⟩
  rw [eval_ListComp]
  have frees : ∀ y ∈ scope.names, y.2 = .free → ∃ c, X.env.cells.lookup y.1 = some c := fun y hy e => (ok.free y hy e).elim (fun z => inv.ok.has _ (.inl z)) fun z => inv.ok.has _ (.inr z)
  refine wpAny_comprehension_free (use := none) rfl hs (closure_ok frees) ok.kind (fun y hy e => (ok.uniq y hy).trans (by rw [e])) (thn (hi.run pins st sl H _ inv h) fun _ _ go => thn go fun _ sa found => ?_)
  obtain ⟨it, fp, tn, J, H1, rfl, ia, T, ta, fa, more⟩ := found
  refine wpAny_newObj_type (newEnv_comp ?_) (by show 0 ≤ sizeLine; decide)
  have nD : H1 sa.heap.objs.size = none := ia.hok.fresh (Nat.le_refl _)
  obtain ⟨W, ⟨m0, w0⟩, each⟩ := more _ nD
  generalize eD : sa.heap.objs.size = D at nD w0 each ⊢
  have small : ∀ b ∈ fp, b < sa.heap.objs.size := fun b hb => let ⟨_, e, _⟩ := T.obj _ _ ta b hb; Heap.lt_size e
  -- the new list is laid
  obtain ⟨sb, esb⟩ : ∃ sb : Shared, sb = { sa with heap := sa.heap.push { cls := .type "list", data := .seq ([] : List Value).toArray } } := ⟨_, rfl⟩
  have grow1 : ∀ b o, sa.heap.get? b = some o → sb.heap.get? b = some o := fun b o e => by rw [esb]; exact Heap.get?_push_of_some _ e
  have ib : Inv X pins sl (upd H1 D (.lst [])) sb := by
    rw [esb, ← eD]
    exact ia.laid (t' := sa.toks) (fun _ _ e => Heap.get?_push_of_some _ e) (Nat.le_refl _) ⟨Nat.zero_le _, [], 0, .nil, Heap.get?_push_size _ rfl⟩
  have fb : ∀ b ∈ fp, FpOk X pins (upd H1 D (.lst [])) b ∧ b < sb.heap.objs.size := fun b hb => by
    have lt := small b hb
    refine ⟨⟨(upd_ne (by rw [← eD]; exact Nat.ne_of_lt lt)).trans (fa b hb).1, (fa b hb).2⟩, ?_⟩
    rw [esb, Heap.size_push]
    exact Nat.lt_succ_of_lt lt
  rw [← esb]
  -- the block
  have ic := block_start ib ok nd fb
  generalize eC : sb.heap.objs.size = C at ic ⊢
  generalize eG : upd H1 D (.lst []) = G at ib fb ic w0
  have pg := hg sb G C (cellsFrom (C + 1) scope.names (cloFrom X.env.cells scope.names [])) fp
  have pt := ht pins sb sl G C (cellsFrom (C + 1) scope.names (cloFrom X.env.cells scope.names [])) fp ib fun b hb y c e => (fb b hb).1.2.2.2.2.1 y c e
  generalize eE : compEnvC scope (cellsFrom (C + 1) scope.names (cloFrom X.env.cells scope.names [])) C X.env = ce at ic pg pt
  have lE : ce.locals = C := by rw [← eE]; rfl
  generalize esc : ({ sb with heap := pushCells (sb.heap.push { cls := .type "dict", data := .dict #[] }) scope.names } : Shared) = sc at ic
  have tc : tn 0 sc.heap := T.keep _ _ _ ta fun b _ o e => by rw [← esc]; exact pushCells_keeps _ _ _ _ (Heap.get?_push_of_some _ (grow1 b o e))
  have held : ∀ {s2 : L2.St} {G2 : Hp} {t2 : Shared}, Inv (X.blk sb G scope ce fp) [] s2 G2 t2 → (∀ b ∈ fp, G2 b = none) → ∀ b ∈ fp, FpOk (X.blk sb G scope ce fp) [] G2 b := fun iv nb b hb =>
    ⟨nb b hb, (iv.ok.exf b hb).1, iv.ok.exfs b hb, .inl hb, fun y c e => (iv.ok.exf b hb).2 y c e, fun p hp => absurd (show p ∈ ([] : List (Addr × Obj)) ++ [] from hp) (by simp)⟩
  have turns : codeAny (model X.prog X.w) X.A (.compLoop (.ListComp elt [⟨tg, iter, ifs, 0⟩] scope pos) 0 (.ref it) (.ref D) ce) (compPost (model X.prog X.w) X.A X.xe none (EP X pins sl Q) (.ref D) C) sc := by
    refine compLoop_any (fun m t => ∃ i G2, Inv (X.blk sb G scope ce fp) [] (wipe sl (own.map (·.2))) G2 t ∧ tn i t.heap ∧ (∀ b ∈ fp, G2 b = none) ∧ W i m G2) ?_ m0 ⟨0, G, ic, tc, fun b hb => (fb b hb).1.1, w0⟩
    rintro m t ⟨i, G2, i2, t2, n2, w2⟩
    cases each i m G2 w2 with
    | inl stop =>
      refine thnF (T.done (X.blk sb G scope ce fp) rfl rfl rfl calm i [] t _ G2 (fun _ _ => False) i2 (held i2 n2) t2 stop.1) fun r t3 done => ?_
      obtain ⟨rfl, i3⟩ := done
      have i4 : Inv X pins sl G2 t3 := ib.call' (ch := fp) i3.os i3.base i3.hok i3.bare fun b hb => ⟨(fb b hb).1.2.2.2.1, (fb b hb).1.2.1, (fb b hb).1.2.2.2.2.1, (fb b hb).1.2.2.2.2.2⟩
      have nC : G2 C = none := by rw [← lE]; exact i3.free
      obtain ⟨names, hn, _⟩ := i3.loc
      have hn : t3.heap.Ns ce.locals names := hn
      rw [lE] at hn
      obtain ⟨f0, f1, f2, f3, f4, f5⟩ := ib.fpOk (Nat.le_of_eq eC) nC
      exact ⟨names, hn, fun hp sbt => ⟨.ref D, G2, i4.turned (t' := t3.toks) (fun b o nb e => (sbt.2 b nb).trans e) f0 f1 f3 f4 f5, rfl, stop.2⟩⟩
    | inr next =>
      refine thnF (T.item (X.blk sb G scope ce fp) rfl rfl rfl calm i [] t _ G2 (fun _ _ => False) i2 (held i2 n2) t2 next.1) fun r t3 came => ?_
      obtain ⟨u, rfl, kept⟩ := came
      refine thnF kept fun _ t4 got => ?_
      obtain ⟨x, G4, i4, r4, y4, tn4, n4⟩ := got
      refine thnF (pg.run _ t4 _ G4 x u _ (i4.pinned (held i4 n4) (T.obj _ _ tn4)) r4 (next.2 x G4 y4)) fun _ t5 put => ?_
      obtain ⟨s5, G5, i5, e5, q5⟩ := put
      refine thnF (pt.run _ t5 s5 G5 _ i5 q5) fun b t6 told => ?_
      obtain ⟨G6, i6, eb, m', lt, w6⟩ := told
      subst eb
      have pin : ∀ b ∈ fp, ∀ o, t4.heap.get? b = some o → t6.heap.get? b = some o ∧ G6 b = none := fun b hb o e =>
        have z := i6.pin (b, o) (List.mem_append_right _ (List.mem_append_right _ (mem_pinsAt hb e)))
        ⟨z.1, z.2.1⟩
      simp only [Bool.false_eq_true, if_false]
      refine ⟨m', lt, i + 1, G6, (i6.unpinned (pins := [])).weak (by rw [← e5, wipe_length]) (fun j v e => ?_), T.keep _ _ _ tn4 fun b hb o e => (pin b hb o e).1, fun b hb => ?_, w6⟩
      · rw [← e5] at e
        exact (wipe_some e).1
      · obtain ⟨o, e, _⟩ := T.obj _ _ tn4 b hb
        exact (pin b hb o e).2
  have fine := codeAny_compStart_list turns (T.self X.A 0 _ _ _ tc turns)
  rw [← eE] at fine
  subst eC
  exact fine
end
end LamV

namespace LamV
open PySem PySem.Spec PyProof.Rows L2
/-! ### list.count over nested data, isinstance of a caught exception with or without fields -/
def rCountD (K : PySem.W.Frag) : V → List V → Hp → VK → Prop := fun x xs H Q => ∃ (a : Addr) (y : V) (d : PyData) (ds : List PyData), x = .ref a ∧ xs = [y] ∧ Dp K H (.ref a) (.list ds) ∧ Dp K H y d ∧ SeqAt.shaped (.list ds) = true ∧ SeqAt.shaped d = true ∧ Q (.int (ds.countP fun z => PyData.eqv z d : Nat)) H
section
variable {X : Cx}
theorem mt_countD (hu : X.A.units + 65 < cLine) : MtR X "list.count" (rCountD X.K) := by
  intro pins st sl H x xs v us Q inv rx rxs h
  obtain ⟨a, y, d, ds, rfl, rfl, dl, dy, sh, sd, q⟩ := h
  obtain rfl : v = .ref a := rx
  obtain ⟨uy, rfl, ry⟩ := rxs.one
  obtain ⟨bs, r1⟩ := Dp.reads inv d y uy dy ry
  have lay : PyData.canLayAll0 ds = true := SeqAt.canLay_of_shaped sh
  cases dl with
  | lst hs ha =>
    obtain ⟨its, rv, ⟨⟨cls, dd, data, sls⟩, n, ho, hc, _, hdt⟩, _⟩ := inv.list hs
    simp only at hc hdt
    subst hc hdt
    obtain ⟨as, reads⟩ := Dp.readsAll inv ds _ its ha rv
    have em : its.map (SeqAt.readOf st.heap) = ds := SeqAt.readsAll_map ds its as lay reads
    refine call_meets PySem.F.slot_list_count ⟨_, ho, rfl⟩ PySem.F.entry_list_count (PySem.F.args_list_count_2 _ _) (SeqAt.list_countAt a its.toArray n dd sls uy (fun u => PyData.eqv (SeqAt.readOf st.heap u) d)) ⟨ho, SeqAt.items_eqAt (vs := its.toArray) reads r1 lay (SeqAt.canLay_of_shaped sd) (room_in_shaped sd hu), ?_⟩
    refine ⟨.int (ds.countP fun z => PyData.eqv z d : Nat), H, inv.tok _, ⟨st.toks, ?_⟩, q⟩
    rw [← em, List.countP_map]
    rfl
/-- isinstance(e, c), e the caught exception of the class D, its dict at d if it has one -/
def rIsD (K : PySem.W.Frag) (D a : Addr) (d : Option Addr) : List V → Hp → VK → Prop := fun xs H Q => ∃ (c : V) (cv : Value) (b : Bool), xs = [.ref a, c] ∧ (∀ u, RelV c u → u = cv) ∧ PySem.W.kitOne K (.ref D) cv = some b ∧ (∀ dd, d = some dd → ∃ fs, H dd = some (.xd fs)) ∧ Q (.bl b) H
theorem call_isD {a D : Addr} {oe : Obj} {d : Option Addr} {pn : List (Addr × Obj)} (C : ExcC X.K D) (hz : Zc (.ref D) d oe) (hf : ∃ vs, oe.data = .fields vs) : CallR (X.suite a ((a, oe) :: pn)) (.builtin "isinstance") (rIsD X.K D a d) := by
  intro pins st sl H xs us Q inv r h
  obtain ⟨c, cv, b, rfl, one, is, dict, q⟩ := h
  cases r with
  | cons rx rr =>
    obtain ⟨ut, rfl, rt⟩ := Vals.one rr
    obtain rfl := one _ rt
    obtain rfl := (show _ = Value.ref a from rx)
    obtain ⟨got, _⟩ := inv.pin (a, oe) (List.mem_append.mpr (.inl List.mem_cons_self))
    obtain ⟨vs, hv⟩ := hf
    have fin : ∀ tk, EP (X.suite a ((a, oe) :: pn)) pins sl Q (.bool b) { st with toks := tk } := fun tk => ⟨.bl b, H, inv.kept (t' := tk) fun _ _ z => z, rfl, q⟩
    have nc : PySem.W.notCls oe = true := by
      unfold PySem.W.notCls
      rw [hv] <;> rfl
    cases d with
    | none => exact PySem.W.kia_one (PySem.W.handS_kitx_exc C.hg C.hk C.hs C.hd C.ha C.hn C.ht C.hm) inv.kIn (show PySem.W.InstAt st.heap a oe D none from ⟨got, hz.1, nc, by rw [hz.2]; trivial⟩) is (fun z => nomatch z) fin
    | some dd =>
      obtain ⟨fs, ed⟩ := dict dd rfl
      obtain ⟨mA, ns, _⟩ := (show ObjOk X.prog X.w H st.heap dd (.xd fs) from inv.hok dd _ ed)
      obtain ⟨od, ho, _⟩ := lookIn_ns ns
      exact PySem.W.kia_one (PySem.W.kitx_exc (by obtain ⟨cd, e, _⟩ := PySem.W.any_some C.hd; rw [e]; rfl) C.hg C.hk C.hs C.ha C.hn C.ht C.hm) inv.kIn (show PySem.W.InstAt st.heap a oe D (some od) from ⟨got, hz.1, nc, by rw [hz.2]; exact ho⟩) is (fun z => nomatch z) fin
end
end LamV

/-! x != y and x == y of instances whose class has its own __eq__ alone. -/
namespace Own
open PySem PySem.Spec PyProof.Rows L2
section
variable {prog : Program} {w : World} {A : Around} {E : Value → Shared → Prop} {s : Shared} {K : PySem.W.Frag} {x y C g : Addr} {ox oy : Obj} {od od' : Option Obj}
/-- object.__ne__ asks __eq__ -/
theorem ne_body {Q : Fin → Shared → Prop} (hu : A.units < cLine) (KX : K.In s.heap) (I : PySem.W.InstAt s.heap x ox C od) (hs : PySem.W.findIn K (.ref C) "__eq__" = some (some (.ref g))) (hf : PySem.W.isFn K (.ref g) = true)
    (h : wpAny (model prog w) A (call (.ref g) [.ref x, .ref y]) (fun v s' => ∃ b, v = .bool b ∧ Q (.done (.ret (.bool !b))) s') E s) : wpAny (model prog w) A (Builtin.«object.__ne__» ⟨[.ref x, .ref y], []⟩) Q E s := by
  unfold Builtin.«object.__ne__»
  refine wpAny_bind (wpAny_of_eq (a := ((Value.ref x : Value), [Value.ref y])) (by first | rfl | (simp only [slotArgs]; rfl)) ?_)
  refine wpAny_bind (wpAny_cRoomFor hu ?_)
  refine wpAny_bind (PySem.W.ifBound_K (args := [.ref y]) KX I hs hf (wpAny_mono h (fun v s' z => ?_) fun _ _ z => z))
  obtain ⟨b, rfl, q⟩ := z
  exact wpAny_bind (wpAny_pure (wpAny_pure q))
theorem rich_ne {Q : Value → Shared → Prop} (hu : A.units + 1 < cLine) (KX : K.In s.heap) (I : PySem.W.InstAt s.heap x ox C od) (J : PySem.W.InstAt s.heap y oy C od') (hn : PySem.W.findIn K (.ref C) "__ne__" = some (some (.builtin "object.__ne__")))
    (ho : PySem.W.subIn K (.ref C) (.type "object") = some true) (hs : PySem.W.findIn K (.ref C) "__eq__" = some (some (.ref g))) (hf : PySem.W.isFn K (.ref g) = true)
    (h : wpAny (model prog w) A.in1 (call (.ref g) [.ref x, .ref y]) (fun v s' => ∃ b, v = .bool b ∧ Q (.bool !b) s') E s) : wpAny (model prog w) A (richCompare .NotEq (.ref x) (.ref y)) Q E s := by
  have one : wpAny (model prog w) A (tryCompare (.ref x) "__ne__" (.ref y)) (fun r s' => ∃ v, r = some v ∧ Q v s') E s := by
    unfold tryCompare
    have sub : PySem.W.Looks (model prog w) s.heap (isInstance (.ref x) (.type "object")) true := (I.type).andThen (PySem.W.looks_subIn KX ho)
    have run : wpAny (model prog w) A (call (.builtin "object.__ne__") [.ref x, .ref y]) (fun v s' => ∃ b, v = .bool b ∧ Q (.bool b) s') E s := by
      refine wpAny_call (codeAny_call_builtin PySem.F.cmp_object.ne.plain PySem.F.cmpEntry_ne (PySem.W.check_slot PySem.F.cmpKind_ne PySem.F.cmpSplit_ne sub (PySem.F.cmpArgs_ne _ _) ?_))
      refine ne_body (A := A.in1) (by show A.units + 1 < cLine; exact hu) KX I hs hf (wpAny_mono h (fun v s' z => ?_) fun _ _ z => z)
      obtain ⟨b, rfl, q⟩ := z
      exact ⟨b, rfl, _, rfl, q⟩
    refine wpAny_bind ?_
    simp only [callSpecialIfBound?, bindSpecialIfBound?]
    refine wpAny_holding (wpAny_bind (wpAny_bind (wpAny_bind (I.type.here ((PySem.W.looks_findIn KX hn).here ?_)))))
    refine wpAny_bind (wpAny_askSetting (wpAny_ite ?_))
    have fin : wpAny (model prog w) A (call (.builtin "object.__ne__") ([.ref x] ++ [.ref y]) >>= fun v => pure (some v)) (fun r s' => wpAny (model prog w) A (match r with | some .notImplemented | none => pure none | some v => pure (some v) : Sem (Option Value)) (fun r s' => ∃ v, r = some v ∧ Q v s') E s') E s :=
      wpAny_bind (wpAny_mono run (fun v s' z => by obtain ⟨b, rfl, q⟩ := z; exact wpAny_pure (wpAny_pure ⟨_, rfl, q⟩)) fun _ _ z => z)
    split
    · rw [PySem.F.cmp_object.ne.bind (.ref x)]
      exact wpAny_bind (wpAny_pure (wpAny_pure fin))
    · rw [PySem.F.cmp_object.ne.bind (.ref x)]
      exact wpAny_tryCatch (wpAny_bind (wpAny_pure (wpAny_pure fin)))
  unfold richCompare
  simp only [PySem.oneThing_ref]
  refine wpAny_holding (wpAny_bind (wpAny_cRoomFor (by omega) (wpAny_bind (I.type.here (wpAny_bind (J.type.here ?_))))))
  rw [if_neg (by simp)]
  refine wpAny_bind (wpAny_pure ?_)
  simp only [Bool.false_eq_true, if_false]
  refine wpAny_bind (wpAny_mono one (fun r s' z => ?_) fun _ _ e => e)
  obtain ⟨v, rfl, q⟩ := z
  exact wpAny_pure q
end
section
variable {X : Cx} {CX : CXT} {n : Nat} {C g : Addr} {sp : Sp} {E : XK}
/-- x == y, x != y: instances of C that hold attributes; the own __eq__ answers with a truth value -/
def rOwnEq (neg : Bool) (C : Addr) (sp : Sp) (E : XK) : R2 := fun x y H Q => ∃ a dx fs b dy gs, x = .ref a ∧ y = .ref b ∧ H a = some (.ins C dx fs) ∧ H b = some (.ins C dy gs) ∧ sp [x, y] H (fun v H' => ∃ r, v = .bl r ∧ Q (.bl (if neg then !r else r)) H') E
theorem op_neOwn (hn : PySem.W.findIn X.K (.ref C) "__ne__" = some (some (.builtin "object.__ne__"))) (ho : PySem.W.subIn X.K (.ref C) (.type "object") = some true) (hs : PySem.W.findIn X.K (.ref C) "__eq__" = some (some (.ref g))) (hf : PySem.W.isFn X.K (.ref g) = true)
    (F : FnR X.prog X.w X.K X.mg X.base CX n g sp) (hr : Room (n + 1) X.A) (hx : Passes CX X E) : OpR X (compareOp .NotEq) (rOwnEq true C sp E) := by
  intro pins st sl H x y v u Q inv rx ry h
  obtain ⟨a, dx, fs, b, dy, gs, rfl, rfl, ea, eb, q⟩ := h
  obtain rfl := (show v = Value.ref a from rx)
  obtain rfl := (show u = Value.ref b from ry)
  obtain ⟨oa, ia⟩ := insAt inv ea
  obtain ⟨ob, ib⟩ := insAt inv eb
  show wpAny _ _ (richCompare .NotEq (.ref a) (.ref b)) _ _ _
  refine rich_ne (hu_of hr) inv.kIn ia ib hn ho hs hf (wpAny_mono (wpAny_call (SlX.run_at (us := [.ref a, .ref b]) (ws := [.ref a, .ref b]) F (Room.in1 hr) inv.env0.in1 hx inv (.cons rfl (.cons rfl .nil)) q)) (fun w s' z => ?_) fun _ _ z => z)
  obtain ⟨z', H', inv', rz, r, ez, qz⟩ := z
  subst ez
  obtain rfl := (show w = Value.bool r from rz)
  exact ⟨r, rfl, .bl (!r), H', inv', rfl, qz⟩
/-- o.m(), m a def with a star -/
theorem pe_methR0 {k : Nat} {f : Addr} {m : Str} {o : Expr} {ta : TE} {apos pos : Pos} {pl : Sem Bool} (he : PE X o ta) (c : Cls X.K C) (hm : Meth X.K C m f) (F : FnR X.prog X.w X.K X.mg X.base CX k f sp) (hr : Room k X.A) (hx : Passes CX X E)
    (ht : eval (.Call (.Attribute o m apos) [] [] pos) X.env = (do let ov ← eval o X.env; standAt apos.atName; let (f, first) ← holding [ov] (getMethod ov m pl); callWith pos f first (backTo pos (starEach [] X.env)) (backToKw pos (keywordEach [] X.env))) := by rfl) :
    PE X (.Call (.Attribute o m apos) [] [] pos) (tMethR C m sp E ta tNil) := by
  refine ⟨fun pins st sl H Q inv h => PySem.W.methodCall_KW (pl := pl) (thn (he.run pins st sl H _ inv h) fun u s1 got => ?_) ht⟩
  obtain ⟨x, H1, i1, rx, a, dx, fs, rfl, ea, lk, q⟩ := got
  obtain rfl := (show u = Value.ref a from rx)
  refine getmeth_ok i1 ea c hm lk ?_
  exact PySem.W.callWith_K0 (first := [.ref a]) i1.kIn hm.kp (wpAny_call (run_fnR (us := [.ref a]) (vs := [.ref a]) F hr hx i1 (.cons rfl .nil) q))
end
end Own

/-! Dicts with int keys: sorted, min, max of them; sorted(d.items()) of ints; x not in a tuple of data. -/
namespace DictI
open PySem PySem.Spec PyProof.Rows L2
section
variable {X : Cx}
theorem keyInt {knd : Bool} {i : Int} {v : Value} (h : keyIs (Sum.inl i : Key) v = true) : ∃ t, v = .int i t := by
  have r : RelV (.int i) v := relV_key h
  exact r
theorem ints_at {vs : List (Key × Value)} {acc : List Value} {ns : List Int} (hkeys : vs.map (·.1) = ns.map Sum.inl) (hal : acc.length = ns.length)
    (hv : ∀ (j : Nat) (v : Value), acc[j]? = some v → ∃ k x, vs[j]? = some (k, x) ∧ keyIs k v = true) : IntsAre acc ns := by
  have each : ∀ v ∈ acc, ∃ i t, v = Value.int i t := fun v hv' => by
    obtain ⟨j, hj⟩ := List.mem_iff_getElem?.mp hv'
    obtain ⟨k, x, e1, e2⟩ := hv j v hj
    have e3 : (vs.map (·.1))[j]? = some k := by rw [List.getElem?_map, e1]; rfl
    rw [hkeys, List.getElem?_map] at e3
    cases e4 : ns[j]? with
    | none => rw [e4] at e3; cases e3
    | some i =>
      rw [e4] at e3
      obtain rfl : Sum.inl i = k := Option.some.inj e3
      obtain ⟨t, rfl⟩ := keyInt (knd := true) e2
      exact ⟨i, t, rfl⟩
  have e : acc.map SrtO.iv = ns := by
    apply List.ext_getElem?
    intro j
    rw [List.getElem?_map]
    cases ha : acc[j]? with
    | none =>
      have : ns.length ≤ j := by rw [← hal]; exact List.getElem?_eq_none_iff.mp ha
      rw [List.getElem?_eq_none_iff.mpr this]
      rfl
    | some v =>
      obtain ⟨k, x, e1, e2⟩ := hv j v ha
      have e3 : (vs.map (·.1))[j]? = some k := by rw [List.getElem?_map, e1]; rfl
      rw [hkeys, List.getElem?_map] at e3
      cases e4 : ns[j]? with
      | none => rw [e4] at e3; cases e3
      | some i =>
        rw [e4] at e3
        obtain rfl : Sum.inl i = k := Option.some.inj e3
        obtain ⟨t, rfl⟩ := keyInt (knd := true) e2
        rfl
  have := SrtO.ints_iv each
  rwa [e] at this
def rSortedDI : List V → Hp → VK → Prop := fun xs H Q => ∃ (a : Addr) (kvs : List (Key × V)) (ns : List Int), xs = [.ref a] ∧ Rd H a (.dK kvs) ∧ kvs.map (·.1) = ns.map Sum.inl ∧
    ∀ (ys : List Int) (p : Addr), ys.Perm ns → ys.Pairwise (· ≤ ·) → H p = none → Q (.ref p) (upd H p (.lst (ys.map V.int)))
/-- sorted(d), d's keys ints -/
theorem cr_sortedDI (hcalm : X.calm = true) : CallR X (.builtin "sorted") rSortedDI := by
  intro pins s σ H xs us Q I r q
  obtain ⟨a, kvs, ns, ex, hd, hks, q⟩ := q
  subst ex
  obtain ⟨u, eu, rx⟩ := vals1 r
  subst eu
  cases rx
  obtain ⟨z, lo, vs, rel, dd⟩ := dk_rd I.hok hd
  obtain ⟨ep, hat⟩ := dd.dictAt
  have hkeys : vs.map (·.1) = ns.map Sum.inl := rel.keys.symm.trans hks
  have hl : vs.length = ns.length := by
    have e := congrArg List.length hkeys
    rw [List.length_map, List.length_map] at e
    exact e
  have h16 : vs.length ≤ sizeLine := by rw [← Paired.length rel]; exact z
  refine Calls.call_function_entry PyProof.Rows.kind_sorted PyProof.Rows.plain_sorted PyProof.Rows.entry_sorted (PyProof.Rows.args_sorted1 _) ?_
  unfold Builtin.«sorted»
  refine wpAny_bind (m := checkCount "sorted" 1 1 _) (wpAny_pure ?_)
  refine wpAny_bind (PySem.W.kdu_collect (A := X.A.in1) (PySem.W.kdl_dict (knd := mixKind X.prog X.w) (kvs := vs) (ep := ep) lo) (I.ok.hd hcalm) hat h16 fun h' tk acc hk hacc => ?_)
  have hal : acc.toList.length = ns.length := by rw [Array.length_toList, hacc.1, hl]
  have hi : IntsAre acc.toList ns := ints_at hkeys hal fun j v e => hacc.2 j v (by rw [← Array.getElem?_toList]; exact e)
  have I1 : Inv X pins σ H { s with heap := h', toks := tk } := I.kept hk
  have hz : acc.toList.length ≤ sizeLine := by rw [hal, ← hl]; exact h16
  refine wpAny_bind (wpAny_newList ?_ hz)
  have hoL : (h'.push (seqObj "list" acc.toList.toArray 0)).get? h'.objs.size = some (seqObj "list" acc.toList.toArray 0) := Heap.get?_push_size _ rfl
  show wpAny _ _ _ _ _ { s with heap := h'.push (seqObj "list" acc.toList.toArray 0), toks := tk }
  refine wpAny_bind (wpAny_holding (wpAny_call_entry PyProof.Rows.slot_list_sort ⟨_, hoL, rfl⟩ PyProof.Rows.entry_list_sort
    (SrtO.list_sort_ord SrtO.swo_int hoL hz (fun h2 => SrtO.ints_sortable hi h2) fun out h1 h2 => ⟨_, rfl, ?_⟩) (PyProof.Rows.args_list_sort _)))
  obtain ⟨k1, k2, k3⟩ := SrtO.ints_out hi h1 h2
  obtain ⟨e', he'⟩ := PyProof.Rows.sortedHeap_at (vs := acc.toList) (out := out.toArray) hoL
  have hlen : ((out.map SrtO.iv).map V.int).length ≤ sizeLine := by
    rw [List.length_map, k2.length_eq, ← hl]
    exact h16
  refine wpAny_pure ⟨_, rfl, .ref h'.objs.size, upd H h'.objs.size (.lst ((out.map SrtO.iv).map V.int)), I1.laid (t' := tk) (fun b u e => ?_) (Nat.le_refl _)
    (show ObjOk X.prog X.w _ _ _ (.lst ((out.map SrtO.iv).map V.int)) from ⟨hlen, out, e', vals_of_ints k1, he'⟩), rfl, q _ _ k2 k3 (I1.hok.fresh (Nat.le_refl _))⟩
  have hb : b < h'.objs.size := Heap.lt_size e
  rw [PyProof.Rows.sortedHeap_old (Nat.ne_of_lt hb) (by rw [size_push']; exact Nat.lt_succ_of_lt hb)]
  exact Heap.get?_push_of_some _ e
def rBestDI (le : Int → Int → Prop) : List V → Hp → VK → Prop := fun xs H Q => ∃ (a : Addr) (kvs : List (Key × V)) (ns : List Int), xs = [.ref a] ∧ Rd H a (.dK kvs) ∧ kvs.map (·.1) = ns.map Sum.inl ∧ 0 < ns.length ∧
    ∀ m, m ∈ ns → (∀ y ∈ ns, le m y) → Q (.int m) H
theorem key_at {vs : List (Key × Value)} {ns : List Int} (hkeys : vs.map (·.1) = ns.map Sum.inl) {i : Nat} {v : Value} (h : ∃ k x, vs[i]? = some (k, x) ∧ keyIs k v = true) : ∃ t, v = .int (ns.getD i 0) t := by
  obtain ⟨k, x, e1, e2⟩ := h
  have e3 : (vs.map (·.1))[i]? = some k := by rw [List.getElem?_map, e1]; rfl
  rw [hkeys, List.getElem?_map] at e3
  cases e4 : ns[i]? with
  | none => rw [e4] at e3; cases e3
  | some j =>
    rw [e4] at e3
    obtain rfl : Sum.inl j = k := Option.some.inj e3
    rw [List.getD_eq_getElem?_getD, e4]
    exact keyInt (knd := true) e2
theorem getD_in {ns : List Int} {i : Nat} (h : i < ns.length) : ns.getD i 0 ∈ ns := by
  rw [List.getD_eq_getElem?_getD, List.getElem?_eq_getElem h]
  exact List.getElem_mem h
theorem in_getD {ns : List Int} {y : Int} (h : y ∈ ns) : ∃ j, j < ns.length ∧ ns.getD j 0 = y := by
  obtain ⟨j, hj, e⟩ := List.mem_iff_getElem.mp h
  exact ⟨j, hj, by rw [List.getD_eq_getElem?_getD, List.getElem?_eq_getElem hj]; exact e⟩
/-- min(d), d's keys ints -/
theorem cr_minDI (hc : X.calm = true) : CallR X (.builtin "min") (rBestDI (· ≤ ·)) := by
  intro pins s σ H xs us Q I r h
  obtain ⟨a, kvs, ns, rfl, hd, hks, hne, q⟩ := h
  rw [Vals.ref1 r]
  obtain ⟨z, lo, vs, rel, dd⟩ := dk_rd I.hok hd
  obtain ⟨ep, hat⟩ := dd.dictAt
  have hkeys : vs.map (·.1) = ns.map Sum.inl := rel.keys.symm.trans hks
  have hl : vs.length = ns.length := by
    have e := congrArg List.length hkeys
    rw [List.length_map, List.length_map] at e
    exact e
  have ha : a < s.heap.objs.size := hat.lt_size
  refine call_min_walk (wpAny_pyIter_dict lo hat ?_)
  refine ⟨_, _, _, _, _, _, fun i j => decide (ns.getD i 0 < ns.getD j 0), rfl, Walks.dictKeys (A := X.A.in1) (I.ok.hd hc) _ a (Nat.ne_of_lt ha) vs ep, ⟨⟨_, Heap.get?_push_size _ rfl, rfl, rfl⟩, hat.push _⟩, fun b hb => ?_, by omega, CmpOf.ints_lt (fun i => ns.getD i 0) (fun i v z => key_at hkeys z), fun v h' tk hv' hk => ?_⟩
  · show b < (s.heap.push _).objs.size
    rw [size_push']
    rcases List.mem_cons.mp hb with z | z
    · rw [z]
      exact Nat.lt_succ_self _
    · rw [List.mem_singleton.mp z]
      exact Nat.lt_succ_of_lt ha
  · obtain ⟨t, rfl⟩ := key_at hkeys hv'
    obtain ⟨m1', m2'⟩ := argBest_lt (fun i => ns.getD i 0) (vs.length - 1)
    refine ⟨.int _, H, I.kept fun b o e => hk b o (fun z => ?_) (Heap.get?_push_of_some _ e), ⟨t, rfl⟩, q _ (getD_in (by omega)) fun y hy => ?_⟩
    · rw [List.mem_singleton.mp z] at e
      exact absurd (Heap.lt_size e) (Nat.lt_irrefl _)
    · obtain ⟨j, hj, rfl⟩ := in_getD hy
      exact m2' j (by omega)
/-- max(d), d's keys ints -/
theorem cr_maxDI (hc : X.calm = true) : CallR X (.builtin "max") (rBestDI (· ≥ ·)) := by
  intro pins s σ H xs us Q I r h
  obtain ⟨a, kvs, ns, rfl, hd, hks, hne, q⟩ := h
  rw [Vals.ref1 r]
  obtain ⟨z, lo, vs, rel, dd⟩ := dk_rd I.hok hd
  obtain ⟨ep, hat⟩ := dd.dictAt
  have hkeys : vs.map (·.1) = ns.map Sum.inl := rel.keys.symm.trans hks
  have hl : vs.length = ns.length := by
    have e := congrArg List.length hkeys
    rw [List.length_map, List.length_map] at e
    exact e
  have ha : a < s.heap.objs.size := hat.lt_size
  refine call_max_walk (wpAny_pyIter_dict lo hat ?_)
  refine ⟨_, _, _, _, _, _, fun i j => decide (ns.getD i 0 > ns.getD j 0), rfl, Walks.dictKeys (A := X.A.in1) (I.ok.hd hc) _ a (Nat.ne_of_lt ha) vs ep, ⟨⟨_, Heap.get?_push_size _ rfl, rfl, rfl⟩, hat.push _⟩, fun b hb => ?_, by omega, CmpOf.ints_gt (fun i => ns.getD i 0) (fun i v z => key_at hkeys z), fun v h' tk hv' hk => ?_⟩
  · show b < (s.heap.push _).objs.size
    rw [size_push']
    rcases List.mem_cons.mp hb with z | z
    · rw [z]
      exact Nat.lt_succ_self _
    · rw [List.mem_singleton.mp z]
      exact Nat.lt_succ_of_lt ha
  · obtain ⟨t, rfl⟩ := key_at hkeys hv'
    obtain ⟨m1', m2'⟩ := argBest_gt (fun i => ns.getD i 0) (vs.length - 1)
    refine ⟨.int _, H, I.kept fun b o e => hk b o (fun z => ?_) (Heap.get?_push_of_some _ e), ⟨t, rfl⟩, q _ (getD_in (by omega)) fun y hy => ?_⟩
    · rw [List.mem_singleton.mp z] at e
      exact absurd (Heap.lt_size e) (Nat.lt_irrefl _)
    · obtain ⟨j, hj, rfl⟩ := in_getD hy
      exact m2' j (by omega)
/-- x not in a tuple of data -/
def rNotInT (K : PySem.W.Frag) : R2 := fun x y H Q => ∃ d ds, Dp K H x d ∧ Dp K H y (.tuple ds) ∧ SeqAt.shaped d = true ∧ SeqAt.shaped (.list ds) = true ∧ Q (.bl (!ds.any fun z => PyData.eqv z d)) H
theorem op_notInT (hu : X.A.units + 65 < cLine) : OpR X (compareOp .NotIn) (rNotInT X.K) := by
  intro pins s σ H x y v u Q I rx ry h
  obtain ⟨d, ds, hd, he, sd, se, q⟩ := h
  obtain ⟨as, r1⟩ := Dp.reads I d x v hd rx
  obtain ⟨bs, r2⟩ := Dp.reads I (.tuple ds) y u he ry
  exact SeqAt.notIn_tuple_reads r2 r1 (SeqAt.canLay_of_shaped se) (SeqAt.canLay_of_shaped sd) (room_in_shaped sd hu) ⟨.bl _, H, I, rfl, q⟩
/-- d.items() as a value, d's keys ints or texts -/
def rItemsK : V → List V → Hp → VK → Prop := fun x xs H Q => ∃ (a : Addr) (kvs : List (Key × V)), x = .ref a ∧ xs = [] ∧ H a = some (.dK kvs) ∧ ∀ p, H p = none → Q (.ref p) (upd H p (DX.itemsO p a))
theorem mt_itemsK : MtR X "dict.items" rItemsK := by
  intro pins s σ H x xs v us Q I rx rxs h
  obtain ⟨a, kvs, rfl, rfl, ha, q⟩ := h
  cases rx
  cases rxs
  obtain ⟨z, hs0, vs, kv, hdo⟩ := I.hok a _ ha
  refine call_meetsIn F.slot_dict_items hdo.typeIs F.entry_dict_items (F.args_dict_items_1 _) (meets_dict_items (mixKind X.prog X.w) a hs0) ⟨⟨vs, hdo⟩, ?_⟩
  have hf : H s.heap.objs.size = none := I.hok.fresh (Nat.le_refl _)
  exact ⟨.ref s.heap.objs.size, upd H s.heap.objs.size (DX.itemsO s.heap.objs.size a), I.laid (t' := s.toks) (fun b u e => Heap.get?_push_of_some _ e) (Nat.le_refl _) (DX.itemsO_ok (Heap.get?_push_size _ rfl)), rfl, q _ hf⟩
abbrev entI (e : Int × Int) : Key × V := (Sum.inl e.1, V.int e.2)
def addrV : Value → Addr
  | .ref b => b
  | _ => 0
/-- sorted(d.items()), keys and values ints -/
def rSortIK : List V → Hp → VK → Prop := fun vs H Q => ∃ (p a : Addr) (fs : List (Int × Int)), vs = [.ref p] ∧ H p = some (DX.itemsO p a) ∧ H a = some (.dK (fs.map entI)) ∧
  ∀ (H' : Hp) (l : Addr) (ts : List Addr) (ys : List (Int × Int)), (∀ b o, H b = some o → H' b = some o) → H l = none → ys.Perm fs → ys.Pairwise (fun x y => SrtO.lexB y x = false) → H' l = some (.lst (ts.map V.ref)) →
    Paired (fun (t : Addr) (y : Int × Int) => H' t = some (.tup [.int y.1, .int y.2])) ts ys → Q (.ref l) H'
theorem paired_map {α β γ : Type} {F : α → β → Prop} (f : γ → α) (g : γ → β) : ∀ {l : List γ}, (∀ x ∈ l, F (f x) (g x)) → Paired F (l.map f) (l.map g)
  | [], _ => .nil
  | x :: l, h => .cons (h x (by simp)) (paired_map f g fun z hz => h z (by simp [hz]))
theorem cr_sortedIK (hc : X.calm = true) : CallR X (.builtin "sorted") rSortIK := by
  intro pins s σ H xs us Q I r h
  obtain ⟨p, a, fs, rfl, hp, ha, q⟩ := h
  obtain rfl := Vals.ref1 r
  have view : s.heap.IsItemsView p a := (show ObjOk X.prog X.w H s.heap p (DX.itemsO p a) from I.hok p _ hp).1
  obtain ⟨z, lo, vs, rel, dd⟩ := dk_of I.hok ha
  obtain ⟨ep, hat⟩ := dd.dictAt
  have l1 : (fs.map entI).length = vs.length := Paired.length rel
  rw [List.length_map] at l1 z
  have hh : X.A.handled = none := I.ok.hd hc
  refine Calls.call_function_entry PyProof.Rows.kind_sorted PyProof.Rows.plain_sorted PyProof.Rows.entry_sorted (PyProof.Rows.args_sorted1 _) ?_
  unfold Builtin.«sorted»
  refine wpAny_bind (m := checkCount "sorted" 1 1 _) (wpAny_pure ?_)
  obtain ⟨es, ep', raw, esz, eat⟩ := dd.raw
  refine wpAny_bind (DT.collectI (A := X.A.in1) (es := es) (ep := ep') hh view raw (by omega) fun h' tk as hk hlt0 hl hG => ?_)
  have hz : (as.map Value.ref).length ≤ sizeLine := by rw [List.length_map, hl]; omega
  refine wpAny_bind (wpAny_newList ?_ hz)
  have laf : as.length = fs.length := by omega
  have nd : as.Nodup := hG.rise.imp (fun h => Nat.ne_of_lt h)
  -- the pairs that were made
  have pr : ∀ (j : Nat) (b : Addr), as[j]? = some b → ∃ (e : Int × Int) (t u : Tok), fs[j]? = some e ∧ h'.get? b = some { cls := .type "tuple", data := .seq #[Value.int e.1 t, Value.int e.2 u] } := by
    intro j b hj
    obtain ⟨en, he, f3⟩ := hG.pairs j b hj
    obtain ⟨hjs, rfl⟩ := Array.getElem?_eq_some_iff.mp he
    obtain ⟨⟨k, x⟩, f1⟩ : ∃ p, vs[j]? = some p := ⟨vs[j]'(by omega), by simp⟩
    obtain ⟨f2, fx⟩ := eat j hjs k x f1
    obtain ⟨qv, g1, g2, g3⟩ := DX.pget rel f1
    have g3 : RelV qv.2 x := g3
    rw [← fx] at g3
    rw [List.getElem?_map] at g1
    cases hfj : fs[j]? with
    | none => rw [hfj] at g1; cases g1
    | some e =>
      rw [hfj] at g1
      obtain rfl : entI e = qv := Option.some.inj g1
      have f2' : keyIs (Sum.inl e.1 : Key) es[j].key = true := by
        have : (entI e).1 = k := g2
        rw [← this] at f2
        exact f2
      obtain ⟨t, et⟩ := keyInt (knd := true) f2'
      obtain ⟨u, eu⟩ : ∃ u, es[j].val = Value.int e.2 u := g3
      rw [et, eu] at f3
      exact ⟨e, t, u, rfl, f3⟩
  -- each pair's ints
  let k : Value → Int × Int := fun v => fs.getD (as.idxOf (addrV v)) (0, 0)
  have k_at : ∀ (j : Nat) (b : Addr) (e : Int × Int), as[j]? = some b → fs[j]? = some e → k (.ref b) = e := fun j b e hj he => by
    obtain ⟨hlt, rfl⟩ := List.getElem?_eq_some_iff.mp hj
    show fs.getD (as.idxOf as[j]) (0, 0) = e
    rw [nd.idxOf_getElem, List.getD_eq_getElem?_getD, he]
    rfl
  -- the heap of the sort
  have hoL : (h'.push (seqObj "list" (as.map Value.ref).toArray 0)).get? h'.objs.size = some (seqObj "list" (as.map Value.ref).toArray 0) := Heap.get?_push_size _ rfl
  have ka : ∀ b o, h'.get? b = some o → (h'.push (seqObj "list" (as.map Value.ref).toArray 0)).get? b = some o := fun b o e => Heap.get?_push_of_some _ e
  have ne0 : ∀ b o, h'.get? b = some o → b ≠ h'.objs.size := fun b o e => Nat.ne_of_lt (Heap.lt_size e)
  have hls : h'.objs.size < (h'.push (seqObj "list" (as.map Value.ref).toArray 0)).objs.size := by rw [size_push']; exact Nat.lt_succ_self _
  show wpAny _ _ _ _ _ { s with heap := h'.push (seqObj "list" (as.map Value.ref).toArray 0), toks := tk }
  generalize h'.push (seqObj "list" (as.map Value.ref).toArray 0) = h2 at hoL ka hls ⊢
  have hp2 : ∀ v ∈ as.map Value.ref, Srt.IsPair h2 v (k v).1 (k v).2 := fun v hv => by
    obtain ⟨b, hb, rfl⟩ := List.mem_map.mp hv
    obtain ⟨j, hj⟩ := List.mem_iff_getElem?.mp hb
    obtain ⟨e, t, u, he, hg⟩ := pr j b hj
    rw [k_at j b e hj he]
    exact ⟨b, _, t, u, 0, rfl, ka _ _ hg, rfl, rfl⟩
  refine wpAny_bind (wpAny_holding (wpAny_call_entry PyProof.Rows.slot_list_sort ⟨_, hoL, rfl⟩ PyProof.Rows.entry_list_sort
    (SrtO.list_sort_ord (s := { s with heap := h2, toks := tk }) (SrtO.swo_lex k) hoL hz (fun hlen => SrtO.pairs_sortableO (by omega) hp2 fun o e => ?_) fun out o1 o2 => ⟨_, rfl, ?_⟩) (PyProof.Rows.args_list_sort _)))
  · have e' : some o = some (seqObj "list" (as.map Value.ref).toArray 0) := e.symm.trans hoL
    cases e'
    intro c
    exact absurd (Value.type.inj c) (by decide)
  -- what came out
  have back : ∀ l : List Addr, (l.map Value.ref).map addrV = l := fun l => by rw [List.map_map]; exact List.map_id _
  have tsp : (out.map addrV).Perm as := by
    have := o2.perm.map addrV
    rwa [back] at this
  have outE : out = (out.map addrV).map Value.ref := by
    rw [List.map_map]
    refine ((List.map_id _).symm).trans (List.map_congr_left fun v hv => ?_)
    obtain ⟨b, _, rfl⟩ := List.mem_map.mp (o2.perm.mem_iff.mp hv)
    rfl
  generalize out.map addrV = ts at tsp outE
  subst outE
  have hperm : (ts.map fun b => k (.ref b)).Perm fs := by
    refine (tsp.map fun b => k (.ref b)).trans (.of_eq ?_)
    apply List.ext_getElem?
    intro j
    rw [List.getElem?_map]
    cases hj : as[j]? with
    | none =>
      have : fs.length ≤ j := by rw [← laf]; exact List.getElem?_eq_none_iff.mp hj
      rw [List.getElem?_eq_none_iff.mpr this]
      rfl
    | some b =>
      obtain ⟨e, _, _, he, _⟩ := pr j b hj
      rw [he]
      exact congrArg some (k_at j b e hj he)
  have hsort : (ts.map fun b => k (.ref b)).Pairwise (fun x y => SrtO.lexB y x = false) := by
    rw [List.pairwise_map]
    have := o1
    unfold SrtO.Srtd at this
    rw [List.pairwise_map] at this
    exact this
  have kF : ∀ b o, b ≠ h'.objs.size → h2.get? b = some o → (sortedHeap h2 h'.objs.size (as.map Value.ref) (ts.map Value.ref).toArray).get? b = some o := fun b o hb e => (PyProof.Rows.sortedHeap_old hb (Heap.lt_size e)).trans e
  have kS : ∀ b o, s.heap.get? b = some o → (sortedHeap h2 h'.objs.size (as.map Value.ref) (ts.map Value.ref).toArray).get? b = some o := fun b o e => kF b o (ne0 _ _ (hk b o e)) (ka _ _ (hk b o e))
  obtain ⟨eF, heF⟩ := PyProof.Rows.sortedHeap_at (vs := as.map Value.ref) (out := (ts.map Value.ref).toArray) hoL
  have I1 : Inv X pins σ H { s with heap := sortedHeap h2 h'.objs.size (as.map Value.ref) (ts.map Value.ref).toArray, toks := tk } := I.kept (t' := tk) kS
  have hlt : s.heap.objs.size ≤ h'.objs.size := Nat.le_of_lt hlt0
  have hn0 : H h'.objs.size = none := I.hok.fresh hlt
  have hlen : (ts.map V.ref).length ≤ sizeLine := by rw [List.length_map, tsp.length_eq, ← List.length_map (f := Value.ref)]; exact hz
  have I2 : Inv X pins σ (upd H h'.objs.size (.lst (ts.map V.ref))) { s with heap := sortedHeap h2 h'.objs.size (as.map Value.ref) (ts.map Value.ref).toArray, toks := tk } :=
    I1.take (h' := sortedHeap h2 h'.objs.size (as.map Value.ref) (ts.map Value.ref).toArray) (t' := tk) (fun b ob _ e => e) (I.fpOk hlt hn0) ⟨hlen, ts.map Value.ref, eF, LiI.vals_refs ts, heF⟩
  obtain ⟨H2, I3, g, qt⟩ := DX.takeT (P := fun b vs => vs = [.int (k (.ref b)).1, .int (k (.ref b)).2]) I as _ I2 nd fun b hb => by
    obtain ⟨j, hj⟩ := List.mem_iff_getElem?.mp hb
    obtain ⟨e, t, u, he, hg⟩ := pr j b hj
    have hbl : s.heap.objs.size ≤ b := Nat.le_of_lt (hG.above b hb)
    refine ⟨hbl, ?_, _, rfl, fun H3 => ⟨(by rw [sizeLine_eq]; show 2 ≤ 16777216; omega), [Value.int e.1 t, Value.int e.2 u], ?_, ⟨_, kF _ _ (ne0 _ _ hg) (ka _ _ hg), rfl, 0, rfl⟩⟩⟩
    · rw [upd_ne (ne0 _ _ hg)]
      exact I.hok.fresh hbl
    · rw [k_at j b e hj he]
      exact .cons ⟨_, rfl⟩ (.cons ⟨_, rfl⟩ .nil)
  have gr : ∀ b o, H b = some o → H2 b = some o := fun b o e => g b o (by rw [upd_ne (ne_of_none e hn0)]; exact e)
  refine wpAny_pure ⟨_, rfl, .ref h'.objs.size, H2, I3, rfl, q H2 h'.objs.size ts (ts.map fun b => k (.ref b)) gr hn0 hperm hsort (g _ _ upd_same) ?_⟩
  have := paired_map (F := fun (t : Addr) (y : Int × Int) => H2 t = some (.tup [.int y.1, .int y.2])) (fun b : Addr => b) (fun b => k (.ref b)) (l := ts) fun b hb => by
    obtain ⟨vs, rfl, hv⟩ := qt b (tsp.mem_iff.mp hb)
    exact hv
  rwa [List.map_id'] at this
end
/-- {k: v for x in ..}: over whatever is walked -/
theorem dc_it {J : It} {n : Nat} {G : Hp → Prop} {Y : Nat → Hp → V → Hp → Prop} (w : Walk J n G Y) {g : TG} {tt : TT} {tk tv : TE} {vs : List Nat} {σ : L2.St} {H1 : Hp} {D : Addr} {Qd : Hp → Prop} (Pv : Nat → Hp → Prop) (h0 : Pv 0 (upd H1 D (.dK []))) (hG : ∀ i H, i ≤ n → Pv i H → G H)
    (hs : ∀ i x H H', i < n → Pv i H → Y i H x H' → g x (wipe σ vs) H' fun σ2 H2 => wipe σ2 vs = wipe σ vs ∧ tt σ2 H2 fun b H3 =>
      if b = true then tk σ2 H3 fun y H4 => tv σ2 H4 fun z H5 => ∃ kvs k, y = kV k ∧ H5 D = some (.dK kvs) ∧ kvs.length < sizeLine ∧ Pv (i + 1) (upd H5 D (.dK (putK kvs k z))) else Pv (i + 1) H3) (hd : ∀ H, Pv n H → Qd H) :
    ∃ W : Nat → Nat → Hp → Prop, (∃ m, W 0 m (upd H1 D (.dK []))) ∧ ∀ i m H, W i m H →
      (J.stop i H ∧ Qd H) ∨ (J.go i H ∧ ∃ Nx : Hp → Prop, (∀ H', Nx H' → ∃ m', m' < m ∧ W (i + 1) m' H') ∧ ∀ x H', J.yld i H x H' → g x (wipe σ vs) H' fun σ2 H2 => wipe σ2 vs = wipe σ vs ∧ tt σ2 H2 fun b H3 =>
        if b = true then tk σ2 H3 fun y H4 => tv σ2 H4 fun z H5 => ∃ kvs k, y = kV k ∧ H5 D = some (.dK kvs) ∧ kvs.length < sizeLine ∧ Nx (upd H5 D (.dK (putK kvs k z))) else Nx H3) := by
  refine ⟨fun i m H => m = n - i ∧ i ≤ n ∧ Pv i H, ⟨n, by simp, Nat.zero_le _, h0⟩, ?_⟩
  rintro i m H ⟨rfl, hi, p⟩
  have q := hG i H hi p
  by_cases hlt : i < n
  · exact .inr ⟨w.goes i H hlt q, Pv (i + 1), fun H' p' => ⟨n - (i + 1), by omega, rfl, hlt, p'⟩, fun x H' y => hs i x H H' hlt p (w.yields i H x H' hlt q y)⟩
  · have e : i = n := by omega
    subst e
    exact .inl ⟨w.stops H q, hd H p⟩
section
variable {X : Cx} {a b c d : Expr} {ta tb tc td : TE} {pos : Pos}
/-- a op1 b op2 c op3 d, as a test -/
def tChain3 (r r' r'' : R2) (ta tb tc td : TE) : TT := fun σ H Q => ta σ H fun x H1 => tb σ H1 fun y H2 => r x y H2 fun e H3 => ∃ k, e = .bl k ∧
  (if k = true then tc σ H3 fun z H4 => r' y z H4 fun e' H5 => ∃ k', e' = .bl k' ∧ (if k' = true then td σ H5 fun u H6 => r'' z u H6 fun e'' H7 => ∃ k'', e'' = .bl k'' ∧ Q k'' H7 else Q false H5) else Q false H3)
theorem pt_chain3 {op op' op'' : CmpOp} {r r' r'' : R2} (ho : OpR X (compareOp op) r) (ho' : OpR X (compareOp op') r') (ho'' : OpR X (compareOp op'') r'') (ha : PE X a ta) (hb : PE X b tb) (hc : PE X c tc) (hd : PE X d td)
    (hm : lastMarks [op, op', op''] [b, c, d] = false := by with_unfolding_all rfl) : PT X (.Compare a [op, op', op''] [b, c, d] pos) (tChain3 r r' r'' ta tb tc td) := by
  refine ⟨fun pins s σ H Q I h => ?_⟩
  refine isTrue_chain (thn (ha.run pins s σ H _ I h) fun v s1 ⟨x, H1, I1, r1, q1⟩ => test_link (thn (hb.run pins s1 σ H1 _ I1 q1) fun u s2 ⟨y, H2, I2, r2, q2⟩ =>
    thn (ho pins s2 σ H2 x y v u _ I2 r1 r2 q2) fun d s3 ⟨z, H3, I3, r3, k, e, q3⟩ => ?_)) hm
  subst e
  cases r3
  refine wpAny_truthy_bool ?_
  cases k with
  | false => exact ite_ff ⟨H3, I3, q3⟩
  | true =>
    refine ite_tt (test_link (thn (hc.run pins s3 σ H3 _ I3 q3) fun w' s4 ⟨z', H4, I4, r4, q4⟩ => thn (ho' pins s4 σ H4 y z' u w' _ I4 r2 r4 q4) fun d' s5 ⟨z2, H5, I5, r5, k2, e2, q5⟩ => ?_))
    subst e2
    cases r5
    refine wpAny_truthy_bool ?_
    cases k2 with
    | false => exact ite_ff ⟨H5, I5, q5⟩
    | true =>
      refine ite_tt (test_last (thn (hd.run pins s5 σ H5 _ I5 q5) fun w'' s6 ⟨z'', H6, I6, r6, q6⟩ => thn (ho'' pins s6 σ H6 z' z'' w' w'' _ I6 r4 r6 q6) fun d'' s7 ⟨z3, H7, I7, r7, k3, e3, q7⟩ => ?_))
      subst e3
      cases r7
      exact wpAny_truthy_bool ⟨H7, I7, q7⟩
end
end DictI

/-! # own subscripts, and ranges kept in a name (own work) -/
open PySem PyProof PyProof.Rows L2
namespace Cut
section
variable {X : Cx} {CX : CXT} {n : Nat} {C g : Addr} {sp : Sp} {E : XK}
/-- x[y]: the class of x has __getitem__ -/
def rSub (C : Addr) (sp : Sp) (E : XK) : R2 := fun x y H Q => ∃ a dx fs, x = .ref a ∧ H a = some (.ins C dx fs) ∧ sp [x, y] H Q E
theorem pe_sub {a b : Expr} {ta tb : TE} {pos : Pos} (hs : PySem.W.findIn X.K (.ref C) "__getitem__" = some (some (.ref g))) (hf : PySem.W.fnIn X.K g = true) (hfn : PySem.W.isFn X.K (.ref g) = true)
    (F : FnR X.prog X.w X.K X.mg X.base CX n g sp) (hr : Room (n + 1) X.A) (hx : Passes CX X E) (ha : PE X a ta) (hb : PE X b tb)
    (hsl : ∀ x i, subscripted b true (.ref x) i = runValue (.builtin "lifetime.subscript" ⟨[.ref x, i], []⟩)) : PE X (.Subscript a b pos) (tOp (rSub C sp E) ta tb) := by
  refine ⟨fun pins s σ H Q I h => ?_⟩
  refine Subscript_ (binT ha hb I h fun v u s2 x y H2 I2 rx ry q => ?_)
  obtain ⟨a', dx, fs, rfl, ea, q⟩ := q
  obtain rfl : v = Value.ref a' := rx
  obtain ⟨_, ja⟩ := Own.insAt I2 ea
  obtain ⟨_, fr⟩ := I2.fr
  have go := wpAny_call (SlX.run_at (A := X.A.in1) (us := [.ref a', u]) (ws := [.ref a', y]) F hr.in1 I2.env0.in1 hx I2 (.cons rfl (.cons ry .nil)) q)
  exact PySem.W.sub_K fr I2.ok.mod.kin ja hs hf hfn (wpAny_mono go (fun v st' z => z) fun _ _ z => z) (hsl _ _)
/-- a range that stands in a name, walked -/
def iRngO (te : TE) : TI := fun sl H R => te sl H fun x H1 => ∃ a lo hi, x = .ref a ∧ H1 a = some (.rng lo hi) ∧ (-(2 ^ 62) ≤ lo ∧ lo < 2 ^ 62 ∧ -(2 ^ 62) ≤ hi ∧ hi < 2 ^ 62) ∧ R (Itr lo (hi - lo).toNat) H1
theorem pi_rngO {tg l : Expr} {tl : TE} (hl : PE X l tl) : PI X tg l (iRngO tl) := by
  refine ⟨fun pins s σ H R I h => ?_⟩
  refine thn (hl.run pins s σ H _ I h) fun v s1 ⟨x, H1, I1, r1, q1⟩ => ?_
  obtain ⟨a, lo, hi, rfl, ha, ⟨h1, h2, h3, h4⟩, q⟩ := q1
  obtain rfl : v = Value.ref a := r1
  obtain ⟨t, u, w', ho⟩ := I1.hok a _ ha
  refine wpAny_pyIter_range (a := lo) (b := hi) (c := 1) ho (small_one h1 h2 h3 h4) ?_
  refine ⟨s1.heap.objs.size, [s1.heap.objs.size], _, _, H1, rfl, I1.kept (t' := s1.toks) fun b o e => Heap.get?_push_of_some _ e, turn_range _ lo (hi - lo).toNat, ?_, fun b hb => ?_, q⟩
  · have e1 : lo + ((0 : Nat) : Int) * 1 = lo := by simp
    have e2 : (((hi - lo).toNat : Nat) : Int) - ((0 : Nat) : Int) = Builtin.Range.rangeSize lo hi 1 := by rw [rangeSize_one]; split <;> omega
    show IsRangeIter _ _ (lo + ((0 : Nat) : Int) * 1) ((((hi - lo).toNat : Nat) : Int) - ((0 : Nat) : Int)) 1
    rw [e1, e2]
    exact Heap.get?_push_size _ rfl
  · have e : b = s1.heap.objs.size := by simpa using hb
    subst e
    exact I1.fpOk (Nat.le_refl _) (I1.hok.fresh (Nat.le_refl _))
end
end Cut

/-! # set(xs), xs a list of ints (own work) -/
open PySem PySem.Spec PyProof.Rows L2
namespace SetL
abbrev frO (w : World) : Obj := { cls := .type "set", dict := none, data := .set #[] 0 (.fresh 0 0 (!w.params.followText "set-order")) }
section
variable {P : Program} {w : World} {A : Around} {E : Value → Shared → Prop} {s : Shared}
theorem init_list {l : Addr} {items : Array Value} (ns : List Int) {R : Value → Shared → Prop} (hh : A.handled = none) (hl : s.heap.IsList l items) (hit : IntsAre items.toList ns) (few : ns.length + 1 < scanBound)
    (hR : ∀ (h' : Heap) (tk c : Nat), SetR w h' s.heap.objs.size (fun j => decide (j ∈ ns)) c → c ≤ ns.length → (∀ b o, s.heap.get? b = some o → h'.get? b = some o) → R .none { s with heap := h', toks := tk }) :
    codeAny (model P w) A (.call (.builtin "set.__init__") ⟨[.ref s.heap.objs.size, .ref l], []⟩) (wants R E) { s with heap := s.heap.push (frO w) } := by
  have eS : (s.heap.push (frO w)).get? s.heap.objs.size = some (frO w) := Heap.get?_push_size _ rfl
  have tS : Shared.TypeIs { s with heap := s.heap.push (frO w) } (.ref s.heap.objs.size) "set" := ⟨_, eS, rfl⟩
  have el : items.size = ns.length := by have z := IntsAre.length hit; rwa [Array.length_toList] at z
  refine codeAny_call_builtin F.called_set.init.plain F.entry_set_init (check_set_init_1 tS ?_)
  obtain ⟨⟨k1, k2, k3, k4⟩, gl, ck, kn, dk⟩ := hl
  dsimp only at ck dk
  subst ck
  subst dk
  have gl2 : (s.heap.push (frO w)).get? l = some ⟨.type "list", k2, .seq items kn, k4⟩ := Heap.get?_push_of_some _ gl
  have ll : (s.heap.push (frO w)).IsList l items := ⟨_, gl2, rfl, kn, rfl⟩
  have lt : l < s.heap.objs.size := Heap.lt_size gl
  have sz : (s.heap.push (frO w)).objs.size = s.heap.objs.size + 1 := Heap.size_push ..
  have q1 := F.sub_list_set
  have q2 := F.sub_list_frozenset
  have q3 : (Value.type "list" == Value.type "dict") = false := by decide
  unfold Builtin.«set.__init__» noKeywords Builtin.Frozenset.updateFrom
  generalize hp : pyIter = it
  wp_walk
  subst hp
  refine wpAny_pyIter_list ll (wpAny_bind (wpAny_runValue ?_))
  have nfp : s.heap.objs.size ∉ [(s.heap.push (frO w)).objs.size, l] := fun hm => by
    rcases List.mem_cons.mp hm with e | e
    · rw [sz] at e
      exact Nat.ne_of_lt (Nat.lt_succ_self _) e
    · exact Nat.ne_of_gt lt (List.mem_singleton.mp e)
  have nI : l ≠ (s.heap.push (frO w)).objs.size := by
    rw [sz]
    exact Nat.ne_of_lt (Nat.lt_succ_of_lt lt)
  refine set_update_ints (Walks.list (by simp [hh]) _ l nI items).toS s.heap.objs.size nfp ns el few (fun i v hv => ?val) _ 0 _ rfl (Nat.zero_le _) ⟨⟨_, Heap.get?_push_size _ rfl, rfl, rfl⟩, ll.push _⟩ ⟨0, Nat.le_refl 0, setR_new_at (Heap.get?_push_of_some _ eS)⟩ fun s' c mv hc hS => ?fin
  case val =>
    have hi : i < items.size := (Array.getElem?_eq_some_iff.mp hv).1
    obtain ⟨t, e⟩ := IntsAre.int_at hit i v (by rw [Array.getElem?_toList]; exact hv)
    exact ⟨ns.getD i 0, t, by simp [List.getD, show i < ns.length by omega], e⟩
  case fin =>
    have e1 : s' = { s with heap := s'.heap, toks := s'.toks } := by
      have a1 := mv.gens
      have a2 := mv.drawn
      have a3 := mv.os
      cases s'
      cases s
      simp only at a1 a2 a3
      subst a1 a2 a3
      rfl
    show wpAny _ _ (pure ()) _ _ s'
    refine wpAny_pure ?_
    show wpAny _ _ (ret Value.none) _ _ s'
    rw [e1]
    refine wpAny_pure (hR s'.heap s'.toks c hS (by omega) fun b o e => ?_)
    have hb : b < s.heap.objs.size := Heap.lt_size e
    refine mv.heap b o ?_ (Heap.get?_push_of_some _ (Heap.get?_push_of_some _ e))
    intro hm
    rcases List.mem_cons.mp hm with q | q
    · exact Nat.ne_of_lt hb q
    · have q := List.mem_singleton.mp q
      rw [sz] at q
      exact Nat.ne_of_lt (Nat.lt_succ_of_lt hb) q
theorem call_setL {l : Addr} {items : Array Value} (ns : List Int) {Q : Value → Shared → Prop} (hh : A.handled = none) (hl : s.heap.IsList l items) (hit : IntsAre items.toList ns) (few : ns.length + 1 < scanBound)
    (hQ : ∀ (h' : Heap) (tk c : Nat), SetR w h' s.heap.objs.size (fun j => decide (j ∈ ns)) c → c ≤ ns.length → (∀ b o, s.heap.get? b = some o → h'.get? b = some o) → Q (.ref s.heap.objs.size) { s with heap := h', toks := tk }) :
    wpAny (model P w) A (call (.type "set") [.ref l]) Q E s := by
  obtain ⟨c, tl, m1⟩ := F.called_set.mro
  have m2 := F.called_set.made
  have m3 := F.called_set.sub
  have m4 := F.called_set.notType
  have m5 := F.called_set.canCreate
  have m6 := F.typeCall_set_1 (.ref l)
  refine wpAny_call (codeAny_of_tree (show wpAny _ _ (callAny (.type "set") _) _ _ _ from wpAny_pure ⟨Code.quiet_builtin _ (by decide +kernel), codeAny_builtin F.entry_type_call ?_⟩))
  rw [Around.under_plain (weight_type_call_type "set" [.ref l] []) rfl]
  repeat any_goals first | assumption | wp_step
  refine codeAny_mono (code_set_led1 (.ref l) (E := E) (Q₁ := fun v u => v = .ref s.heap.objs.size ∧ u = { s with heap := s.heap.push (frO w) }) ⟨rfl, rfl⟩) fun r u hr => ?_
  match r, hr with
  | .error e, hr => exact hr
  | .ok (.ret v), hr =>
    obtain ⟨rfl, rfl⟩ := hr
    have tS : Shared.TypeIs { s with heap := s.heap.push (frO w) } (.ref s.heap.objs.size) "set" := ⟨_, Heap.get?_push_size _ rfl, rfl⟩
    have m7 := F.called_set.init.lookup
    have m8 := F.called_set.init.bind (.ref s.heap.objs.size)
    repeat any_goals first | assumption | wp_step
    refine codeAny_mono (init_list (E := E) (R := fun v u => v = .none ∧ Q (.ref s.heap.objs.size) u) ns ?_ hl hit few fun h' tk c a b d => ⟨rfl, hQ h' tk c a b d⟩) fun r2 u2 hr2 => ?_
    · simp [hh]
    match r2, hr2 with
    | .error e, hr2 => exact hr2
    | .ok (.ret v2), hr2 =>
      obtain ⟨rfl, q⟩ := hr2
      repeat any_goals first | assumption | wp_step
end
section
variable {X : Cx}
/-- set(xs), xs a list of ints -/
def rSetL (K : PySem.W.Frag) (w : World) : List V → Hp → VK → Prop := fun xs H Q => ∃ (l : Addr) (ns : List Int), xs = [V.ref l] ∧ SqL K H l (ns.map V.int) ∧ ns.length ≤ 1000 ∧ ∀ a c, H a = none → c ≤ ns.length → Q (.ref a) (upd H a (SetO w a (fun j => decide (j ∈ ns)) c))
theorem cr_setL (hc : X.calm = true) : CallR X (.type "set") (rSetL X.K X.w) := by
  intro pins s sl H xs us Q inv r h
  obtain ⟨l, ns, rfl, hl, few, q⟩ := h
  rw [Vals.ref1 r]
  obtain ⟨its, rv, pl, _⟩ := inv.list hl
  have fresh : H s.heap.objs.size = none := inv.hok.fresh (Nat.le_refl _)
  refine call_setL ns (inv.ok.hd hc) pl.isList (ints_of_vals rv) (by unfold scanBound; omega) fun h' tk c R lc k => ?_
  exact ⟨.ref s.heap.objs.size, upd H s.heap.objs.size (SetO X.w s.heap.objs.size (fun j => decide (j ∈ ns)) c), inv.laid (t' := tk) k (Nat.le_refl _) (setO_new R), rfl, q _ c fresh lc⟩
end
end SetL

/-! ~x of instances whose class has its own __invert__. -/
namespace Own
open PySem PySem.Spec PyProof.Rows L2
section
variable {X : Cx} {CX : CXT} {n : Nat} {C g : Addr} {sp : Sp} {E : XK}
def rInvO (C : Addr) (sp : Sp) (E : XK) : V → Hp → VK → Prop := fun x H Q => ∃ a dx fs, x = .ref a ∧ H a = some (.ins C dx fs) ∧ sp [x] H Q E
theorem un_invO (hs : PySem.W.findIn X.K (.ref C) "__invert__" = some (some (.ref g))) (hf : PySem.W.isFn X.K (.ref g) = true) (F : FnR X.prog X.w X.K X.mg X.base CX n g sp) (hr : Room n X.A) (hx : Passes CX X E) : UnR X (unaryOp .Invert) (rInvO C sp E) := by
  intro pins st sl H x v Q inv rx h
  obtain ⟨a, dx, fs, rfl, ea, h⟩ := h
  obtain rfl : v = Value.ref a := rx
  obtain ⟨_, ja⟩ := insAt inv ea
  have go := wpAny_call (run_fnR (us := [.ref a]) (vs := [.ref a]) F hr hx inv (.cons rfl .nil) h)
  unfold unaryOp
  refine wpAny_holding ?_
  show wpAny _ _ (callSpecial? (.ref a) "__invert__" >>= fun r => match r with | some r => pure r | none => _) _ _ _
  refine wpAny_bind (PySem.W.special_fn inv.kIn ja hs (beq_iff_eq.mp hf) (wpAny_mono go (fun v st' z => ?_) fun _ _ z => z))
  exact wpAny_pure z
end
end Own

/-! t[::-1], t a tuple. -/
namespace TRev
open PySem PySem.Spec PyProof PyProof.Rows L2 HT
open PySem.SeqAt
open PySem.AutoSeq1 (wpAny_loadPart')
open PySem.MeetsSeq PySem.MeetsSeq2 PySem.MeetsSeq3
theorem fm_congr {α β : Type} {f g : α → Option β} : ∀ {l : List α}, (∀ x ∈ l, f x = g x) → l.filterMap f = l.filterMap g
  | [], _ => rfl
  | x :: l, h => by
    rw [List.filterMap_cons, List.filterMap_cons, h x List.mem_cons_self, fm_congr fun y hy => h y (List.mem_cons_of_mem _ hy)]
section
variable {prog : Program} {w : World} {A : Around} {E : Value → Shared → Prop} {s : Shared}
theorem applied_rev {sl : Addr} {vl vu vs : Value} {n : Nat} {Q : Int × Int × Nat → Shared → Prop} (hs : s.heap.IsSliceOf sl vl vu vs) (pl : IsPart vl none) (pu : IsPart vu none) (ps : IsPart vs (some (-1)))
    (h : Q ((n : Int) - 1, -1, n) s) : wpAny (model prog w) A (Builtin.Slice.sliceApplied (.ref sl) (pure (n : Int))) Q E s := by
  obtain ⟨os, hos, hcs, hds⟩ := id hs
  unfold Builtin.Slice.sliceApplied Builtin.Slice.sliceFields
  refine wpAny_bind (wpAny_bind (wpAny_field hos hds (x := vl) rfl (wpAny_bind (wpAny_field hos hds (x := vu) rfl (wpAny_bind (wpAny_field hos hds (x := vs) rfl (wpAny_pure ?_)))))))
  refine wpAny_bind (slicePart_ ps ?_)
  show wpAny _ _ (if ((-1 : Int) == 0) = true then _ else _) _ _ s
  rw [if_neg (by decide)]
  refine wpAny_bind (slicePart_ pl (wpAny_bind (slicePart_ pu (wpAny_bind (wpAny_pure ?_)))))
  show wpAny _ _ (pure ((n : Int) - 1, (-1 : Int), Builtin.Slice.slicePlaces ((n : Int) - 1) (-1) (-1))) _ _ s
  have e : Builtin.Slice.slicePlaces ((n : Int) - 1) (-1) (-1) = n := by
    unfold Builtin.Slice.slicePlaces
    rw [if_neg (by decide)]
    split
    · have : (-(-1) : Int) = 1 := by decide
      rw [this, Int.ediv_one]
      omega
    · omega
  rw [e]
  exact wpAny_pure h
theorem pick_rev (xs : Array Value) : ((List.range xs.size).filterMap fun (m : Nat) => xs[((xs.size : Int) - 1 + (m : Int) * (-1)).toNat]?).toArray = xs.toList.reverse.toArray := by
  congr 1
  have e : (List.range xs.size).filterMap (fun (m : Nat) => xs[((xs.size : Int) - 1 + (m : Int) * (-1)).toNat]?) = (List.range xs.size).filterMap (fun (m : Nat) => xs.toList.reverse[m]?) := by
    refine fm_congr fun m hm => ?_
    have hm := List.mem_range.mp hm
    rw [List.getElem?_reverse (by rw [Array.length_toList]; exact hm), Array.getElem?_toList, Array.length_toList]
    congr 1
    omega
  rw [e]
  have l : xs.size = xs.toList.reverse.length := by simp
  rw [l]
  generalize xs.toList.reverse = ys
  refine List.ext_getElem? fun k => ?_
  have : (List.range ys.length).filterMap (fun m => ys[m]?) = ys := by
    induction ys with
    | nil => rfl
    | cons y ys ih =>
      rw [List.length_cons, List.range_succ_eq_map, List.filterMap_cons]
      simp only [List.getElem?_cons_zero]
      rw [List.filterMap_map]
      congr 1
  rw [this]
theorem getItem_rev {t sl : Addr} {items : Array Value} {vl vu vs : Value} {Q : Value → Shared → Prop} (ht : IsTup s.heap t items) (hs : s.heap.IsSliceOf sl vl vu vs) (pl : IsPart vl none) (pu : IsPart vu none) (ps : IsPart vs (some (-1)))
    (h : Q (.ref s.heap.objs.size) { s with heap := s.heap.push { cls := .type "tuple", data := .seq items.toList.reverse.toArray } })
    (hsz : items.size ≤ sizeLine) : wpAny (model prog w) A (getItem (.ref t) (.ref sl)) Q E s := by
  have htake : sizeOk (.seq items.toList.reverse.toArray) := by
    show items.toList.reverse.toArray.size ≤ sizeLine
    rw [List.size_toArray, List.length_reverse, Array.length_toList]
    omega
  obtain ⟨os, hos, hcs, hds⟩ := id hs
  have hTs : s.TypeIs (.ref sl) "slice" := ⟨os, hos, hcs⟩
  unfold getItem
  try with_reducible refine wpAny_holding ?_
  first | refine wpAny_bind (wpAny_pure ?_) | skip
  refine wpAny_bind (wpAny_sequenceKey ht.typeIs (by decide) ?_)
  refine wpAny_bind (wpAny_callSpecial?_slot (name := Str.ofString "__getitem__") ht.typeIs PyProof.Rows.slot_tuple_getitem
    (wpAny_call_entry PyProof.Rows.slot_tuple_getitem ht.typeIs entry_tuple_getitem ?_ (args_tuple_getitem _ _)))
  show wpAny _ _ (Builtin.Tuple.tupleItemsOf (.ref t) >>= _) _ _ s
  refine wpAny_bind (tupleItemsOf_ ht ?_)
  refine wpAny_bind (wpAny_typeOf hTs ?_)
  rw [if_pos (by decide)]
  refine wpAny_bind (applied_rev hs pl pu ps ?_)
  show wpAny _ _ (if (((items.size : Int) - 1) == 0 && (-1 : Int) == 1 && items.size == items.size) = true then _ else _) _ _ s
  rw [if_neg (by rw [show ((-1 : Int) == 1) = false from rfl, Bool.and_false, Bool.false_and]; exact Bool.false_ne_true), pick_rev]
  first
    | exact wpAny_bind (m := Builtin.Tuple.tupleExact _) (wpAny_newObj_type (wpAny_pure ⟨_, rfl, wpAny_pure h⟩) htake)
    | exact wpAny_bind (m := Builtin.Tuple.tupleExact _) (wpAny_newObj_type (wpAny_bind (wpAny_pure (wpAny_pure ⟨_, rfl, wpAny_pure h⟩))) htake)
    | exact wpAny_bind (wpAny_bind (m := Builtin.Tuple.tupleExact _) (wpAny_newObj_type (wpAny_pure (wpAny_pure ⟨_, rfl, wpAny_pure h⟩)) htake))
    | exact wpAny_bind (wpAny_bind (m := Builtin.Tuple.tupleExact _) (wpAny_newObj_type (wpAny_pure ⟨_, rfl, wpAny_pure h⟩) htake))
end
section
variable {X : Cx}
def tRevT (K : PySem.W.Frag) (te : TE) : TE := fun σ H Q => te σ H fun x H1 => ∃ a xs, x = .ref a ∧ SqT K H1 a xs ∧ ∀ p, H1 p = none → Q (.ref p) (upd H1 p (.tup xs.reverse))
theorem pe_revT {e : Expr} {te : TE} {k : Nat} {p1 p2 p3 pos : Pos} (he : PE X e te) : PE X (.Subscript e (.Slice none none (some (.UnaryOp .USub (.Constant (.int 1) k p1) p2)) p3) pos) (tRevT X.K te) := by
  refine ⟨fun pins s σ H Q I h => ?_⟩
  refine Subscript_ (thn (he.run pins s σ H _ I h) fun v s1 ⟨x, H1, I1, r1, q1⟩ => ?_)
  obtain ⟨a, xs, ex, hx, q⟩ := q1
  subst ex
  cases r1
  have hst : PO X (some (.UnaryOp .USub (.Constant (.int 1) k p1) p2)) (tPart (tUn (rU fun i => .int (-i)) (tC (.int 1)))) := po_some (pe_un un_neg pe_int)
  refine wpAny_Slice (thn (po_none.run pins s1 σ H1 (fun o H2 => o = none ∧ H2 = H1) I1 ⟨rfl, rfl⟩) fun vl s2 ⟨l, H2, I2, pl, el, e2⟩ => ?_)
  subst el e2
  refine thn (po_none.run pins s2 σ H2 (fun o H3 => o = none ∧ H3 = H2) I2 ⟨rfl, rfl⟩) fun vu s3 ⟨u, H3, I3, pu, eu, e3⟩ => ?_
  subst eu e3
  refine thn (hst.run pins s3 σ H3 (fun o H4 => o = some (-1) ∧ H4 = H3) I3 ⟨1, rfl, -1, rfl, rfl, rfl⟩) fun vs s4 ⟨o, H4, I4, ps, eo, e4⟩ => ?_
  subst eo e4
  have I5 : Inv X pins σ H4 { s4 with heap := s4.heap.push { cls := .type "slice", data := .fields #[vl, vu, vs] } } := I4.kept (t' := s4.toks) fun b ob q => Heap.get?_push_of_some _ q
  obtain ⟨its, r, ht, hz⟩ := I5.tuple hx
  show wpAny (model X.prog X.w) X.A (subscriptTail e (.Slice none none (some (.UnaryOp .USub (.Constant (.int 1) k p1) p2)) p3) (.ref a) (.ref s4.heap.objs.size)) (EP X pins σ Q) X.xe _
  refine tail_any (ops := [.ref a, .ref s4.heap.objs.size]) ht.typeIs PyProof.Rows.slot_tuple_getitem.lookup ?_ (by with_unfolding_all rfl)
  have hlen : its.toArray.size = xs.length := by rw [List.size_toArray]; exact r.length.symm
  refine getItem_rev ht (Heap.IsSliceOf.new _ vl vu vs) pl pu ps ?_ (by rw [hlen]; exact hz)
  refine ⟨.ref _, _, I5.laid (t' := s4.toks) (o := .tup xs.reverse) (fun b ob q => Heap.get?_push_of_some _ q) (Nat.le_refl _) ?_, rfl, q _ (I5.hok.fresh (Nat.le_refl _))⟩
  exact ⟨by rw [List.length_reverse]; exact hz, _, r.reverse, IsTup.new _ _⟩
end
end TRev

/-! x op y: the class of x has the sign's def and no reflected one, y is an int. -/
namespace Own
open PySem PySem.Spec PyProof.Rows L2
section
variable {prog : Program} {w : World} {A : Around} {E : Value → Shared → Prop} {s : Shared} {K : PySem.W.Frag} {x C L f : Addr} {h₀ : Heap} {m : Str → Option Value} {ox : Obj} {od : Option Obj}
theorem binop_I {op : Operator} {i : Int} {t : Tok} {fo ro : Value} {Q : Value → Shared → Prop} (X : K.In s.heap) (I : PySem.W.InstAt s.heap x ox C od) (hc : PySem.W.selfFirst K C = true)
    (hs : PySem.W.findIn K (.ref C) (PySem.dunder op.info.2) = some (some (.ref f))) (hf : PySem.W.isFn K (.ref f) = true) (hr : PySem.W.findIn K (.ref C) (PySem.dunderR op.info.2) = some none) (ho : PySem.W.subIn K (.type "int") (.ref C) = some false)
    (h1 : PySem.W.findIn K (.type "int") (PySem.dunder op.info.2) = some (some fo)) (h2 : PySem.W.findIn K (.type "int") (PySem.dunderR op.info.2) = some (some ro)) (n1 : isSeqSlot (some fo) = false)
    (h : wpAny (model prog w) A (call (.ref f) [.ref x, .int i t]) (PySem.W.CmpBack Q) E s) : wpAny (model prog w) A (binaryOp op (.ref x) (.int i t)) Q E s := by
  obtain ⟨cd, hcd, hm⟩ := PySem.W.any_some hc
  obtain ⟨rest, hm⟩ : ∃ rest, cd.mro = .ref C :: rest := by
    cases q : cd.mro with
    | nil => rw [q] at hm; cases hm
    | cons a r => rw [q] at hm; exact ⟨r, by rw [List.head?_cons] at hm; cases (beq_iff_eq.mp hm); rfl⟩
  unfold binaryOp
  refine wpAny_holding (wpAny_bind ?_)
  unfold binaryOp1
  refine wpAny_bind (I.type.here (wpAny_bind ?_))
  show wpAny _ _ (pure (Value.type "int") : Sem Value) _ _ _
  refine wpAny_pure (wpAny_bind ((PySem.W.fills_K X hcd hm hs).here ?_))
  have ne : ((Value.ref C) == (Value.type "int")) = false := rfl
  rw [ne]
  simp only [Bool.false_eq_true, if_false, if_true]
  refine wpAny_bind ?_
  have right : PySem.W.Looks (model prog w) s.heap (fillsNumberSlot (.type "int") op.info.2) true := by
    intro A Q E s k q
    unfold fillsNumberSlot
    refine wpAny_bind (PySem.W.looks_findIn X h1 A _ E s k ?_)
    refine wpAny_bind (PySem.W.looks_findIn X h2 A _ E s k ?_)
    refine wpAny_pure ?_
    rw [n1]
    exact q
  refine right.here ?_
  simp only [Bool.and_self, if_true]
  refine wpAny_bind ((PySem.W.looks_subIn X ho).here ?_)
  simp only [Bool.false_eq_true, if_false]
  have mine : PySem.W.Looks (model prog w) s.heap (numberSlotInPython (.ref C) op.info.2) true := by
    intro A Q E s k q
    unfold numberSlotInPython
    refine wpAny_bind (PySem.W.looks_findIn X hs A _ E s k ?_)
    refine wpAny_bind (m := calledByName _ _ _) ?_
    unfold calledByName
    refine wpAny_pure ?_
    refine wpAny_bind (PySem.W.looks_findIn X hr A _ E s k ?_)
    refine wpAny_bind (wpAny_pure ?_)
    exact wpAny_pure q
  refine wpAny_bind (mine.here ?_)
  simp only [if_true]
  refine wpAny_bind (m := numberSlotInPython (.type "int") _) ?_
  unfold numberSlotInPython
  refine wpAny_pure ?_
  simp only [Bool.not_false, if_true]
  refine wpAny_bind ((PySem.W.looks_findIn X h2).here ?_)
  refine wpAny_bind (m := tryMethod (.ref x) _ (.int i t)) ?_
  unfold tryMethod
  refine wpAny_bind (PySem.W.special_fn X I hs (beq_iff_eq.mp hf) (wpAny_mono h (fun v s' hv => ?_) fun _ _ e => e))
  cases v <;> first | exact hv.elim | exact wpAny_pure (wpAny_pure (wpAny_pure hv))
end
section
variable {X : Cx} {CX : CXT} {n : Nat} {C g : Addr} {sp : Sp} {E : XK}
def rBinI (C : Addr) (sp : Sp) (E : XK) : R2 := fun x y H Q => ∃ a dx fs i, x = .ref a ∧ y = .int i ∧ H a = some (.ins C dx fs) ∧ sp [x, y] H Q E
theorem op_binI {op : Operator} {fo ro : Value} (hc : PySem.W.selfFirst X.K C = true) (hs : PySem.W.findIn X.K (.ref C) (PySem.dunder op.info.2) = some (some (.ref g))) (hf : PySem.W.isFn X.K (.ref g) = true) (hr' : PySem.W.findIn X.K (.ref C) (PySem.dunderR op.info.2) = some none)
    (ho : PySem.W.subIn X.K (.type "int") (.ref C) = some false) (h1 : PySem.W.findIn X.K (.type "int") (PySem.dunder op.info.2) = some (some fo)) (h2 : PySem.W.findIn X.K (.type "int") (PySem.dunderR op.info.2) = some (some ro)) (n1 : isSeqSlot (some fo) = false)
    (F : FnR X.prog X.w X.K X.mg X.base CX n g sp) (hr : Room n X.A) (hx : Passes CX X E) : OpR X (binaryOp op) (rBinI C sp E) := by
  intro pins st sl H x y v u Q inv rx ry h
  obtain ⟨a, dx, fs, i, rfl, rfl, ea, h⟩ := h
  obtain rfl : v = Value.ref a := rx
  obtain ⟨t, rfl⟩ := ry
  obtain ⟨_, ja⟩ := insAt inv ea
  exact binop_I inv.kIn ja hc hs hf hr' ho h1 h2 n1 (run2 (y := .int i) F hr hx inv ⟨t, rfl⟩ h)
end
end Own

/-! list(d.values()). -/
namespace LiV
open PySem PySem.Spec PyProof.Rows L2
def tListVals (te : TE) : TE := fun σ H Q => te σ H fun x H1 => ∃ (d : Addr) (kvs : List (Key × V)), x = .ref d ∧ H1 d = some (.dK kvs) ∧ ∀ p, H1 p = none → Q (.ref p) (upd H1 p (.lst (kvs.map (·.2))))
theorem vals_get {kvs : List (Key × V)} {vs : List (Key × Value)} {acc : List Value} (kv : KV kvs vs) (hl : acc.length = vs.length) (h : ∀ (j : Nat) (v : Value), acc[j]? = some v → ∃ k, vs[j]? = some (k, v)) : Vals (kvs.map (·.2)) acc := by
  induction kv generalizing acc with
  | nil => cases acc with
    | nil => exact .nil
    | cons _ _ => cases hl
  | @cons a b l1 l2 r t ih =>
    cases acc with
    | nil => cases hl
    | cons x acc =>
      obtain ⟨k, e⟩ := h 0 x rfl
      have e : b = (k, x) := by simpa using e
      subst e
      refine .cons r.2 (ih (by simpa using hl) fun j v q => ?_)
      obtain ⟨k', e'⟩ := h (j + 1) v (by simpa using q)
      exact ⟨k', by simpa using e'⟩
section
variable {X : Cx} {e : Expr} {te : TE} {p apos cpos pos : Pos}
theorem pe_listVals (hc : X.calm = true) (he : PE X e te) (hg : Gl X "list") (hm : X.mg "list" = none) (hv : bootBuiltins "list" = some (.type "list")) (hbase : attributeBase e "values" X.env (eval e X.env) = eval e X.env := by rfl) (hline : (apos.endLine == cpos.line) = true := by rfl)
    (hs : starEach [.Call (.Attribute e "values" apos) [] [] cpos] X.env = (false, eval (.Call (.Attribute e "values" apos) [] [] cpos) X.env) :: starEach [] X.env := by rfl) :
    PE X (.Call (.Name "list" p) [.Call (.Attribute e "values" apos) [] [] cpos] [] pos) (tListVals te) := by
  refine ⟨fun pins s σ H Q I hq => ?_⟩
  refine wpAny_Call_Name_kw (ld_blt I hg hm hv ?_)
  refine PyProof.Rows.callWith_type1 ?_ hs rfl
  rw [hs]
  show wpAny _ _ (spliced ((false, eval (.Call (.Attribute e "values" apos) [] [] cpos) X.env) :: backTo pos (starEach [] X.env))) _ _ s
  refine Calls.spliced_cons ?_
  refine wpAny_Call_method (T := "dict") (id := "dict.values") hbase rfl hline F.plainAttrs_dict F.slot_dict_values F.type_dict_values (thn (he.run pins s σ H _ I hq) fun u s1 ⟨x, H1, I1, rx, d, kvs, ex, hd, q⟩ => ?_)
  subst ex
  obtain rfl : u = Value.ref d := rx
  obtain ⟨hz, hs0, vs, kv, hdo⟩ := I1.hok d _ hd
  obtain ⟨ep, hat⟩ := hdo.dictAt
  have lk : kvs.length = vs.length := Paired.length kv
  have I2 : Inv X pins σ H1 { s1 with heap := s1.heap.push { cls := .type "dict_values", data := .fields #[.ref d] } } := I1.kept (t' := s1.toks) fun b ob q => Heap.get?_push_of_some _ q
  refine ⟨hdo.typeIs, hdo.mapOf.noDict, ?_⟩
  show wpAny _ _ (callWith cpos (.builtin "dict.values") [.ref d] [] []) _ X.xe s1
  refine method_meetsIn F.slot_dict_values F.entry_dict_values rfl (PySem.evalArgs_none ⟨rfl, hdo.typeIs, F.args_dict_values_1 _, _, meets_dict_values (mixKind X.prog X.w) d hs0, ⟨vs, hdo⟩, ?_⟩)
  refine Calls.spliced_nil ?_
  refine PySem.W.kdl_call (PySem.W.kdl_values (knd := mixKind X.prog X.w) (d := d) (kvs := vs) (ep := ep)) (I1.ok.hd hc) ⟨⟨_, Heap.get?_push_size _ rfl, rfl, rfl⟩, hat.push _⟩ (by omega) fun h' tk acc c' hk hD hacc => ?_
  have hvv : Vals (kvs.map (·.2)) acc.toList := vals_get kv (by rw [Array.length_toList]; exact hacc.1) fun j v e => hacc.2 j v (by rw [← Array.getElem?_toList]; exact e)
  exact ⟨.ref _, upd H1 _ (.lst (kvs.map (·.2))), I2.laid (t' := tk) hk (Nat.le_refl _) (show ObjOk X.prog X.w _ _ _ (.lst (kvs.map (·.2))) from ⟨by rw [List.length_map]; exact hz, acc.toList, c', hvv, by rw [Array.toArray_toList]; exact hD⟩), rfl, q _ (I2.hok.fresh (Nat.le_refl _))⟩
end
end LiV

/-! (v,) * k, k from 0 on. -/
namespace TOne
open PySem PySem.Spec PyProof.Rows L2
open PySem.AutoSeq1 (wpAny_loadPart')
theorem mul_one (l : Addr) (items : Array Value) (n : Nat) (dd : Option Addr) (sl : Array (Option Value)) (u : Tok) :
    Meets (Builtin.«tuple.__mul__» ⟨[.ref l, .int 1 u], []⟩) (fun _ R s => s.heap.get? l = some { cls := .type "tuple", dict := dd, data := .seq items n, slots := sl } ∧ R (.ok (.ret (.ref l))) s) :=
  .of_wp fun prog w A R s h => by
    obtain ⟨hp, g, d, tk, os⟩ := s
    obtain ⟨hl, h⟩ := h
    have f1 := AutoSeq1.idx_int
    have c1 : (items.isEmpty || (1 : Int) == 1) = true := by simp
    wp_walk using wpAny_loadPart' hl
    exact ⟨_, rfl, h⟩
theorem mul_zero (l : Addr) (items : Array Value) (n : Nat) (dd : Option Addr) (sl : Array (Option Value)) (u : Tok) (hi : items.isEmpty = false) :
    Meets (Builtin.«tuple.__mul__» ⟨[.ref l, .int 0 u], []⟩) (fun _ R s => s.heap.get? l = some { cls := .type "tuple", dict := dd, data := .seq items n, slots := sl } ∧
      R (.ok (.ret (Value.ref s.heap.objs.size))) { s with heap := s.heap.push { cls := Value.type "tuple", data := Data.seq #[] }, toks := s.toks }) :=
  .of_wp fun prog w A R s h => by
    obtain ⟨hp, g, d, tk, os⟩ := s
    obtain ⟨hl, h⟩ := h
    have f1 := AutoSeq1.idx_int
    have c1 : (items.isEmpty || (0 : Int) == 1) = false := by rw [hi]; rfl
    have c2 : (decide ((0 : Int) ≤ 0) || items.isEmpty) = true := by simp
    wp_walk using wpAny_loadPart' hl
    repeat (first
      | (refine wpAny_ite_false (decide_eq_false (by rw [c1]; exact Bool.false_ne_true)) ?_; wp_walk using wpAny_loadPart' hl)
      | (refine wpAny_ite_true (decide_eq_true c2) ?_; wp_walk using wpAny_loadPart' hl))
    exact ⟨_, rfl, h⟩
def rRep1 (K : PySem.W.Frag) : R2 := fun x y H Q => ∃ (l : Addr) (k : Nat) (v : V), x = .ref l ∧ y = .int (k : Nat) ∧ SqT K H l [v] ∧ k ≤ 1000 ∧ ∀ p H', Same H H' → SqT K H' p (List.replicate k v) → Q (.ref p) H'
section
variable {X : Cx}
theorem op_rep1 : OpR X (binaryOp .Mult) (rRep1 X.K) := by
  intro pins s σ H x y v u Q I rx ry h
  obtain ⟨l, k, v0, rfl, rfl, hT, hz, q⟩ := h
  by_cases h2 : 2 ≤ k
  · refine op_repT pins s σ H _ _ v u Q I rx ry ⟨l, (k : Nat), [v0], rfl, rfl, hT, (fun z => nomatch z), by omega, by omega, by simp, fun p hp => q p _ (fun b o e => by rw [upd_ne (fun z => by rw [z, hp] at e; cases e)]; exact e) (SqT.of ?_)⟩
    rw [upd_same, Int.toNat_natCast]
    congr 2
    clear h2 q hz ry
    induction k with
    | zero => rfl
    | succ k ih => rw [List.replicate_succ, List.flatten_cons, ih, List.replicate_succ]; rfl
  · cases rx
    obtain ⟨t, rfl⟩ := ry
    obtain ⟨its, r, ⟨⟨cls, dd, data, sl⟩, ho, hc, n, hd⟩, hs⟩ := I.tuple hT
    simp only at hc hd
    subst hc hd
    have hle : its.length = 1 := r.length.symm
    have hi : its.toArray.isEmpty = false := by
      cases its with
      | nil => cases hle
      | cons a b => rfl
    match k, h2, q with
    | 1, _, q =>
      refine wpAny_binaryOp_repeat_ref (T := "tuple") (U := "int") (by decide) ⟨_, ho, rfl⟩ (fun s' => typeIs_int s' 1 t) noFill_tuple_mul F.fills_int_mul F.slot_int_rmul repeat_tuple F.slot_int_index.lookup
        (call_meets F.slot_int_rmul (typeIs_int s 1 t) F.entry_int_rmul (F.args_int_rmul_2 _ _) (int_rmul_tuple 1 t l its.toArray n dd sl)
          ⟨ho, rfl, ⟨_, ho, rfl⟩, call_meets F.slot_tuple_mul ⟨_, ho, rfl⟩ F.entry_tuple_mul (F.args_tuple_mul_2 _ _) (mul_one l its.toArray n dd sl t) ⟨ho, ?_⟩⟩)
      exact ⟨.ref l, _, I, rfl, q l H (fun _ _ e => e) hT⟩
    | 0, _, q =>
      refine wpAny_binaryOp_repeat_ref (T := "tuple") (U := "int") (by decide) ⟨_, ho, rfl⟩ (fun s' => typeIs_int s' 0 t) noFill_tuple_mul F.fills_int_mul F.slot_int_rmul repeat_tuple F.slot_int_index.lookup
        (call_meets F.slot_int_rmul (typeIs_int s 0 t) F.entry_int_rmul (F.args_int_rmul_2 _ _) (int_rmul_tuple 0 t l its.toArray n dd sl)
          ⟨ho, rfl, ⟨_, ho, rfl⟩, call_meets F.slot_tuple_mul ⟨_, ho, rfl⟩ F.entry_tuple_mul (F.args_tuple_mul_2 _ _) (mul_zero l its.toArray n dd sl t hi) ⟨ho, ?_⟩⟩)
      have np : H s.heap.objs.size = none := I.hok.fresh (Nat.le_refl _)
      refine ⟨.ref s.heap.objs.size, _, I.laid (t' := s.toks) (o := .tup []) (fun b ob e => Heap.get?_push_of_some _ e) (Nat.le_refl _) ?_, rfl, q _ _ (fun b o e => by rw [upd_ne (fun z => by rw [z, np] at e; cases e)]; exact e) (SqT.of upd_same)⟩
      exact ⟨by show 0 ≤ sizeLine; decide, _, .nil, IsTup.new _ _⟩
    | k + 2, h2, _ => exact absurd (Nat.le_add_left 2 k) h2
end
end TOne

/-! x in o, x not in o: o an instance whose class has its own __contains__ that gives a bool. -/
namespace Own
open PySem PySem.Spec PyProof.Rows L2
section
variable {M : Model} {A : Around} {E : Value → Shared → Prop} {s : Shared} {K : PySem.W.Frag} {a C g : Addr} {ox : Obj} {od : Option Obj} {v : Value}
theorem contains_own {Q : Bool → Shared → Prop} (X : K.In s.heap) (I : PySem.W.InstAt s.heap a ox C od) (hs : PySem.W.findIn K (.ref C) "__contains__" = some (some (.ref g))) (hf : PySem.W.isFn K (.ref g) = true)
    (h : wpAny M A (call (.ref g) [.ref a, v]) (fun r s' => ∃ b, r = .bool b ∧ Q b s') E s) : wpAny M A (contains (.ref a) v) Q E s := by
  have sp : ∀ {R : Option Value → Shared → Prop}, R (some (.ref g)) s → wpAny M A (specialOf (.ref a) "__contains__") R E s := fun {R} r => wpAny_bind (I.type.here ((PySem.W.looks_findIn X hs).here r))
  unfold contains
  refine wpAny_holding ?_
  refine wpAny_bind (sp ?_)
  rw [if_neg (show ¬ ((some (Value.ref g) == some Value.none) = true) from Bool.false_ne_true)]
  have call' : wpAny M A (callSpecialUnlessNone? (.ref a) "__contains__" [v] (do rule "in.none"; raiseError "TypeError" s!"'{← typeNameOf (.ref a)}' object is not a container")) (fun r s' => ∃ b, r = some (Value.bool b) ∧ Q b s') E s := by
    simp only [callSpecialUnlessNone?]
    refine wpAny_bind (sp ?_)
    refine wpAny_holding ?_
    refine wpAny_bind ((PySem.W.bind_fn X _ (beq_iff_eq.mp hf)).here ?_)
    show wpAny _ _ (if (Value.ref g == Value.none) = true then _ else _) _ _ _
    rw [if_neg (show ¬ ((Value.ref g == Value.none) = true) from Bool.false_ne_true)]
    refine wpAny_bind (wpAny_mono h (fun r s' z => ?_) fun _ _ z => z)
    obtain ⟨b, rfl, q⟩ := z
    exact wpAny_pure ⟨b, rfl, q⟩
  show wpAny M A (callSpecialUnlessNone? (.ref a) "__contains__" [v] _ >>= _) Q E s
  refine wpAny_bind (wpAny_mono call' (fun r s' z => ?_) fun _ _ z => z)
  obtain ⟨b, rfl, q⟩ := z
  exact wpAny_truthy_bool q
end
section
variable {X : Cx} {CX : CXT} {n : Nat} {C g : Addr} {sp : Sp} {E : XK}
def rInO (neg : Bool) (C : Addr) (sp : Sp) (E : XK) : V → V → Hp → VK → Prop := fun x y H Q => ∃ a dx fs, y = .ref a ∧ H a = some (.ins C dx fs) ∧ sp [y, x] H (fun v H' => ∃ b, v = .bl b ∧ Q (.bl (if neg then !b else b)) H') E
theorem in_run (hs : PySem.W.findIn X.K (.ref C) "__contains__" = some (some (.ref g))) (hf : PySem.W.isFn X.K (.ref g) = true) (F : FnR X.prog X.w X.K X.mg X.base CX n g sp) (hr : Room n X.A) (hx : Passes CX X E)
    {pins : List (Addr × Obj)} {st : Shared} {sl : L2.St} {H : Hp} {x : V} {a dx : Addr} {fs : List (Str × V)} {u : Value} {Q : Bool → Hp → Prop} {R : Bool → Shared → Prop} (inv : Inv X pins sl H st) (rx : RelV x u) (ea : H a = some (.ins C dx fs))
    (h : sp [.ref a, x] H (fun v H' => ∃ b, v = .bl b ∧ Q b H') E) (go : ∀ b st' H', Inv X pins sl H' st' → Q b H' → R b st') : wpAny (model X.prog X.w) X.A (contains (.ref a) u) R X.xe st := by
  obtain ⟨_, ja⟩ := insAt inv ea
  refine contains_own inv.kIn ja hs hf (wpAny_mono (wpAny_call (run_fnR (us := [.ref a, u]) (vs := [.ref a, x]) F hr hx inv (.cons rfl (.cons rx .nil)) h)) (fun r st' z => ?_) fun _ _ z => z)
  obtain ⟨y, H', inv', ry, b, rfl, q⟩ := z
  obtain rfl : r = Value.bool b := ry
  exact ⟨b, rfl, go b st' H' inv' q⟩
theorem op_inO (hs : PySem.W.findIn X.K (.ref C) "__contains__" = some (some (.ref g))) (hf : PySem.W.isFn X.K (.ref g) = true) (F : FnR X.prog X.w X.K X.mg X.base CX n g sp) (hr : Room n X.A) (hx : Passes CX X E) : OpR X (compareOp .In) (rInO false C sp E) := by
  intro pins st sl H x y v u Q inv rx ry h
  obtain ⟨a, dx, fs, rfl, ea, h⟩ := h
  obtain rfl : u = Value.ref a := ry
  show wpAny _ _ (contains (.ref a) v >>= fun b => pure (Value.bool b)) _ _ _
  refine wpAny_bind (in_run hs hf F hr hx inv rx ea h fun b st' H' inv' q => wpAny_pure ⟨.bl b, H', inv', rfl, q⟩)
theorem op_notInO (hs : PySem.W.findIn X.K (.ref C) "__contains__" = some (some (.ref g))) (hf : PySem.W.isFn X.K (.ref g) = true) (F : FnR X.prog X.w X.K X.mg X.base CX n g sp) (hr : Room n X.A) (hx : Passes CX X E) : OpR X (compareOp .NotIn) (rInO true C sp E) := by
  intro pins st sl H x y v u Q inv rx ry h
  obtain ⟨a, dx, fs, rfl, ea, h⟩ := h
  obtain rfl : u = Value.ref a := ry
  show wpAny _ _ (contains (.ref a) v >>= fun b => pure (Value.bool (!b))) _ _ _
  refine wpAny_bind (in_run hs hf F hr hx inv rx ea h fun b st' H' inv' q => wpAny_pure ⟨.bl (!b), H', inv', rfl, q⟩)
end
end Own

/-! GenFor: for in a generator def's body. -/
namespace GenW2
open PySem
section
variable {M : Model} {A : Around} {R : GenEnd} {Y : Protocol} {n : Nat} {s₀ : Shared} {c : Code} {fs : List Frame} {s : Shared} {env : Env}
  {K : Flow → Sem Fin} {H : Value → Sem Fin} {gd : Bool → Bool} {lv : List Value → List Value}
theorem seg_For {target iter : Expr} {body : List Stmt} {pos : Pos}
    (h : wpAny M (A.over c fs) (eval iter env) (fun x s₁ => wpAny M (A.over c fs) (pyIter x) (fun it s₂ => ∀ p, Seg M A R Y n s₀ (.forLoop target it body [] env) (M.den (.forLoop target it body [] env))
      (.ret (fun r => ((match r with | .ok f => (.pure f : Sem Flow) | .error e => .raise e).onRaise fun (x : Value) => do
        if (← field x 1) == Value.none then unsupported "frame.own-activation:exception-without-traceback"
        setFlight x env.frame).wrap K H gd lv) none (gd false) (lv []) c p [] :: fs) s₂) (fun e s' => Seg M A R Y n s₀ c (H e) fs s') s₁) (fun e s' => Seg M A R Y n s₀ c (H e) fs s') s)
    (hs : ∀ x, foldedSetIterable iter env x = pure x := by intro _; rfl) :
    Seg M A R Y n s₀ c ((exec (.For target iter body [] pos) env).wrap K H gd lv) fs s := by
  rw [exec_For]
  refine seg_bind_wrap (wpAny_standAt ?_)
  refine seg_bind_wrap (wpAny_mono h (fun x s₁ h₁ => ?_) (fun e s' he => he))
  refine seg_bind_wrap (wpAny_of_eq (hs x) ?_)
  refine seg_bind_wrap (wpAny_standAt ?_)
  refine seg_bind_wrap (wpAny_holding (wpAny_mono h₁ (fun it s₂ h₂ => ?_) fun _ _ z => z))
  exact seg_call h₂
end
section
variable {prog : Program} {w : World} {A : Around} {R : GenEnd} {Y : Protocol} {n : Nat} {s₀ : Shared} {fs : List Frame} {s : Shared} {env : Env}
theorem seg_forLoop {target : Expr} {it : Value} {body : List Stmt}
    (h : wpAny (model prog w) (A.over (.forLoop target it body [] env) fs) (pyNext it) (fun r s' => match r with
        | none => Seg (model prog w) A R Y n s₀ (.block [] env) ((model prog w).den (.block [] env)) fs s'
        | some v => wpAny (model prog w) (A.over (.forLoop target it body [] env) fs) (letOwnedTupleGo target it v) (fun _ s₁ => wpAny (model prog w) (A.over (.forLoop target it body [] env) fs) (assign target env v) (fun _ s₂ =>
          Seg (model prog w) A R Y n s₀ (.forLoop target it body [] env) ((execs body env).wrap (fun f => match f with
            | .next | .cont => .pure (.again (.forLoop target it body [] env))
            | .brk => .pure (.done .next)
            | .ret v => .pure (.done (.ret v))) (fun e => (do noteFrame e env; theTreesLotGoes e : Sem Unit).wrap (fun _ => .raise e) .raise id id) id id) fs s₂)
            (fun x s' => Seg (model prog w) A R Y n s₀ (.forLoop target it body [] env) ((do noteFrame x env; theTreesLotGoes x : Sem Unit).wrap (fun _ => .raise x) .raise id id) fs s') s₁)
            (fun x s' => Seg (model prog w) A R Y n s₀ (.forLoop target it body [] env) ((do noteFrame x env; theTreesLotGoes x : Sem Unit).wrap (fun _ => .raise x) .raise id id) fs s') s')
      (fun x s' => Seg (model prog w) A R Y n s₀ (.forLoop target it body [] env) ((do noteFrame x env; theTreesLotGoes x : Sem Unit).wrap (fun _ => .raise x) .raise id id) fs s') s) :
    Seg (model prog w) A R Y n s₀ (.forLoop target it body [] env) ((model prog w).den (.forLoop target it body [] env)) fs s := by
  show Seg _ A R Y n s₀ _ ((forTurn target it body [] env).onRaise (fun x => do noteFrame x env; theTreesLotGoes x)) fs s
  have ex : ∀ {x s'}, Seg (model prog w) A R Y n s₀ (.forLoop target it body [] env) ((do noteFrame x env; theTreesLotGoes x : Sem Unit).wrap (fun _ => .raise x) .raise id id) fs s' →
      Seg (model prog w) A R Y n s₀ (.forLoop target it body [] env) ((do noteFrame x env; theTreesLotGoes x : Sem Unit).bind fun _ => (.raise x : Sem Fin)) fs s' := fun {x s'} hx => by
    rw [Sem.bind_eq_wrap]; exact hx
  unfold forTurn
  rw [Sem.onRaise_eq_wrap]
  refine seg_bind_wrap (wpAny_standAt ?_)
  refine seg_bind_wrap (wpAny_onRaise (wpAny_mono h (fun r s₁ h₁ => ?_) fun e s' he => wpAny_standAt (ex he)))
  cases r with
  | none => exact seg_again rfl h₁
  | some v =>
    refine seg_bind_wrap (wpAny_mono h₁ (fun _ s₂ h₂ => ?_) fun e s' he => ex he)
    refine seg_bind_wrap (wpAny_mono h₂ (fun _ s₃ h₃ => ?_) fun e s' he => ex he)
    rw [Sem.bind_eq_wrap', Sem.wrap_wrap]
    rw [Sem.wrap_congr (execs body env) _ _ (K' := fun f => match f with
            | .next | .cont => .pure (.again (.forLoop target it body [] env))
            | .brk => .pure (.done .next)
            | .ret v => .pure (.done (.ret v))) (H' := (fun e => (do noteFrame e env; theTreesLotGoes e : Sem Unit).wrap (fun _ => .raise e) .raise id id))
        (fun f => by cases f <;> rfl)
        (fun e => by first | exact Sem.bind_eq_wrap _ _ | (show (do noteFrame e env; theTreesLotGoes e : Sem Unit).bind (fun _ => .raise e) = _; rw [Sem.bind_eq_wrap]))]
    exact h₃
end
end GenW2
namespace L2
open PySem PySem.Spec PyProof.Rows GenW
section
variable {X : Cx}
/-- the reading of a generator's for: W tells what is out too -/
def tGFor (wi : TI) (g : TG) (tb : TGn) : TGn := fun D ys σ H => wi σ H fun J H1 => ∃ W : Nat → Nat → List V → St → Hp → Prop, (∃ m, W 0 m ys σ H1) ∧ ∀ i m ys σ H, W i m ys σ H →
  (J.stop i H ∧ D.nx ys σ H) ∨ (J.go i H ∧ ∃ N : List V → St → Hp → Prop, (∀ ys' σ' H', N ys' σ' H' → ∃ m', m' < m ∧ W (i + 1) m' ys' σ' H') ∧ ∀ x H', J.yld i H x H' → g x σ H' fun σ2 H2 => tb { D with nx := N, ct := N, bk := D.nx } ys σ2 H2)
theorem gs_for {tg iter : Expr} {body : List Stmt} {wi : TI} {g : TG} {tb : TGn} {pos : Pos} (hp : PassesOwn (model X.prog X.w) X.A X.env X.xe) (hc : X.calm = true) (hi : PI X tg iter wi) (hg : PG X tg g) (hb : GSs X body tb)
    (hs : ∀ x, foldedSetIterable iter X.env x = pure x := by intro _; rfl) : GS X (.For tg iter body [] pos) (tGFor wi g tb) := by
  refine ⟨fun A S ip R n ys s₀ c fs K J0 gd lv s σ H D gc hn k hI ht => ?_⟩
  obtain ⟨acc0, cc0, r0, I⟩ := hI
  refine GenW2.seg_For ?_ hs
  rw [gc.over]
  refine wpAny_mono (hi.run _ s σ H _ I ht) (fun v s1 h1 => wpAny_mono h1 (fun itv s2 h2 => ?_) fun x s' hx => k.exc n s₀ x s' hx) fun x s' hx => k.exc n s₀ x s' hx
  obtain ⟨it, fp, tn, J, H2, e, I2, T, st2, f2, W, ⟨m0, w0⟩, turn⟩ := h2
  subst e
  intro p
  have hS : ∀ b ∈ fp, b ≠ S := fun b hb z => (f2 b hb).2.2.2.2.2 (S, lstObj acc0 cc0) (List.mem_append_right _ List.mem_cons_self) z.symm
  have stat : ∀ {H' : Hp} (acc : Array Value) (cc : Nat), (∀ b ∈ fp, H' b = none) → ∀ b ∈ fp, FpOk X ((S, lstObj acc cc) :: ip) H' b := fun acc cc hn b hb => by
    obtain ⟨_, a1, a2, a3, a4, a5⟩ := f2 b hb
    refine ⟨hn b hb, a1, a2, a3, a4, fun q hq => ?_⟩
    rcases List.mem_append.mp hq with hq | hq
    · exact a5 q (List.mem_append_left _ hq)
    · rcases List.mem_cons.mp hq with hq | hq
      · rw [hq]
        exact fun z => hS b hb z.symm
      · exact a5 q (List.mem_append_right _ (List.mem_cons_of_mem _ hq))
  have gl := fun (kk : Result → Sem PySem.Fin) => gc_loop (k := kk) (c' := .forLoop tg (.ref it) body [] X.env) (l := lv []) (kp := []) (p := p) gc rfl rfl
  have gb := fun (kk : Result → Sem PySem.Fin) => gc_loop (k := kk) (c' := .block [] X.env) (l := lv []) (kp := []) (p := p) gc rfl rfl
  have loop : ∀ (m i n : Nat) (ys : List V) (s₀ s : Shared) (σ : St) (H : Hp), n + ys.length = sizeLine → W i m ys σ H → GI X S ip ys σ H s → tn i s.heap → (∀ b ∈ fp, H b = none) →
      Seg (model X.prog X.w) A R (GY X S) n s₀ (.forLoop tg (.ref it) body [] X.env) ((model X.prog X.w).den (.forLoop tg (.ref it) body [] X.env))
        (.ret (fun r => ((match r with | .ok f => (.pure f : Sem Flow) | .error e => .raise e).onRaise (cameBack X.env)).wrap K J0 gd lv) none (gd false) (lv []) c p [] :: fs) s := by
    intro m
    induction m using Nat.strongRecOn with
    | ind m ih =>
      intro i n ys s₀ s3 σ3 H3 hn w3 hI st3 fr3
      have ee : ∀ (n : Nat) (s₀ : Shared) (x : Value) (s' : Shared), X.xe x s' → Seg (model X.prog X.w) A R (GY X S) n s₀ (.forLoop tg (.ref it) body [] X.env)
          ((do noteFrame x X.env; theTreesLotGoes x : Sem Unit).wrap (fun _ => .raise x) .raise id id)
          (.ret (fun r => ((match r with | .ok f => (.pure f : Sem Flow) | .error e => .raise e).onRaise (cameBack X.env)).wrap K J0 gd lv) none (gd false) (lv []) c p [] :: fs) s' := fun n s₀ x s' hx => by
        refine seg_wrap ?_
        rw [(gl _).over]
        refine wpAny_bind (wpAny_mono (hp x s' hx) (fun _ s'' hcb => wpAny_theTreesLotGoes ?_) fun y s'' hcb => ?_)
        · exact seg_leaf (.error x) (seg_cameBack gc k hcb)
        · exact seg_leaf (.error y) (seg_cameBack gc k hcb)
      refine GenW2.seg_forLoop ?_
      rw [(gl _).over]
      obtain ⟨acc, cc, r, I3⟩ := hI
      rcases turn i m ys σ3 H3 w3 with ⟨stop, qn⟩ | ⟨go, N, hN, step⟩
      · refine wpAny_mono (T.done X rfl rfl rfl hc i _ s3 σ3 H3 X.xe I3 (stat acc cc fr3) st3 stop) (fun r0 s4 ⟨hr, I4⟩ => ?_) fun x s' hx => ee n s₀ x s' hx
        subst hr
        exact seg_leaf (.ok .next) (k.ok n ys s₀ s4 .next hn ⟨σ3, H3, ⟨acc, cc, r, I4⟩, qn⟩)
      · refine wpAny_mono (T.item X rfl rfl rfl hc i _ s3 σ3 H3 X.xe I3 (stat acc cc fr3) st3 go) (fun r0 s4 ⟨u, hr, h4⟩ => ?_) fun x s' hx => ee n s₀ x s' hx
        subst hr
        refine wpAny_mono h4 (fun _ s5 ⟨x, H5, I5, r5, y5, st5, fr5⟩ => ?_) fun x s' hx => ee n s₀ x s' hx
        have I5' := I5.pinned (stat acc cc fr5) (T.obj _ _ st5)
        refine wpAny_mono (hg.run _ s5 σ3 H5 x u _ I5' r5 (step x H5 y5)) (fun _ s6 ⟨σ6, H6, I6, q6⟩ => ?_) fun x s' hx => ee n s₀ x s' hx
        have gcb : GC X S (ip ++ pinsAt fp s5.heap) A (.forLoop tg (.ref it) body [] X.env) (.ret (fun r => ((match r with | .ok f => (.pure f : Sem Flow) | .error e => .raise e).onRaise (cameBack X.env)).wrap K J0 gd lv) none (gd false) (lv []) c p [] :: fs) id :=
          { gl _ with ip := fun q hq => (List.mem_append.mp hq).elim (fun z => gc.ip q z) fun z => hS _ (of_pinsAt z).1 }
        have back : ∀ {ys7 : List V} {σ7 : St} {H7 : Hp} {s7 : Shared}, GI X S (ip ++ pinsAt fp s5.heap) ys7 σ7 H7 s7 → GI X S ip ys7 σ7 H7 s7 := fun {ys7 σ7 H7 s7} ⟨a7, c7, r7, I7⟩ => ⟨a7, c7, r7, Inv.unpinned (pins := (S, lstObj a7 c7) :: ip) I7⟩
        have again : ∀ {n' : Nat} {s₀' : Shared} {ys7 : List V} {σ7 : St} {H7 : Hp} {s7 : Shared}, n' + ys7.length = sizeLine → GI X S (ip ++ pinsAt fp s5.heap) ys7 σ7 H7 s7 → N ys7 σ7 H7 →
            Seg (model X.prog X.w) A R (GY X S) n' s₀' (.forLoop tg (.ref it) body [] X.env) ((model X.prog X.w).den (.forLoop tg (.ref it) body [] X.env))
              (.ret (fun r => ((match r with | .ok f => (.pure f : Sem Flow) | .error e => .raise e).onRaise (cameBack X.env)).wrap K J0 gd lv) none (gd false) (lv []) c p [] :: fs) s7 := fun {n' s₀' ys7 σ7 H7 s7} hn7 g7 n7 => by
          obtain ⟨m', hm, w7⟩ := hN ys7 σ7 H7 n7
          obtain ⟨a7, c7, r7, I7⟩ := g7
          refine ih m' hm (i + 1) n' ys7 s₀' s7 σ7 H7 hn7 w7 (back ⟨a7, c7, r7, I7⟩) (T.keep _ _ _ st5 fun b hb o e => (I7.pin (b, o) (List.mem_append_right _ (List.mem_cons_of_mem _ (List.mem_append_right _ (mem_pinsAt hb e))))).1) fun b hb => ?_
          obtain ⟨o, e, d⟩ := T.obj _ _ st5 b hb
          exact (I7.pin (b, o) (List.mem_append_right _ (List.mem_cons_of_mem _ (List.mem_append_right _ (mem_pinsAt hb e))))).2.1
        refine hb.run A S (ip ++ pinsAt fp s5.heap) R n ys s₀ _ _ _ _ id id s6 σ6 H6 { D with nx := N, ct := N, bk := D.nx } gcb hn ⟨fun n' ys' s₀' s7 f hn' hs => ?_, fun n' s₀' x s7 hx => ee n' s₀' x s7 hx⟩ ⟨acc, cc, r, I6⟩ q6
        cases f with
        | next =>
          obtain ⟨σ7, H7, I7, n7⟩ := hs
          exact seg_again rfl (again hn' I7 n7)
        | cont =>
          obtain ⟨σ7, H7, I7, n7⟩ := hs
          exact seg_again rfl (again hn' I7 n7)
        | brk =>
          obtain ⟨σ7, H7, I7, n7⟩ := hs
          exact seg_leaf (.ok .next) (k.ok n' ys' s₀' s7 .next hn' ⟨σ7, H7, back I7, n7⟩)
        | ret v =>
          obtain ⟨v7, σ7, H7, I7, r7, n7⟩ := hs
          exact seg_leaf (.ok (.ret v)) (k.ok n' ys' s₀' s7 (.ret v) hn' ⟨v7, σ7, H7, back I7, r7, n7⟩)
  exact loop m0 0 n ys s₀ s2 σ H2 hn w0 ⟨acc0, cc0, r0, I2⟩ st2 fun b hb => (f2 b hb).1
end
end L2

/-! GenStar: a generator def with a star. -/
namespace GSt
open PySem PySem.Spec PyProof.Rows GenW L2
section
variable {P : Program} {w : World} {K : PySem.W.Frag} {mg : Str → Option Value} {base : Heap} {k : Nat} {f : Addr} {name qual : Str} {params : Arguments} {body : List Stmt} {scope : Scope} {dV kV doc pm cdv ct oc : Value} {an od : Option Addr}
  {osl : Array (Option Value)} {N ps : List Str} {A : Around} {outer : List Env} {s s1 s2 : Shared} {H : Hp} {E : XK} {us : List Value} {vs : List V} {Q : List V → Hp → Prop} {go : Obj} {S : Addr}
abbrev Made (s s1 : Shared) (qual : Str) (scope : Scope) (f : Addr) (cdv : Value) (ps : List Str) (us : List Value) : Prop :=
  InCallC s s.heap.objs.size (bindL (envOfC qual scope s.heap.objs.size f cdv).kindOf (ps.zip us) fun _ => none) (cellsFrom (s.heap.objs.size + 1) scope.names []) (bindC (envOfC qual scope s.heap.objs.size f cdv).kindOf (ps.zip us) fun _ => none) s1
/-- what is laid after the frame is none of the frame's -/
theorem young {pn : List (Addr × Obj)} (I : Inv (gcxOf P w K mg base N qual scope f cdv A outer s H E pn) [] (start N vs) H s1) {b : Addr} (hb : s1.heap.objs.size ≤ b) :
    H b = none ∧ b ≠ s.heap.objs.size ∧ b ∉ frs outer ∧ s.heap.objs.size ≤ b ∧ ∀ y c, (cellsFrom (s.heap.objs.size + 1) scope.names []).lookup y = some c → c ≠ b := by
  have lt : s.heap.objs.size < s1.heap.objs.size := I.lt
  refine ⟨I.hok.fresh hb, Nat.ne_of_gt (Nat.lt_of_lt_of_le lt hb), I.nofs hb, Nat.le_of_lt (Nat.lt_of_lt_of_le lt hb), fun y c e z => ?_⟩
  obtain ⟨v, q⟩ := I.cell y c e
  exact absurd (Nat.lt_of_lt_of_le q.lt (z ▸ hb)) (Nat.lt_irrefl _)
/-- the body begins: the generator's own object is pinned, the consumer's list is empty -/
theorem gi_begin (S0 : GScope N ps scope) (hd : A.handled = none) (e0 : Env0 P w K mg base A outer s H) (hl : vs.length = ps.length) (r : Vals vs us) (x : Made s s1 qual scope f cdv ps us) (hos : s2.os = s.os) (hba : AllBare s2.gens)
    (kp : ∀ b o, s1.heap.get? b = some o → s2.heap.get? b = some o) (hS : s1.heap.objs.size < S) (hSo : ∃ c, s2.heap.get? S = some (lstObj #[] c)) (hg : s2.heap.get? s1.heap.objs.size = some go) (hgd : ∀ v, go.data ≠ .cell v) :
    GI (gcxOf P w K mg base N qual scope f cdv A outer s H E [(s1.heap.objs.size, go)]) S [] [] (start N vs) H s2 ∧ Apart (gcxOf P w K mg base N qual scope f cdv A outer s H E [(s1.heap.objs.size, go)]) S := by
  have I1 := inv_startG (E := E) S0 hd e0 hl r x
  obtain ⟨h1, tk, es1, hk1⟩ := x.done
  have I2 : Inv (gcxOf P w K mg base N qual scope f cdv A outer s H E []) [] (start N vs) H s2 :=
    I1.call' (ch := []) (by rw [hos, es1]) (Un.kept kp) (I1.hok.kept kp) hba fun b z => absurd z (by simp)
  obtain ⟨c, hSo⟩ := hSo
  have yg := young I1 (Nat.le_refl _)
  have yS := young I1 (Nat.le_of_lt hS)
  refine ⟨⟨#[], c, .nil, Inv.pinnedG I2 fun p hp => ?_⟩, yS.2.2.2.1, yS.2.1, yS.2.2.2.2⟩
  have hp : p = (s1.heap.objs.size, go) ∨ p = (S, lstObj #[] c) := by simpa using hp
  rcases hp with rfl | rfl
  · exact ⟨hg, yg.1, yg.2.1, yg.2.2.1, hgd⟩
  · exact ⟨hSo, yS.1, yS.2.1, yS.2.2.1, fun v q => nomatch q⟩
theorem gi_pin {a : Addr} {ip : List (Addr × Obj)} {ys : List V} {σ : L2.St} {H' : Hp} {s' : Shared} (h : GI (gcxOf P w K mg base N qual scope f cdv A outer s H E [(a, go)]) S ip ys σ H' s') : s'.heap.get? a = some go ∧ s'.os = s.os ∧ AllBare s'.gens ∧ s'.heap.NoLimit := by
  obtain ⟨acc, c, _, J⟩ := h
  exact ⟨(J.pin (a, go) (List.mem_append_left _ (List.mem_singleton.mpr rfl))).1, J.os, J.bare, J.nolimit⟩
/-- the body run to its end -/
theorem seg_body {a g : Nat} {t : TGn} (hgen : ∀ h : Heap, h.get? a = some go → h.IsGen a g) (hne : a ≠ S) (hG : GI (gcxOf P w K mg base N qual scope f cdv A outer s H E [(a, go)]) S [] [] (start N vs) H s2)
    (hA : Apart (gcxOf P w K mg base N qual scope f cdv A outer s H E [(a, go)]) S) (ht : GSs (gcxOf P w K mg base N qual scope f cdv A outer s H E [(a, go)]) body t)
    (hq : t { nx := fun ys _ H' => Q ys H', rt := fun ys v H' => v = .non ∧ Q ys H' } [] (start N vs) H) :
    Seg (model P w) A (REnd P w outer H s [] S a g Q E) (YItem s S a g) sizeLine s2 (.func body (envOfC qual scope s.heap.objs.size f cdv)) ((model P w).den (.func body (envOfC qual scope s.heap.objs.size f cdv))) [] s2 := by
  refine seg_func (seg_imp (R := GR (gcxOf P w K mg base N qual scope f cdv A outer s H E [(a, go)]) S (fun ys v H' => v = .non ∧ Q ys H') fun e s' => CX P w outer H s E e s' ∧ s'.heap.get? a = some go)
    (Y := GY (gcxOf P w K mg base N qual scope f cdv A outer s H E [(a, go)]) S) (fun n s₀ r s1' hR => ?_) (fun n s₀ v s1' kap kap' hkk hY => ?_) sizeLine ?_)
  · cases r with
    | error e => exact .inr ⟨e, rfl, hR.1, hgen _ hR.2⟩
    | ok fl =>
      cases fl with
      | next => exact hR.elim
      | brk => exact hR.elim
      | cont => exact hR.elim
      | ret u =>
        obtain ⟨ys, v, ip, σ', H', hn, hI, rv, rfl, hQ⟩ := hR
        obtain rfl : u = Value.none := rv
        obtain ⟨h1, _, _, acc, cc, ra, ea⟩ := hI.at
        have hp := gi_pin hI
        obtain ⟨_, _, _, J⟩ := hI
        exact .inl ⟨.inl rfl, H', ys, acc, cc, hp.2.1, hp.2.2.1, J.base, J.hok, h1, ea, ra, by omega, hQ⟩
  · obtain ⟨ys, xx, ip, σ', H', hn, rx, hI, h3⟩ := hY
    obtain ⟨_, _, _, acc, cc, ra, ea⟩ := hI.at
    have hp := gi_pin hI
    have e1 : ys.length = acc.size := by rw [ra.length]; simp
    exact ⟨hp.2.1, hp.2.2.1, hp.2.2.2, hgen _ hp.1, ⟨acc, cc, ea, by omega⟩, fun s' z => hkk _ _ (h3 s' z)⟩
  · refine ht.run A S [] _ sizeLine [] s2 _ [] _ _ id id s2 (start N vs) H _ ⟨fun p hp => ?_, fun p hp => absurd hp (by simp), hA, over_func, rfl, rfl, rfl⟩ rfl ⟨fun n ys s₀ s' fl hn hs => ?_, fun n s₀ e s' hx => ?_⟩ hG hq
    · rw [List.mem_singleton.mp hp]
      exact hne
    · cases fl with
      | next =>
        obtain ⟨σ', H', hI, hQ⟩ := hs
        exact seg_end (.ok (.ret .none)) ⟨ys, .non, [], σ', H', hn, hI, rfl, rfl, hQ⟩
      | brk => exact hs.choose_spec.choose_spec.2.elim
      | cont => exact hs.choose_spec.choose_spec.2.elim
      | ret u =>
        obtain ⟨v, σ', H', hI, rv, rfl, hQ⟩ := hs
        exact seg_end (.ok (.ret u)) ⟨ys, .non, [], σ', H', hn, hI, rv, rfl, hQ⟩
    · refine seg_wrap ?_
      rw [over_func]
      refine wpAny_mono (show wpAny (model P w) (A.deeper (envOfC qual scope s.heap.objs.size f cdv)) (leaving (envOfC qual scope s.heap.objs.size f cdv) e) (fun _ s'' => CX P w outer H s E e s'' ∧ ∀ p ∈ [(a, go)], s''.heap.get? p.1 = some p.2) (fun _ _ => False) s' from hx) (fun _ s'' q => ?_) fun _ s'' q => q.elim
      exact seg_end (.error e) ⟨q.1, q.2 (a, go) (List.mem_singleton.mpr rfl)⟩
/-- what a call of a generator def gives, once its arguments are bound -/
theorem gmade {t : ∀ (A : Around) (pn : List (Addr × Obj)), TGn} (S0 : GScope N ps scope) (mod : Mod K mg base) (bs : ∀ b o, base.get? b = some o → s.heap.get? b = some o ∧ H b = none) (bsz : base.objs.size ≤ s.heap.objs.size) (funs : s.heap.FunFrames base outer) (frf : ∀ b ∈ frs outer, H b = none) (hok : HOk P w H s.heap) (bare : AllBare s.gens) (lim : s.heap.NoLimit)
    (hl : vs.length = ps.length) (r : Vals vs us) (x : Made s s1 qual scope f cdv ps us) (n0 q0 : Value) (tk2 : Nat) (eg : go = { cls := .type "generator", data := .fields #[.int s1.gens.size 0, n0, q0] })
    (hbody : ∀ (A : Around) (pn : List (Addr × Obj)), Room k (A.deeper (envOfC qual scope s.heap.objs.size f cdv)) → GSs (gcxOf P w K mg base N qual scope f cdv A outer s H E pn) body (t A pn) ∧ t A pn { nx := fun ys _ H' => Q ys H', rt := fun ys v H' => v = .non ∧ Q ys H' } [] (start N vs) H) :
    GMade P w (k + 1) outer H s [] Q E (.ref s1.heap.objs.size) { s1 with gens := s1.gens.push (.fresh (.func body (envOfC qual scope s.heap.objs.size f cdv))), toks := tk2, heap := s1.heap.push go } := by
  have lim1 : s1.heap.NoLimit := lim.keeps x.toInCall.keep
  have lt1 : s.heap.objs.size < s1.heap.objs.size := x.toInCall.ns.lt
  have kp1 : ∀ b o, s.heap.get? b = some o → s1.heap.get? b = some o := x.toInCall.keep
  obtain ⟨h1, tk, es1, hk1⟩ := id x.done
  have hp : (s1.heap.push go).get? s1.heap.objs.size = some go := Heap.get?_push_size _ (by rw [eg]; rfl)
  have hgen : ∀ h : Heap, h.get? s1.heap.objs.size = some go → h.IsGen s1.heap.objs.size s1.gens.size := fun h e => ⟨go, n0, q0, e, by rw [eg], by rw [eg], by rw [eg]⟩
  have hsz : (s1.heap.push go).objs.size = s1.heap.objs.size + 1 := Heap.size_push ..
  refine ⟨s1.heap.objs.size, s1.gens.size, _, rfl, Nat.le_of_lt lt1, by rw [hsz]; exact Nat.lt_succ_self _, hgen _ hp, Array.getElem?_push_size .., by rw [es1], AllBare.push (by rw [es1]; exact bare) rfl, lim1.keeps fun b o e => Heap.get?_push_of_some _ e, fun b o e => Heap.get?_push_of_some _ (kp1 b o e), ?_⟩
  intro Aw Sx s2 hrw hfr hSx hk2 hSo hos hba
  have hS : s1.heap.objs.size < Sx := by
    have hSx : (s1.heap.push go).objs.size ≤ Sx := hSx
    rw [hsz] at hSx
    exact hSx
  have e0 : Env0 P w K mg base Aw outer s H := ⟨hfr, mod, bs, bsz, funs, frf, hok, bare⟩
  obtain ⟨ht, hq⟩ := hbody Aw [(s1.heap.objs.size, go)] (hrw.deeper _)
  obtain ⟨hG, hA⟩ := gi_begin (E := E) S0 hrw.hd e0 hl r x hos hba (fun b o e => hk2 b o (Heap.get?_push_of_some _ e)) hS hSo (hk2 _ _ hp) (fun v q => by rw [eg] at q; cases q)
  exact seg_body hgen (Nat.ne_of_lt hS) hG hA ht hq
end
/-- a generator def's promise by positional values: its own tuple may have been laid -/
def GFnR (P : Program) (w : World) (K : PySem.W.Frag) (mg : Str → Option Value) (base : Heap) (k : Nat) (f : Addr) (sp : SpG) : Prop :=
  ∀ (A : Around) (outer : List Env) (s : Shared) (H : Hp) (us : List Value) (vs : List V) (Q : List V → Hp → Prop) (E : XK), Room k A → Env0 P w K mg base A outer s H → Vals vs us → sp vs H Q E →
    codeAny (model P w) A (.call (.ref f) ⟨us, []⟩) (fun r s' => match r with | .ok (.ret u) => ∃ (H2 : Hp) (s2 : Shared), (∀ (X : Cx) (pins : List (Addr × Obj)) (σ : L2.St), X.prog = P → X.w = w → Inv X pins σ H s → Inv X pins σ H2 s2) ∧ GMade P w k outer H2 s2 [] Q E u s' | _ => False) s
section
variable {P : Program} {w : World} {K : PySem.W.Frag} {mg : Str → Option Value} {base : Heap} {k : Nat} {f : Addr} {name qual : Str} {params : Arguments} {body : List Stmt} {scope : Scope} {dV kV doc pm cdv ct oc : Value} {an od : Option Addr}
  {osl : Array (Option Value)} {N ps : List Str} {sp : SpG}
/-- THE RULE: a generator def with a star, by its body -/
theorem gfn_star {pv : Str} (lk : K.lookup f = some ⟨oc, od, .func (PySem.W.fnOf name qual params body scope dV kV doc pm an cdv ct), osl⟩) (hcd : PySem.W.codeIn K cdv qual = true) (S : GScope N (ps ++ [pv]) scope)
    (hb : ∀ us rest : List Value, us.length = ps.length → bindArgs (PySem.W.fnOf name qual params body scope dV kV doc pm an cdv ct) ⟨us ++ rest, []⟩ = (newTuple rest >>= fun t => pure (ps.zip us ++ [(pv, t)])))
    (hbody : ∀ (A : Around) (outer : List Env) (s : Shared) (H : Hp) (vs : List V) (Q : List V → Hp → Prop) (E : XK) (pn : List (Addr × Obj)), Room k (A.deeper (envOfC qual scope s.heap.objs.size f cdv)) → sp vs H Q E →
      ∃ t, GSs (gcxOf P w K mg base N qual scope f cdv A outer s H E pn) body t ∧ t { nx := fun ys _ H' => Q ys H', rt := fun ys v H' => v = .non ∧ Q ys H' } [] (start N vs) H) :
    GFnR P w K mg base (k + 1) f (fun vs H Q E => ∃ ws rest, vs = ws ++ rest ∧ ws.length = ps.length ∧ rest.length ≤ sizeLine ∧ ∀ p, H p = Option.none → sp (ws ++ [V.ref p]) (upd H p (.tup rest)) Q E) := by
  intro A outer s H us vs Q E hr e0 r hsp
  obtain ⟨ws, rest, ev, hl, hz, hq⟩ := hsp
  subst ev
  obtain ⟨u1, u2, eu, r1, r2⟩ := StX.vals_split r
  subst eu
  have hn : H s.heap.objs.size = Option.none := e0.hok.fresh (Nat.le_refl _)
  have hl1 : u1.length = ps.length := by rw [← r1.length]; exact hl
  have hl2 : u2.length ≤ sizeLine := by rw [← r2.length]; exact hz
  have KX : K.In s.heap := e0.mod.kin.keeps fun b o e => (e0.bs b o e).1
  refine codeAny_call_generator hr.depth (KX _ _ lk) rfl S.co S.gen rfl (PySem.W.codeRec_of KX hcd) ?_
  rw [hb u1 u2 hl1]
  refine wpAny_bind (wpAny_newTuple (wpAny_pure ?_) hl2)
  have new : ObjOk P w (upd H s.heap.objs.size (.tup rest)) (s.heap.push ({ cls := .type "tuple", data := .seq u2.toArray } : Obj)) s.heap.objs.size (.tup rest) := ⟨hz, u2, r2, ⟨_, Heap.get?_push_size _ rfl, rfl, _, rfl⟩⟩
  have e2 := StX.env0_laid e0 new
  have conv : ∀ (X : Cx) (pins : List (Addr × Obj)) (σ : L2.St), X.prog = P → X.w = w → Inv X pins σ H s → Inv X pins σ (upd H s.heap.objs.size (.tup rest)) { s with heap := s.heap.push ({ cls := .type "tuple", data := .seq u2.toArray } : Obj) } := fun X pins σ eP ew I => by
    subst eP ew
    exact I.laid (t' := s.toks) (fun b o q => Heap.get?_push_of_some _ q) (Nat.le_refl _) new
  have hq := hq _ hn
  have rr : Vals (ws ++ [V.ref s.heap.objs.size]) (u1 ++ [Value.ref s.heap.objs.size]) := r1.append (.cons rfl .nil)
  have ll : (ws ++ [V.ref s.heap.objs.size]).length = (ps ++ [pv]).length := by rw [List.length_append, List.length_append, hl] <;> rfl
  have ez : ps.zip u1 ++ [(pv, Value.ref s.heap.objs.size)] = (ps ++ [pv]).zip (u1 ++ [Value.ref s.heap.objs.size]) := by rw [List.zip_append hl1.symm] <;> rfl
  rw [ez]
  generalize hs2 : ({ s with heap := s.heap.push ({ cls := .type "tuple", data := .seq u2.toArray } : Obj) } : Shared) = s2 at e2 conv
  have hkind : ∀ y ∈ (ps ++ [pv]).zip (u1 ++ [Value.ref s.heap.objs.size]), scope.names.lookup y.1 = some .local ∨ (scope.names.lookup y.1 = some .cell ∧ ((cellsFrom (s2.heap.objs.size + 1) scope.names []).lookup y.1).isSome = true) := fun y hy => by
    rcases S.par y.1 (List.of_mem_zip hy).1 with q | q
    · exact .inl q
    · exact .inr ⟨q, PySem.W.cellsFrom_some _ _ _ (.inl q)⟩
  have lim2 : s2.heap.NoLimit := e2.mod.nolimit.keeps fun b o e => (e2.bs b o e).1
  refine wpAny_newFunctionEnv_cells (s := s2) S.kind hkind fun env he s1 x => ?_
  subst he
  refine ⟨lim2.keeps x.toInCall.keep, _, s2, conv, ?_⟩
  classical
  refine gmade (t := fun A' pn => if h : Room k (A'.deeper (envOfC qual scope s2.heap.objs.size f cdv)) then (hbody A' outer s2 _ _ Q E pn h hq).choose else fun _ _ _ _ => True) S e2.mod e2.bs e2.bsz e2.funs e2.frf e2.hok e2.bare lim2 ll rr x _ _ _ rfl fun A' pn h => ?_
  rw [dif_pos h]
  exact (hbody A' outer s2 _ _ Q E pn h hq).choose_spec
end
section
variable {X : Cx} {k : Nat} {f : Addr} {sp : SpG} {E : XK} {e : Expr} {es : List Expr} {t : TA} {x : Str} {p pos' : Pos}
/-- f(e, ..) of a generator def with a star -/
theorem pgen_callR (F : GFnR X.prog X.w X.K X.mg X.base k f sp) (hr : Room k X.A) (hg : Gl X x) (hm : X.mg x = some (.ref f)) (hk : PySem.W.keepIn X.K (.ref f) = true)
    (ha : PA X (e :: es) t) (hdb : (x == ("__debug__" : Str)) = false := by decide) (he : starEach (e :: es) X.env = (false, eval e X.env) :: starEach es X.env := by rfl) (hpl : (backTo pos' (starEach es X.env)).any (·.1) = false := by rfl) :
    PGen X k (.Call (.Name x p) (e :: es) [] pos') (tCallG sp [] E t) E := by
  refine ⟨fun pins s σ H cont I h => ?_⟩
  refine wpAny_Call_Name_kw (ld_glob I hg hm ?_ hdb)
  refine PySem.W.callWith_K (h₀ := X.base) I.ok.mod.kin hk (thn (ha.run pos' pins s σ H _ I h) fun us s1 ⟨vs, H1, I1, r, q⟩ => ⟨I1.kIn, ?_⟩) he hpl
  have q : sp (vs ++ []) H1 cont E := q
  rw [List.append_nil] at q
  refine wpAny_call (codeAny_mono (F X.A X.stack s1 H1 us vs cont E hr I1.env0 r q) fun r s' hq => ?_)
  cases r with
  | error e => exact False.elim hq
  | ok fl =>
    cases fl with
    | ret u =>
      obtain ⟨H2, s2, conv, hG⟩ := hq
      exact ⟨H2, s2, [], conv X pins σ rfl rfl I1, .nil, hG⟩
    | next => exact False.elim hq
    | brk => exact False.elim hq
    | cont => exact False.elim hq
end
/-- a generator's for over what walks: Pv by the turn, what is out, the slots and the heap -/
theorem gfor_it {J : It} {n : Nat} {G : Hp → Prop} {Y : Nat → Hp → V → Hp → Prop} (w : Walk J n G Y) {g : TG} {tb : TGn} {D : GEnds} {ys : List V} {σ : L2.St} {H : Hp} (Pv : Nat → List V → L2.St → Hp → Prop) (h0 : Pv 0 ys σ H) (hG : ∀ i ys σ H, i ≤ n → Pv i ys σ H → G H)
    (hs : ∀ i x ys σ H H', i < n → Pv i ys σ H → Y i H x H' → g x σ H' fun σ2 H2 => tb { D with nx := Pv (i + 1), ct := Pv (i + 1), bk := D.nx } ys σ2 H2) (hd : ∀ ys σ H, Pv n ys σ H → D.nx ys σ H) :
    ∃ W : Nat → Nat → List V → L2.St → Hp → Prop, (∃ m, W 0 m ys σ H) ∧ ∀ i m ys σ H, W i m ys σ H →
      (J.stop i H ∧ D.nx ys σ H) ∨ (J.go i H ∧ ∃ N : List V → L2.St → Hp → Prop, (∀ ys' σ' H', N ys' σ' H' → ∃ m', m' < m ∧ W (i + 1) m' ys' σ' H') ∧ ∀ x H', J.yld i H x H' → g x σ H' fun σ2 H2 => tb { D with nx := N, ct := N, bk := D.nx } ys σ2 H2) := by
  refine ⟨fun i m ys σ H => m = n - i ∧ i ≤ n ∧ Pv i ys σ H, ⟨n, rfl, Nat.zero_le _, h0⟩, ?_⟩
  rintro i m ys σ H ⟨rfl, hi, p⟩
  have q := hG i ys σ H hi p
  rcases Nat.lt_or_ge i n with hlt | hge
  · exact .inr ⟨w.goes i H hlt q, Pv (i + 1), fun ys' σ' H' p' => ⟨n - (i + 1), by omega, rfl, hlt, p'⟩, fun x H' y => hs i x ys σ H H' hlt p (w.yields i H x H' hlt q y)⟩
  · obtain rfl : i = n := by omega
    exact .inl ⟨w.stops H q, hd ys σ H p⟩
end GSt

/-! FmtS: {e:>N}, {e:>N,} of ints and texts in an f-string. -/
namespace FmtS
open PySem PySem.Spec PyProof.Rows L2 PySem.Builtin PySem.Builtin.Str PySem.Builtin.Int PySem.Builtin.Float
def spec (w : Nat) (g : Bool) : FormatSpec := { align := 62, width := some w, grouping := if g then some ',' else none }
theorem gives_cut_int {a : Int} {t : Tok} {k : String → Sem PySem.Fin} {m : Made} (g : ∀ n, Gives (k n) m) : Gives (do let n ← typeNameOfCut 200 (.int a t); k n) m := by
  intro prog w A R s hm
  exact wpAny_bind (wpAny_typeNameOfCut_int (g "int" prog w A R s hm))
theorem gives_cut_str {a : PySem.Str} {t : Tok} {k : String → Sem PySem.Fin} {m : Made} (g : ∀ n, Gives (k n) m) : Gives (do let n ← typeNameOfCut 200 (.str a t); k n) m := by
  intro prog w A R s hm
  exact wpAny_bind (W.KXf.cut_str (g "str" prog w A R s hm))
def digs (a : Int) : List Nat := List.map (fun c => c.toNat) (Nat.toDigits 10 a.natAbs)
def sgn (a : Int) : List Nat := if decide (a < 0) = true then [45] else []
def grp := groupsFromRight'
def dsOf (g : Bool) (a : Int) : List Nat :=
  if (digs a).isEmpty = true then [] else if g then grp 3 44 ((digs a).length + 0 + 1) (digs a).reverse 0 [] else digs a
def fldR (w : Nat) (sg ds : List Nat) : PySem.Str := ⟨(List.replicate ((w : Int) - (sg.length : Int) - (ds.length : Int)).toNat 32 ++ sg ++ ds).toArray⟩
theorem grp_of {f : Nat → Nat → Nat → List Nat → Int → List Nat → List Nat} (h0 : ∀ a b d r o, f a b 0 d r o = o)
    (h1 : ∀ size sep turns digits (room : Int) out, f size sep (turns + 1) digits room out =
      if ((List.drop (min size (max (max (digits.length : Int) room) 1).toNat) digits).isEmpty && decide (room - (min size (max (max (digits.length : Int) room) 1).toNat : Nat) ≤ 0)) = true
        then List.replicate ((min size (max (max (digits.length : Int) room) 1).toNat) - digits.length) 48 ++ (List.take (min size (max (max (digits.length : Int) room) 1).toNat) digits).reverse ++ out
        else f size sep turns (List.drop (min size (max (max (digits.length : Int) room) 1).toNat) digits) (room - (min size (max (max (digits.length : Int) room) 1).toNat : Nat) - 1)
          (sep :: (List.replicate ((min size (max (max (digits.length : Int) room) 1).toNat) - digits.length) 48 ++ (List.take (min size (max (max (digits.length : Int) room) 1).toNat) digits).reverse ++ out))) :
    ∀ a b n d r o, f a b n d r o = grp a b n d r o := by
  intro a b n
  induction n with
  | zero => intro d r o; rw [h0]; rfl
  | succ n ih =>
    intro d r o
    rw [h1, ih]
    rfl
theorem gives_of_fld {w : Nat} {g : Bool} {a : Int} {ds : List Nat} {t : Sem PySem.Fin} (e : t = retStr (fldR w (sgn a) ds)) (h : ds = dsOf g a) : Gives t (.str (fldR w (sgn a) (dsOf g a))) := by
  subst h
  exact .of_eq e
theorem fld_eq {w : Nat} {sg ds : List Nat} {l : List Nat} (h : l = List.replicate ((w : Int) - ((sg.length : Int) + 0 + 0) - (ds.length : Int)).toNat 32 ++ sg ++ [] ++ List.replicate 0 32 ++ ds ++ [] ++ List.replicate 0 32) :
    (⟨l.toArray⟩ : PySem.Str) = fldR w sg ds := by
  subst h
  unfold fldR
  simp
theorem gives_int_fmt (sp : PySem.Str) (w : Nat) (g : Bool) (a : Int) (t u : Tok) (h : a.natAbs.log2 < 1920) (hw : w ≤ 1000) (hne : (sp.length == 0) = false)
    (ha : ((sp.cps.toList.drop 1).any (fun c => decide (c ≥ 128)) || (decide (sp.cps.getD 0 0 ≥ 128) && !([60, 62, 61, 94] : List Nat).contains (sp.cps.getD 1 0))) = false) (hb : (sp.cps.back? == some 0) = false)
    (hp : ∀ name, parseFormatSpec sp.cps.toList name 62 = .ok (spec w g)) :
    Gives («int.__format__» ⟨[.int a t, .str sp u], []⟩) (.str (fldR w (sgn a) (dsOf g a))) := by
  show Gives (do let _kind ← typeNameOf (.str sp u); _) _
  refine gives_after_typeNameOf (T := "str") (fun s => typeIs_str s _ _) (by decide) fun _ => ?_
  show Gives (if (sp.length == 0) = true then _ else _) _
  rw [hne]
  show Gives (if ((sp.cps.toList.drop 1).any (fun c => decide (c ≥ 128)) || (decide (sp.cps.getD 0 0 ≥ 128) && !([60, 62, 61, 94] : List Nat).contains (sp.cps.getD 1 0))) = true then _ else _) _
  rw [ha]
  refine gives_cut_int fun name => ?_
  rw [hp name]
  have hb' : (if (sp.cps.back? == some 0) = true then (0 : Nat) else 100) = 100 := by rw [hb]; rfl
  dsimp only
  rw [hb']
  show Gives (do let r ← overDigitLimit? a; _) _
  rw [PySem.overDigitLimit_small h]
  show Gives (if w > 100000 then _ else _) _
  rw [if_neg (show ¬ w > 100000 by omega)]
  cases g
  all_goals
    apply gives_of_fld
    · apply congrArg retStr
      conv => lhs; whnf
      have c1 : ((spec w true).fill == 48 && (spec w true).align == 61) = false := rfl
      have c2 : ((spec w true).type.getD 100 == 88) = ((100 : Nat) == 88) := rfl
      have c3 : ((spec w false).fill == 48 && (spec w false).align == 61) = false := rfl
      have c4 : ((spec w false).type.getD 100 == 88) = ((100 : Nat) == 88) := rfl
      have c5 : ((10 : Nat) == 10) = true := rfl
      simp only [c1, c2, c3, c4, c5]
      dsimp only [spec]
      simp only [Bool.false_eq_true, if_false, if_true]
      exact fld_eq rfl
    · first
        | (show ite _ _ _ = ite _ _ _
           congr 1
           exact grp_of (fun _ _ _ _ _ => rfl) (fun _ _ _ _ _ _ => rfl) 3 44 _ _ _ _)
        | (show ite _ _ _ = ite _ _ _
           congr 1
           simp <;> rfl)

theorem retSame {x : PySem.Str} {t : Tok} : Gives (ret (.str x t)) (.val (.str x t)) := .of_eq rfl
theorem gives_str_fmt (sp : PySem.Str) (w : Nat) (x : PySem.Str) (t u : Tok) (hx : x.length < w) (hw : w ≤ 1000) (hne : (sp.length == 0) = false)
    (ha : ((sp.cps.toList.drop 1).any (fun c => decide (c ≥ 128)) || (decide (sp.cps.getD 0 0 ≥ 128) && !([60, 62, 61, 94] : List Nat).contains (sp.cps.getD 1 0))) = false) (hb : (sp.cps.back? == some 0) = false)
    (hp : ∀ name, parseFormatSpec sp.cps.toList name 60 = .ok (spec w false)) :
    Gives («str.__format__» ⟨[.str x t, .str sp u], []⟩) (.str (padded x (w - x.length) 0 32)) := by
  show Gives (do let _kind ← typeNameOf (.str sp u); _) _
  refine gives_after_typeNameOf (T := "str") (fun s => typeIs_str s _ _) (by decide) fun _ => ?_
  show Gives (if (sp.length == 0) = true then _ else _) _
  rw [hne]
  show Gives (if ((sp.cps.toList.drop 1).any (fun c => decide (c ≥ 128)) || (decide (sp.cps.getD 0 0 ≥ 128) && !([60, 62, 61, 94] : List Nat).contains (sp.cps.getD 1 0))) = true then _ else _) _
  rw [ha]
  refine gives_cut_str fun name => ?_
  rw [hp name]
  have ht : tooLong w = false := by
    unfold tooLong
    have : 1000 ≤ sizeLine := by decide
    exact decide_eq_false (by omega)
  have h0 : strSub x 0 x.length = x := by
    unfold strSub
    show (⟨x.cps.extract 0 x.cps.size⟩ : PySem.Str) = x
    rw [Array.extract_size]
  have hs : strField x (spec w false) name = .ok (some (padded x (w - x.length) 0 32)) := by
    show (if (decide (w ≤ x.length) && true) = true then (pure none : Except String (Option PySem.Str)) else pure (some (padded (strSub x 0 x.length) (w - (strSub x 0 x.length).length) (w - (strSub x 0 x.length).length - (w - (strSub x 0 x.length).length)) 32))) = _
    rw [h0, if_neg (by simp; omega), Nat.sub_self]
    rfl
  have hc : ∀ f : FormatSpec, (if ((spec w false).type.isNone && sp.cps.back? == some 0) = true then f else spec w false) = spec w false := fun f => by rw [hb, Bool.and_false]; rfl
  have e : (do
      let f ← (Except.ok (spec w false) : Except String FormatSpec)
      if tooLong ((if (f.type.isNone && sp.cps.back? == some 0) = true then { f with type := some 0 } else f).width.getD 0) = true then pure none
      else do
        let r ← strField x (if (f.type.isNone && sp.cps.back? == some 0) = true then { f with type := some 0 } else f) name
        pure (some r)) = (Except.ok (some (some (padded x (w - x.length) 0 32))) : Except String (Option (Option PySem.Str))) := by
    show (if tooLong ((if ((spec w false).type.isNone && sp.cps.back? == some 0) = true then { (spec w false) with type := some 0 } else spec w false).width.getD 0) = true then (pure none : Except String (Option (Option PySem.Str))) else do
        let r ← strField x (if ((spec w false).type.isNone && sp.cps.back? == some 0) = true then { (spec w false) with type := some 0 } else spec w false) name
        pure (some r)) = _
    rw [hc]
    show (if tooLong w = true then (pure none : Except String (Option (Option PySem.Str))) else _) = _
    rw [ht, hs]
    rfl
  dsimp only at e ⊢
  rw [e]
  exact .of_eq rfl
def SpecOk (sp : PySem.Str) (w : Nat) (g : Bool) (al : Nat) : Prop :=
  (sp.length == 0) = false ∧ w ≤ 1000 ∧ ((sp.cps.toList.drop 1).any (fun c => decide (c ≥ 128)) || (decide (sp.cps.getD 0 0 ≥ 128) && !([60, 62, 61, 94] : List Nat).contains (sp.cps.getD 1 0))) = false ∧
  (sp.cps.back? == some 0) = false ∧ ∀ name, parseFormatSpec sp.cps.toList name al = .ok (spec w g)
theorem spec2 : SpecOk (Str.ofString ">2") 2 false 62 := ⟨by decide +kernel, by decide, by decide +kernel, by decide +kernel, fun _ => rfl⟩
theorem spec13 : SpecOk (Str.ofString ">13,") 13 true 62 := ⟨by decide +kernel, by decide, by decide +kernel, by decide +kernel, fun _ => rfl⟩
theorem spec3 : SpecOk (Str.ofString ">3") 3 false 62 := ⟨by decide +kernel, by decide, by decide +kernel, by decide +kernel, fun _ => rfl⟩
theorem spec3s : SpecOk (Str.ofString ">3") 3 false 60 := ⟨by decide +kernel, by decide, by decide +kernel, by decide +kernel, fun _ => rfl⟩
def FmtOf (sp : PySem.Str) (v : V) (y : PySem.Str) : Prop :=
  (∃ (a : Int) (w : Nat) (g : Bool), v = .int a ∧ a.natAbs.log2 < 1920 ∧ SpecOk sp w g 62 ∧ y = fldR w (sgn a) (dsOf g a)) ∨
    ∃ (x : PySem.Str) (w : Nat), v = .str x ∧ x.length < w ∧ SpecOk sp w false 60 ∧ y = padded x (w - x.length) 0 32
def tFmtS (sp : PySem.Str) (te : TE) : TE := fun σ H Q => te σ H fun v H1 => ∃ y, FmtOf sp v y ∧ y.length ≤ sizeLine ∧ Q (.str y) H1
theorem pe_fmtS {X : Cx} {e spe : Expr} {te : TE} {sp : PySem.Str} {pos : Pos} (he : PE X e te) (hs : PE X spe (tC (V.str sp))) (hz : sp.length ≤ sizeLine) :
    PE X (.FormattedValue e (-1) (some spe) pos) (tFmtS sp te) := ⟨by
  intro pins s σ H Q I h
  refine wpAny_FormattedValue_spec (thn (he.run pins s σ H _ I h) fun u s1 ⟨x, H1, I1, r1, y, f, hy, q⟩ => thn (hs.run pins s1 σ H1 (fun z H2 => z = .str sp ∧ H2 = H1) I1 ⟨rfl, rfl⟩) fun v s2 ⟨z, H2, I2, r2, e1, e2⟩ => ?_)
  subst e1 e2
  obtain ⟨t, rfl⟩ := r2
  rcases f with ⟨a, w, g, rfl, hl, ⟨h1, h2, h3, h4, h5⟩, rfl⟩ | ⟨x, w, rfl, hl, ⟨h1, h2, h3, h4, h5⟩, rfl⟩
  · obtain ⟨t1, rfl⟩ := r1
    exact ⟨sp, t, rfl, wpAny_formatField_spec (T := "int") h1 (fun s' => typeIs_int s' _ _) F.slot_int_format F.entry_int_format F.args_int_format_2 (fun u => gives_int_fmt sp w g a _ u hl h2 h1 h3 h4 h5)
      ⟨.str _, H2, I2.kept (t' := _) fun _ _ z => z, ⟨_, rfl⟩, q⟩ hz hy⟩
  · obtain ⟨t1, rfl⟩ := r1
    exact ⟨sp, t, rfl, wpAny_formatField_spec (T := "str") h1 (fun s' => typeIs_str s' _ _) F.slot_str_format F.entry_str_format F.args_str_format_2 (fun u => gives_str_fmt sp w x _ u hl h2 h1 h3 h4 h5)
      ⟨.str _, H2, I2.kept (t' := _) fun _ _ z => z, ⟨_, rfl⟩, q⟩ hz hy⟩⟩
def rSMul : R2 := fun x y H Q => ∃ (z : PySem.Str) (i : Int), x = .str z ∧ y = .int i ∧ MulOk z i ∧ Q (.str (Txt.mul z i)) H
theorem op_smul {X : Cx} : OpR X (binaryOp .Mult) rSMul := by
  intro pins s σ H x y v u Q I rx ry h
  obtain ⟨z, i, rfl, rfl, ok, q⟩ := h
  obtain ⟨t1, rfl⟩ := rx
  obtain ⟨t2, rfl⟩ := ry
  exact SB.mul ok fun t' k => ⟨.str _, H, I.kept (t' := k) fun _ _ z => z, ⟨_, rfl⟩, q⟩
end FmtS

/-! TxtG: numbers with commas, fields of a line. -/
namespace TxtG
open PySem PySem.Spec PyProof.Rows L2 FmtS PySem.Builtin.Str
def T (l : List Nat) : PySem.Str := ⟨l.toArray⟩
theorem T_app (a b : List Nat) : T a ++ T b = T (a ++ b) := by
  show (⟨a.toArray ++ b.toArray⟩ : PySem.Str) = ⟨(a ++ b).toArray⟩
  simp
theorem T_len (a : List Nat) : (T a).length = a.length := by
  show a.toArray.size = _
  simp
theorem T_nil : PySem.Str.empty = T [] := rfl
theorem T_of (z : PySem.Str) : z = T z.cps.toList := by
  cases z
  rfl
theorem T_str (m : Nat) : PySem.Str.ofString (toString (m : Int)) = T (digs (m : Int)) := by
  rw [T_of (PySem.Str.ofString (toString (m : Int))), W.KIN.signs_num]
  rfl
theorem digs_ne (a : Int) : digs a ≠ [] := by
  unfold digs
  intro z
  have := List.map_eq_nil_iff.mp z
  have h2 : (Nat.toDigits 10 a.natAbs).length ≠ 0 := by
    have := @Nat.length_toDigits_pos 10 a.natAbs
    omega
  exact h2 (by rw [this]; rfl)
theorem digs_len {a : Int} (h : 0 ≤ a) (h2 : a < 10 ^ 10) : (digs a).length ≤ 10 := by
  unfold digs
  rw [List.length_map]
  exact W.KXf.digits_le h h2
def com : Nat → List Nat → List Nat → List Nat
  | 0, w, o => w ++ o
  | n + 1, w, o => if w.length ≤ 3 then w ++ o else com n (w.take (w.length - 3)) (44 :: (w.drop (w.length - 3) ++ o))
theorem com_len : ∀ n w o, (com n w o).length ≤ w.length + o.length + n
  | 0, w, o => by simp [com]
  | n + 1, w, o => by
    unfold com
    split
    · simp
    · have := com_len n (w.take (w.length - 3)) (44 :: (w.drop (w.length - 3) ++ o))
      simp at this
      omega
theorem grp_succ (n : Nat) (d : List Nat) (room : Int) (o : List Nat) : grp 3 44 (n + 1) d room o =
    if ((List.drop (min 3 (max (max (d.length : Int) room) 1).toNat) d).isEmpty && decide (room - (min 3 (max (max (d.length : Int) room) 1).toNat : Nat) ≤ 0)) = true
      then List.replicate ((min 3 (max (max (d.length : Int) room) 1).toNat) - d.length) 48 ++ (List.take (min 3 (max (max (d.length : Int) room) 1).toNat) d).reverse ++ o
      else grp 3 44 n (List.drop (min 3 (max (max (d.length : Int) room) 1).toNat) d) (room - (min 3 (max (max (d.length : Int) room) 1).toNat : Nat) - 1)
        (44 :: (List.replicate ((min 3 (max (max (d.length : Int) room) 1).toNat) - d.length) 48 ++ (List.take (min 3 (max (max (d.length : Int) room) 1).toNat) d).reverse ++ o)) := rfl
theorem grp_com : ∀ n w (room : Int) o, w ≠ [] → room ≤ 0 → w.length ≤ n → grp 3 44 n w.reverse room o = com n w o
  | 0, w, _, _, h, _, l => absurd (List.length_eq_zero_iff.mp (by omega)) h
  | n + 1, w, room, o, h, hr, l => by
    have h1 : 1 ≤ w.length := List.length_pos_iff.mpr h
    rw [grp_succ]
    have e : min 3 (max (max (w.reverse.length : Int) room) 1).toNat = min 3 w.length := by
      rw [List.length_reverse]
      omega
    rw [e]
    unfold com
    by_cases h3 : w.length ≤ 3
    · rw [if_pos h3]
      have e2 : min 3 w.length = w.length := by omega
      rw [e2, if_pos ?_]
      · rw [List.length_reverse, Nat.sub_self, List.take_of_length_le (by rw [List.length_reverse]; omega), List.reverse_reverse]
        rfl
      · rw [List.drop_eq_nil_of_le (by rw [List.length_reverse]; omega)]
        rw [Bool.and_eq_true]
        exact ⟨rfl, decide_eq_true (by omega)⟩
    · rw [if_neg h3]
      have e2 : min 3 w.length = 3 := by omega
      rw [e2, if_neg ?_]
      · have d1 : List.drop 3 w.reverse = (w.take (w.length - 3)).reverse := by rw [List.drop_reverse]
        have d2 : (List.take 3 w.reverse).reverse = w.drop (w.length - 3) := by rw [List.take_reverse, List.reverse_reverse]
        have d3 : 3 - w.reverse.length = 0 := by rw [List.length_reverse]; omega
        rw [d1, d2, d3, grp_com n _ _ _ ?_ (by omega) ?_]
        · rfl
        · intro z
          have := congrArg List.length z
          rw [List.length_take] at this
          simp at this
          omega
        · rw [List.length_take]
          omega
      · rw [Bool.and_eq_true]
        intro z
        have := List.isEmpty_iff.mp z.1
        have := congrArg List.length this
        rw [List.length_drop, List.length_reverse] at this
        simp at this
        omega
/-- a number with commas -/
def comT (a : Int) : List Nat := com ((digs a).length + 1) (digs a) []
theorem dsOf_com (a : Int) : dsOf true a = comT a := by
  unfold dsOf comT
  rw [if_neg (fun z => digs_ne a (List.isEmpty_iff.mp z)), if_pos rfl]
  exact grp_com _ _ _ _ (digs_ne a) (Int.le_refl 0) (by omega)
theorem dsOf_plain (a : Int) : dsOf false a = digs a := by
  unfold dsOf
  rw [if_neg (fun z => digs_ne a (List.isEmpty_iff.mp z)), if_neg Bool.false_ne_true]
theorem comT_len {a : Int} (h : 0 ≤ a) (h2 : a < 10 ^ 10) : (comT a).length ≤ 21 := by
  have := com_len ((digs a).length + 1) (digs a) []
  have := digs_len h h2
  unfold comT
  simp at *
  omega
def fillL (w : Nat) (l : List Nat) : List Nat := List.replicate ((w : Int) - (l.length : Int)).toNat 32 ++ l
theorem fillL_len (w : Nat) (l : List Nat) : (fillL w l).length ≤ w + l.length := by
  unfold fillL
  simp
theorem fld_fill (w : Nat) {a : Int} (h : 0 ≤ a) (g : Bool) : fldR w (sgn a) (dsOf g a) = T (fillL w (dsOf g a)) := by
  have e : sgn a = [] := by
    unfold sgn
    rw [if_neg]
    simp
    omega
  rw [e]
  unfold fldR fillL T
  simp
theorem padded_fill (w : Nat) (l : List Nat) : padded (T l) (w - (T l).length) 0 32 = T (fillL w l) := by
  rw [T_len]
  unfold padded T fillL
  have : ((w : Int) - (l.length : Int)).toNat = w - l.length := by omega
  rw [this]
  simp
theorem mul_sp (n : Int) : Txt.mul (T [32]) n = T (List.replicate n.toNat 32) := by
  unfold Txt.mul
  split
  · have : n.toNat = 0 := by omega
    rw [this]
    rfl
  · split
    · rename_i h1 h2
      have : n = 1 := by
        have h2 : (n == 1 || (1 : Nat) == 0) = true := h2
        simp at h2
        exact h2
      subst this
      rfl
    · rename_i h1 h2
      generalize n.toNat = m
      have : ∀ (m : Nat) (a : List Nat), (List.foldl (fun x1 x2 => x1 ++ x2) a.toArray (List.replicate m (T [32]).cps)) = (a ++ List.replicate m 32).toArray := by
        intro m
        induction m with
        | zero => intro a; simp
        | succ m ih =>
          intro a
          rw [List.replicate_succ, List.foldl_cons]
          have : a.toArray ++ (T [32]).cps = (a ++ [32]).toArray := by unfold T; simp
          rw [this, ih]
          rw [List.replicate_succ]
          simp
      exact congrArg PySem.Str.mk (this m [])
theorem mul_ok {n : Int} (h : -1000 ≤ n) (h2 : n ≤ 1000) : MulOk (T [32]) n := by
  refine ⟨?_, fun h3 _ => ?_, fun h3 _ => ?_⟩
  · rw [Bool.or_eq_false_iff]
    exact ⟨decide_eq_false (by omega), decide_eq_false (by omega)⟩
  · have e : (((T [32]).length : Nat) : Int) = 1 := rfl
    rw [e]
    have : 1 ≤ (2 ^ 63 - 1) / n := (Int.le_ediv_iff_mul_le (by omega)).mpr (by omega)
    omega
  · have e : (T [32]).length = 1 := rfl
    rw [e]
    unfold tooLong
    have : 1000 ≤ sizeLine := by decide
    exact decide_eq_false (by omega)
theorem cut_tail (l : List Nat) (h : 3 < l.length) : cutS (T l) (some (-3)) none = T (l.drop (l.length - 3)) := by
  have e : HT.sIx l.length 0 (some (-3)) = l.length - 3 := by
    show (if (-3 : Int) < 0 then ((-3 : Int) + (l.length : Int)).toNat else min (-3 : Int).toNat l.length) = _
    rw [if_pos (by decide)]
    omega
  have e2 : HT.sIx l.length l.length none = l.length := rfl
  unfold cutS
  show (⟨_⟩ : PySem.Str) = ⟨_⟩
  rw [T_len, e, e2]
  show (⟨(List.take _ (List.drop _ l)).toArray⟩ : PySem.Str) = _
  rw [List.take_of_length_le (by rw [List.length_drop]; omega)]
theorem cut_head (l : List Nat) (h : 3 < l.length) : cutS (T l) none (some (-3)) = T (l.take (l.length - 3)) := by
  have e : HT.sIx l.length l.length (some (-3)) = l.length - 3 := by
    show (if (-3 : Int) < 0 then ((-3 : Int) + (l.length : Int)).toNat else min (-3 : Int).toNat l.length) = _
    rw [if_pos (by decide)]
    omega
  have e2 : HT.sIx l.length 0 none = 0 := rfl
  unfold cutS
  show (⟨_⟩ : PySem.Str) = ⟨_⟩
  rw [T_len, e, e2]
  rfl
/-- a line of a chart -/
def lineT (k : Nat) (x : Int × Int) (t : List Nat) : PySem.Str := T (fillL 2 (digs (k : Int)) ++ [32] ++ fillL 13 (comT x.1) ++ [32] ++ fillL 13 (comT x.2) ++ [32] ++ fillL 3 t)
theorem lineT_len {k : Nat} {x : Int × Int} {t : List Nat} (hk : k < 1000) (h1 : 0 ≤ x.1) (h2 : x.1 ≤ 1000000000) (h3 : 0 ≤ x.2) (h4 : x.2 ≤ 1000000000) (ht : t.length ≤ 20) : (lineT k x t).length ≤ 200 := by
  unfold lineT
  rw [T_len]
  have a1 := fillL_len 2 (digs (k : Int))
  have a2 := fillL_len 13 (comT x.1)
  have a3 := fillL_len 13 (comT x.2)
  have a4 := fillL_len 3 t
  have b1 := digs_len (a := (k : Int)) (by omega) (by omega)
  have b2 := comT_len h1 (by omega)
  have b3 := comT_len h3 (by omega)
  simp only [List.length_append, List.length_singleton]
  omega
end TxtG

namespace RD
open PySem PySem.Spec PyProof.Rows L2
def top (i : Nat) : Stmt := PySem.Challenge.pw_rowdominoes_k47_charts.main.body.getD i (.Pass ⟨0, 0, 0, 0⟩)
abbrev s_InvalidRow_init : Stmt := inClass (top 3) 0
abbrev s_NotStanding_init : Stmt := inClass (top 7) 0
abbrev s_NotLying_init : Stmt := inClass (top 8) 0
abbrev s_InvalidOperation_init : Stmt := inClass (top 9) 0
abbrev s_NotationError_init : Stmt := inClass (top 11) 0
abbrev s_DecodeError_init : Stmt := inClass (top 13) 0
abbrev s_is_number : Stmt := top 16
abbrev s_check_number : Stmt := top 17
abbrev s_check_stone : Stmt := top 18
abbrev s_check_side : Stmt := top 19
abbrev s_stones_beside : Stmt := top 23
abbrev s_felled_by : Stmt := top 24
abbrev s_is_stone : Stmt := top 25
abbrev s_Row_init : Stmt := inClass (top 26) 1
abbrev s_Row_stones : Stmt := inClass (top 26) 3
abbrev s_Row_places : Stmt := inClass (top 26) 4
abbrev s_Row_len : Stmt := inClass (top 26) 5
abbrev s_Row_getitem : Stmt := inClass (top 26) 6
abbrev s_Row_iter : Stmt := inClass (top 26) 7
abbrev s_Row_contains : Stmt := inClass (top 26) 8
abbrev s_Row_add : Stmt := inClass (top 26) 9
abbrev s_Row_rshift : Stmt := inClass (top 26) 10
abbrev s_Row_invert : Stmt := inClass (top 26) 11
abbrev s_Row_eq : Stmt := inClass (top 26) 12
abbrev s_Row_call : Stmt := inClass (top 26) 13
abbrev s_fall_ticks : Stmt := top 28
abbrev s_reaches : Stmt := top 29
abbrev s_chart : Stmt := top 31
abbrev s_law_dice : Stmt := top 33
abbrev s_law_next : Stmt := top 34
abbrev s_law_pick : Stmt := top 35
abbrev s_law_told : Stmt := top 36
abbrev s_law_stones : Stmt := top 37
abbrev s_law_made : Stmt := top 38
abbrev s_law_ticks : Stmt := top 39
abbrev s_law_grouped : Stmt := top 40
abbrev s_law_filled : Stmt := top 41
abbrev s_law : Stmt := top 42
abbrev n_is_number : List Str := ["value", "least", "greatest"]
theorem sc_is_number : FnScope ["value", "least", "greatest"] ["value", "least", "greatest"] (defScope s_is_number) := ⟨rfl, rfl, rfl, by decide +kernel, rfl, by decide +kernel, by decide +kernel⟩
abbrev n_check_number : List Str := ["value", "least", "greatest"]
theorem sc_check_number : FnScope ["value", "least", "greatest"] ["value", "least", "greatest"] (defScope s_check_number) := ⟨rfl, rfl, rfl, by decide +kernel, rfl, by decide +kernel, by decide +kernel⟩
abbrev n_check_stone : List Str := ["stone", "count"]
theorem sc_check_stone : FnScope ["stone", "count"] ["stone", "count"] (defScope s_check_stone) := ⟨rfl, rfl, rfl, by decide +kernel, rfl, by decide +kernel, by decide +kernel⟩
abbrev n_check_side : List Str := ["side"]
theorem sc_check_side : FnScope ["side"] ["side"] (defScope s_check_side) := ⟨rfl, rfl, rfl, by decide +kernel, rfl, by decide +kernel, by decide +kernel⟩
abbrev n_stones_beside : List Str := ["stone", "side", "count"]
theorem sc_stones_beside : FnScope ["stone", "side", "count"] ["stone", "side", "count"] (defScope s_stones_beside) := ⟨rfl, rfl, rfl, by decide +kernel, rfl, by decide +kernel, by decide +kernel⟩
abbrev n_felled_by : List Str := ["stones", "standing", "stone", "side", "start", "reach", "felled", "other", "place", "height", "distance"]
theorem sc_felled_by : FnScope ["stones", "standing", "stone", "side", "start", "reach", "felled", "other", "place", "height", "distance"] ["stones", "standing", "stone", "side"] (defScope s_felled_by) := ⟨rfl, rfl, rfl, by decide +kernel, rfl, by decide +kernel, by decide +kernel⟩
abbrev n_is_stone : List Str := ["stone", "least_place", "place", "height"]
theorem sc_is_stone : FnScope ["stone", "least_place", "place", "height"] ["stone", "least_place"] (defScope s_is_stone) := ⟨rfl, rfl, rfl, by decide +kernel, rfl, by decide +kernel, by decide +kernel⟩
abbrev n_Row_init : List Str := ["self", "stones", "least_place", "index", "stone"]
theorem sc_Row_init : FnScope ["self", "stones", "least_place", "index", "stone"] ["self", "stones"] (defScope s_Row_init) := ⟨rfl, rfl, rfl, by decide +kernel, rfl, by decide +kernel, by decide +kernel⟩
abbrev n_Row_stones : List Str := ["self"]
theorem sc_Row_stones : FnScope ["self"] ["self"] (defScope s_Row_stones) := ⟨rfl, rfl, rfl, by decide +kernel, rfl, by decide +kernel, by decide +kernel⟩
abbrev n_Row_places : List Str := ["self", "place", "_"]
theorem sc_Row_places : FnScope ["self", "place", "_"] ["self"] (defScope s_Row_places) := ⟨rfl, rfl, rfl, by decide +kernel, rfl, by decide +kernel, by decide +kernel⟩
abbrev n_Row_len : List Str := ["self"]
theorem sc_Row_len : FnScope ["self"] ["self"] (defScope s_Row_len) := ⟨rfl, rfl, rfl, by decide +kernel, rfl, by decide +kernel, by decide +kernel⟩
abbrev n_Row_getitem : List Str := ["self", "stone"]
theorem sc_Row_getitem : FnScope ["self", "stone"] ["self", "stone"] (defScope s_Row_getitem) := ⟨rfl, rfl, rfl, by decide +kernel, rfl, by decide +kernel, by decide +kernel⟩
abbrev n_Row_iter : List Str := ["self"]
theorem sc_Row_iter : FnScope ["self"] ["self"] (defScope s_Row_iter) := ⟨rfl, rfl, rfl, by decide +kernel, rfl, by decide +kernel, by decide +kernel⟩
abbrev n_Row_contains : List Str := ["self", "place"]
theorem sc_Row_contains : FnScope ["self", "place"] ["self", "place"] (defScope s_Row_contains) := ⟨rfl, rfl, rfl, by decide +kernel, rfl, by decide +kernel, by decide +kernel⟩
abbrev n_Row_add : List Str := ["self", "other", "stones"]
theorem sc_Row_add : FnScope ["self", "other", "stones"] ["self", "other"] (defScope s_Row_add) := ⟨rfl, rfl, rfl, by decide +kernel, rfl, by decide +kernel, by decide +kernel⟩
abbrev n_Row_rshift : List Str := ["self", "distance", "stones", "place", "height"]
theorem sc_Row_rshift : FnScope ["self", "distance", "stones", "place", "height"] ["self", "distance"] (defScope s_Row_rshift) := ⟨rfl, rfl, rfl, by decide +kernel, rfl, by decide +kernel, by decide +kernel⟩
abbrev n_Row_invert : List Str := ["self", "places", "stones", "place", "height"]
theorem sc_Row_invert : FnScope ["self", "places", "stones", "place", "height"] ["self"] (defScope s_Row_invert) := ⟨rfl, rfl, rfl, by decide +kernel, rfl, by decide +kernel, by decide +kernel⟩
abbrev n_Row_eq : List Str := ["self", "other"]
theorem sc_Row_eq : FnScope ["self", "other"] ["self", "other"] (defScope s_Row_eq) := ⟨rfl, rfl, rfl, by decide +kernel, rfl, by decide +kernel, by decide +kernel⟩
abbrev n_Row_call : List Str := ["self", "stone", "side", "standing", "felled"]
theorem sc_Row_call : FnScope ["self", "stone", "side", "standing", "felled"] ["self", "stone", "side"] (defScope s_Row_call) := ⟨rfl, rfl, rfl, by decide +kernel, rfl, by decide +kernel, by decide +kernel⟩
abbrev n_fall_ticks : List Str := ["row", "stone", "side", "stones", "ticks", "other", "hits", "fallen"]
theorem sc_fall_ticks : FnScope ["row", "stone", "side", "stones", "ticks", "other", "hits", "fallen"] ["row", "stone", "side"] (defScope s_fall_ticks) := ⟨rfl, rfl, rfl, by decide +kernel, rfl, by decide +kernel, by decide +kernel⟩
abbrev n_reaches : List Str := ["stone", "other", "place", "height"]
theorem sc_reaches : FnScope ["stone", "other", "place", "height"] ["stone", "other"] (defScope s_reaches) := ⟨rfl, rfl, rfl, by decide +kernel, rfl, by decide +kernel, by decide +kernel⟩
abbrev n_chart : List Str := ["row", "stone", "side", "ticks", "lines", "number", "place", "height", "tick"]
theorem sc_chart : FnScope ["row", "stone", "side", "ticks", "lines", "number", "place", "height", "tick"] ["row", "stone", "side"] (defScope s_chart) := ⟨rfl, rfl, rfl, by decide +kernel, rfl, by decide +kernel, by decide +kernel⟩
abbrev n_law_dice : List Str := ["_law_script", "_law_mixed", "_law_cell"]
theorem sc_law_dice : FnScope ["_law_script", "_law_mixed", "_law_cell"] ["_law_script"] (defScope s_law_dice) := ⟨rfl, rfl, rfl, by decide +kernel, rfl, by decide +kernel, by decide +kernel⟩
abbrev n_law_next : List Str := ["_law_dice_here", "_law_many", "_law_found", "_law_cell"]
theorem sc_law_next : FnScope ["_law_dice_here", "_law_many", "_law_found", "_law_cell"] ["_law_dice_here", "_law_many"] (defScope s_law_next) := ⟨rfl, rfl, rfl, by decide +kernel, rfl, by decide +kernel, by decide +kernel⟩
abbrev n_law_pick : List Str := ["_law_d", "_law_some"]
theorem sc_law_pick : FnScope ["_law_d", "_law_some"] ["_law_d", "_law_some"] (defScope s_law_pick) := ⟨rfl, rfl, rfl, by decide +kernel, rfl, by decide +kernel, by decide +kernel⟩
abbrev n_law_told : List Str := ["_law_work", "e", "_law_some", "_law_terms", "_law_k"]
theorem sc_law_told : FnScope ["_law_work", "e", "_law_some", "_law_terms", "_law_k"] ["_law_work"] (defScope s_law_told) := ⟨rfl, rfl, rfl, by decide +kernel, rfl, by decide +kernel, by decide +kernel⟩
abbrev n_law_stones : List Str := ["_law_d", "_law_most", "_law_found", "_law_place", "_law_k"]
theorem sc_law_stones : FnScope ["_law_d", "_law_most", "_law_found", "_law_place", "_law_k"] ["_law_d", "_law_most"] (defScope s_law_stones) := ⟨rfl, rfl, rfl, by decide +kernel, rfl, by decide +kernel, by decide +kernel⟩
abbrev n_law_made : List Str := ["_law_stones_here", "_law_row", "_law_stone"]
theorem sc_law_made : FnScope ["_law_stones_here", "_law_row", "_law_stone"] ["_law_stones_here"] (defScope s_law_made) := ⟨rfl, rfl, rfl, by decide +kernel, rfl, by decide +kernel, by decide +kernel⟩
abbrev n_law_ticks : List Str := ["_law_stones_here", "_law_up", "_law_stone", "_law_side", "_law_ticks_here", "_law_tick", "_law_more", "_law_one", "_law_k", "_law_other", "_law_away"]
theorem sc_law_ticks : FnScope ["_law_stones_here", "_law_up", "_law_stone", "_law_side", "_law_ticks_here", "_law_tick", "_law_more", "_law_one", "_law_k", "_law_other", "_law_away"] ["_law_stones_here", "_law_up", "_law_stone", "_law_side"] (defScope s_law_ticks) := ⟨rfl, rfl, rfl, by decide +kernel, rfl, by decide +kernel, by decide +kernel⟩
abbrev n_law_grouped : List Str := ["_law_number", "_law_word", "_law_found"]
theorem sc_law_grouped : FnScope ["_law_number", "_law_word", "_law_found"] ["_law_number"] (defScope s_law_grouped) := ⟨rfl, rfl, rfl, by decide +kernel, rfl, by decide +kernel, by decide +kernel⟩
abbrev n_law_filled : List Str := ["_law_word", "_law_size"]
theorem sc_law_filled : FnScope ["_law_word", "_law_size"] ["_law_word", "_law_size"] (defScope s_law_filled) := ⟨rfl, rfl, rfl, by decide +kernel, rfl, by decide +kernel, by decide +kernel⟩
abbrev n_law : List Str := ["_law_script", "_law_d", "_law_turn", "_law_stones_here", "_law_stone", "_law_side", "_law_ticks_here", "_law_lines", "_law_k", "_law_tick", "_law_place", "_law_height", "_law_number", "_law_line", "_law_row", "_law_bad"]
theorem sc_law : FnScope ["_law_script", "_law_d", "_law_turn", "_law_stones_here", "_law_stone", "_law_side", "_law_ticks_here", "_law_lines", "_law_k", "_law_tick", "_law_place", "_law_height", "_law_number", "_law_line", "_law_row", "_law_bad"] ["_law_script"] (defScope s_law) := ⟨rfl, rfl, rfl, by decide +kernel, rfl, by decide +kernel, by decide +kernel⟩
/-! ### the built-in names that the program leaves as they are -/
structure Blt (mg : Str → Option Value) : Prop where
  isinstance : mg "isinstance" = none
  int : mg "int" = none
  bool : mg "bool" = none
  len : mg "len" = none
  tuple : mg "tuple" = none
  list : mg "list" = none
  range : mg "range" = none
  enumerate : mg "enumerate" = none
  abs : mg "abs" = none
  max : mg "max" = none
  min : mg "min" = none
  sorted : mg "sorted" = none
/-! ### numbers and checks -/
/-- values whose kind is known -/
def Known (K : PySem.W.Frag) (H : Hp) : V → Prop
  | .int _ => True
  | .bl _ => True
  | .non => True
  | .str _ => True
  | .ref a => TyX K H (.ref a) (.type "tuple") ∨ TyX K H (.ref a) (.type "list")
  | _ => False
def numB : V → Int → Int → Bool
  | .int i, lo, hi => decide (lo ≤ i) && decide (i ≤ hi)
  | _, _, _ => false
def spNum (K : PySem.W.Frag) : Sp := fun vs H Q _ => ∃ v lo hi, vs = [v, .int lo, .int hi] ∧ Known K H v ∧ Q (.bl (numB v lo hi)) H
theorem known_ty {K : PySem.W.Frag} {H : Hp} {v : V} (h : Known K H v) : ∃ (t : String) (b c : Bool), TyX K H v (.type t) ∧ PySem.W.kitOne K (.type t) (.type "int") = some b ∧ PySem.W.kitOne K (.type t) (.type "bool") = some c ∧
    ((b = true ∧ c = false ∧ ∃ i, v = .int i) ∨ ((b = false ∨ c = true) ∧ ∀ i, v ≠ .int i)) := by
  cases v with
  | int i => exact ⟨"int", true, false, .base (.int i), kit_ty (by decide +kernel), kit_ty (by decide +kernel), .inl ⟨rfl, rfl, i, rfl⟩⟩
  | bl i => exact ⟨"bool", true, true, .base (.bl i), kit_ty (by decide +kernel), kit_ty (by decide +kernel), .inr ⟨.inr rfl, fun i z => nomatch z⟩⟩
  | non => exact ⟨"NoneType", false, false, .base .non, kit_ty (by decide +kernel), kit_ty (by decide +kernel), .inr ⟨.inl rfl, fun i z => nomatch z⟩⟩
  | str i => exact ⟨"str", false, false, .base (.str i), kit_ty (by decide +kernel), kit_ty (by decide +kernel), .inr ⟨.inl rfl, fun i z => nomatch z⟩⟩
  | ref a =>
    rcases h with h | h
    · exact ⟨"tuple", false, false, h, kit_ty (by decide +kernel), kit_ty (by decide +kernel), .inr ⟨.inl rfl, fun i z => nomatch z⟩⟩
    · exact ⟨"list", false, false, h, kit_ty (by decide +kernel), kit_ty (by decide +kernel), .inr ⟨.inl rfl, fun i z => nomatch z⟩⟩
  | byt _ => exact h.elim
  | flt _ => exact h.elim
  | ty _ => exact h.elim
theorem numB_no {v : V} {lo hi : Int} (h : ∀ i, v ≠ .int i) : numB v lo hi = false := by
  cases v with
  | int i => exact absurd rfl (h i)
  | _ => rfl
section
variable {P : Program} {w : World} {K : PySem.W.Frag} {mg : Str → Option Value} {base : Heap}
theorem ok_num {f : Addr} {fd : FuncData} (F : Fun K "is_number" "is_number" s_is_number f fd) (B : Blt mg) : FnOk P w K mg base CX0 1 f fd ["value", "least", "greatest"] (spNum K) := by
  refine F.ok sc_is_number (fun vs H Q E h => ?_) (fun cdv A outer s H vs Q E hr h => ?_)
  · obtain ⟨v, lo, hi, rfl, _⟩ := h
    rfl
  · obtain ⟨v, lo, hi, rfl, kn, h⟩ := h
    refine ⟨_, pss_one (ps_ret (pe_and (pe_callB call_isi (by rfl) B.isinstance boot_isinstance (pa_cons (pv 0) (pa_cons (pe_bltn (v := .ty "int") (by rfl) B.int boot_int rfl) pa_nil)))
      (pe_and (pe_not (pe_callB call_isi (by rfl) B.isinstance boot_isinstance (pa_cons (pv 0) (pa_cons (pe_bltn (v := .ty "bool") (by rfl) B.bool boot_bool rfl) pa_nil))))
      (pe_one (pe_chain op_le op_le (pv 1) (pv 0) (pv 2)))))), ?_⟩
    obtain ⟨t, b, c, ty, k1, k2, alt⟩ := known_ty kn
    refine ⟨_, rfl, _, _, _, _, b, rfl, .ty "int", ty, k1, b, rfl, ?_⟩
    rcases alt with ⟨rfl, rfl, i, rfl⟩ | ⟨alt, no⟩
    · refine iteT ⟨_, rfl, _, _, _, _, false, rfl, .ty "bool", ty, k2, false, rfl, true, rfl, ?_⟩
      refine iteT ⟨_, rfl, _, rfl, lo, i, rfl, rfl, _, rfl, ?_⟩
      refine ite2 (fun q => ?_) (fun q => ?_)
      · refine ⟨_, rfl, i, hi, rfl, rfl, ?_⟩
        have e : numB (.int i) lo hi = decide (i ≤ hi) := by
          show (decide (lo ≤ i) && decide (i ≤ hi)) = _
          rw [q, Bool.true_and]
        rw [e] at h
        exact h
      · have e : numB (.int i) lo hi = false := by
          show (decide (lo ≤ i) && decide (i ≤ hi)) = _
          rw [Bool.eq_false_iff.mpr q, Bool.false_and]
        rw [e] at h
        exact h
    · rw [numB_no no] at h
      cases b with
      | false => exact iteF h
      | true =>
        rcases alt with z | rfl
        · cases z
        · refine iteT ⟨_, rfl, _, _, _, _, true, rfl, .ty "bool", ty, k2, true, rfl, false, rfl, ?_⟩
          exact iteF h
end
/-! ### defs as they stand, and how they are called -/
structure DefAt (K : PySem.W.Frag) (mg : Str → Option Value) (x : Str) (st : Stmt) (ps : List Str) (f : Addr) (fd : FuncData) : Prop where
  fn : Fun K x x st f fd
  m : mg x = some (.ref f)
  b : Binds K fd ps []
structure At (P : Program) (w : World) (K : PySem.W.Frag) (mg : Str → Option Value) (base : Heap) (CX : CXT) (k : Nat) (x : Str) (ps : List Str) (sp : Sp) (f : Addr) (fd : FuncData) : Prop where
  ok : FnOk P w K mg base CX k f fd ps sp
  m : mg x = some (.ref f)
  kp : PySem.W.keepIn K (.ref f) = true
  b : Binds K fd ps []
theorem DefAt.at {P : Program} {w : World} {K : PySem.W.Frag} {mg : Str → Option Value} {base : Heap} {CX : CXT} {k : Nat} {x : Str} {st : Stmt} {ps : List Str} {sp : Sp} {f : Addr} {fd : FuncData} (D : DefAt K mg x st ps f fd)
    (ok : FnOk P w K mg base CX k f fd ps sp) : At P w K mg base CX k x ps sp f fd := ⟨ok, D.m, D.fn.kp, D.b⟩
section
variable {X : Cx} {k : Nat} {x : Str} {ps : List Str} {sp : Sp} {f : Addr} {fd : FuncData} {p pos : Pos} {e : Expr} {es : List Expr} {t : TA}
theorem pe_at (G : At X.prog X.w X.K X.mg X.base CX0 k x ps sp f fd) (hr : Room k X.A) (ha : PA X (e :: es) t) (hg : Gl X x := by rfl) (hdb : (x == ("__debug__" : Str)) = false := by decide)
    (he : starEach (e :: es) X.env = (false, eval e X.env) :: starEach es X.env := by rfl) (hpl : (backTo pos (starEach es X.env)).any (·.1) = false := by rfl) :
    PE X (.Call (.Name x p) (e :: es) [] pos) (tCall sp [] E0 t) := pe_call G.ok hr hg G.m G.kp G.b .nil pass0 ha hdb he hpl
end
/-! ### heaps that only grow -/
theorem sqT_same {K : PySem.W.Frag} {H H' : Hp} {a : Addr} {xs : List V} (h : SqT K H a xs) (e : Same H H') : SqT K H' a xs := SqT.ext h e
theorem same_new {H : Hp} {p : Addr} {o : HO} (h : H p = none) : Same H (upd H p o) := fun b u e => by rw [upd_ne (ne_of_none e h)]; exact e
/-- all but what stands at l is as it was -/
def But (l : Addr) (H H' : Hp) : Prop := ∀ b o, b ≠ l → H b = some o → H' b = some o
theorem Same.but {H H' : Hp} (e : Same H H') (l : Addr) : But l H H' := fun b o _ h => e b o h
theorem But.trans {l : Addr} {H H1 H2 : Hp} (a : But l H H1) (b : But l H1 H2) : But l H H2 := fun c o n h => b c o n (a c o n h)
theorem but_upd {H : Hp} {l : Addr} {o : HO} : But l H (upd H l o) := fun b u n e => by rw [upd_ne n]; exact e
theorem But.new {H H1 : Hp} {l p : Addr} {o : HO} (a : But l H H1) (h : H1 p = none) : But l H (upd H1 p o) := a.trans (Same.but (same_new h) l)
/-- laid ahead of which the heap was as H -/
theorem But.same {H H1 : Hp} {l : Addr} (a : But l H H1) (h : H l = none) : Same H H1 := fun b o e => a b o (ne_of_none e h) e

/-! ### stones: pairs of a place and a height -/
def StonesAt (K : PySem.W.Frag) (H : Hp) (vs : List V) (xs : List (Int × Int)) : Prop :=
  vs.length = xs.length ∧ ∀ (k : Nat) (x : Int × Int), xs[k]? = some x → ∃ a : Addr, vs[k]? = some (V.ref a) ∧ SqT K H a [.int x.1, .int x.2]
theorem StonesAt.same {K : PySem.W.Frag} {H H' : Hp} {vs : List V} {xs : List (Int × Int)} (h : StonesAt K H vs xs) (e : Same H H') : StonesAt K H' vs xs :=
  ⟨h.1, fun k x q => let ⟨a, q1, q2⟩ := h.2 k x q; ⟨a, q1, sqT_same q2 e⟩⟩
theorem StonesAt.nil {K : PySem.W.Frag} {H : Hp} : StonesAt K H [] [] := ⟨rfl, fun k x q => by simp at q⟩
theorem StonesAt.append {K : PySem.W.Frag} {H : Hp} {vs us : List V} {xs ys : List (Int × Int)} (h : StonesAt K H vs xs) (g : StonesAt K H us ys) : StonesAt K H (vs ++ us) (xs ++ ys) := by
  refine ⟨by rw [List.length_append, List.length_append, h.1, g.1], fun k x q => ?_⟩
  by_cases hk : k < xs.length
  · rw [List.getElem?_append_left hk] at q
    rw [List.getElem?_append_left (by rw [h.1]; exact hk)]
    exact h.2 k x q
  · rw [List.getElem?_append_right (by omega)] at q
    rw [List.getElem?_append_right (by rw [h.1]; omega), h.1]
    exact g.2 _ x q
theorem StonesAt.one {K : PySem.W.Frag} {H : Hp} {a : Addr} {x : Int × Int} (h : SqT K H a [.int x.1, .int x.2]) : StonesAt K H [.ref a] [x] := by
  refine ⟨rfl, fun k y q => ?_⟩
  cases k with
  | zero => simp at q; subst q; exact ⟨a, rfl, h⟩
  | succ k => simp at q
/-! ### sides -/
def sideS : Bool → Str
  | true => "right"
  | false => "left"
/-- the numbers beside a stone, the nearest one first -/
def beside (r : Bool) (i n : Nat) : List Nat := if r then (List.range (n - (i + 1))).map (fun k => i + 1 + k) else (List.range i).map (fun k => i - 1 - k)
def ivs (ns : List Nat) : List V := ns.map fun (k : Nat) => V.int (k : Int)
def spBeside : Sp := fun vs H Q _ => ∃ (i n : Nat) (r : Bool), vs = [.int i, .str (sideS r), .int n] ∧ i < n ∧ n ≤ 100 ∧ ∀ q, H q = none → Q (.ref q) (upd H q (.lst (ivs (beside r i n))))
def spCheckStone : Sp := fun vs H Q _ => ∃ (i n : Nat), vs = [.int i, .int n] ∧ i < n ∧ Q .non H
def spCheckSide : Sp := fun vs H Q _ => ∃ r : Bool, vs = [.str (sideS r)] ∧ Q .non H
section
variable {P : Program} {w : World} {K : PySem.W.Frag} {mg : Str → Option Value} {base : Heap}
theorem ok_checkStone {f g : Addr} {fd gd : FuncData} (F : Fun K "check_stone" "check_stone" s_check_stone f fd) (N : At P w K mg base CX0 1 "is_number" ["value", "least", "greatest"] (spNum K) g gd) :
    FnOk P w K mg base CX0 2 f fd ["stone", "count"] spCheckStone := by
  refine F.ok sc_check_stone (fun vs H Q E h => ?_) (fun cdv A outer s H vs Q E hr h => ?_)
  · obtain ⟨i, n, rfl, _⟩ := h
    rfl
  · obtain ⟨i, n, rfl, hi, h⟩ := h
    refine ⟨_, pss_one (ps_if (pt_not (pt_val (pe_at N hr (pa_cons (pv 0) (pa_cons (pe_int) (pa_cons (pe_op op_sub (pv 1) (pe_int)) pa_nil)))))) (pss_one ps_never) pss_nil), ?_⟩
    refine ⟨_, rfl, _, rfl, _, _, rfl, rfl, _, _, _, rfl, True.intro, _, rfl, ?_⟩
    have e : numB (.int (i : Int)) 0 ((n : Int) - 1) = true := by
      show (decide (0 ≤ (i : Int)) && decide ((i : Int) ≤ (n : Int) - 1)) = true
      simp; omega
    rw [e]
    exact iteF h
theorem sides_in {r : Bool} {ys : List V} (h : ys = [V.str "left", V.str "right"]) : inV (.str (sideS r)) ys = true := by
  subst h
  cases r <;> decide +kernel
theorem ok_checkSide {f S : Addr} {fd : FuncData} (F : Fun K "check_side" "check_side" s_check_side f fd) (mS : mg "SIDES" = some (.ref S)) (hS : ∀ H, SqT K H S [.str "left", .str "right"]) : FnOk P w K mg base CX0 1 f fd ["side"] spCheckSide := by
  refine F.ok sc_check_side (fun vs H Q E h => ?_) (fun cdv A outer s H vs Q E hr h => ?_)
  · obtain ⟨r, rfl, _⟩ := h
    rfl
  · obtain ⟨r, rfl, h⟩ := h
    refine ⟨_, pss_one (ps_if (pt_cmpR (op_notIn_seq) (pv 0) (pe_glob (v := .ref S) (by rfl) mS rfl) (by rfl)) (pss_one ps_never) pss_nil), ?_⟩
    refine ⟨_, rfl, S, _, rfl, .inr (hS H), rfl, rfl, _, rfl, ?_⟩
    rw [if_pos rfl, sides_in rfl]
    exact iteF h
theorem right_eq {r : Bool} : decide (V.str (sideS r) = V.str "right") = r := by cases r <;> decide +kernel
theorem beside_right {i n : Nat} (h : i < n) : Own.dnV 0 0 = [] ∧ rgV ((i : Int) + 1) (n : Int) = ivs (beside true i n) := by
  refine ⟨rfl, ?_⟩
  unfold rgV ivs beside
  rw [if_pos rfl, List.map_map]
  have e : ((n : Int) - ((i : Int) + 1)).toNat = n - (i + 1) := by omega
  rw [e]
  exact List.map_congr_left fun k _ => congrArg V.int (show (i : Int) + 1 + (k : Int) = ((i + 1 + k : Nat) : Int) by omega)
theorem beside_left {i n : Nat} : Own.dnV ((i : Int) - 1) (-1) = ivs (beside false i n) := by
  unfold Own.dnV ivs beside
  rw [if_neg (by decide), List.map_map]
  have e : ((i : Int) - 1 - (-1)).toNat = i := by omega
  rw [e]
  exact List.map_congr_left fun k hk => by have := List.mem_range.mp hk; exact congrArg V.int (show (i : Int) - 1 - (k : Int) = ((i - 1 - k : Nat) : Int) by omega)
theorem ok_beside {f : Addr} {fd : FuncData} (F : Fun K "stones_beside" "stones_beside" s_stones_beside f fd) (B : Blt mg) : FnOk P w K mg base CX0 1 f fd ["stone", "side", "count"] spBeside := by
  refine F.ok sc_stones_beside (fun vs H Q E h => ?_) (fun cdv A outer s H vs Q E hr h => ?_)
  · obtain ⟨i, n, r, rfl, _⟩ := h
    rfl
  · obtain ⟨i, n, r, rfl, hi, hn, h⟩ := h
    refine ⟨_, pss_cons (ps_if (pt_cmpR (op_eq) (pv 1) (pe_str) (nomark _)) (pss_one (ps_ret (pe_listRg rfl (by rfl) B.list (prg_2 (by rfl) B.range (pe_op op_add (pv 0) (pe_int)) (pv 2))))) pss_nil)
      (pss_one (ps_ret (Own.pe_listDown rfl (by rfl) B.list (by rfl) B.range (pa_cons (pe_op op_sub (pv 0) (pe_int)) (pa_cons (pe_un un_neg pe_int) (pa_cons (pe_un un_neg pe_int) pa_nil)))))), ?_⟩
    refine ⟨_, rfl, rfl, _, rfl, ?_⟩
    rw [right_eq]
    cases r with
    | true =>
      refine iteT ⟨_, rfl, _, _, rfl, rfl, _, rfl, _, _, rfl, rfl, ⟨by omega, by omega, by omega, by omega, by omega⟩, fun q hq => ?_⟩
      rw [(beside_right hi).2]
      exact h q hq
    | false =>
      refine iteF ⟨_, rfl, _, _, rfl, rfl, _, rfl, _, rfl, (i : Int) - 1, -1, rfl, by omega, by omega, by omega, by omega, fun q hq => ?_⟩
      rw [beside_left (n := n)]
      exact h q hq
end
/-! ### which stones a push fells -/
def ab (z : Int) : Int := if z < 0 then -z else z
def mx (i j : Int) : Int := if j > i then j else i
/-- one stone after another, as far as the reach goes -/
def scan (xs : List (Int × Int)) (sd : List Bool) (p0 : Int) : Int → List Nat → List Nat
  | _, [] => []
  | r, o :: os => match xs[o]? with
    | none => []
    | some x => if ab (x.1 - p0) > r then [] else if sd[o]? = some true then o :: scan xs sd p0 (mx r (ab (x.1 - p0) + x.2)) os else scan xs sd p0 r os
def felled (xs : List (Int × Int)) (sd : List Bool) (i : Nat) (r : Bool) : List Nat := match xs[i]? with
  | none => []
  | some x => i :: scan xs sd x.1 x.2 (beside r i xs.length)
theorem beside_lt {r : Bool} {i n : Nat} (hi : i < n) : ∀ k ∈ beside r i n, k < n := by
  intro k hk
  cases r with
  | true =>
    simp [beside] at hk
    obtain ⟨j, h1, h2⟩ := hk
    omega
  | false =>
    simp [beside] at hk
    obtain ⟨j, h1, h2⟩ := hk
    omega
theorem beside_len {r : Bool} {i n : Nat} (hi : i < n) : (beside r i n).length ≤ n := by
  cases r <;> simp [beside] <;> omega
theorem scan_len (xs : List (Int × Int)) (sd : List Bool) (p0 : Int) : ∀ (os : List Nat) (r : Int), (scan xs sd p0 r os).length ≤ os.length
  | [], r => by simp [scan]
  | o :: os, r => by
    unfold scan
    split
    · simp
    · rename_i x hx
      split
      · simp
      · split
        · have := scan_len xs sd p0 os (mx r (ab (x.1 - p0) + x.2)); simp; exact this
        · have := scan_len xs sd p0 os r; simp; omega
def spFelled (K : PySem.W.Frag) : Sp := fun vs H Q _ => ∃ (t b : Addr) (us : List V) (xs : List (Int × Int)) (sd : List Bool) (i : Nat) (r : Bool), vs = [.ref t, .ref b, .int i, .str (sideS r)] ∧ SqT K H t us ∧ StonesAt K H us xs ∧ SqL K H b (sd.map V.bl) ∧ sd.length = xs.length ∧ i < xs.length ∧ xs.length ≤ 40 ∧
  ∀ (ns : List Int) (p : Addr) (H' : Hp), ns.Perm ((felled xs sd i r).map fun (k : Nat) => (k : Int)) → ns.Pairwise (· ≤ ·) → Same H H' → H p = none → H' p = some (.lst (ns.map V.int)) → Q (.ref p) H'
theorem sqL_same {K : PySem.W.Frag} {H H' : Hp} {a : Addr} {xs : List V} (e : Same H H') (h : SqL K H a xs) : SqL K H' a xs := e.seq h
theorem ivs_get {ns : List Nat} {k : Nat} {v : V} (h : (ivs ns)[k]? = some v) : ∃ o, ns[k]? = some o ∧ v = V.int (o : Int) := by
  unfold ivs at h
  rw [List.getElem?_map] at h
  cases e : ns[k]? with
  | none => rw [e] at h; cases h
  | some o => rw [e] at h; exact ⟨o, rfl, (Option.some.inj h).symm⟩
theorem drop_get {α : Type} {l : List α} {k : Nat} {o : α} (h : l[k]? = some o) : l.drop k = o :: l.drop (k + 1) := by
  obtain ⟨h1, h2⟩ := List.getElem?_eq_some_iff.mp h
  rw [List.drop_eq_getElem_cons h1, h2]
section
variable {P : Program} {w : World} {K : PySem.W.Frag} {mg : Str → Option Value} {base : Heap}
theorem ok_felled {f g : Addr} {fd gd : FuncData} (F : Fun K "felled_by" "felled_by" s_felled_by f fd) (B : Blt mg) (N : At P w K mg base CX0 1 "stones_beside" ["stone", "side", "count"] spBeside g gd) :
    FnOk P w K mg base CX0 2 f fd ["stones", "standing", "stone", "side"] (spFelled K) := by
  refine F.ok sc_felled_by (fun vs H Q E h => ?_) (fun cdv A outer s H vs Q E hr h => ?_)
  · obtain ⟨t, b, us, xs, sd, i, r, rfl, _⟩ := h
    rfl
  · obtain ⟨t, b, us, xs, sd, i, r, rfl, hT, hS, hB, hl, hi, hn, k⟩ := h
    refine ⟨_, pss_cons (ps_asg (pe_ix ix_tup (pv 0) (pv 2) (fun _ _ => rfl)) (pg_tup rfl (pgs_cons (pg_name (i := 4) sc_felled_by.nd rfl (Or.inl rfl)) (pgs_cons (pg_name (i := 5) sc_felled_by.nd rfl (Or.inl rfl)) pgs_nil))))
      (pss_cons (ps_set (i := 6) sc_felled_by.nd rfl (Or.inl rfl) (pe_lst (pa_cons (pv 2) pa_nil)))
      (pss_cons (ps_for PassesOwn.never rfl (pi_list (pe_at N hr (pa_cons (pv 2) (pa_cons (pv 3) (pa_cons (pe_callB call_len_seq (by rfl) B.len PySem.boot_len (pa_cons (pv 0) pa_nil)) pa_nil))))) (pg_name (i := 7) sc_felled_by.nd rfl (Or.inl rfl))
        (pss_cons (ps_asg (pe_ix ix_tup (pv 0) (pv 7) (fun _ _ => rfl)) (pg_tup rfl (pgs_cons (pg_name (i := 8) sc_felled_by.nd rfl (Or.inl rfl)) (pgs_cons (pg_name (i := 9) sc_felled_by.nd rfl (Or.inl rfl)) pgs_nil))))
        (pss_cons (ps_set (i := 10) sc_felled_by.nd rfl (Or.inl rfl) (pe_callB (call_abs) (by rfl) B.abs boot_abs (pa_cons (pe_op op_sub (pv 8) (pv 4)) pa_nil)))
        (pss_cons (ps_if (pt_cmpR (op_gt) (pv 10) (pv 5) (nomark _)) (pss_one ps_break) pss_nil)
        (pss_one (ps_if (pt_val (pe_ix ix_list (pv 1) (pv 7) (fun _ _ => rfl))) (pss_cons (ps_expr (pe_bm PySem.F.plainAttrs_list PySem.F.slot_list_append PySem.F.type_list_append mt_append (pv 6) (pa_cons (pv 7) pa_nil))) (pss_one (ps_set (i := 5) sc_felled_by.nd rfl (Or.inl rfl) (pe_callB ((call_max2 rfl)) (by rfl) B.max boot_max (pa_cons (pv 5) (pa_cons (pe_op op_add (pv 10) (pv 9)) pa_nil)))))) pss_nil))))))
      (pss_one (ps_ret (pe_callB (cr_sortedI) (by rfl) B.sorted boot_sorted (pa_cons (pv 6) pa_nil)))))), ?_⟩
    obtain ⟨x, hx⟩ : ∃ x, xs[i]? = some x := ⟨xs[i], by simp [hi]⟩
    obtain ⟨a, ha, hsa⟩ := hS.2 i x hx
    -- start, reach = stones[stone]
    refine ⟨_, rfl, _, rfl, t, us, _, _, rfl, rfl, hT, atI_nat ha, a, _, rfl, hsa, rfl, _, _, rfl, _, _, rfl, rfl, ?_⟩
    -- felled = [stone]
    refine ⟨_, rfl, (by show 1 ≤ sizeLine; decide), fun pf nf => ?_⟩
    have s1 := same_new (o := .lst [V.int (i : Int)]) nf
    -- the stones beside
    refine ⟨_, rfl, _, rfl, _, rfl, t, us, rfl, .inr (sqT_same hT s1), ?_⟩
    refine ⟨i, xs.length, r, by rw [hS.1]; rfl, hi, by omega, fun q nq => ?_⟩
    have s2 := same_new (o := .lst (ivs (beside r i xs.length))) nq
    have hpq : pf ≠ q := ne_of_none upd_same nq
    have nf2 : H q = none := Same.free s1 nq
    have fin : ∀ (acc : List Nat) (H3 : Hp), felled xs sd i r = i :: acc → But pf H H3 → H3 pf = some (.lst (ivs (i :: acc))) → ∀ (s7 s8 s9 s10 : Option V) (rr : V),
        tRet (tCB (rSortedI K) (tCons (tVar 6) tNil)) { nx := fun _ H' => Q .non H', rt := Q } [some (.ref t), some (.ref b), some (.int i), some (.str (sideS r)), some (.int x.1), some rr, some (.ref pf), s7, s8, s9, s10] H3 := by
      intro acc H3 e1 e2 e3 s7 s8 s9 s10 rr
      refine ⟨_, rfl, pf, (i :: acc).map fun (k : Nat) => (k : Int), rfl, SqL.of (by rw [e3]; unfold ivs; rw [List.map_map]; rfl), fun ns' p pm rs np => ?_⟩
      have sm : Same H H3 := But.same e2 nf
      exact k ns' p _ (by rw [e1]; exact pm) rs (sm.trans (same_new np)) (Same.free sm np) upd_same
    refine ⟨q, rfl, ⟨_, SqL.of upd_same⟩, for_list (K := K) (a := q) (xs := ivs (beside r i xs.length)) (fun j σ H3 => ∃ (acc : List Nat) (rr : Int) (s7 s8 s9 s10 : Option V),
        σ = [some (.ref t), some (.ref b), some (.int i), some (.str (sideS r)), some (.int x.1), some (.int rr), some (.ref pf), s7, s8, s9, s10] ∧
        felled xs sd i r = i :: acc ++ scan xs sd x.1 rr ((beside r i xs.length).drop j) ∧ But pf H H3 ∧ H3 pf = some (.lst (ivs (i :: acc))) ∧ H3 q = some (.lst (ivs (beside r i xs.length))) ∧ acc.length ≤ j) ?_ ?_ ?_ ?_⟩
    · refine ⟨[], x.2, none, none, none, none, rfl, ?_, (Same.but s1 pf).trans (Same.but s2 pf), ?_, upd_same, Nat.le_refl _⟩
      · unfold felled
        rw [hx]
        rfl
      · rw [upd_ne hpq]
        exact upd_same
    · rintro j σ H3 _ ⟨_, _, _, _, _, _, _, _, _, _, e, _⟩
      exact SqL.of e
    · rintro j y σ H3 hy ⟨acc, rr, s7, s8, s9, s10, rfl, ef, bt, e1, e2, hacc⟩
      obtain ⟨o, ho, rfl⟩ := ivs_get hy
      have hj : j < (beside r i xs.length).length := (List.getElem?_eq_some_iff.mp ho).1
      have holt : o < xs.length := beside_lt hi o (List.mem_of_getElem? ho)
      obtain ⟨z, hz⟩ : ∃ z, xs[o]? = some z := ⟨xs[o], by simp [holt]⟩
      obtain ⟨c, hc, hsc⟩ := hS.2 o z hz
      have sm : Same H H3 := But.same bt nf
      -- place, height = stones[other]
      refine ⟨_, rfl, _, rfl, t, us, _, _, rfl, rfl, sqT_same hT sm, atI_nat hc, c, _, rfl, sqT_same hsc sm, rfl, _, _, rfl, _, _, rfl, rfl, ?_⟩
      -- distance = abs(place - start)
      refine ⟨_, rfl, _, rfl, _, _, rfl, rfl, _, rfl, ?_⟩
      -- if distance > reach: break
      refine ⟨_, rfl, _, rfl, _, _, rfl, rfl, _, rfl, ?_⟩
      rw [drop_get ho] at ef
      refine ite2 (fun hgt => ?_) (fun hgt => ?_)
      · have hgt' : ab (z.1 - x.1) > rr := of_decide_eq_true hgt
        have e0 : felled xs sd i r = i :: acc := by
          rw [ef]
          unfold scan
          rw [hz]
          simp only [hgt', if_true, List.append_nil]
        exact fin acc H3 e0 bt e1 _ _ _ _ _
      · have hgt' : ¬ ab (z.1 - x.1) > rr := fun z => hgt (decide_eq_true z)
        obtain ⟨d, hd⟩ : ∃ d, sd[o]? = some d := ⟨sd[o]'(by omega), by simp⟩
        have hd2 : (sd.map V.bl)[o]? = some (.bl d) := by rw [List.getElem?_map, hd]; rfl
        refine ⟨_, rfl, _, rfl, b, _, _, _, rfl, rfl, sqL_same sm hB, atI_nat hd2, d, rfl, ?_⟩
        cases d with
        | true =>
          refine iteT ⟨_, rfl, .inl ⟨rfl, _, SqL.of e1⟩, _, rfl, pf, _, _, rfl, rfl, e1, ?_, ?_⟩
          · unfold ivs
            rw [List.length_map, List.length_cons, sizeLine_eq]
            have := beside_len (r := r) hi
            omega
          refine ⟨_, rfl, _, rfl, _, rfl, _, _, rfl, rfl, _, _, rfl, ?_⟩
          refine ⟨acc ++ [o], mx rr (ab (z.1 - x.1) + z.2), _, _, _, _, rfl, ?_, bt.trans but_upd, ?_, ?_, ?_⟩
          · rw [ef]
            conv => lhs; unfold scan
            rw [hz]
            simp only [hgt', if_false, hd, if_true, List.cons_append, List.append_assoc, List.nil_append]
          · rw [upd_same]
            unfold ivs
            simp
          · rw [upd_ne hpq.symm]
            exact e2
          · simp; omega
        | false =>
          refine iteF ⟨acc, rr, _, _, _, _, rfl, ?_, bt, e1, e2, by omega⟩
          rw [ef]
          conv => lhs; unfold scan
          rw [hz]
          simp only [hgt', if_false, hd, Option.some.injEq, Bool.false_eq_true]
    · rintro σ H3 ⟨acc, rr, s7, s8, s9, s10, rfl, ef, bt, e1, e2, hacc⟩
      have e0 : felled xs sd i r = i :: acc := by
        rw [ef, List.drop_of_length_le (by unfold ivs; simp)]
        simp [scan]
      exact fin acc H3 e0 bt e1 _ _ _ _ _
end
/-! ### a stone of a row -/
theorem tyT {K : PySem.W.Frag} {H : Hp} {a : Addr} {xs : List V} (h : SqT K H a xs) : TyX K H (.ref a) (.type "tuple") := by
  rcases h with (h | ⟨o, h⟩) | ⟨o, its, n, h, c, _⟩
  · exact .base (.tup h)
  · exact .fTuple h
  · exact .kTuple h c
theorem tyL {K : PySem.W.Frag} {H : Hp} {a : Addr} {xs : List V} (h : SqL K H a xs) : TyX K H (.ref a) (.type "list") := by
  rcases h with (h | ⟨o, h⟩) | ⟨o, its, n, h, c, _⟩
  · exact .base (.lst h)
  · exact .base (.frz h)
  · exact .kList h c
/-- what a value is as a stone of a place from lo on -/
inductive StoneV (K : PySem.W.Frag) (H : Hp) (lo : Int) : V → Bool → Prop where
  | no {v : V} (k : Known K H v) (n : ∀ a, v = .ref a → TyX K H (.ref a) (.type "list")) : StoneV K H lo v false
  | len {a : Addr} {xs : List V} (h : SqT K H a xs) (n : xs.length ≠ 2) : StoneV K H lo (.ref a) false
  | two {a : Addr} {p h : V} (q : SqT K H a [p, h]) (kp : Known K H p) (kh : Known K H h) : StoneV K H lo (.ref a) (numB p lo 1000000000 && numB h 1 1000000000)
def spIsStone (K : PySem.W.Frag) : Sp := fun vs H Q _ => ∃ v lo b, vs = [v, .int lo] ∧ StoneV K H lo v b ∧ Q (.bl b) H
structure Lims (mg : Str → Option Value) : Prop where
  place : ∃ t, mg "GREATEST_PLACE" = some (.int 1000000000 t)
  height : ∃ t, mg "GREATEST_HEIGHT" = some (.int 1000000000 t)
/-- the class Row as the top has made it -/
structure RowC (K : PySem.W.Frag) (mg : Str → Option Value) (C : Addr) : Prop where
  cl : Cls K C
  nS : NoAttr K C "_stones"
  max : ∃ u, Con K C "MAX_STONES" (.int 40) u
  mgC : mg "Row" = some (.ref C)
  first : PySem.W.selfFirst K C = true
  ca : PySem.W.findIn K (.ref C) "__class__" = some (some (.builtin "object.__class__"))
  cn : PySem.W.specialIn K (.builtin "object.__class__") "__get__" = some (some (.builtin "getset_descriptor.__get__"))
  ct : PySem.W.takesIn K (.builtin "object.__class__") = some true
  cm : PySem.W.mroIn K C (.type "object") = some true
theorem RowC.ty {K : PySem.W.Frag} {mg : Str → Option Value} {C : Addr} (R : RowC K mg C) {H : Hp} {a dx : Addr} {fs : List (Str × V)} (h : H a = some (.ins C dx fs)) : TyX K H (.ref a) (.ref C) := .base (.ins h R.cl R.ca R.cn R.ct R.cm)
theorem kit_self {K : PySem.W.Frag} {C : Addr} : PySem.W.kitOne K (.ref C) (.ref C) = some true := by
  unfold PySem.W.kitOne
  rw [if_pos (by simp)]
/-- places that rise from lo on, heights that stones can have -/
def Wf : Int → List (Int × Int) → Prop
  | _, [] => True
  | lo, x :: xs => lo ≤ x.1 ∧ x.1 ≤ 1000000000 ∧ 1 ≤ x.2 ∧ x.2 ≤ 1000000000 ∧ Wf (x.1 + 1) xs
theorem Wf.get : ∀ {xs : List (Int × Int)} {lo : Int} {k : Nat} {x : Int × Int}, Wf lo xs → xs[k]? = some x → (k = 0 → lo ≤ x.1) ∧ (∀ y, 0 < k → xs[k - 1]? = some y → y.1 + 1 ≤ x.1) ∧ x.1 ≤ 1000000000 ∧ 1 ≤ x.2 ∧ x.2 ≤ 1000000000
  | [], _, _, _, _, e => by simp at e
  | z :: xs, lo, 0, x, w, e => by
    simp at e
    subst e
    exact ⟨fun _ => w.1, fun y h => absurd h (by decide), w.2.1, w.2.2.1, w.2.2.2.1⟩
  | z :: xs, lo, k + 1, x, w, e => by
    simp at e
    have ih := Wf.get w.2.2.2.2 e
    refine ⟨fun h => by omega, fun y _ hy => ?_, ih.2.2⟩
    cases k with
    | zero => simp at hy; subst hy; exact ih.1 rfl
    | succ k => simp at hy; exact ih.2.1 y (Nat.succ_pos _) (by simpa using hy)
def rowF (t : Addr) : List (Str × V) := [("_stones", .ref t)]
def RowAt (K : PySem.W.Frag) (C : Addr) (H : Hp) (p : Addr) (xs : List (Int × Int)) : Prop := ∃ dx t us, H p = some (.ins C dx (rowF t)) ∧ SqT K H t us ∧ StonesAt K H us xs
theorem RowAt.same {K : PySem.W.Frag} {C : Addr} {H H' : Hp} {p : Addr} {xs : List (Int × Int)} (h : RowAt K C H p xs) (e : Same H H') : RowAt K C H' p xs :=
  let ⟨dx, t, us, h1, h2, h3⟩ := h; ⟨dx, t, us, e _ _ h1, sqT_same h2 e, h3.same e⟩
def spInitB (K : PySem.W.Frag) (C : Addr) : Sp := fun vs H Q _ => ∃ (p dx t : Addr) (us : List V) (xs : List (Int × Int)), vs = [.ref p, .ref t] ∧ H p = some (.ins C dx []) ∧ SqT K H t us ∧ StonesAt K H us xs ∧ Wf 0 xs ∧ xs.length ≤ 40 ∧
  ∀ H', But p H H' → H' p = some (.ins C dx (rowF t)) → Q .non H'
section
variable {P : Program} {w : World} {K : PySem.W.Frag} {mg : Str → Option Value} {base : Heap}
/-- a def with one parameter and a star -/
theorem star1 {x qual p1 pv' : Str} {st : Stmt} {f : Addr} {fd : FuncData} {N : List Str} {k : Nat} {sp : Sp} (F : Fun K x qual st f fd) (S : FnScope N ([p1] ++ [pv']) (defScope st))
    (h0 : ∀ (kV doc pm : Value) (an : Option Addr) (cdv ct a : Value), bindArgs (PySem.W.fnOf x qual (defArgs st) (defBody st) (defScope st) .none kV doc pm an cdv ct) ⟨[a], []⟩ = (newTuple [] >>= fun t => pure [(p1, a), (pv', t)]))
    (h1 : ∀ (kV doc pm : Value) (an : Option Addr) (cdv ct a r : Value) (rs : List Value), bindArgs (PySem.W.fnOf x qual (defArgs st) (defBody st) (defScope st) .none kV doc pm an cdv ct) ⟨a :: r :: rs, []⟩ = (newTuple (r :: rs) >>= fun t => pure [(p1, a), (pv', t)]))
    (hbody : ∀ (cdv : Value) (A : Around) (outer : List Env) (s : Shared) (H : Hp) (vs : List V) (Q : VK) (E : XK), Room k (A.deeper (envOfC qual (defScope st) s.heap.objs.size f cdv)) → sp vs H Q E →
      ∃ t, PSs (cxOf CX0 P w K mg base N qual (defScope st) f cdv A outer s H E).nox (defBody st) t ∧ t { nx := fun _ H' => Q .non H', rt := Q } (start N vs) H) :
    FnR P w K mg base CX0 (k + 1) f (fun vs H Q E => ∃ w0 rest, vs = w0 :: rest ∧ rest.length ≤ 1000 ∧ ∀ p, H p = none → sp [w0, V.ref p] (upd H p (.tup rest)) Q E) := by
  obtain ⟨oc, od, kV, doc, pm, an, cdv, ct, osl, rfl, lk, hcd⟩ := F.ex
  have base := StX.fn_star (CX := CX0) (P := P) (w := w) (mg := mg) (base := base) (k := k) (ps := [p1]) (sp := sp) lk hcd S (fun _ _ _ _ _ _ _ _ _ _ _ z => z)
    (StX.bind_star1 (B := fun us => bindArgs (PySem.W.fnOf x qual (defArgs st) (defBody st) (defScope st) .none kV doc pm an cdv ct) ⟨us, []⟩) (fun a => h0 kV doc pm an cdv ct a) (fun a r rs => h1 kV doc pm an cdv ct a r rs))
    (fun A outer s H vs Q E hr hsp => by
      obtain ⟨t, h, q⟩ := hbody cdv A outer s H vs Q E hr hsp
      exact ⟨t, h.nox, q⟩)
  refine base.imp fun vs H Q E h => ?_
  obtain ⟨w0, rest, rfl, hz, h⟩ := h
  exact ⟨[w0], rest, rfl, rfl, by rw [sizeLine_eq]; omega, fun p hp => h p hp⟩
theorem ok_isStone {f g : Addr} {fd gd : FuncData} (F : Fun K "_is_stone" "_is_stone" s_is_stone f fd) (B : Blt mg) (L : Lims mg) (N : At P w K mg base CX0 1 "is_number" ["value", "least", "greatest"] (spNum K) g gd) :
    FnOk P w K mg base CX0 2 f fd ["stone", "least_place"] (spIsStone K) := by
  obtain ⟨⟨tp, mp⟩, ⟨th, mh⟩⟩ := id L
  refine F.ok sc_is_stone (fun vs H Q E h => ?_) (fun cdv A outer s H vs Q E hr h => ?_)
  · obtain ⟨v, lo, b, rfl, _⟩ := h
    rfl
  · obtain ⟨v, lo, b, rfl, sv, k⟩ := h
    refine ⟨_, pss_cons (ps_if (PW.pt (pw_or (pt_not (pt_val (pe_callB (call_isi) (by rfl) B.isinstance boot_isinstance (pa_cons (pv 0) (pa_cons (pe_bltn (v := .ty "tuple") (by rfl) B.tuple boot_tuple rfl) pa_nil))))) (pw_or1 (pt_cmpR (op_ne) (pe_callB call_len_seq (by rfl) B.len PySem.boot_len (pa_cons (pv 0) pa_nil)) (pe_int) (nomark _))))) (pss_one (ps_ret pe_bl)) pss_nil)
      (pss_cons (ps_asg (pv 0) (pg_tup rfl (pgs_cons (pg_name (i := 2) sc_is_stone.nd rfl (Or.inl rfl)) (pgs_cons (pg_name (i := 3) sc_is_stone.nd rfl (Or.inl rfl)) pgs_nil))))
      (pss_one (ps_ret (pe_and (pe_at N hr (pa_cons (pv 2) (pa_cons (pv 1) (pa_cons (pe_glob (v := .int 1000000000) (by rfl) mp ⟨_, rfl⟩) pa_nil)))) (pe_one (pe_at N hr (pa_cons (pv 3) (pa_cons (pe_int) (pa_cons (pe_glob (v := .int 1000000000) (by rfl) mh ⟨_, rfl⟩) pa_nil))))))))), ?_⟩
    cases sv with
    | no kn n =>
      have ty : ∃ t : String, TyX K H v (.type t) ∧ PySem.W.kitOne K (.type t) (.type "tuple") = some false := by
        cases v with
        | int i => exact ⟨_, .base (.int i), kit_ty (by decide +kernel)⟩
        | bl i => exact ⟨_, .base (.bl i), kit_ty (by decide +kernel)⟩
        | non => exact ⟨_, .base .non, kit_ty (by decide +kernel)⟩
        | str i => exact ⟨_, .base (.str i), kit_ty (by decide +kernel)⟩
        | ref a => exact ⟨_, n a rfl, kit_ty (by decide +kernel)⟩
        | byt _ => exact kn.elim
        | flt _ => exact kn.elim
        | ty _ => exact kn.elim
      obtain ⟨t, ty, kt⟩ := ty
      refine ⟨_, rfl, v, .ty "tuple", _, _, false, rfl, .ty _, ty, kt, false, rfl, ?_⟩
      refine iteT ?_
      exact iteT k
    | @len a xs hx n =>
      refine ⟨_, rfl, _, .ty "tuple", _, _, true, rfl, .ty _, tyT hx, kit_ty (by decide +kernel), true, rfl, ?_⟩
      refine iteF ?_
      refine ⟨_, rfl, a, xs, rfl, .inr hx, rfl, _, rfl, ?_⟩
      have e : (!decide (V.int (xs.length : Int) = V.int 2)) = true := by
        rw [dec_int]; simp; omega
      rw [e]
      exact iteT k
    | @two a p h q kp kh =>
      refine ⟨_, rfl, _, .ty "tuple", _, _, true, rfl, .ty _, tyT q, kit_ty (by decide +kernel), true, rfl, ?_⟩
      refine iteF ?_
      refine ⟨_, rfl, a, [p, h], rfl, .inr q, rfl, _, rfl, ?_⟩
      refine iteF ?_
      refine ⟨_, rfl, a, [p, h], rfl, q, rfl, _, _, rfl, _, _, rfl, rfl, ?_⟩
      refine ⟨_, rfl, _, rfl, _, _, _, rfl, kp, _, rfl, ?_⟩
      cases e : numB p lo 1000000000 with
      | true =>
        refine iteT ⟨_, rfl, _, _, _, rfl, kh, ?_⟩
        rw [e, Bool.true_and] at k
        exact k
      | false =>
        rw [e, Bool.false_and] at k
        exact iteF k
theorem numB_int {i lo hi : Int} (h1 : lo ≤ i) (h2 : i ≤ hi) : numB (.int i) lo hi = true := by
  show (decide (lo ≤ i) && decide (i ≤ hi)) = true
  rw [decide_eq_true h1, decide_eq_true h2]; rfl
theorem ok_init {f g C : Addr} {fd gd : FuncData} (F : Fun K "__init__" "Row.__init__" s_Row_init f fd) (B : Blt mg) (R : RowC K mg C) (N : At P w K mg base CX0 2 "_is_stone" ["stone", "least_place"] (spIsStone K) g gd) :
    FnR P w K mg base CX0 3 f (fun vs H Q E => ∃ w0 rest, vs = w0 :: rest ∧ rest.length ≤ 1000 ∧ ∀ p, H p = none → spInitB K C [w0, V.ref p] (upd H p (.tup rest)) Q E) := by
  refine star1 F sc_Row_init (fun _ _ _ _ _ _ _ => rfl) (fun _ _ _ _ _ _ _ _ _ => rfl) (fun cdv A outer s H vs Q E hr h => ?_)
  obtain ⟨p, dx, t, us, xs, rfl, hp, hT, hS, hw, hz, k⟩ := h
  obtain ⟨um, cm⟩ := R.max
  refine ⟨_, pss_cons (ps_set (i := 2) sc_Row_init.nd rfl (Or.inl rfl) (pe_int)) (pss_cons (ps_for PassesOwn.never rfl (Own.pi_enumT (by rfl) B.enumerate (pa_cons (pv 1) pa_nil)) (pg_tup rfl (pgs_cons (pg_name (i := 3) sc_Row_init.nd rfl (Or.inl rfl)) (pgs_cons (pg_name (i := 4) sc_Row_init.nd rfl (Or.inl rfl)) pgs_nil)))
      (pss_cons (ps_if (PW.pt (pw_or (pt_cmpR (op_eq) (pv 3) (pe_con (pv 0) rfl) (nomark _)) (pw_or1 (pt_not (pt_val (pe_at N hr (pa_cons (pv 4) (pa_cons (pv 2) pa_nil)))))))) (pss_one ps_never) pss_nil)
      (pss_one (ps_set (i := 2) sc_Row_init.nd rfl (Or.inl rfl) (pe_op op_add (pe_ix ix_tup (pv 4) (pe_int) (fun _ _ => rfl)) (pe_int))))))
    (pss_one (ps_fld (pv 0) (pv 1) rfl))), ?_⟩
  refine ⟨_, rfl, t, us, rfl, hT, for_it (Own.walk_item (K := K) (a := t) (xs := us)) (fun j σ H1 => ∃ (lo : Int) (s3 s4 : Option V), σ = [some (.ref p), some (.ref t), some (.int lo), s3, s4] ∧ Same H H1 ∧ (∀ x, xs[j]? = some x → lo ≤ x.1) ∧ 0 ≤ lo) ?_ ?_ ?_ ?_⟩
  · exact ⟨0, none, none, rfl, Same.refl _, fun x hx => (hw.get hx).1 rfl, Int.le_refl _⟩
  · rintro j σ H1 _ ⟨_, _, _, _, sm, _⟩
    exact sqT_same hT sm
  · rintro j v σ H1 H2 hj ⟨lo, s3, s4, rfl, sm, hlo, h0⟩ ⟨T, y, z, rfl, nT, rfl, e1, e2⟩
    obtain rfl : y = V.int (j : Int) := (Option.some.inj e1).symm
    have hjx : j < xs.length := by rw [← hS.1]; exact hj
    obtain ⟨x, hx⟩ : ∃ x, xs[j]? = some x := ⟨xs[j], by simp [hjx]⟩
    obtain ⟨c, hc, hsc⟩ := hS.2 j x hx
    obtain rfl : z = V.ref c := Option.some.inj (e2.symm.trans hc)
    have sm2 : Same H (upd H1 T (.tup [.int (j : Int), .ref c])) := sm.trans (same_new nT)
    obtain ⟨_, g2, g3, g4, g5⟩ := hw.get hx
    -- index, stone = the pair
    refine ⟨T, _, rfl, SqT.of upd_same, rfl, _, _, rfl, _, _, rfl, rfl, ?_⟩
    -- index == self.MAX_STONES
    refine ⟨_, rfl, _, rfl, p, C, dx, [], _, _, rfl, sm2 _ _ hp, R.cl, cm, rfl, rfl, _, rfl, ?_⟩
    have e40 : decide (V.int (j : Int) = V.int 40) = false := by rw [dec_int]; simp; omega
    rw [e40]
    refine iteF ?_
    -- not _is_stone(stone, least_place)
    refine ⟨_, rfl, _, rfl, _, _, _, rfl, StoneV.two (sqT_same hsc sm2) True.intro True.intro, _, rfl, ?_⟩
    rw [numB_int (hlo x hx) g3, numB_int g4 g5]
    refine iteF ?_
    -- least_place = stone[0] + 1
    refine ⟨_, rfl, c, _, (0 : Nat), _, rfl, rfl, sqT_same hsc sm2, atI_nat (j := 0) rfl, _, _, rfl, rfl, ?_⟩
    refine ⟨x.1 + 1, _, _, rfl, sm2, fun y hy => (hw.get hy).2.1 x (Nat.succ_pos _) (by simpa using hx), ?_⟩
    have := hlo x hx
    omega
  · rintro σ H1 ⟨lo, s3, s4, rfl, sm, _, _⟩
    refine ⟨_, rfl, _, rfl, p, C, dx, [], rfl, sm _ _ hp, R.cl, R.nS, (by show 0 < 1000; decide), ?_⟩
    exact k _ ((Same.but sm p).trans but_upd) upd_same
end
/-! ### a run: what a push fells while all stand -/
def allUp (n : Nat) : List Bool := List.replicate n true
def reachN (xs : List (Int × Int)) (i : Nat) (r : Bool) : Nat := (felled xs (allUp xs.length) i r).length - 1
def run (xs : List (Int × Int)) (i : Nat) (r : Bool) : Nat × Nat := if r then (i, i + reachN xs i r) else (i - reachN xs i r, i)
theorem scan_take {xs : List (Int × Int)} {sd : List Bool} {p0 : Int} (up : ∀ o, o < xs.length → sd[o]? = some true) : ∀ (os : List Nat) (r : Int), (∀ o ∈ os, o < xs.length) → scan xs sd p0 r os = os.take (scan xs sd p0 r os).length
  | [], r, _ => by simp [scan]
  | o :: os, r, h => by
    have ho := h o (by simp)
    unfold scan
    split
    · simp
    · rename_i x hx
      split
      · simp
      · rw [if_pos (up o ho)]
        rw [List.length_cons, List.take_succ_cons, ← scan_take up os _ fun z hz => h z (by simp [hz])]
theorem allUp_get {n o : Nat} (h : o < n) : (allUp n)[o]? = some true := by
  unfold allUp
  rw [List.getElem?_replicate, if_pos h]
theorem felled_take {xs : List (Int × Int)} {i : Nat} {r : Bool} (hi : i < xs.length) : felled xs (allUp xs.length) i r = i :: (beside r i xs.length).take (reachN xs i r) := by
  have hx : xs[i]? = some xs[i] := by simp [hi]
  have e : felled xs (allUp xs.length) i r = i :: scan xs (allUp xs.length) (xs[i]).1 (xs[i]).2 (beside r i xs.length) := by
    unfold felled
    rw [hx]
  have st := scan_take (xs := xs) (sd := allUp xs.length) (p0 := (xs[i]).1) (fun o ho => allUp_get ho) (beside r i xs.length) (xs[i]).2 (beside_lt hi)
  unfold reachN
  rw [e, List.length_cons, Nat.add_sub_cancel]
  exact congrArg (List.cons i) st
theorem reach_le {xs : List (Int × Int)} {i : Nat} {r : Bool} (hi : i < xs.length) : reachN xs i r ≤ (beside r i xs.length).length := by
  have hx : xs[i]? = some xs[i] := by simp [hi]
  unfold reachN felled
  rw [hx, List.length_cons, Nat.add_sub_cancel]
  exact scan_len _ _ _ _ _
theorem besideR_len {i n : Nat} : (beside true i n).length = n - (i + 1) := by simp [beside]
theorem besideL_len {i n : Nat} : (beside false i n).length = i := by simp [beside]
/-- first, first + 1, .. (c + 1 of them) -/
def rise (a c : Nat) : List Int := (List.range (c + 1)).map fun k => ((a + k : Nat) : Int)
theorem rise_le (a c : Nat) : (rise a c).Pairwise (· ≤ ·) := by
  unfold rise
  refine List.Pairwise.map _ (fun x y h => ?_) (List.pairwise_lt_range (n := c + 1))
  show ((a + x : Nat) : Int) ≤ ((a + y : Nat) : Int)
  have : x < y := h
  omega
theorem felled_perm {xs : List (Int × Int)} {i : Nat} {r : Bool} (hi : i < xs.length) : ((felled xs (allUp xs.length) i r).map fun (k : Nat) => (k : Int)).Perm (rise (run xs i r).1 (reachN xs i r)) := by
  rw [felled_take hi]
  have hle := reach_le (r := r) hi
  cases r with
  | true =>
    rw [besideR_len] at hle
    show (List.map _ _).Perm (rise i (reachN xs i true))
    generalize reachN xs i true = c at hle
    refine .of_eq ?_
    unfold rise beside
    rw [if_pos rfl, List.range_succ_eq_map, List.map_cons, List.map_cons, List.map_map, ← List.map_take, List.map_map, List.take_range]
    have e : min c (xs.length - (i + 1)) = c := by omega
    rw [e]
    refine congr (congrArg _ (by simp)) (List.map_congr_left fun k _ => ?_)
    show ((i + 1 + k : Nat) : Int) = ((i + (k + 1) : Nat) : Int)
    omega
  | false =>
    rw [besideL_len] at hle
    show (List.map _ _).Perm (rise (i - reachN xs i false) (reachN xs i false))
    generalize reachN xs i false = c at hle
    have e : List.map (fun (k : Nat) => (k : Int)) (i :: (beside false i xs.length).take c) = (rise (i - c) c).reverse := by
      unfold rise beside
      rw [if_neg (by decide), ← List.map_take, List.take_range]
      have e : min c i = c := by omega
      rw [e]
      apply List.ext_getElem
      · simp
      · intro j h1 h2
        have hj : j < c + 1 := by simpa using h1
        rw [List.getElem_reverse]
        cases j with
        | zero => simp; omega
        | succ j => simp; omega
    rw [e]
    exact List.reverse_perm _
theorem felled_sorted {xs : List (Int × Int)} {i : Nat} {r : Bool} {ns : List Int} (hi : i < xs.length) (p : ns.Perm ((felled xs (allUp xs.length) i r).map fun (k : Nat) => (k : Int))) (s : ns.Pairwise (· ≤ ·)) :
    ns = rise (run xs i r).1 (reachN xs i r) :=
  (p.trans (felled_perm hi)).eq_of_pairwise (fun x y _ _ h1 h2 => Int.le_antisymm h1 h2) s (rise_le _ _)
theorem run_last {xs : List (Int × Int)} {i : Nat} {r : Bool} (hi : i < xs.length) : (run xs i r).1 + reachN xs i r = (run xs i r).2 := by
  have hle := reach_le (r := r) hi
  unfold run
  cases r with
  | true => rfl
  | false =>
    rw [besideL_len] at hle
    show i - reachN xs i false + reachN xs i false = i
    omega
/-! ### Row's methods -/
def spLen (K : PySem.W.Frag) (C : Addr) : Sp := fun vs H Q _ => ∃ p xs, vs = [.ref p] ∧ RowAt K C H p xs ∧ Q (.int (xs.length : Int)) H
def spAdd (K : PySem.W.Frag) (C : Addr) : Sp := fun vs H Q _ => ∃ p q xs ys, vs = [.ref p, .ref q] ∧ RowAt K C H p xs ∧ RowAt K C H q ys ∧ Wf 0 (xs ++ ys) ∧ (xs ++ ys).length ≤ 40 ∧
  ∀ z H', Same H H' → H z = none → RowAt K C H' z (xs ++ ys) → Q (.ref z) H'
def spCall (K : PySem.W.Frag) (C : Addr) : Sp := fun vs H Q _ => ∃ p xs i r, vs = [.ref p, .int (i : Nat), .str (sideS r)] ∧ RowAt K C H p xs ∧ i < xs.length ∧ xs.length ≤ 40 ∧
  ∀ z H', Same H H' → H z = none → H' z = some (.tup [.int ((run xs i r).1 : Nat), .int ((run xs i r).2 : Nat)]) → Q (.ref z) H'
def spMake (K : PySem.W.Frag) (C : Addr) : Sp := fun vs H Q E => ∃ w0 rest, vs = w0 :: rest ∧ rest.length ≤ 1000 ∧ ∀ p, H p = none → spInitB K C [w0, V.ref p] (upd H p (.tup rest)) Q E
section
variable {P : Program} {w : World} {K : PySem.W.Frag} {mg : Str → Option Value} {base : Heap}
/-- what a new row's reading asks, once and for all -/
theorem make_row {C : Addr} {H : Hp} {us : List V} {xs : List (Int × Int)} {Q : VK} {E : XK} (hS : StonesAt K H us xs) (hw : Wf 0 xs) (hz : xs.length ≤ 40) (k : ∀ z H', Same H H' → H z = none → RowAt K C H' z xs → Q (.ref z) H') :
    ∀ z dz, H z = Option.none → H dz = Option.none → dz ≠ z → spMake K C (V.ref z :: us) (upd (upd H dz (.own z)) z (.ins C dz [])) (fun v H2 => v = .non ∧ Q (.ref z) H2) E := by
  intro z dz nz ndz ne
  have s0 : Same H (upd (upd H dz (.own z)) z (.ins C dz [])) := (same_new ndz).trans (same_new (by rw [upd_ne (Ne.symm ne)]; exact nz))
  refine ⟨_, us, rfl, by rw [hS.1]; omega, fun t nt => ?_⟩
  have s1 : Same H (upd (upd (upd H dz (.own z)) z (.ins C dz [])) t (.tup us)) := s0.trans (same_new nt)
  have ntz : z ≠ t := ne_of_none upd_same nt
  refine ⟨z, dz, t, us, xs, rfl, by rw [upd_ne ntz]; exact upd_same, SqT.of upd_same, hS.same s1, hw, hz, fun H' b e => ⟨rfl, ?_⟩⟩
  have sm : Same H H' := But.same ((Same.but s1 z).trans b) nz
  exact k z H' sm nz ⟨dz, t, us, e, SqT.of (b t _ (Ne.symm ntz) upd_same), hS.same sm⟩
theorem ok_len {f C : Addr} {fd : FuncData} (F : Fun K "__len__" "Row.__len__" s_Row_len f fd) (B : Blt mg) (R : RowC K mg C) : FnOk P w K mg base CX0 1 f fd ["self"] (spLen K C) := by
  refine F.ok sc_Row_len (fun vs H Q E h => ?_) (fun cdv A outer s H vs Q E hr h => ?_)
  · obtain ⟨p, xs, rfl, _⟩ := h
    rfl
  · obtain ⟨p, xs, rfl, ⟨dx, t, us, hp, hT, hS⟩, k⟩ := h
    refine ⟨_, pss_one (ps_ret (pe_callB call_len_seq (by rfl) B.len PySem.boot_len (pa_cons (pe_fld (pv 0) rfl) pa_nil))), ?_⟩
    refine ⟨_, rfl, p, C, dx, _, _, rfl, hp, R.cl, R.nS, rfl, t, us, rfl, .inr hT, ?_⟩
    rw [hS.1]
    exact k
theorem ok_add {f g C : Addr} {fd : FuncData} (F : Fun K "__add__" "Row.__add__" s_Row_add f fd) (B : Blt mg) (R : RowC K mg C) (M : Mk K C g)
    (G : FnR P w K mg base CX0 3 g (spMake K C)) : FnOk P w K mg base CX0 5 f fd ["self", "other"] (spAdd K C) := by
  refine F.ok sc_Row_add (fun vs H Q E h => ?_) (fun cdv A outer s H vs Q E hr h => ?_)
  · obtain ⟨p, q, xs, ys, rfl, _⟩ := h
    rfl
  · obtain ⟨p, q, xs, ys, rfl, hp, hq, hw, hz, k⟩ := h
    obtain ⟨dx, t, us, ep, hT, hS⟩ := id hp
    obtain ⟨dy, t', us', eq', hT', hS'⟩ := id hq
    refine ⟨_, pss_cons (ps_if (pt_not (pt_val (pe_callB (call_isi) (by rfl) B.isinstance boot_isinstance (pa_cons (pv 1) (pa_cons (pe_glob (v := .ref C) (by rfl) R.mgC rfl) pa_nil))))) (pss_one ps_never) pss_nil)
      (pss_cons (ps_set (i := 2) sc_Row_add.nd rfl (Or.inl rfl) (pe_op op_catA (pe_fld (pv 0) rfl) (pe_fld (pv 1) rfl)))
      (pss_one (ps_ret (Own.pe_makeS M G hr (by rfl) R.mgC pass0 (pv 2))))), ?_⟩
    refine ⟨_, rfl, _, .ref C, _, _, true, rfl, .own C, R.ty eq', kit_self, true, rfl, ?_⟩
    refine iteF ?_
    refine ⟨_, rfl, p, C, dx, _, _, rfl, ep, R.cl, R.nS, rfl, _, rfl, q, C, dy, _, _, rfl, eq', R.cl, R.nS, rfl, t, t', us, us', rfl, rfl, hT, hT', ?_, fun e => ?_, fun n e => ?_, fun n n' y ny => ?_⟩
    · rw [hS.1, hS'.1, ← List.length_append, sizeLine_eq]; omega
    · refine ⟨_, rfl, t', us', rfl, .inl hT', make_row (xs := xs ++ ys) ?_ hw hz k⟩
      have := hS.append hS'
      rw [e] at this
      exact this
    · refine ⟨_, rfl, t, us, rfl, .inl hT, make_row (xs := xs ++ ys) ?_ hw hz k⟩
      have := hS.append hS'
      rw [e, List.append_nil] at this
      exact this
    · have s1 := same_new (o := .tup (us ++ us')) ny
      refine ⟨_, rfl, y, _, rfl, .inl (SqT.of upd_same), make_row ((hS.append hS').same s1) hw hz fun z H' sm nz ra => k z H' (s1.trans sm) (Same.free s1 nz) ra⟩
theorem ok_call {f C g1 g2 g3 : Addr} {fd d1 d2 d3 : FuncData} (F : Fun K "__call__" "Row.__call__" s_Row_call f fd) (B : Blt mg) (R : RowC K mg C) (N1 : At P w K mg base CX0 2 "check_stone" ["stone", "count"] spCheckStone g1 d1)
    (N2 : At P w K mg base CX0 1 "check_side" ["side"] spCheckSide g2 d2) (N3 : At P w K mg base CX0 2 "felled_by" ["stones", "standing", "stone", "side"] (spFelled K) g3 d3) :
    FnOk P w K mg base CX0 3 f fd ["self", "stone", "side"] (spCall K C) := by
  refine F.ok sc_Row_call (fun vs H Q E h => ?_) (fun cdv A outer s H vs Q E hr h => ?_)
  · obtain ⟨p, xs, i, r, rfl, _⟩ := h
    rfl
  · obtain ⟨p, xs, i, r, rfl, ⟨dx, t, us, ep, hT, hS⟩, hi, hz, k⟩ := h
    refine ⟨_, pss_cons (ps_expr (pe_at N1 hr (pa_cons (pv 1) (pa_cons (pe_callB call_len_seq (by rfl) B.len PySem.boot_len (pa_cons (pe_fld (pv 0) rfl) pa_nil)) pa_nil))))
      (pss_cons (ps_expr (pe_at N2 (hr.mono (by decide)) (pa_cons (pv 2) pa_nil)))
      (pss_cons (ps_set (i := 3) sc_Row_call.nd rfl (Or.inl rfl) (pe_op op_rep (pe_lst (pa_cons (pe_bl) pa_nil)) (pe_callB call_len_seq (by rfl) B.len PySem.boot_len (pa_cons (pe_fld (pv 0) rfl) pa_nil))))
      (pss_cons (ps_set (i := 4) sc_Row_call.nd rfl (Or.inl rfl) (pe_at N3 hr (pa_cons (pe_fld (pv 0) rfl) (pa_cons (pv 3) (pa_cons (pv 1) (pa_cons (pv 2) pa_nil))))))
      (pss_one (ps_ret (pe_tup (pa_cons (pe_ix ix_list (pv 4) (pe_int) (fun _ _ => rfl)) (pa_cons (pe_ix ix_list (pv 4) (pe_un un_neg pe_int) (fun _ _ => rfl)) pa_nil)))))))), ?_⟩
    refine ⟨_, rfl, _, rfl, p, C, dx, _, _, rfl, ep, R.cl, R.nS, rfl, t, us, rfl, .inr hT, ?_⟩
    refine ⟨i, xs.length, by rw [hS.1]; rfl, hi, ?_⟩
    refine ⟨_, rfl, r, rfl, ?_⟩
    -- standing
    refine ⟨by show 1 ≤ sizeLine; decide, fun a na => ?_⟩
    have s1 := same_new (o := .lst [V.bl true]) na
    refine ⟨_, rfl, p, C, dx, _, _, rfl, s1 _ _ ep, R.cl, R.nS, rfl, t, us, rfl, .inr (sqT_same hT s1), ?_⟩
    refine ⟨a, _, _, rfl, rfl, upd_same, by omega, by rw [hS.1]; omega, by rw [hS.1, sizeLine_eq]; simp; omega, fun b nb => ?_⟩
    have s2 : Same H _ := s1.trans (same_new (o := .lst (List.replicate ((us.length : Int)).toNat [V.bl true]).flatten) nb)
    -- felled
    refine ⟨_, rfl, p, C, dx, _, _, rfl, s2 _ _ ep, R.cl, R.nS, rfl, _, rfl, _, rfl, _, rfl, ?_⟩
    have eb : (List.replicate ((us.length : Int)).toNat [V.bl true]).flatten = (allUp xs.length).map V.bl := by
      rw [hS.1]
      unfold allUp
      simp
    refine ⟨t, b, us, xs, allUp xs.length, i, r, rfl, sqT_same hT s2, hS.same s2, SqL.of (by rw [upd_same, eb]), by unfold allUp; simp, hi, hz, fun ns q H3 pm so sm nq e3 => ?_⟩
    rw [felled_sorted hi pm so] at e3
    have s3 := s2.trans sm
    have g0 : atI ((rise (run xs i r).1 (reachN xs i r)).map V.int) ((0 : Nat) : Int) = some (.int ((run xs i r).1 : Nat)) := by
      refine atI_nat ?_
      unfold rise
      simp
    have g1 : atI ((rise (run xs i r).1 (reachN xs i r)).map V.int) (-1) = some (.int ((run xs i r).2 : Nat)) := by
      unfold rise
      rw [List.range_succ, List.map_append, List.map_append]
      refine Eq.trans (atI_last _ (V.int (((run xs i r).1 + reachN xs i r : Nat) : Int))) ?_
      rw [run_last hi]
    refine ⟨_, rfl, q, _, _, _, rfl, rfl, SqL.of e3, g0, _, rfl, 1, rfl, q, _, (-1), _, rfl, rfl, SqL.of e3, g1, by show 2 ≤ sizeLine; decide, fun z nz => ?_⟩
    exact k z _ (s3.trans (same_new nz)) (Same.free s3 nz) upd_same
end
/-! ### checks that raise -/
/-- an own class of exceptions, below ValueError, without an own __init__ -/
structure RaiseC (K : PySem.W.Frag) (mg : Str → Option Value) (x : Str) (C : Addr) : Prop where
  ex : PySem.W.excIn K C [.type "ValueError", .type "Exception", .type "BaseException", .type "object"] "ValueError.__new__" = true
  m : mg x = some (.ref C)
  kp : PySem.W.keepIn K (.ref C) = true
  sub : PySem.W.subIn K (.ref C) (.type "BaseException") = some true
  ty : PySem.W.typeIn K (.ref C) = some (.type "type")
/-- numbers whose texts are short -/
def shortI (i : Int) : Prop := i.natAbs.log2 < 1920
theorem short_nat {n : Nat} (h : n ≤ 1000) : shortI (n : Int) := by
  unfold shortI
  rw [Int.natAbs_natCast]
  exact Nat.lt_of_le_of_lt (Nat.log2_le_self n) (by omega)
theorem lenJ {a b : Str} {n m : Nat} (ha : a.length ≤ n) (hb : b.length ≤ m) : (a ++ b).length ≤ n + m := by
  rw [Str.length_append]
  omega
theorem lenI {i : Int} (h : shortI i) : (Str.ofString (toString i)).length ≤ 1921 := PyProof.Rows.int_text_len_1921 h
theorem lenS {a : Str} {n : Nat} (h : a.length ≤ n) (hn : n ≤ 10000) : a.length ≤ sizeLine := Nat.le_trans h (Nat.le_trans hn (by decide))
def spCheckNumX (K : PySem.W.Frag) (C : Addr) : Sp := fun vs H Q E => ∃ (v : V) (lo hi : Int), vs = [v, .int lo, .int hi] ∧ Known K H v ∧ shortI lo ∧ shortI hi ∧ (numB v lo hi = true → Q .non H) ∧ (numB v lo hi = false → E (.ref C) none H)
def spCheckStoneX (K : PySem.W.Frag) (C : Addr) : Sp := fun vs H Q E => ∃ (v : V) (n : Nat), vs = [v, .int n] ∧ Known K H v ∧ n ≤ 1000 ∧ (numB v 0 ((n : Int) - 1) = true → Q .non H) ∧ (numB v 0 ((n : Int) - 1) = false → E (.ref C) none H)
section
variable {P : Program} {w : World} {K : PySem.W.Frag} {mg : Str → Option Value} {base : Heap}
theorem ok_checkNumX {f g C : Addr} {fd gd : FuncData} (F : Fun K "check_number" "check_number" s_check_number f fd) (R : RaiseC K mg "InvalidNumber" C) (N : At P w K mg base CX0 1 "is_number" ["value", "least", "greatest"] (spNum K) g gd) :
    FnOk P w K mg base (L2.CX P w) 2 f fd ["value", "least", "greatest"] (spCheckNumX K C) := by
  refine F.okX sc_check_number (fun vs H Q E h => ?_) (fun cdv A outer s H vs Q E hr h => ?_)
  · obtain ⟨v, lo, hi, rfl, _⟩ := h
    rfl
  · obtain ⟨v, lo, hi, rfl, kn, sl, sh, h1, h2⟩ := h
    refine ⟨_, pss_one (ps_if (pt_not (pt_val (pe_at N hr (pa_cons (pv 0) (pa_cons (pv 1) (pa_cons (pv 2) pa_nil)))))) (pss_one (ps_raise rfl (takes_of rfl rfl rfl rfl)
      (SkE.pmk_own1 PySem.F.excBase_ValueError R.ex R.m R.kp (raises_own R.sub R.ty) (by rfl) (pe_joined (.cons pe_str (.cons (pe_fmt (pv 1)) (.cons pe_str (.cons (pe_fmt (pv 2)) .nil)))))))) pss_nil), ?_⟩
    refine ⟨_, rfl, _, rfl, _, rfl, _, _, _, rfl, kn, _, rfl, ?_⟩
    cases e : numB v lo hi with
    | true => exact iteF (h1 e)
    | false =>
      refine iteT ?_
      have l1 : (Str.empty ++ ("no number from " : Str)).length ≤ 15 := by decide
      have l2 := lenJ l1 (lenI sl)
      have l3 := lenJ (b := " to ") (m := 4) l2 (by decide)
      have l4 := lenJ l3 (lenI sh)
      exact ⟨_, rfl, lenS l1 (by decide), _, rfl, .inr ⟨lo, rfl, sl, _, rfl, lenS l2 (by decide), _, rfl, lenS l3 (by decide), _, rfl, .inr ⟨hi, rfl, sh, _, rfl, lenS l4 (by decide), h2 e⟩⟩⟩
theorem ok_checkStoneX {f g C : Addr} {fd gd : FuncData} (F : Fun K "check_stone" "check_stone" s_check_stone f fd) (R : RaiseC K mg "UnknownStone" C) (N : At P w K mg base CX0 1 "is_number" ["value", "least", "greatest"] (spNum K) g gd) :
    FnOk P w K mg base (L2.CX P w) 2 f fd ["stone", "count"] (spCheckStoneX K C) := by
  refine F.okX sc_check_stone (fun vs H Q E h => ?_) (fun cdv A outer s H vs Q E hr h => ?_)
  · obtain ⟨v, n, rfl, _⟩ := h
    rfl
  · obtain ⟨v, n, rfl, kn, hn, h1, h2⟩ := h
    refine ⟨_, pss_one (ps_if (pt_not (pt_val (pe_at N hr (pa_cons (pv 0) (pa_cons (pe_int) (pa_cons (pe_op op_sub (pv 1) (pe_int)) pa_nil)))))) (pss_one (ps_raise rfl (takes_of rfl rfl rfl rfl)
      (SkE.pmk_own1 PySem.F.excBase_ValueError R.ex R.m R.kp (raises_own R.sub R.ty) (by rfl) (pe_joined (.cons pe_str (.cons (pe_fmt (pv 1)) (.cons pe_str .nil))))))) pss_nil), ?_⟩
    refine ⟨_, rfl, _, rfl, _, _, rfl, rfl, _, _, _, rfl, kn, _, rfl, ?_⟩
    cases e : numB v 0 ((n : Int) - 1) with
    | true => exact iteF (h1 e)
    | false =>
      refine iteT ?_
      have sn := short_nat hn
      have l1 : (Str.empty ++ ("no number of one of " : Str)).length ≤ 20 := by decide
      have l2 := lenJ l1 (lenI sn)
      have l3 := lenJ (b := " stones") (m := 7) l2 (by decide)
      exact ⟨_, rfl, lenS l1 (by decide), _, rfl, .inr ⟨n, rfl, sn, _, rfl, lenS l2 (by decide), _, rfl, lenS l3 (by decide), h2 e⟩⟩
end
section
variable {X : Cx} {k : Nat} {x : Str} {ps : List Str} {sp : Sp} {f : Addr} {fd : FuncData} {p pos : Pos} {e : Expr} {es : List Expr} {t : TA} {W : WX}
theorem pe_atE (G : At X.prog X.w X.K X.mg X.base (L2.CX X.prog X.w) k x ps sp f fd) (hr : Room k X.A) (tk : Takes X W) (ha : PA X (e :: es) t) (hg : Gl X x := by rfl) (hdb : (x == ("__debug__" : Str)) = false := by decide)
    (he : starEach (e :: es) X.env = (false, eval e X.env) :: starEach es X.env := by rfl) (hpl : (backTo pos (starEach es X.env)).any (·.1) = false := by rfl) :
    PE X (.Call (.Name x p) (e :: es) [] pos) (tCallS sp (WE W) t) := pe_callS G.ok hr hg G.m G.kp G.b (fun s => passAt tk s) ha hdb he hpl
end
/-! ### check_side, and a call of a row, that raise -/
def sideD (d : PyData) : Bool := PyData.eqv (.str "left") d || PyData.eqv (.str "right") d
theorem side_some {K : PySem.W.Frag} {H : Hp} {v : V} {d : PyData} (h : Dp K H v d) (e : sideD d = true) : ∃ r, v = .str (sideS r) := by
  cases h with
  | str x =>
    unfold sideD at e
    simp only [PyData.eqv, Bool.or_eq_true, beq_iff_eq] at e
    rcases e with rfl | rfl
    · exact ⟨false, rfl⟩
    · exact ⟨true, rfl⟩
  | non => cases e
  | bl b => cases e
  | int i => cases e
  | lst _ _ => cases e
  | tup _ _ => cases e
theorem side_ok (r : Bool) : sideD (.str (sideS r)) = true := by cases r <;> decide +kernel
theorem side_shaped (r : Bool) : SeqAt.shaped (.str (sideS r)) = true := by cases r <;> decide +kernel
def spCheckSideX (K : PySem.W.Frag) (C : Addr) : Sp := fun vs H Q E => ∃ (v : V) (d : PyData), vs = [v] ∧ Dp K H v d ∧ SeqAt.shaped d = true ∧ (sideD d = true → Q .non H) ∧ (sideD d = false → E (.ref C) none H)
/-- what a push's check finds: an unknown stone, no side, or a push -/
def spCallX (K : PySem.W.Frag) (C C2 C3 : Addr) : Sp := fun vs H Q E => ∃ (p : Addr) (xs : List (Int × Int)) (v sv : V) (d : PyData), vs = [.ref p, v, sv] ∧ RowAt K C H p xs ∧ xs.length ≤ 40 ∧ Known K H v ∧ Dp K H sv d ∧ SeqAt.shaped d = true ∧
  (numB v 0 ((xs.length : Int) - 1) = false → E (.ref C2) none H) ∧ (numB v 0 ((xs.length : Int) - 1) = true → sideD d = false → E (.ref C3) none H) ∧
  ∀ (i : Nat) (r : Bool), v = .int (i : Int) → sv = .str (sideS r) → i < xs.length → ∀ z H', Same H H' → H z = none → H' z = some (.tup [.int ((run xs i r).1 : Nat), .int ((run xs i r).2 : Nat)]) → Q (.ref z) H'
section
variable {P : Program} {w : World} {K : PySem.W.Frag} {mg : Str → Option Value} {base : Heap}
theorem ok_checkSideX {f S C : Addr} {fd : FuncData} (F : Fun K "check_side" "check_side" s_check_side f fd) (R : RaiseC K mg "InvalidSide" C) (mS : mg "SIDES" = some (.ref S)) (hS : ∀ H, SqT K H S [.str "left", .str "right"]) :
    FnOk P w K mg base (L2.CX P w) 1 f fd ["side"] (spCheckSideX K C) := by
  refine F.okX sc_check_side (fun vs H Q E h => ?_) (fun cdv A outer s H vs Q E hr h => ?_)
  · obtain ⟨v, d, rfl, _⟩ := h
    rfl
  · obtain ⟨v, d, rfl, hv, sd, h1, h2⟩ := h
    have hu65 : (A.deeper (envOfC "check_side" (defScope s_check_side) s.heap.objs.size f cdv)).units + 65 < cLine := by have := hr.un; omega
    refine ⟨_, pss_one (ps_if (pt_cmpR (DictI.op_notInT hu65) (pv 0) (pe_glob (v := .ref S) (by rfl) mS rfl) (by rfl)) (pss_one (ps_raise rfl (takes_of rfl rfl rfl rfl)
      (pmk_own PySem.F.excBase_ValueError R.ex R.m R.kp (raises_own R.sub R.ty) (by exact rfl)))) pss_nil), ?_⟩
    refine ⟨_, rfl, d, [.str "left", .str "right"], hv, .tup (hS H) (.cons (.str _) (.cons (.str _) .nil)), sd, by decide +kernel, _, rfl, ?_⟩
    have e : ([PyData.str "left", .str "right"].any fun z => PyData.eqv z d) = sideD d := by simp [sideD]
    rw [e]
    cases q : sideD d with
    | true => exact iteF (h1 q)
    | false => exact iteT (h2 q)
end
/-! ### objects that stay while a list changes -/
theorem sqT_but {K : PySem.W.Frag} {H H' : Hp} {a l : Addr} {xs ys : List V} (h : SqT K H a xs) (hl : H l = some (.lst ys)) (b : But l H H') : SqT K H' a xs := by
  rcases h with (h | ⟨o, h⟩) | h
  · exact .inl (.inl (b _ _ (ne_of h hl (by intro z; cases z)) h))
  · exact .inl (.inr ⟨o, b _ _ (ne_of h hl (by intro z; cases z)) h⟩)
  · exact .inr h
theorem StonesAt.but {K : PySem.W.Frag} {H H' : Hp} {l : Addr} {ys vs : List V} {xs : List (Int × Int)} (h : StonesAt K H vs xs) (hl : H l = some (.lst ys)) (b : But l H H') : StonesAt K H' vs xs :=
  ⟨h.1, fun k x q => let ⟨a, q1, q2⟩ := h.2 k x q; ⟨a, q1, sqT_but q2 hl b⟩⟩
theorem RowAt.but {K : PySem.W.Frag} {C : Addr} {H H' : Hp} {p l : Addr} {ys : List V} {xs : List (Int × Int)} (h : RowAt K C H p xs) (hl : H l = some (.lst ys)) (b : But l H H') : RowAt K C H' p xs :=
  let ⟨dx, t, us, h1, h2, h3⟩ := h; ⟨dx, t, us, b _ _ (ne_of h1 hl (by intro z; cases z)) h1, sqT_but h2 hl b, h3.but hl b⟩
/-- the law's own list: the script, a place in it, a seed, a rest -/
theorem But.two {H H1 H2 : Hp} {p L : Addr} (a : But L H H1) (hp : H p = none) (b : But p H1 H2) : But L H H2 := fun c o n e => b c o (ne_of_none e hp) (a c o n e)
/-! ### the law's row, put together one by one -/
theorem toR {P : Program} {w : World} {K : PySem.W.Frag} {mg : Str → Option Value} {base : Heap} {CX : CXT} {k : Nat} {f : Addr} {fd : FuncData} {ps : List Str} {sp : Sp} (F : FnOk P w K mg base CX k f fd ps sp) (b : Binds K fd ps []) : FnR P w K mg base CX k f sp :=
  (F.raw b .nil).imp fun vs H Q E h => by rw [List.append_nil]; exact h
theorem Wf.take : ∀ {xs : List (Int × Int)} {lo : Int} (n : Nat), Wf lo xs → Wf lo (xs.take n)
  | [], _, n, _ => by cases n <;> exact True.intro
  | _ :: _, _, 0, _ => True.intro
  | x :: xs, _, n + 1, w => ⟨w.1, w.2.1, w.2.2.1, w.2.2.2.1, Wf.take n w.2.2.2.2⟩
theorem Wf.low : ∀ {xs : List (Int × Int)} {lo : Int} {k : Nat} {x : Int × Int}, Wf lo xs → xs[k]? = some x → lo ≤ x.1
  | [], _, _, _, _, e => by simp at e
  | z :: xs, lo, 0, x, w, e => by simp at e; subst e; exact w.1
  | z :: xs, lo, k + 1, x, w, e => by
    simp at e
    have h1 := w.1
    have h2 := Wf.low w.2.2.2.2 e
    omega
theorem Wf.sub {xs : List (Int × Int)} {lo : Int} {k : Nat} {x : Int × Int} (h0 : 0 ≤ lo) (w : Wf lo xs) (e : xs[k]? = some x) : Wf 0 [x] := by
  obtain ⟨_, _, h3, h4, h5⟩ := w.get e
  exact ⟨Int.le_trans h0 (w.low e), h3, h4, h5, True.intro⟩
def spRow (K : PySem.W.Frag) (C : Addr) : Sp := fun vs H Q _ => ∃ (q : Addr) (us : List V) (xs : List (Int × Int)), vs = [.ref q] ∧ SqL K H q us ∧ StonesAt K H us xs ∧ Wf 0 xs ∧ xs.length ≤ 40 ∧
  ∀ z H', Same H H' → H z = none → RowAt K C H' z xs → Q (.ref z) H'
theorem seq_of {t u : TS} {D : Ends} {σ : L2.St} {H : Hp} (h : t { D with nx := u D } σ H) : tSeq t u D σ H := h
theorem asg_of {te : TE} {g : TG} {D : Ends} {σ : L2.St} {H : Hp} (h : te σ H fun x H1 => g x σ H1 D.nx) : tAsg te g D σ H := h
theorem mk0 {K : PySem.W.Frag} {C : Addr} {E : XK} {σ : L2.St} {H : Hp} {Q : VK} (h : ∀ z H', Same H H' → H z = none → RowAt K C H' z [] → Q (.ref z) H') : StX.tMakeR C (spMake K C) E tNil σ H Q :=
  fun n1 n2 n3 n4 n5 => make_row (Q := Q) (xs := []) StonesAt.nil True.intro (by decide) h n1 n2 n3 n4 n5
theorem mk1 {K : PySem.W.Frag} {C : Addr} {E : XK} {σ : L2.St} {H : Hp} {Q : VK} {i : Nat} {c : Addr} {x : Int × Int} (e : σ[i]? = some (some (.ref c))) (hx : SqT K H c [.int x.1, .int x.2]) (w : Wf 0 [x]) (h : ∀ z H', Same H H' → H z = none → RowAt K C H' z [x] → Q (.ref z) H') :
    StX.tMakeR C (spMake K C) E (tCons (tVar i) tNil) σ H Q :=
  ⟨_, e, fun n1 n2 n3 n4 n5 => make_row (Q := Q) (xs := [x]) (StonesAt.one hx) w (by simp) h n1 n2 n3 n4 n5⟩
/-- how a sign's def stands in the class -/
structure Sign (K : PySem.W.Frag) (C : Addr) (x : Str) (f : Addr) : Prop where
  at_ : PySem.W.findIn K (.ref C) x = some (some (.ref f))
  fn : PySem.W.isFn K (.ref f) = true
/-! ### the stones of a row, and rows that are equal -/
def stD (x : Int × Int) : PyData := .tuple [.int x.1, .int x.2]
def stonesD (xs : List (Int × Int)) : PyData := .tuple (xs.map stD)
theorem canLay_stones : ∀ xs : List (Int × Int), PyData.canLayAll0 (xs.map stD) = true
  | [] => rfl
  | x :: xs => by
    show PyData.canLayAll0 (stD x :: xs.map stD) = true
    rw [PyData.canLayAll0, canLay_stones xs]
    simp [stD, PyData.canLay0, PyData.canLayAll0]
theorem depth_stones : ∀ xs : List (Int × Int), PyData.depthAll (xs.map stD) ≤ 2
  | [] => by simp [PyData.depthAll]
  | x :: xs => by
    have := depth_stones xs
    rw [List.map_cons]
    simp only [stD, PyData.depthAll, PyData.depth]
    omega
theorem stones_shaped (xs : List (Int × Int)) : SeqAt.shaped (stonesD xs) = true := by
  unfold SeqAt.shaped stonesD
  rw [Bool.and_eq_true]
  refine ⟨by rw [PyData.canLay0, canLay_stones xs], decide_eq_true ?_⟩
  have := depth_stones xs
  rw [PyData.depth]
  omega
theorem eqv_stones (xs : List (Int × Int)) : PyData.eqv (stonesD xs) (stonesD xs) = true := SeqAt.eqv_refl _ (SeqAt.canLay_of_shaped (stones_shaped xs))
theorem stones_all {K : PySem.W.Frag} {H : Hp} : ∀ {us : List V} {xs : List (Int × Int)}, StonesAt K H us xs → DpAll K H us (xs.map stD)
  | [], [], _ => .nil
  | [], _ :: _, h => by have := h.1; simp at this
  | _ :: _, [], h => by have := h.1; simp at this
  | u :: us, x :: xs, h => by
    obtain ⟨a, ha, sa⟩ := h.2 0 x rfl
    have e : u = .ref a := by simpa using ha
    subst e
    refine .cons (.tup sa (.cons (.int _) (.cons (.int _) .nil))) (stones_all ⟨by have := h.1; simpa using this, fun k y q => ?_⟩)
    obtain ⟨b, hb, sb⟩ := h.2 (k + 1) y (by simpa using q)
    exact ⟨b, by simpa using hb, sb⟩
theorem stones_dp {K : PySem.W.Frag} {H : Hp} {t : Addr} {us : List V} {xs : List (Int × Int)} (hT : SqT K H t us) (hS : StonesAt K H us xs) : Dp K H (.ref t) (stonesD xs) := .tup hT (stones_all hS)
def spGet (K : PySem.W.Frag) (C : Addr) : Sp := fun vs H Q _ => ∃ p xs, vs = [.ref p] ∧ RowAt K C H p xs ∧ ∀ t us, SqT K H t us → StonesAt K H us xs → Q (.ref t) H
/-- of two rows of the same stones -/
def spSame (K : PySem.W.Frag) (C : Addr) : Sp := fun vs H Q _ => ∃ p q xs, vs = [.ref p, .ref q] ∧ RowAt K C H p xs ∧ RowAt K C H q xs ∧ Q (.bl true) H
section
variable {P : Program} {w : World} {K : PySem.W.Frag} {mg : Str → Option Value} {base : Heap}
theorem ok_get {f C : Addr} {fd : FuncData} (F : Fun K "stones" "Row.stones" s_Row_stones f fd) (R : RowC K mg C) : FnOk P w K mg base CX0 1 f fd ["self"] (spGet K C) := by
  refine F.ok sc_Row_stones (fun vs H Q E h => ?_) (fun cdv A outer s H vs Q E hr h => ?_)
  · obtain ⟨p, xs, rfl, _⟩ := h
    rfl
  · obtain ⟨p, xs, rfl, ⟨dx, t, us, hp, hT, hS⟩, k⟩ := h
    refine ⟨_, pss_one (ps_ret (pe_fld (pv 0) rfl)), ?_⟩
    exact ⟨_, rfl, p, C, dx, _, _, rfl, hp, R.cl, R.nS, rfl, k t us hT hS⟩
theorem ok_same {f C : Addr} {fd : FuncData} (F : Fun K "__eq__" "Row.__eq__" s_Row_eq f fd) (B : Blt mg) (R : RowC K mg C) : FnOk P w K mg base CX0 1 f fd ["self", "other"] (spSame K C) := by
  refine F.ok sc_Row_eq (fun vs H Q E h => ?_) (fun cdv A outer s H vs Q E hr h => ?_)
  · obtain ⟨p, q, xs, rfl, _⟩ := h
    rfl
  · obtain ⟨p, q, xs, rfl, ⟨dx, t, us, hp, hT, hS⟩, ⟨dy, t', us', hq, hT', hS'⟩, k⟩ := h
    refine ⟨_, pss_one (ps_ret (pe_and (pe_callB (call_isi) (by rfl) B.isinstance boot_isinstance (pa_cons (pv 1) (pa_cons (pe_glob (v := .ref C) (by rfl) R.mgC rfl) pa_nil))) (pe_one (pe_cmpR (op_eqD hr.units) (pe_fld (pv 0) rfl) (pe_fld (pv 1) rfl) (nomark _))))), ?_⟩
    refine ⟨_, rfl, _, .ref C, _, _, true, rfl, .own C, R.ty hq, kit_self, true, rfl, ?_⟩
    refine iteT ⟨_, rfl, p, C, dx, _, _, rfl, hp, R.cl, R.nS, rfl, _, rfl, q, C, dy, _, _, rfl, hq, R.cl, R.nS, rfl, stonesD xs, stonesD xs, stones_dp hT hS, stones_dp hT' hS', stones_shaped xs, stones_shaped xs, ?_⟩
    rw [eqv_stones]
    exact k
end
/-! ### comprehensions that filter and map -/
theorem paired_snoc {α β : Type} {F : α → β → Prop} : ∀ {xs : List α} {ys : List β} {x : α} {y : β}, Paired F xs ys → F x y → Paired F (xs ++ [x]) (ys ++ [y])
  | _, _, _, _, .nil, h => .cons h .nil
  | _, _, _, _, .cons a t, h => .cons a (paired_snoc t h)
theorem paired_imp {α β : Type} {F G : α → β → Prop} (i : ∀ x y, F x y → G x y) : ∀ {xs : List α} {ys : List β}, Paired F xs ys → Paired G xs ys
  | _, _, .nil => .nil
  | _, _, .cons a t => .cons (i _ _ a) (paired_imp i t)
theorem paired_at {α β : Type} {F : α → β → Prop} : ∀ {xs : List α} {ys : List β} {i : Nat} {y : β}, Paired F xs ys → ys[i]? = some y → ∃ x, xs[i]? = some x ∧ F x y
  | _, _, _, _, .nil, h => by simp at h
  | _, _, 0, _, .cons a _, h => by simp at h; subst h; exact ⟨_, rfl, a⟩
  | _, _, i + 1, _, .cons _ t, h => by
    obtain ⟨x, h1, h2⟩ := paired_at (i := i) t (by simpa using h)
    exact ⟨x, by simpa using h1, h2⟩
theorem paired_len {α β : Type} {F : α → β → Prop} : ∀ {xs : List α} {ys : List β}, Paired F xs ys → xs.length = ys.length
  | _, _, .nil => rfl
  | _, _, .cons _ t => congrArg (· + 1) (paired_len t)
theorem paired_eq {α β : Type} (f : β → α) : ∀ {xs : List α} {ys : List β}, Paired (fun x y => x = f y) xs ys → xs = ys.map f
  | _, _, .nil => rfl
  | _, _, .cons a t => by rw [List.map_cons, ← paired_eq f t, a]
theorem lc_fm {J : It} {n : Nat} {Gd : Hp → Prop} {Y : Nat → Hp → V → Hp → Prop} (w : Walk J n Gd Y) {g : TG} {tt : TT} {te : TE} {vs : List Nat} {σ : L2.St} {H1 : Hp} {D : Addr} {Qd : Hp → Prop} {α β : Type} (as : List α) (p : α → Bool) (f : α → β) (Rel : Hp → V → β → Prop)
    (hn : as.length = n) (hz : n < 1000000) (nD : H1 D = none) (stab : ∀ H H' v b acc, H D = some (.lst acc) → But D H H' → Rel H v b → Rel H' v b) (hG : ∀ G, Same H1 G → Gd G)
    (step : ∀ (i : Nat) (a : α) (x : V) (G G' : Hp) (N : Hp → Prop) (M : V → Hp → Prop), as[i]? = some a → Same H1 G → G D ≠ none → Y i G x G' → (∀ H3, p a = false → Same G H3 → N H3) → (∀ y H4, p a = true → Same G H4 → Rel H4 y (f a) → M y H4) →
      g x (wipe σ vs) G' fun σ2 H2 => wipe σ2 vs = wipe σ vs ∧ tt σ2 H2 fun b H3 => if b = true then te σ2 H3 M else N H3)
    (hd : ∀ G ys, Same H1 G → G D = some (.lst ys) → Paired (Rel G) ys ((as.filter p).map f) → Qd G) :
    ∃ W : Nat → Nat → Hp → Prop, (∃ m, W 0 m (upd H1 D (.lst []))) ∧ ∀ i m H, W i m H →
      (J.stop i H ∧ Qd H) ∨ (J.go i H ∧ ∃ Nx : Hp → Prop, (∀ H', Nx H' → ∃ m', m' < m ∧ W (i + 1) m' H') ∧ ∀ x H', J.yld i H x H' → g x (wipe σ vs) H' fun σ2 H2 => wipe σ2 vs = wipe σ vs ∧ tt σ2 H2 fun b H3 =>
        if b = true then te σ2 H3 fun y H4 => ∃ acc, H4 D = some (.lst acc) ∧ acc.length < sizeLine ∧ Nx (upd H4 D (.lst (acc ++ [y]))) else Nx H3) := by
  refine lc_it w (fun i G => But D H1 G ∧ ∃ ys, G D = some (.lst ys) ∧ ys.length ≤ i ∧ Paired (Rel G) ys (((as.take i).filter p).map f)) ⟨but_upd, [], upd_same, Nat.le_refl _, .nil⟩ (fun i G _ h => hG G (But.same h.1 nD)) (fun i x G G' hi h y => ?_) fun G h => ?_
  · obtain ⟨b, ys, e, hl, rel⟩ := h
    obtain ⟨a, ha⟩ : ∃ a, as[i]? = some a := ⟨as[i]'(by omega), by simp⟩
    refine step i a x G G' _ _ ha (But.same b nD) (by rw [e]; exact fun z => nomatch z) y (fun H3 hp s => ?_) fun y H4 hp s r => ?_
    · have e3 := s _ _ e
      refine ⟨b.trans (Same.but s D), ys, e3, by omega, ?_⟩
      rw [List.take_add_one, ha, List.filter_append, List.map_append, show (some a).toList = [a] from rfl, List.filter_cons, hp]
      simp only [Bool.false_eq_true, if_false, List.filter_nil, List.map_nil, List.append_nil]
      exact paired_imp (fun v c => stab G H3 v c ys e (Same.but s D)) rel
    · have e4 := s _ _ e
      refine ⟨ys, e4, by rw [sizeLine_eq]; omega, (b.trans (Same.but s D)).trans but_upd, ys ++ [y], upd_same, by rw [List.length_append]; show ys.length + 1 ≤ i + 1; omega, ?_⟩
      rw [List.take_add_one, ha, List.filter_append, List.map_append, show (some a).toList = [a] from rfl, List.filter_cons, hp]
      simp only [if_true, List.filter_nil, List.map_cons, List.map_nil]
      exact paired_snoc (paired_imp (fun v c q => stab H4 _ v c ys e4 but_upd (stab G H4 v c ys e (Same.but s D) q)) rel) (stab H4 _ y (f a) ys e4 but_upd r)
  · obtain ⟨b, ys, e, _, rel⟩ := h
    rw [← hn, List.take_length] at rel
    exact hd G ys (But.same b nD) e rel
/-! pairs of numbers, as tuples in a list -/
def PairV (K : PySem.W.Frag) (H : Hp) (v : V) (p : Nat × Nat) : Prop := ∃ a : Addr, v = .ref a ∧ SqT K H a [.int (p.1 : Nat), .int (p.2 : Nat)]
def PairsAt (K : PySem.W.Frag) (H : Hp) (vs : List V) (ps : List (Nat × Nat)) : Prop := Paired (PairV K H) vs ps
theorem PairV.same {K : PySem.W.Frag} {H H' : Hp} {v : V} {p : Nat × Nat} (e : Same H H') (h : PairV K H v p) : PairV K H' v p := let ⟨a, h1, h2⟩ := h; ⟨a, h1, sqT_same h2 e⟩
theorem PairV.but {K : PySem.W.Frag} {H H' : Hp} {v : V} {p : Nat × Nat} {D : Addr} {acc : List V} (hD : H D = some (.lst acc)) (b : But D H H') (h : PairV K H v p) : PairV K H' v p := let ⟨a, h1, h2⟩ := h; ⟨a, h1, sqT_but h2 hD b⟩
theorem PairsAt.same {K : PySem.W.Frag} {H H' : Hp} {vs : List V} {ps : List (Nat × Nat)} (h : PairsAt K H vs ps) (e : Same H H') : PairsAt K H' vs ps := paired_imp (fun _ _ q => q.same e) h
def prD (p : Nat × Nat) : PyData := .tuple [.int (p.1 : Nat), .int (p.2 : Nat)]
theorem prD_dp {K : PySem.W.Frag} {H : Hp} {v : V} {p : Nat × Nat} (h : PairV K H v p) : Dp K H v (prD p) := by
  obtain ⟨a, rfl, h⟩ := h
  exact .tup h (.cons (.int _) (.cons (.int _) .nil))
theorem prD_shaped (p : Nat × Nat) : SeqAt.shaped (prD p) = true := by simp [prD, SeqAt.shaped, PyData.canLay0, PyData.canLayAll0, PyData.depth, PyData.depthAll]
theorem prD_eqv (p o : Nat × Nat) : PyData.eqv (prD p) (prD o) = decide (p = o) := by
  obtain ⟨a, b⟩ := p
  obtain ⟨c, d⟩ := o
  show ((a : Int) == (c : Int) && ((b : Int) == (d : Int) && true)) = decide ((a, b) = (c, d))
  rw [Bool.and_true]
  by_cases h1 : a = c
  · by_cases h2 : b = d
    · subst h1 h2
      simp
    · have : ¬ (b : Int) = (d : Int) := by omega
      simp [h1, h2, this]
  · have : ¬ (a : Int) = (c : Int) := by omega
    simp [h1, this]
theorem pairs_all {K : PySem.W.Frag} {H : Hp} : ∀ {vs : List V} {ps : List (Nat × Nat)}, PairsAt K H vs ps → DpAll K H vs (ps.map prD)
  | _, _, .nil => .nil
  | _, _, .cons h t => .cons (prD_dp h) (pairs_all t)
theorem nm_of {i : Nat} {v : V} {σ : L2.St} {H : Hp} {Q : L2.St → Hp → Prop} (h : Q (σ.set i (some v)) H) : gName i v σ H Q := h
theorem Wf.mono : ∀ {xs : List (Int × Int)} {lo lo' : Int}, lo ≤ lo' → Wf lo' xs → Wf lo xs
  | [], _, _, _, _ => True.intro
  | _ :: _, _, _, h, w => ⟨Int.le_trans h w.1, w.2⟩
theorem Wf.sublist {l xs : List (Int × Int)} (s : l.Sublist xs) : ∀ {lo : Int}, Wf lo xs → Wf lo l := by
  induction s with
  | slnil => exact fun _ => True.intro
  | cons a _ ih => exact fun w => ih (Wf.mono (by have := w.1; omega) w.2.2.2.2)
  | cons_cons a _ ih => exact fun w => ⟨w.1, w.2.1, w.2.2.1, w.2.2.2.1, ih w.2.2.2.2⟩
/-! ### hit by hit: mathematics -/
def far (x y : Int × Int) (r : Bool) : Int := if r then y.1 - x.1 else x.1 - y.1
def hitB (xs : List (Int × Int)) (r : Bool) (m o : Nat) : Bool := match xs[m]?, xs[o]? with
  | some x, some y => decide (0 < far x y r) && decide (far x y r ≤ x.2)
  | _, _ => false
abbrev Wave := List (Nat × Nat) × List Nat
def stepIn (xs : List (Int × Int)) (r : Bool) (t m : Nat) (st : Wave) (o : Nat) : Wave := if hitB xs r m o = true ∧ o ∉ st.1.map (·.1) then (st.1 ++ [(o, t)], st.2 ++ [o]) else st
def stepLv (xs : List (Int × Int)) (S : List Nat) (r : Bool) (t : Nat) (st : Wave) (m : Nat) : Wave := S.foldl (stepIn xs r t m) st
def level (xs : List (Int × Int)) (S : List Nat) (r : Bool) (t : Nat) (st : Wave) : Wave := st.2.foldl (stepLv xs S r t) (st.1, [])
def iter (xs : List (Int × Int)) (S : List Nat) (r : Bool) (i : Nat) : Nat → Wave
  | 0 => ([(i, 0)], [i])
  | t + 1 => level xs S r (t + 1) (iter xs S r i t)
structure Prog (xs : List (Int × Int)) (r : Bool) (fs : List (Nat × Nat)) (t : Nat) (D : Nat → Nat → Prop) (st : Wave) : Prop where
  eq : st.1 = fs ++ st.2.map fun o => (o, t)
  nd : (st.1.map (·.1)).Nodup
  wh : ∀ o ∈ st.2, ∃ m, D m o ∧ hitB xs r m o = true
  al : ∀ m o, D m o → hitB xs r m o = true → o ∈ st.1.map (·.1)
theorem Prog.step {xs : List (Int × Int)} {r : Bool} {fs : List (Nat × Nat)} {t m o : Nat} {D : Nat → Nat → Prop} {st : Wave} (h : Prog xs r fs t D st) : Prog xs r fs t (fun m' o' => D m' o' ∨ (m' = m ∧ o' = o)) (stepIn xs r t m st o) := by
  unfold stepIn
  split
  · rename_i hc
    refine ⟨?_, ?_, ?_, ?_⟩
    · show st.1 ++ [(o, t)] = fs ++ (st.2 ++ [o]).map fun o => (o, t)
      rw [h.eq]; simp
    · show ((st.1 ++ [(o, t)]).map (·.1)).Nodup
      rw [List.map_append, List.nodup_append]
      refine ⟨h.nd, by simp, ?_⟩
      intro a ha b hb e
      simp at hb
      subst hb e
      exact hc.2 ha
    · intro o' ho'
      rcases List.mem_append.mp ho' with z | z
      · obtain ⟨m', h1, h2⟩ := h.wh o' z
        exact ⟨m', .inl h1, h2⟩
      · simp at z
        subst z
        exact ⟨m, .inr ⟨rfl, rfl⟩, hc.1⟩
    · intro m' o' hd hh
      show o' ∈ (st.1 ++ [(o, t)]).map (·.1)
      rw [List.map_append]
      rcases hd with hd | ⟨rfl, rfl⟩
      · exact List.mem_append_left _ (h.al m' o' hd hh)
      · exact List.mem_append_right _ (by simp)
  · rename_i hc
    refine ⟨h.eq, h.nd, fun o' ho' => ?_, fun m' o' hd hh => ?_⟩
    · obtain ⟨m', h1, h2⟩ := h.wh o' ho'
      exact ⟨m', .inl h1, h2⟩
    · rcases hd with hd | ⟨rfl, rfl⟩
      · exact h.al m' o' hd hh
      · exact Classical.byContradiction fun z => hc ⟨hh, z⟩
theorem Prog.imp {xs : List (Int × Int)} {r : Bool} {fs : List (Nat × Nat)} {t : Nat} {D D' : Nat → Nat → Prop} {st : Wave} (h : Prog xs r fs t D st) (e : ∀ m o, D m o ↔ D' m o) : Prog xs r fs t D' st :=
  ⟨h.eq, h.nd, fun o ho => let ⟨m, h1, h2⟩ := h.wh o ho; ⟨m, (e m o).mp h1, h2⟩, fun m o hd => h.al m o ((e m o).mpr hd)⟩
theorem Prog.row {xs : List (Int × Int)} {r : Bool} {fs : List (Nat × Nat)} {t m : Nat} : ∀ (S : List Nat) {D : Nat → Nat → Prop} {st : Wave}, Prog xs r fs t D st → Prog xs r fs t (fun m' o' => D m' o' ∨ (m' = m ∧ o' ∈ S)) (S.foldl (stepIn xs r t m) st)
  | [], D, st, h => h.imp fun m' o' => by simp
  | o :: S, D, st, h => (Prog.row S (h.step (m := m) (o := o))).imp fun m' o' => by
      simp only [List.mem_cons]
      constructor
      · rintro ((h | ⟨a, b⟩) | ⟨a, b⟩)
        · exact .inl h
        · exact .inr ⟨a, .inl b⟩
        · exact .inr ⟨a, .inr b⟩
      · rintro (h | ⟨a, b | b⟩)
        · exact .inl (.inl h)
        · exact .inl (.inr ⟨a, b⟩)
        · exact .inr ⟨a, b⟩
theorem Prog.all {xs : List (Int × Int)} {S : List Nat} {r : Bool} {fs : List (Nat × Nat)} {t : Nat} : ∀ (lv : List Nat) {D : Nat → Nat → Prop} {st : Wave}, Prog xs r fs t D st → Prog xs r fs t (fun m' o' => D m' o' ∨ (m' ∈ lv ∧ o' ∈ S)) (lv.foldl (stepLv xs S r t) st)
  | [], D, st, h => h.imp fun m' o' => by simp
  | m :: lv, D, st, h => (Prog.all lv (h.row (m := m) S)).imp fun m' o' => by
      simp only [List.mem_cons]
      constructor
      · rintro ((h | ⟨a, b⟩) | ⟨a, b⟩)
        · exact .inl h
        · exact .inr ⟨.inl a, b⟩
        · exact .inr ⟨.inr a, b⟩
      · rintro (h | ⟨a | a, b⟩)
        · exact .inl (.inl h)
        · exact .inl (.inr ⟨a, b⟩)
        · exact .inr ⟨a, b⟩
theorem level_spec {xs : List (Int × Int)} {S : List Nat} {r : Bool} {fs : List (Nat × Nat)} {lv : List Nat} {t : Nat} (nd : (fs.map (·.1)).Nodup) :
    (level xs S r t (fs, lv)).1 = fs ++ (level xs S r t (fs, lv)).2.map (fun o => (o, t)) ∧ ((level xs S r t (fs, lv)).1.map (·.1)).Nodup ∧
    ∀ o, o ∈ (level xs S r t (fs, lv)).2 ↔ (o ∉ fs.map (·.1) ∧ o ∈ S ∧ ∃ m ∈ lv, hitB xs r m o = true) := by
  have p0 : Prog xs r fs t (fun _ _ => False) (fs, []) := ⟨by simp, nd, fun o h => (nomatch h), fun m o h => h.elim⟩
  have p := (Prog.all (S := S) lv p0)
  have e : lv.foldl (stepLv xs S r t) (fs, []) = level xs S r t (fs, lv) := rfl
  rw [e] at p
  refine ⟨p.eq, p.nd, fun o => ⟨fun h => ?_, fun ⟨h1, h2, m, h3, h4⟩ => ?_⟩⟩
  · obtain ⟨m, hd, hh⟩ := p.wh o h
    rcases hd with hd | ⟨hm, hS⟩
    · exact hd.elim
    · refine ⟨fun hf => ?_, hS, m, hm, hh⟩
      have nd2 := p.nd
      rw [p.eq, List.map_append, List.nodup_append] at nd2
      refine nd2.2.2 o hf o ?_ rfl
      rw [List.map_map]
      exact List.mem_map.mpr ⟨o, h, rfl⟩
  · have := p.al m o (.inr ⟨h3, h2⟩) h4
    rw [p.eq, List.map_append, List.mem_append] at this
    rcases this with z | z
    · exact absurd z h1
    · rw [List.map_map] at z
      obtain ⟨o', z1, z2⟩ := List.mem_map.mp z
      have : o' = o := z2
      rw [← this]
      exact z1
/-- reached within so many ticks -/
def RB (xs : List (Int × Int)) (S : List Nat) (r : Bool) (i : Nat) : Nat → Nat → Prop
  | 0, j => j = i
  | t + 1, j => RB xs S r i t j ∨ ∃ m, RB xs S r i t m ∧ j ∈ S ∧ hitB xs r m j = true
/-- reached first in this tick -/
def Fst (xs : List (Int × Int)) (S : List Nat) (r : Bool) (i u j : Nat) : Prop := RB xs S r i u j ∧ ∀ v, v < u → ¬ RB xs S r i v j
section
variable {xs : List (Int × Int)} {S : List Nat} {r : Bool} {i : Nat}
theorem RB.up {t u j : Nat} (h : RB xs S r i t j) (e : t ≤ u) : RB xs S r i u j := by
  induction u with
  | zero =>
    obtain rfl : t = 0 := by omega
    exact h
  | succ u ih =>
    by_cases q : t = u + 1
    · rw [← q]; exact h
    · exact .inl (ih (by omega))
theorem RB.first {t j : Nat} (h : RB xs S r i t j) : ∃ u, u ≤ t ∧ Fst xs S r i u j := by
  induction t using Nat.strongRecOn with
  | ind t ih =>
    by_cases q : ∃ v, v < t ∧ RB xs S r i v j
    · obtain ⟨v, h1, h2⟩ := q
      obtain ⟨u, h3, h4⟩ := ih v h1 h2
      exact ⟨u, by omega, h4⟩
    · exact ⟨t, Nat.le_refl _, h, fun v hv z => q ⟨v, hv, z⟩⟩
theorem Fst.eq {u v j : Nat} (a : Fst xs S r i u j) (b : Fst xs S r i v j) : u = v := by
  rcases Nat.lt_trichotomy u v with h | h | h
  · exact absurd a.1 (b.2 u h)
  · exact h
  · exact absurd b.1 (a.2 v h)
theorem iter_spec (t : Nat) : ((iter xs S r i t).1.map (·.1)).Nodup ∧ (∀ j u, (j, u) ∈ (iter xs S r i t).1 ↔ u ≤ t ∧ Fst xs S r i u j) ∧ ∀ j, j ∈ (iter xs S r i t).2 ↔ Fst xs S r i t j := by
  induction t with
  | zero =>
    refine ⟨by simp [iter], fun j u => ?_, fun j => ?_⟩
    · show (j, u) ∈ [(i, 0)] ↔ _
      rw [List.mem_singleton, Prod.mk.injEq]
      constructor
      · rintro ⟨rfl, rfl⟩
        exact ⟨Nat.le_refl _, rfl, fun v h => absurd h (Nat.not_lt_zero _)⟩
      · rintro ⟨h, h1, _⟩
        obtain rfl : u = 0 := by omega
        exact ⟨h1, rfl⟩
    · show j ∈ [i] ↔ _
      rw [List.mem_singleton]
      exact ⟨fun h => ⟨h, fun v h => absurd h (Nat.not_lt_zero _)⟩, fun h => h.1⟩
  | succ t ih =>
    obtain ⟨nd, hf, hl⟩ := ih
    have e : iter xs S r i (t + 1) = level xs S r (t + 1) ((iter xs S r i t).1, (iter xs S r i t).2) := rfl
    obtain ⟨q1, q2, q3⟩ := level_spec (xs := xs) (S := S) (r := r) (t := t + 1) (lv := (iter xs S r i t).2) nd
    rw [← e] at q1 q2 q3
    have key : ∀ j, j ∈ (iter xs S r i t).1.map (·.1) ↔ RB xs S r i t j := by
      intro j
      constructor
      · intro h
        obtain ⟨⟨j', u⟩, h1, rfl⟩ := List.mem_map.mp h
        obtain ⟨h2, h3⟩ := (hf j' u).mp h1
        exact h3.1.up h2
      · intro h
        obtain ⟨u, h1, h2⟩ := h.first
        exact List.mem_map.mpr ⟨(j, u), (hf j u).mpr ⟨h1, h2⟩, rfl⟩
    have lv : ∀ j, j ∈ (iter xs S r i (t + 1)).2 ↔ Fst xs S r i (t + 1) j := by
      intro j
      rw [q3 j, key j]
      constructor
      · rintro ⟨h1, h2, m, h3, h4⟩
        exact ⟨.inr ⟨m, ((hl m).mp h3).1, h2, h4⟩, fun v hv z => h1 (z.up (by omega))⟩
      · rintro ⟨h1, h2⟩
        have n := h2 t (Nat.lt_succ_self _)
        rcases h1 with h1 | ⟨m, h3, h4, h5⟩
        · exact absurd h1 n
        · refine ⟨n, h4, m, (hl m).mpr ?_, h5⟩
          obtain ⟨u, h6, h7⟩ := h3.first
          by_cases q : u = t
          · rw [← q]; exact h7
          · exact absurd (RB.up (t := u + 1) (.inr ⟨m, h7.1, h4, h5⟩) (by omega)) n
    refine ⟨q2, fun j u => ?_, lv⟩
    rw [q1, List.mem_append, hf j u]
    constructor
    · rintro (⟨h1, h2⟩ | h)
      · exact ⟨by omega, h2⟩
      · obtain ⟨o, h1, h2⟩ := List.mem_map.mp h
        cases h2
        exact ⟨Nat.le_refl _, (lv _).mp h1⟩
    · rintro ⟨h1, h2⟩
      by_cases q : u = t + 1
      · subst q
        exact .inr (List.mem_map.mpr ⟨j, (lv j).mpr h2, rfl⟩)
      · exact .inl ⟨by omega, h2⟩
theorem iter_sub (t : Nat) : ∀ j ∈ (iter xs S r i t).1.map (·.1), j = i ∨ j ∈ S := by
  intro j hj
  obtain ⟨⟨j', u⟩, h1, rfl⟩ := List.mem_map.mp hj
  obtain ⟨_, h3⟩ := ((iter_spec t).2.1 j' u).mp h1
  have : ∀ n k, RB xs S r i n k → k = i ∨ k ∈ S := by
    intro n
    induction n with
    | zero => intro k h; exact .inl h
    | succ n ih =>
      intro k h
      rcases h with h | ⟨m, _, h, _⟩
      · exact ih k h
      · exact .inr h
  exact this _ _ h3.1
theorem nodup_len {l m : List Nat} (h : l.Nodup) (s : ∀ x ∈ l, x ∈ m) : l.length ≤ m.length := by
  induction l generalizing m with
  | nil => simp
  | cons a l ih =>
    have hm := s a (by simp)
    have hn := List.nodup_cons.mp h
    have := ih (m := m.erase a) hn.2 fun x hx => by
      have : x ≠ a := fun e => hn.1 (e ▸ hx)
      exact (List.mem_erase_of_ne this).mpr (s x (by simp [hx]))
    rw [List.length_erase_of_mem hm] at this
    have : 0 < m.length := List.length_pos_of_mem hm
    simp
    omega
theorem iter_len (t : Nat) : (iter xs S r i t).1.length ≤ S.length + 1 := by
  have := nodup_len (l := (iter xs S r i t).1.map (·.1)) (m := i :: S) (iter_spec t).1 fun x hx => by
    rcases iter_sub t x hx with h | h
    · simp [h]
    · simp [h]
  simpa using this
/-- what falls as the turns go on: each round is longer, or is the last one -/
def meas (cap : Nat) (st : Wave) : Nat := 2 * (cap - st.1.length) + (if st.2 = [] then 0 else 1)
theorem iter_meas (t : Nat) (h : (iter xs S r i t).2 ≠ []) : meas (S.length + 1) (iter xs S r i (t + 1)) < meas (S.length + 1) (iter xs S r i t) := by
  have e : iter xs S r i (t + 1) = level xs S r (t + 1) ((iter xs S r i t).1, (iter xs S r i t).2) := rfl
  obtain ⟨q1, _, _⟩ := level_spec (xs := xs) (S := S) (r := r) (t := t + 1) (lv := (iter xs S r i t).2) (iter_spec t).1
  rw [← e] at q1
  have l1 := congrArg List.length q1
  rw [List.length_append, List.length_map] at l1
  have l2 := iter_len (xs := xs) (S := S) (r := r) (i := i) (t + 1)
  unfold meas
  rw [if_neg h]
  split
  · rename_i z
    rw [z] at l1
    simp at l1
    omega
  · rename_i z
    have : 0 < (iter xs S r i (t + 1)).2.length := List.length_pos_iff.mpr z
    omega
theorem iter_done {t : Nat} (h : (iter xs S r i t).2 = []) : ∀ n j, RB xs S r i n j → RB xs S r i t j := by
  intro n
  induction n with
  | zero => intro j hj; exact RB.up (t := 0) hj (Nat.zero_le _)
  | succ n ih =>
    intro j hj
    rcases hj with hj | ⟨m, h1, h2, h3⟩
    · exact ih j hj
    · obtain ⟨u, h4, h5⟩ := (ih m h1).first
      by_cases q : u = t
      · subst q
        have := ((iter_spec (xs := xs) (S := S) (r := r) (i := i) u).2.2 m).mpr h5
        rw [h] at this
        cases this
      · exact RB.up (t := u + 1) (.inr ⟨m, h5.1, h2, h3⟩) (by omega)
theorem iter_end {t : Nat} (h : (iter xs S r i t).2 = []) (j u : Nat) : (j, u) ∈ (iter xs S r i t).1 ↔ Fst xs S r i u j := by
  rw [(iter_spec t).2.1 j u]
  constructor
  · exact fun z => z.2
  · intro z
    refine ⟨?_, z⟩
    rcases Nat.lt_or_ge t u with q | q
    · exact absurd (iter_done h u j z.1) (z.2 t q)
    · exact q
end
/-! ### runs: mathematics -/
/-- places rise -/
def Inc (xs : List (Int × Int)) : Prop := ∀ (a b : Nat) (x y : Int × Int), a < b → xs[a]? = some x → xs[b]? = some y → x.1 < y.1
theorem Wf.inc : ∀ {xs : List (Int × Int)} {lo : Int}, Wf lo xs → Inc xs
  | [], _, _ => fun a b x y _ h => by simp at h
  | z :: xs, lo, w => fun a b x y hab hx hy => by
    cases b with
    | zero => omega
    | succ b =>
      simp at hy
      cases a with
      | zero =>
        simp at hx
        subst hx
        have := Wf.low w.2.2.2.2 hy
        omega
      | succ a =>
        simp at hx
        exact Wf.inc w.2.2.2.2 a b x y (by omega) hx hy
/-- place and height -/
def pl (xs : List (Int × Int)) (k : Nat) : Int := (xs.getD k (0, 0)).1
def ht (xs : List (Int × Int)) (k : Nat) : Int := (xs.getD k (0, 0)).2
theorem pl_of {xs : List (Int × Int)} {k : Nat} {x : Int × Int} (h : xs[k]? = some x) : pl xs k = x.1 ∧ ht xs k = x.2 := by
  unfold pl ht
  rw [List.getD_eq_getElem?_getD, h]
  exact ⟨rfl, rfl⟩
theorem Inc.pl {xs : List (Int × Int)} (h : Inc xs) {a b : Nat} (hab : a < b) (hb : b < xs.length) : pl xs a < pl xs b := by
  have ha : a < xs.length := by omega
  have e1 : xs[a]? = some xs[a] := by simp [ha]
  have e2 : xs[b]? = some xs[b] := by simp [hb]
  rw [(pl_of e1).1, (pl_of e2).1]
  exact h a b _ _ hab e1 e2
/-- m hits o on the side r -/
def Hit (xs : List (Int × Int)) (r : Bool) (m o : Nat) : Prop := m < xs.length ∧ o < xs.length ∧ (r = true → m < o ∧ pl xs o ≤ pl xs m + ht xs m) ∧ (r = false → o < m ∧ pl xs m ≤ pl xs o + ht xs m)
theorem hit_iff {xs : List (Int × Int)} (h : Inc xs) {r : Bool} {m o : Nat} : hitB xs r m o = true ↔ Hit xs r m o := by
  unfold hitB Hit
  by_cases hm : m < xs.length
  · by_cases ho : o < xs.length
    · have e1 : xs[m]? = some xs[m] := by simp [hm]
      have e2 : xs[o]? = some xs[o] := by simp [ho]
      rw [e1, e2]
      obtain ⟨p1, t1⟩ := pl_of e1
      obtain ⟨p2, _⟩ := pl_of e2
      rw [p1, p2, t1]
      simp only [hm, ho, true_and, Bool.and_eq_true, decide_eq_true_eq]
      have cmp : m < o ↔ (xs[m]).1 < (xs[o]).1 := by
        constructor
        · exact fun q => h m o _ _ q e1 e2
        · intro q
          rcases Nat.lt_trichotomy m o with z | z | z
          · exact z
          · subst z; omega
          · have := h o m _ _ z e2 e1; omega
      have cmp2 : o < m ↔ (xs[o]).1 < (xs[m]).1 := by
        constructor
        · exact fun q => h o m _ _ q e2 e1
        · intro q
          rcases Nat.lt_trichotomy m o with z | z | z
          · have := h m o _ _ z e1 e2; omega
          · subst z; omega
          · exact z
      cases r with
      | true =>
        unfold far
        simp only [if_true, forall_const, Bool.true_eq_false, false_implies, and_true]
        rw [cmp]
        omega
      | false =>
        unfold far
        simp only [Bool.false_eq_true, if_false, false_implies, true_and, forall_const]
        rw [cmp2]
        omega
    · have e2 : xs[o]? = none := by simp; omega
      rw [e2]
      constructor
      · intro q
        cases e1 : xs[m]? <;> rw [e1] at q <;> cases q
      · exact fun q => absurd q.2.1 ho
  · have e1 : xs[m]? = none := by simp; omega
    rw [e1]
    exact ⟨fun q => (nomatch q), fun q => absurd q.1 hm⟩
/-- how far the reach goes, told stone by stone -/
def dst (xs : List (Int × Int)) (p0 : Int) (k : Nat) : Int := ab (pl xs k - p0)
theorem mx_le {a b c : Int} : c ≤ mx a b ↔ c ≤ a ∨ c ≤ b := by unfold mx; split <;> omega
theorem scan_spec {xs : List (Int × Int)} {sd : List Bool} {p0 : Int} (up : ∀ o, o < xs.length → sd[o]? = some true) : ∀ (os : List Nat) (R : Int), (∀ o ∈ os, o < xs.length) →
    (∀ a o, a < (scan xs sd p0 R os).length → os[a]? = some o → dst xs p0 o ≤ R ∨ ∃ b u, b < a ∧ os[b]? = some u ∧ dst xs p0 o ≤ dst xs p0 u + ht xs u) ∧
    (∀ o, os[(scan xs sd p0 R os).length]? = some o → R < dst xs p0 o ∧ ∀ b u, b < (scan xs sd p0 R os).length → os[b]? = some u → dst xs p0 u + ht xs u < dst xs p0 o)
  | [], R, _ => ⟨fun a o _ h => by simp at h, fun o h => by simp at h⟩
  | o :: os, R, hlt => by
    have ho := hlt o (by simp)
    have e1 : xs[o]? = some xs[o] := by simp [ho]
    obtain ⟨p1, t1⟩ := pl_of e1
    have ed : dst xs p0 o = ab ((xs[o]).1 - p0) := by unfold dst; rw [p1]
    have es : scan xs sd p0 R (o :: os) = if ab ((xs[o]).1 - p0) > R then [] else o :: scan xs sd p0 (mx R (ab ((xs[o]).1 - p0) + (xs[o]).2)) os := by
      conv => lhs; unfold scan
      rw [e1]
      simp only [up o ho, if_true]
    rw [es]
    by_cases hg : ab ((xs[o]).1 - p0) > R
    · rw [if_pos hg]
      refine ⟨fun a o' h => absurd h (Nat.not_lt_zero _), fun o' h => ?_⟩
      simp at h
      subst h
      exact ⟨by rw [ed]; exact hg, fun b u h => absurd h (Nat.not_lt_zero _)⟩
    · rw [if_neg hg, ← ed, ← t1]
      obtain ⟨ih1, ih2⟩ := scan_spec (xs := xs) (sd := sd) (p0 := p0) up os (mx R (dst xs p0 o + ht xs o)) fun z hz => hlt z (by simp [hz])
      refine ⟨fun a o' h e => ?_, fun o' e => ?_⟩
      · cases a with
        | zero =>
          simp at e
          subst e
          exact .inl (by rw [ed]; omega)
        | succ a =>
          simp at e h
          rcases ih1 a o' h e with q | ⟨b, u, q1, q2, q3⟩
          · rcases mx_le.mp q with q | q
            · exact .inl q
            · exact .inr ⟨0, o, by omega, rfl, q⟩
          · exact .inr ⟨b + 1, u, by omega, by simpa using q2, q3⟩
      · simp at e
        obtain ⟨q1, q2⟩ := ih2 o' e
        have n1 : ¬ dst xs p0 o' ≤ mx R (dst xs p0 o + ht xs o) := by omega
        rw [mx_le] at n1
        refine ⟨by omega, fun b u h e' => ?_⟩
        cases b with
        | zero =>
          simp at e'
          subst e'
          omega
        | succ b =>
          simp at e' h
          exact q2 b u h e'
structure RunR (xs : List (Int × Int)) (i e : Nat) : Prop where
  le : i ≤ e
  lt : e < xs.length
  by_ : ∀ j, i < j → j ≤ e → ∃ m, i ≤ m ∧ m < j ∧ Hit xs true m j
  no : ∀ m j, i ≤ m → m ≤ e → e < j → ¬ Hit xs true m j
structure RunL (xs : List (Int × Int)) (i f : Nat) : Prop where
  le : f ≤ i
  lt : i < xs.length
  by_ : ∀ j, f ≤ j → j < i → ∃ m, j < m ∧ m ≤ i ∧ Hit xs false m j
  no : ∀ m j, f ≤ m → m ≤ i → j < f → ¬ Hit xs false m j
theorem besideR_get {i n a : Nat} (h : a < n - (i + 1)) : (beside true i n)[a]? = some (i + 1 + a) := by
  unfold beside
  rw [if_pos rfl, List.getElem?_map, List.getElem?_range h]
  rfl
theorem besideL_get {i n a : Nat} (h : a < i) : (beside false i n)[a]? = some (i - 1 - a) := by
  unfold beside
  rw [if_neg (by decide), List.getElem?_map, List.getElem?_range h]
  rfl
theorem reach_eq {xs : List (Int × Int)} {i : Nat} {r : Bool} (hi : i < xs.length) : reachN xs i r = (scan xs (allUp xs.length) (pl xs i) (ht xs i) (beside r i xs.length)).length := by
  have e1 : xs[i]? = some xs[i] := by simp [hi]
  obtain ⟨p1, t1⟩ := pl_of e1
  rw [p1, t1]
  unfold reachN felled
  rw [e1]
  simp
theorem runR {xs : List (Int × Int)} (h : Inc xs) {i : Nat} (hi : i < xs.length) : RunR xs i (run xs i true).2 := by
  have hle := reach_le (r := true) hi
  rw [besideR_len] at hle
  obtain ⟨s1, s2⟩ := scan_spec (xs := xs) (sd := allUp xs.length) (p0 := pl xs i) (fun o ho => allUp_get ho) (beside true i xs.length) (ht xs i) (beside_lt hi)
  rw [← reach_eq hi] at s1 s2
  show RunR xs i (i + reachN xs i true)
  generalize reachN xs i true = c at hle s1 s2
  have dR : ∀ k, i ≤ k → k < xs.length → dst xs (pl xs i) k = pl xs k - pl xs i := by
    intro k h1 h2
    unfold dst ab
    rcases Nat.lt_or_ge i k with q | q
    · have := h.pl q h2
      rw [if_neg (by omega)]
    · obtain rfl : k = i := by omega
      simp
  refine ⟨by omega, by omega, fun j h1 h2 => ?_, fun m j h1 h2 h3 hh => ?_⟩
  · have ej : (beside true i xs.length)[j - (i + 1)]? = some j := by rw [besideR_get (by omega)]; congr 1; omega
    have dj := dR j (by omega) (by omega)
    rcases s1 (j - (i + 1)) j (by omega) ej with q | ⟨b, u, q1, q2, q3⟩
    · exact ⟨i, Nat.le_refl _, h1, hi, by omega, fun _ => ⟨h1, by omega⟩, fun z => nomatch z⟩
    · rw [besideR_get (by omega)] at q2
      obtain rfl : i + 1 + b = u := Option.some.inj q2
      have du := dR (i + 1 + b) (by omega) (by omega)
      exact ⟨i + 1 + b, by omega, by omega, by omega, by omega, fun _ => ⟨by omega, by omega⟩, fun z => nomatch z⟩
  · obtain ⟨hm, hj, hr, _⟩ := hh
    obtain ⟨_, hr⟩ := hr rfl
    obtain ⟨q1, q2⟩ := s2 (i + 1 + c) (besideR_get (by omega))
    have dc := dR (i + 1 + c) (by omega) (by omega)
    have pj : pl xs (i + 1 + c) ≤ pl xs j := by
      rcases Nat.lt_or_ge (i + 1 + c) j with z | z
      · exact Int.le_of_lt (h.pl z hj)
      · obtain rfl : j = i + 1 + c := by omega
        exact Int.le_refl _
    rcases Nat.lt_or_ge i m with z | z
    · have q3 := q2 (m - (i + 1)) m (by omega) (by rw [besideR_get (by omega)]; congr 1; omega)
      have dm := dR m (by omega) (by omega)
      omega
    · obtain rfl : m = i := by omega
      omega
theorem runL {xs : List (Int × Int)} (h : Inc xs) {i : Nat} (hi : i < xs.length) : RunL xs i (run xs i false).1 := by
  have hle := reach_le (r := false) hi
  rw [besideL_len] at hle
  obtain ⟨s1, s2⟩ := scan_spec (xs := xs) (sd := allUp xs.length) (p0 := pl xs i) (fun o ho => allUp_get ho) (beside false i xs.length) (ht xs i) (beside_lt hi)
  rw [← reach_eq hi] at s1 s2
  show RunL xs i (i - reachN xs i false)
  generalize reachN xs i false = c at hle s1 s2
  have dR : ∀ k, k ≤ i → dst xs (pl xs i) k = pl xs i - pl xs k := by
    intro k h1
    unfold dst ab
    rcases Nat.lt_or_ge k i with q | q
    · have := h.pl q hi
      rw [if_pos (by omega)]
      omega
    · obtain rfl : k = i := by omega
      simp
  refine ⟨by omega, hi, fun j h1 h2 => ?_, fun m j h1 h2 h3 hh => ?_⟩
  · have ej : (beside false i xs.length)[i - 1 - j]? = some j := by rw [besideL_get (by omega)]; congr 1; omega
    have dj := dR j (by omega)
    rcases s1 (i - 1 - j) j (by omega) ej with q | ⟨b, u, q1, q2, q3⟩
    · exact ⟨i, h2, Nat.le_refl _, hi, by omega, fun z => (nomatch z), fun _ => ⟨h2, by omega⟩⟩
    · rw [besideL_get (by omega)] at q2
      obtain rfl : i - 1 - b = u := Option.some.inj q2
      have du := dR (i - 1 - b) (by omega)
      exact ⟨i - 1 - b, by omega, by omega, by omega, by omega, fun z => (nomatch z), fun _ => ⟨by omega, by omega⟩⟩
  · obtain ⟨hm, hj, _, hr⟩ := hh
    obtain ⟨_, hr⟩ := hr rfl
    obtain ⟨q1, q2⟩ := s2 (i - 1 - c) (besideL_get (by omega))
    have dc := dR (i - 1 - c) (by omega)
    have pj : pl xs j ≤ pl xs (i - 1 - c) := by
      rcases Nat.lt_or_ge j (i - 1 - c) with z | z
      · exact Int.le_of_lt (h.pl z (by omega))
      · obtain rfl : j = i - 1 - c := by omega
        exact Int.le_refl _
    rcases Nat.lt_or_ge m i with z | z
    · have q3 := q2 (i - 1 - m) m (by omega) (by rw [besideL_get (by omega)]; congr 1; omega)
      have dm := dR m (by omega)
      omega
    · obtain rfl : m = i := by omega
      omega
/-! ### pushes one after another: mathematics -/
def Reach (xs : List (Int × Int)) (S : List Nat) (r : Bool) (i j : Nat) : Prop := ∃ n, RB xs S r i n j
section
variable {xs : List (Int × Int)} {S T : List Nat} {r : Bool} {i : Nat}
theorem Reach.refl : Reach xs S r i i := ⟨0, rfl⟩
theorem Reach.step (hx : Inc xs) {m j : Nat} (h : Reach xs S r i m) (hj : j ∈ S) (hh : Hit xs r m j) : Reach xs S r i j := let ⟨n, h⟩ := h; ⟨n + 1, .inr ⟨m, h, hj, (hit_iff hx).mpr hh⟩⟩
theorem Reach.ind (hx : Inc xs) {P : Nat → Prop} (h0 : P i) (hs : ∀ m j, Reach xs S r i m → P m → j ∈ S → Hit xs r m j → P j) {j : Nat} (h : Reach xs S r i j) : P j := by
  obtain ⟨n, h⟩ := h
  induction n generalizing j with
  | zero => obtain rfl : j = i := h; exact h0
  | succ n ih =>
    rcases h with h | ⟨m, h1, h2, h3⟩
    · exact ih h
    · exact hs m j ⟨n, h1⟩ (ih h1) h2 ((hit_iff hx).mp h3)
theorem Reach.fst {j : Nat} : Reach xs S r i j ↔ ∃ u, Fst xs S r i u j :=
  ⟨fun ⟨_, h⟩ => let ⟨u, _, h2⟩ := h.first; ⟨u, h2⟩, fun ⟨u, h⟩ => ⟨u, h.1⟩⟩
noncomputable def after (xs : List (Int × Int)) (S : List Nat) (r : Bool) (i : Nat) : List Nat := S.filter fun j => @decide (¬ Reach xs S r i j) (Classical.propDecidable _)
theorem mem_after {j : Nat} : j ∈ after xs S r i ↔ j ∈ S ∧ ¬ Reach xs S r i j := by
  unfold after
  rw [List.mem_filter]
  exact ⟨fun h => ⟨h.1, @of_decide_eq_true _ (Classical.propDecidable _) h.2⟩, fun h => ⟨h.1, @decide_eq_true _ (Classical.propDecidable _) h.2⟩⟩
theorem right_ge (hx : Inc xs) {j : Nat} (h : Reach xs S true i j) : i ≤ j :=
  Reach.ind hx (P := fun j => i ≤ j) (Nat.le_refl _) (fun m j _ hm _ hh => Nat.le_trans hm (Nat.le_of_lt (hh.2.2.1 rfl).1)) h
theorem left_le (hx : Inc xs) {j : Nat} (h : Reach xs S false i j) : j ≤ i :=
  Reach.ind hx (P := fun j => j ≤ i) (Nat.le_refl _) (fun m j _ hm _ hh => Nat.le_trans (Nat.le_of_lt (hh.2.2.2 rfl).1) hm) h
theorem in_right (hx : Inc xs) {e j : Nat} (R : RunR xs i e) (h : Reach xs S true i j) : j ≤ e :=
  Reach.ind hx (P := fun j => j ≤ e) R.le (fun m j hr hm _ hh => by
    rcases Nat.lt_or_ge e j with q | q
    · exact absurd hh (R.no m j (right_ge hx hr) hm q)
    · exact q) h
theorem in_left (hx : Inc xs) {l f j : Nat} (R : RunL xs l f) (h1 : f ≤ i) (h2 : i ≤ l) (h : Reach xs S false i j) : f ≤ j :=
  Reach.ind hx (P := fun j => f ≤ j) h1 (fun m j hr hm _ hh => by
    rcases Nat.lt_or_ge j f with q | q
    · exact absurd hh (R.no m j hm (Nat.le_trans (left_le hx hr) h2) q)
    · exact q) h
theorem all_right (hx : Inc xs) {e e' : Nat} (R : RunR xs i e) (he : e' ≤ e) (hS : ∀ j, i < j → j ≤ e' → j ∈ S) : ∀ j, i ≤ j → j ≤ e' → Reach xs S true i j := by
  intro j
  induction j using Nat.strongRecOn with
  | ind j ih =>
    intro h1 h2
    by_cases q : j = i
    · subst q; exact .refl
    · obtain ⟨m, q1, q2, q3⟩ := R.by_ j (by omega) (by omega)
      exact (ih m q2 q1 (by omega)).step hx (hS j (by omega) h2) q3
theorem all_left (hx : Inc xs) {f : Nat} (R : RunL xs i f) (hS : ∀ j, f ≤ j → j < i → j ∈ S) : ∀ d j, f ≤ j → j ≤ i → i - j = d → Reach xs S false i j := by
  intro d
  induction d using Nat.strongRecOn with
  | ind d ih =>
    intro j h1 h2 hd
    by_cases q : j = i
    · subst q; exact .refl
    · obtain ⟨m, q1, q2, q3⟩ := R.by_ j h1 (by omega)
      exact (ih (i - m) (by omega) m (by omega) q2 rfl).step hx (hS j h1 (by omega)) q3
theorem cross_left (hx : Inc xs) {s j : Nat} (hs : s ∈ S) (hi : s ≤ i) (h : Reach xs S false i j) : j < s → Reach xs S false i s :=
  Reach.ind hx (P := fun j => j < s → Reach xs S false i s) (fun q => absurd q (by omega)) (fun m j hr ih _ hh hj => by
    rcases Nat.lt_trichotomy m s with q | q | q
    · exact ih q
    · exact q ▸ hr
    · obtain ⟨h1, h2, _, h3⟩ := hh
      obtain ⟨h3, h4⟩ := h3 rfl
      have := hx.pl hj (by omega)
      exact hr.step hx hs ⟨h1, by omega, fun z => (nomatch z), fun _ => ⟨q, by omega⟩⟩) h
theorem cross_right (hx : Inc xs) {s j : Nat} (hs : s ∈ S) (hi : i ≤ s) (h : Reach xs S true i j) : s ≤ j → Reach xs S true i s :=
  Reach.ind hx (P := fun j => s ≤ j → Reach xs S true i s) (fun q => by
    have e : s = i := by omega
    rw [e]
    exact .refl) (fun m j hr ih _ hh hj => by
    rcases Nat.lt_or_ge m s with q | q
    · obtain ⟨h1, h2, h3, _⟩ := hh
      obtain ⟨h3, h4⟩ := h3 rfl
      have : pl xs s ≤ pl xs j := by
        rcases Nat.lt_or_ge s j with z | z
        · exact Int.le_of_lt (hx.pl z h2)
        · obtain rfl : s = j := by omega
          exact Int.le_refl _
      exact hr.step hx hs ⟨h1, by omega, fun _ => ⟨q, by omega⟩, fun z => (nomatch z)⟩
    · exact ih q) h
end
/-! ### ticks, one stone after another -/
/-- so many stones beside stone i -/
def bpos (r : Bool) (i d : Nat) : Nat := if r then i + d else i - d
def bmax (r : Bool) (i n : Nat) : Nat := if r then n - (i + 1) else i
theorem beside_at {r : Bool} {i n k : Nat} (h : k < bmax r i n) : (beside r i n)[k]? = some (bpos r i (k + 1)) := by
  cases r with
  | true =>
    have h : k < n - (i + 1) := h
    rw [besideR_get h]
    show some (i + 1 + k) = some (i + (k + 1))
    congr 1; omega
  | false =>
    have h : k < i := h
    rw [besideL_get h]
    show some (i - 1 - k) = some (i - (k + 1))
    congr 1; omega
theorem beside_length (r : Bool) (i n : Nat) : (beside r i n).length = bmax r i n := by cases r <;> simp [beside, bmax]
def touch (xs : List (Int × Int)) (m o : Nat) : Bool := decide (ab (pl xs o - pl xs m) ≤ ht xs m)
theorem touch_hit {xs : List (Int × Int)} (h : Inc xs) {r : Bool} {i d e : Nat} (hi : i < xs.length) (hd : d < e) (he : e ≤ bmax r i xs.length) : touch xs (bpos r i d) (bpos r i e) = true ↔ Hit xs r (bpos r i d) (bpos r i e) := by
  unfold touch
  rw [decide_eq_true_eq]
  cases r with
  | true =>
    have he : e ≤ xs.length - (i + 1) := he
    show ab (pl xs (i + e) - pl xs (i + d)) ≤ ht xs (i + d) ↔ Hit xs true (i + d) (i + e)
    have := h.pl (a := i + d) (b := i + e) (by omega) (by omega)
    constructor
    · intro q
      unfold ab at q
      refine ⟨by omega, by omega, fun _ => ⟨by omega, ?_⟩, fun z => nomatch z⟩
      split at q <;> omega
    · intro q
      have := (q.2.2.1 rfl).2
      unfold ab
      split <;> omega
  | false =>
    have he : e ≤ i := he
    show ab (pl xs (i - e) - pl xs (i - d)) ≤ ht xs (i - d) ↔ Hit xs false (i - d) (i - e)
    have := h.pl (a := i - e) (b := i - d) (by omega) (by omega)
    constructor
    · intro q
      unfold ab at q
      refine ⟨by omega, by omega, (fun z => nomatch z), fun _ => ⟨by omega, ?_⟩⟩
      split at q <;> omega
    · intro q
      have := (q.2.2.2 rfl).2
      unfold ab
      split <;> omega
theorem hit_ahead {xs : List (Int × Int)} {r : Bool} {i m e : Nat} (he : e ≤ bmax r i xs.length) (q : Hit xs r m (bpos r i e)) (hm : ∃ d, d ≤ bmax r i xs.length ∧ m = bpos r i d) : ∃ d, d < e ∧ m = bpos r i d := by
  obtain ⟨d, hd, rfl⟩ := hm
  refine ⟨d, ?_, rfl⟩
  cases r with
  | true =>
    have := (q.2.2.1 rfl).1
    have this : i + d < i + e := this
    omega
  | false =>
    have := (q.2.2.2 rfl).1
    have this : i - e < i - d := this
    omega
theorem rb_pos {xs : List (Int × Int)} (h : Inc xs) {r : Bool} {i t j : Nat} (hi : i < xs.length) (q : RB xs (List.range xs.length) r i t j) : ∃ d, d ≤ bmax r i xs.length ∧ j = bpos r i d := by
  have hr : Reach xs (List.range xs.length) r i j := ⟨t, q⟩
  have hj : j < xs.length := by
    cases t with
    | zero => obtain rfl : j = i := q; exact hi
    | succ t =>
      refine Reach.ind h (P := fun j => j < xs.length) hi (fun m j _ _ hj _ => List.mem_range.mp hj) hr
  cases r with
  | true =>
    have := right_ge h hr
    exact ⟨j - i, by show j - i ≤ xs.length - (i + 1); omega, by show j = i + (j - i); omega⟩
  | false =>
    have := left_le h hr
    exact ⟨i - j, by show i - j ≤ i; omega, by show j = i - (i - j); omega⟩
theorem bpos_lt {r : Bool} {i n d : Nat} (hi : i < n) (hd : d ≤ bmax r i n) : bpos r i d < n := by
  cases r with
  | true => have hd : d ≤ n - (i + 1) := hd; show i + d < n; omega
  | false => show i - d < n; omega
theorem bpos_inj {r : Bool} {i n d e : Nat} (hd : d ≤ bmax r i n) (he : e ≤ bmax r i n) (q : bpos r i d = bpos r i e) : d = e := by
  cases r with
  | true => have q : i + d = i + e := q; omega
  | false => have q : i - d = i - e := q; have hd : d ≤ i := hd; have he : e ≤ i := he; omega
/-- the ticks of so many stones beside the pushed one are known -/
structure TickI (xs : List (Int × Int)) (r : Bool) (i k : Nat) (fs : List (Nat × Nat)) : Prop where
  nd : (fs.map (·.1)).Nodup
  has : ∀ j u, (j, u) ∈ fs ↔ (∃ d, d ≤ k ∧ j = bpos r i d) ∧ Fst xs (List.range xs.length) r i u j
  len : fs.length ≤ k + 1
def nearT (xs : List (Int × Int)) (fs : List (Nat × Nat)) (o : Nat) : List Nat := (fs.filter fun p => touch xs p.1 o).map (·.2)
theorem fst_zero {xs : List (Int × Int)} {r : Bool} {i u : Nat} {S : List Nat} : Fst xs S r i u i ↔ u = 0 := by
  constructor
  · intro h
    refine Nat.eq_zero_of_not_pos fun q => h.2 0 q rfl
  · rintro rfl
    exact ⟨rfl, fun v h => absurd h (Nat.not_lt_zero _)⟩
theorem TickI.start {xs : List (Int × Int)} {r : Bool} {i : Nat} : TickI xs r i 0 [(i, 0)] := by
  refine ⟨by simp, fun j u => ?_, Nat.le_refl _⟩
  rw [List.mem_singleton, Prod.mk.injEq]
  constructor
  · rintro ⟨rfl, rfl⟩
    exact ⟨⟨0, Nat.le_refl _, by cases r <;> rfl⟩, fst_zero.mpr rfl⟩
  · rintro ⟨⟨d, hd, rfl⟩, h⟩
    obtain rfl : d = 0 := by omega
    have e : bpos r i 0 = i := by cases r <;> rfl
    rw [e] at h ⊢
    exact ⟨rfl, fst_zero.mp h⟩
theorem near_sound {xs : List (Int × Int)} (h : Inc xs) {r : Bool} {i k : Nat} {fs : List (Nat × Nat)} (hi : i < xs.length) (T : TickI xs r i k fs) (hk : k < bmax r i xs.length) {u : Nat} (hu : u ∈ nearT xs fs (bpos r i (k + 1))) :
    RB xs (List.range xs.length) r i (u + 1) (bpos r i (k + 1)) := by
  obtain ⟨⟨m, u'⟩, hm, rfl⟩ := List.mem_map.mp hu
  obtain ⟨hm, ht⟩ := List.mem_filter.mp hm
  obtain ⟨⟨d, hd, rfl⟩, hf⟩ := (T.has m u').mp hm
  refine .inr ⟨bpos r i d, hf.1, List.mem_range.mpr (bpos_lt hi hk), (hit_iff h).mpr ((touch_hit h hi (by omega) hk).mp ht)⟩
theorem near_full {xs : List (Int × Int)} (h : Inc xs) {r : Bool} {i k : Nat} {fs : List (Nat × Nat)} (hi : i < xs.length) (T : TickI xs r i k fs) (hk : k < bmax r i xs.length) :
    ∀ t, RB xs (List.range xs.length) r i t (bpos r i (k + 1)) → ∃ u ∈ nearT xs fs (bpos r i (k + 1)), u + 1 ≤ t
  | 0, q => by
    have q : bpos r i (k + 1) = i := q
    have e : bpos r i 0 = i := by cases r <;> rfl
    have := bpos_inj (r := r) (i := i) (n := xs.length) (d := k + 1) (e := 0) hk (Nat.zero_le _) (q.trans e.symm)
    omega
  | t + 1, .inl q => by
    obtain ⟨u, h1, h2⟩ := near_full h hi T hk t q
    exact ⟨u, h1, by omega⟩
  | t + 1, .inr ⟨m, q1, _, q3⟩ => by
    have hh := (hit_iff h).mp q3
    obtain ⟨d, hd, rfl⟩ := hit_ahead hk hh (rb_pos h hi q1)
    obtain ⟨u, hu, hf⟩ := q1.first
    exact ⟨u, List.mem_map.mpr ⟨(bpos r i d, u), List.mem_filter.mpr ⟨(T.has _ _).mpr ⟨⟨d, by omega, rfl⟩, hf⟩, (touch_hit h hi hd hk).mpr hh⟩, rfl⟩, by omega⟩
theorem TickI.none {xs : List (Int × Int)} (h : Inc xs) {r : Bool} {i k : Nat} {fs : List (Nat × Nat)} (hi : i < xs.length) (T : TickI xs r i k fs) (hk : k < bmax r i xs.length) (e : nearT xs fs (bpos r i (k + 1)) = []) : TickI xs r i (k + 1) fs := by
  refine ⟨T.nd, fun j u => (T.has j u).trans ?_, by have := T.len; omega⟩
  constructor
  · rintro ⟨⟨d, hd, rfl⟩, hf⟩
    exact ⟨⟨d, by omega, rfl⟩, hf⟩
  · rintro ⟨⟨d, hd, rfl⟩, hf⟩
    refine ⟨⟨d, ?_, rfl⟩, hf⟩
    by_cases q : d = k + 1
    · subst q
      obtain ⟨u', h1, _⟩ := near_full h hi T hk u hf.1
      rw [e] at h1
      cases h1
    · omega
theorem TickI.some {xs : List (Int × Int)} (h : Inc xs) {r : Bool} {i k m : Nat} {fs : List (Nat × Nat)} (hi : i < xs.length) (T : TickI xs r i k fs) (hk : k < bmax r i xs.length) (hm : m ∈ nearT xs fs (bpos r i (k + 1))) (hl : ∀ y ∈ nearT xs fs (bpos r i (k + 1)), m ≤ y) :
    (bpos r i (k + 1) ∉ fs.map (·.1)) ∧ TickI xs r i (k + 1) (fs ++ [(bpos r i (k + 1), m + 1)]) := by
  have new : bpos r i (k + 1) ∉ fs.map (·.1) := fun z => by
    obtain ⟨⟨j, u⟩, hj, e⟩ := List.mem_map.mp z
    obtain ⟨⟨d, hd, e2⟩, _⟩ := (T.has j u).mp hj
    have e : j = bpos r i (k + 1) := e
    have := bpos_inj (r := r) (i := i) (n := xs.length) (d := d) (e := k + 1) (by omega) hk (e2.symm.trans e)
    omega
  have hf : Fst xs (List.range xs.length) r i (m + 1) (bpos r i (k + 1)) := ⟨near_sound h hi T hk hm, fun v hv q => by
    obtain ⟨u, h1, h2⟩ := near_full h hi T hk v q
    have := hl u h1
    omega⟩
  refine ⟨new, ?_, fun j u => ?_, by have := T.len; simp; omega⟩
  · rw [List.map_append, List.nodup_append]
    refine ⟨T.nd, by simp, fun a ha b hb e => ?_⟩
    simp at hb
    subst e hb
    exact new ha
  · rw [List.mem_append, T.has, List.mem_singleton, Prod.mk.injEq]
    constructor
    · rintro (⟨⟨d, hd, rfl⟩, q⟩ | ⟨rfl, rfl⟩)
      · exact ⟨⟨d, by omega, rfl⟩, q⟩
      · exact ⟨⟨k + 1, Nat.le_refl _, rfl⟩, hf⟩
    · rintro ⟨⟨d, hd, rfl⟩, q⟩
      by_cases e : d = k + 1
      · subst e
        exact .inr ⟨rfl, q.eq hf⟩
      · exact .inl ⟨⟨d, by omega, rfl⟩, q⟩
theorem TickI.all {xs : List (Int × Int)} (h : Inc xs) {r : Bool} {i : Nat} {fs : List (Nat × Nat)} (hi : i < xs.length) (T : TickI xs r i (bmax r i xs.length) fs) (j u : Nat) : (j, u) ∈ fs ↔ Fst xs (List.range xs.length) r i u j := by
  rw [T.has]
  exact ⟨fun q => q.2, fun q => ⟨rb_pos h hi q.1, q⟩⟩
/-- the ticks of a push, by the stones' numbers -/
structure Ticks (xs : List (Int × Int)) (r : Bool) (i : Nat) (gs : List (Nat × Nat)) : Prop where
  up : gs.Pairwise fun a b => a.1 < b.1
  has : ∀ j u, (j, u) ∈ gs ↔ Fst xs (List.range xs.length) r i u j
  len : gs.length ≤ xs.length
theorem key_one {fs : List (Nat × Nat)} (nd : (fs.map (·.1)).Nodup) {j u v : Nat} (h1 : (j, u) ∈ fs) (h2 : (j, v) ∈ fs) : u = v := by
  induction fs with
  | nil => cases h1
  | cons p fs ih =>
    rw [List.map_cons, List.nodup_cons] at nd
    rcases List.mem_cons.mp h1 with e1 | g1
    · rcases List.mem_cons.mp h2 with e2 | g2
      · exact congrArg Prod.snd (e1.trans e2.symm)
      · rw [← e1] at nd
        exact absurd (show j ∈ fs.map (·.1) from List.mem_map.mpr ⟨(j, v), g2, rfl⟩) nd.1
    · rcases List.mem_cons.mp h2 with e2 | g2
      · rw [← e2] at nd
        exact absurd (show j ∈ fs.map (·.1) from List.mem_map.mpr ⟨(j, u), g1, rfl⟩) nd.1
      · exact ih nd.2 g1 g2
/-! ### the law's own wave, stone by stone -/
def kvs (fs : List (Nat × Nat)) : List (Key × V) := fs.map fun p => ((Sum.inl (p.1 : Int) : Key), V.int (p.2 : Int))
theorem kvs_none {fs : List (Nat × Nat)} {o : Nat} : valV (kvs fs) (Sum.inl (o : Int) : Key) = none ↔ o ∉ fs.map (·.1) := by
  induction fs with
  | nil => exact ⟨fun _ h => (nomatch h), fun _ => rfl⟩
  | cons p fs ih =>
    have c : kvs (p :: fs) = ((Sum.inl (p.1 : Int) : Key), V.int (p.2 : Int)) :: kvs fs := rfl
    rw [c]
    by_cases e : p.1 = o
    · rw [valV_pos (by rw [e])]
      simp [e]
    · rw [valV_neg (by intro h; injection h with h; omega), ih]
      simp only [List.map_cons, List.mem_cons, not_or]
      exact ⟨fun h => ⟨fun z => e z.symm, h⟩, fun h => h.2⟩
theorem kvs_put {fs : List (Nat × Nat)} {o t : Nat} (h : o ∉ fs.map (·.1)) : putK (kvs fs) (Sum.inl (o : Int) : Key) (V.int (t : Int)) = kvs (fs ++ [(o, t)]) := by
  rw [putK_new _ (kvs_none.mpr h)]
  unfold kvs
  simp
theorem kvs_len (fs : List (Nat × Nat)) : (kvs fs).length = fs.length := by unfold kvs; simp
/-- lists of ints as data -/
def intD (ns : List Nat) : PyData := .list (ns.map fun (k : Nat) => PyData.int (k : Int))
theorem ints_all {K : PySem.W.Frag} {H : Hp} : ∀ ns : List Nat, DpAll K H (ivs ns) (ns.map fun (k : Nat) => PyData.int (k : Int))
  | [] => .nil
  | k :: ns => .cons (.int k) (ints_all ns)
theorem ints_dp {K : PySem.W.Frag} {H : Hp} {a : Addr} {ns : List Nat} (h : SqL K H a (ivs ns)) : Dp K H (.ref a) (intD ns) := .lst h (ints_all ns)
theorem lay_ints : ∀ ns : List Nat, PyData.canLayAll0 (ns.map fun (k : Nat) => PyData.int (k : Int)) = true
  | [] => by simp [PyData.canLayAll0]
  | k :: ns => by simp [PyData.canLayAll0, PyData.canLay0, lay_ints ns]
theorem deep_ints : ∀ ns : List Nat, PyData.depthAll (ns.map fun (k : Nat) => PyData.int (k : Int)) ≤ 1
  | [] => by simp [PyData.depthAll]
  | k :: ns => by
    have := deep_ints ns
    simp only [List.map_cons, PyData.depthAll, PyData.depth]
    omega
theorem ints_shaped (ns : List Nat) : SeqAt.shaped (intD ns) = true := by
  have h1 := deep_ints ns
  have h2 : PyData.depth (intD ns) ≤ 64 := by unfold intD; simp only [PyData.depth]; omega
  show (PyData.canLay0 (intD ns) && decide (PyData.depth (intD ns) ≤ 64)) = true
  rw [Bool.and_eq_true]
  exact ⟨by unfold intD; simp only [PyData.canLay0]; exact lay_ints ns, decide_eq_true h2⟩
theorem ints_nil (ns : List Nat) : PyData.eqv (intD ns) (intD []) = ns.isEmpty := by
  cases ns with
  | nil => simp [intD, PyData.eqv, PyData.eqvAll]
  | cons k ns => simp [intD, PyData.eqv, PyData.eqvAll]
theorem same_upd {H H1 : Hp} {p : Addr} {o : HO} (e : Same H H1) (h : H p = none) : Same H (upd H1 p o) := fun b u q => by rw [upd_ne (ne_of_none q h)]; exact e _ _ q
/-- A if side == "right" else B, where both come to the same letter -/
theorem if_side {n : Nat} {σ : L2.St} {H : Hp} {Q : VK} {ta tb : TE} {r : Bool} {v : V} (h3 : σ[n]? = some (some (.str (sideS r)))) (ha : r = true → ∀ Q : VK, Q v H → ta σ H Q) (hb : r = false → ∀ Q : VK, Q v H → tb σ H Q) (q : Q v H) :
    tIf (tTest (tOp rEq (tVar n) (tC (.str "right")))) ta tb σ H Q := by
  refine ⟨_, h3, rfl, _, rfl, ?_⟩
  rw [right_eq]
  cases r with
  | true => exact iteT (ha rfl Q q)
  | false => exact iteF (hb rfl Q q)
theorem in_len {xs : List (Int × Int)} {r : Bool} {t m : Nat} : ∀ (L : List Nat) (st : Wave), (L.foldl (stepIn xs r t m) st).1.length ≤ st.1.length + L.length ∧ (L.foldl (stepIn xs r t m) st).2.length ≤ st.2.length + L.length
  | [], st => by simp
  | o :: L, st => by
    have ih := in_len (xs := xs) (r := r) (t := t) (m := m) L (stepIn xs r t m st o)
    have h : (stepIn xs r t m st o).1.length ≤ st.1.length + 1 ∧ (stepIn xs r t m st o).2.length ≤ st.2.length + 1 := by
      unfold stepIn
      split
      · simp
      · omega
    simp only [List.foldl_cons, List.length_cons]
    omega
theorem lv_len {xs : List (Int × Int)} {S : List Nat} {r : Bool} {t : Nat} : ∀ (L : List Nat) (st : Wave), (L.foldl (stepLv xs S r t) st).1.length ≤ st.1.length + L.length * S.length ∧ (L.foldl (stepLv xs S r t) st).2.length ≤ st.2.length + L.length * S.length
  | [], st => by simp
  | m :: L, st => by
    have ih := lv_len (xs := xs) (S := S) (r := r) (t := t) L (stepLv xs S r t st m)
    have h := in_len (xs := xs) (r := r) (t := t) (m := m) S st
    have e : stepLv xs S r t st m = S.foldl (stepIn xs r t m) st := rfl
    rw [e] at ih
    simp only [List.foldl_cons, List.length_cons, e, Nat.add_mul, Nat.one_mul]
    omega
theorem lvl_len {xs : List (Int × Int)} {S : List Nat} {r : Bool} {i : Nat} : ∀ t : Nat, (iter xs S r i t).2.length ≤ (iter xs S r i t).1.length
  | 0 => by simp [iter]
  | t + 1 => by
    have e : iter xs S r i (t + 1) = level xs S r (t + 1) ((iter xs S r i t).1, (iter xs S r i t).2) := rfl
    have q := (level_spec (xs := xs) (S := S) (r := r) (t := t + 1) (lv := (iter xs S r i t).2) (iter_spec (xs := xs) (S := S) (r := r) (i := i) t).1).1
    rw [← e] at q
    have l := congrArg List.length q
    rw [List.length_append, List.length_map] at l
    omega
/-! ### _law_ticks: the waves, kept in a dict -/
theorem kvs_at {fs : List (Nat × Nat)} (nd : (fs.map (·.1)).Nodup) {m u : Nat} (h : (m, u) ∈ fs) : valV (kvs fs) (Sum.inl (m : Int) : Key) = some (.int (u : Int)) := by
  induction fs with
  | nil => cases h
  | cons p fs ih =>
    have c : kvs (p :: fs) = ((Sum.inl (p.1 : Int) : Key), V.int (p.2 : Int)) :: kvs fs := rfl
    rw [c]
    rw [List.map_cons, List.nodup_cons] at nd
    rcases List.mem_cons.mp h with e | h
    · rw [← e]
      exact valV_pos rfl
    · have ne : p.1 ≠ m := fun e => nd.1 (by rw [e]; exact List.mem_map.mpr ⟨_, h, rfl⟩)
      rw [valV_neg (by intro z; injection z with z; omega)]
      exact ih nd.2 h
theorem pair_ints : ∀ {ys : List V} {L : List Nat}, Paired (fun (v : V) (k : Nat) => v = .int (k : Int)) ys L → ys = ivs L
  | _, _, .nil => rfl
  | _, _, .cons h t => by rw [h, pair_ints t]; rfl
/-- those of the last tick -/
theorem iter_last {xs : List (Int × Int)} {S : List Nat} {r : Bool} {i : Nat} (t : Nat) : ((iter xs S r i t).1.filter fun p => p.2 == t).map (·.1) = (iter xs S r i t).2 := by
  cases t with
  | zero => rfl
  | succ t =>
    have e : iter xs S r i (t + 1) = level xs S r (t + 1) ((iter xs S r i t).1, (iter xs S r i t).2) := rfl
    obtain ⟨q1, _, _⟩ := level_spec (xs := xs) (S := S) (r := r) (t := t + 1) (lv := (iter xs S r i t).2) (iter_spec t).1
    rw [← e] at q1
    rw [q1, List.filter_append, List.map_append]
    have h1 : (iter xs S r i t).1.filter (fun p => p.2 == t + 1) = [] := by
      rw [List.filter_eq_nil_iff]
      rintro ⟨j, u⟩ hp
      have := ((iter_spec t).2.1 j u).mp hp
      simp
      omega
    have h2 : ((iter xs S r i (t + 1)).2.map fun o => (o, t + 1)).filter (fun p => p.2 == t + 1) = (iter xs S r i (t + 1)).2.map fun o => (o, t + 1) := by
      rw [List.filter_eq_self]
      rintro ⟨j, u⟩ hp
      obtain ⟨o, _, e⟩ := List.mem_map.mp hp
      cases e
      simp
    rw [h1, h2, List.map_map]
    simp [Function.comp_def]
def spTicksW (K : PySem.W.Frag) : Sp := fun vs H Q _ => ∃ (q b : Addr) (us : List V) (xs : List (Int × Int)) (S : List Nat) (i : Nat) (r : Bool), vs = [.ref q, .ref b, .int (i : Nat), .str (sideS r)] ∧ SqL K H q us ∧ StonesAt K H us xs ∧ SqL K H b (ivs S) ∧
  (∀ o ∈ S, o < xs.length) ∧ i < xs.length ∧ S.length ≤ 40 ∧
  ∀ (d : Addr) (fs : List (Nat × Nat)) (H' : Hp), Same H H' → H d = none → H' d = some (.dK (kvs fs)) → (fs.map (·.1)).Nodup → fs.length ≤ S.length + 1 → (∀ j u, (j, u) ∈ fs ↔ Fst xs S r i u j) → Q (.ref d) H'
section
variable {P : Program} {w : World} {K : PySem.W.Frag} {mg : Str → Option Value} {base : Heap}
theorem ok_ticksW {f : Addr} {fd : FuncData} (F : Fun K "_law_ticks" "_law_ticks" s_law_ticks f fd) : FnOk P w K mg base CX0 1 f fd ["_law_stones_here", "_law_up", "_law_stone", "_law_side"] (spTicksW K) := by
  refine F.ok sc_law_ticks (fun vs H Q E h => ?_) (fun cdv A outer s H vs Q E hr h => ?_)
  · obtain ⟨q, b, us, xs, S, i, r, rfl, _⟩ := h
    rfl
  · obtain ⟨q, b, us, xs, S, i, r, rfl, hq, hS, hb, hlt, hi, hc, k⟩ := h
    have hu := hu_of hr
    refine ⟨_, pss_cons (ps_asg (pe_tup (pa_cons (pe_disp (pps_cons (pv 2) pe_int pps_nil) (by rfl) (by rfl) (fun z => by cases z) (by decide)) (pa_cons (pe_int) (pa_cons (pe_bl) pa_nil)))) (pg_tup rfl (pgs_cons (pg_name (i := 4) sc_law_ticks.nd rfl (Or.inr rfl)) (pgs_cons (pg_name (i := 5) sc_law_ticks.nd rfl (Or.inr rfl)) (pgs_cons (pg_name (i := 6) sc_law_ticks.nd rfl (Or.inl rfl)) pgs_nil)))))
      (pss_cons (ps_while PassesOwn.never (pt_val (pv 6))
        (pss_cons (ps_set (i := 6) sc_law_ticks.nd rfl (Or.inl rfl) (pe_bl))
        (pss_cons (ps_for PassesOwn.never rfl (pi_list (pe_lock (pe_lc (own := [("_law_k", 8)]) (g := gName 8) rfl sc_law_ticks.nd (pi_keys (pv 4)) (blkOk_by (N := n_law_ticks) (sc := defScope s_law_ticks) (by decide +kernel))
              (fun _ _ _ _ _ => pg_name (i := 8) sc_law_ticks.nd rfl (Or.inl rfl)) (fun _ _ _ _ _ => pts_one (show PT _ _ (tTest (tOp rEq (tDGet (tVar 4) (tVar 8)) (tVar 5))) from pt_cmpR (op_eq) (pe_dget hu (pv 4) (pv 8) (fun _ _ => rfl)) (pv 5) (nomark _))) (fun _ _ _ _ _ => pv 8)))) (pg_name (i := 7) sc_law_ticks.nd rfl (Or.inl rfl))
          (pss_one (ps_for PassesOwn.never rfl (pi_list (pv 1)) (pg_name (i := 9) sc_law_ticks.nd rfl (Or.inl rfl))
            (pss_cons (ps_set (i := 10) sc_law_ticks.nd rfl (Or.inl rfl) (pe_op op_sub (pe_ix ix_tup (pe_ix ix_list (pv 0) (pv 9) (fun _ _ => rfl)) (pe_int) (fun _ _ => rfl)) (pe_ix ix_tup (pe_ix ix_list (pv 0) (pv 7) (fun _ _ => rfl)) (pe_int) (fun _ _ => rfl))))
            (pss_cons (ps_set (i := 10) sc_law_ticks.nd rfl (Or.inl rfl) (pe_ifExp (pt_cmpR (op_eq) (pv 3) (pe_str) (nomark _)) (pv 10) (pe_op op_sub (pe_int) (pv 10))))
            (pss_one (ps_if (PW.pt (pw_and (pt_cmp (pc_dnotin hu (pv 9) (pv 4))) (pw_and1 (pt_chain op_lt op_le pe_int (pv 10) (pe_ix ix_tup (pe_ix ix_list (pv 0) (pv 7) (fun _ _ => rfl)) (pe_int) (fun _ _ => rfl))))))
              (pss_one (ps_asg (pe_tup (pa_cons (pe_op op_add (pv 5) (pe_int)) (pa_cons (pe_bl) pa_nil))) (pg_tup rfl (pgs_cons (pg_sub (pv 4) (pv 9) (set_dict hu)) (pgs_cons (pg_name (i := 6) sc_law_ticks.nd rfl (Or.inl rfl)) pgs_nil))))) pss_nil)))))))
        (pss_one (ps_set (i := 5) sc_law_ticks.nd rfl (Or.inr rfl) (pe_op op_add (pv 5) (pe_int)))))))
      (pss_one (ps_ret (pv 4)))), ?_⟩
    refine fun d nd => ⟨_, rfl, upd_same, [((Sum.inl (i : Int) : Key), V.int 0)], rfl, by show 1 ≤ 15; decide, ?_⟩
    have eM : upd (upd H d (.dK [])) d (.dK (mergeK [] [((Sum.inl (i : Int) : Key), V.int 0)])) = upd H d (.dK (kvs [(i, 0)])) := upd_upd
    rw [eM]
    have s1 : Same H (upd H d (.dK (kvs [(i, 0)]))) := same_new nd
    refine ⟨by show 3 ≤ sizeLine; decide, fun T nT => ⟨T, _, rfl, SqT.of upd_same, rfl, _, _, rfl, _, _, rfl, _, _, rfl, rfl, ?_⟩⟩
    have dT : d ≠ T := ne_of_none upd_same nT
    have keyIn : ∀ t, ∀ j ∈ (iter xs S r i t).1.map (·.1), j < xs.length := fun t j hj => by
      rcases iter_sub t j hj with h | h
      · rw [h]; exact hi
      · exact hlt j h
    refine ⟨fun n σ H3 => ∃ (t : Nat) (s7 s8 s9 s10 : Option V), σ = [some (.ref q), some (.ref b), some (.int (i : Nat)), some (.str (sideS r)), some (.ref d), some (.int (t : Nat)), some (.bl (!(iter xs S r i t).2.isEmpty)), s7, s8, s9, s10] ∧
      Same H H3 ∧ H3 d = some (.dK (kvs (iter xs S r i t).1)) ∧ n = meas (S.length + 1) (iter xs S r i t), ?_, ?_⟩
    · exact ⟨_, 0, none, none, none, none, rfl, s1.trans (same_new nT), same_new nT _ _ upd_same, rfl⟩
    · rintro n σ H3 ⟨t, s7, s8, s9, s10, rfl, sm, ed, rfl⟩
      refine ⟨_, rfl, _, rfl, ?_⟩
      cases hE : (iter xs S r i t).2.isEmpty with
      | true =>
        have hn : (iter xs S r i t).2 = [] := List.isEmpty_iff.mp hE
        refine iteF ⟨_, rfl, ?_⟩
        exact k d _ H3 sm nd ed (iter_spec t).1 (iter_len t) (iter_end hn)
      | false =>
        have hn : (iter xs S r i t).2 ≠ [] := fun z => by rw [z] at hE; cases hE
        refine iteT ⟨_, fun _ _ z => z, ?_⟩
        -- the stones of this tick
        have ndk := (iter_spec (xs := xs) (S := S) (r := r) (i := i) t).1
        have hlen := iter_len (xs := xs) (S := S) (r := r) (i := i) t
        have hlast := iter_last (xs := xs) (S := S) (r := r) (i := i) t
        refine seq_of (asg_of ?_)
        refine ⟨d, _, ed, True.intro, fun od => ?_⟩
        have edz : (upd H3 d (.frz od (.dK (kvs (iter xs S r i t).1)))) d = some (.frz od (.dK (kvs (iter xs S r i t).1))) := upd_same
        have smz : Same H (upd H3 d (.frz od (.dK (kvs (iter xs S r i t).1)))) := same_upd sm nd
        refine ⟨_, rfl, d, od, rfl, .inl ⟨_, edz, fun D nD => ?_⟩⟩
        have Dd : D ≠ d := fun z => by rw [z, edz] at nD; cases nD
        refine lc_fm (walk_keys (d := d) (o := od) (kvs := kvs (iter xs S r i t).1)) (iter xs S r i t).1 (fun p => p.2 == t) (·.1) (fun _ v k => v = .int ((k : Nat) : Int)) (kvs_len _).symm (by rw [kvs_len]; omega) nD (fun _ _ _ _ _ _ _ q => q) (fun _ e => e _ _ edz) ?_ ?_
        · rintro n ⟨m, u⟩ x G G' N' M' hm smG _ ⟨rfl, kk, vv, e1, rfl⟩ no go
          have ek : (kvs (iter xs S r i t).1)[n]? = some ((Sum.inl (m : Int) : Key), V.int (u : Int)) := by unfold kvs; rw [List.getElem?_map, hm]; rfl
          rw [ek] at e1
          obtain ⟨rfl, rfl⟩ : (Sum.inl (m : Int) : Key) = kk ∧ V.int (u : Int) = vv := by injection e1 with e1; injection e1 with a b; exact ⟨a, b⟩
          refine ⟨rfl, _, rfl, _, rfl, d, V.int (u : Int), rfl, .inl ⟨_, Sum.inl (m : Int), .inr ⟨od, smG _ _ edz⟩, rfl, (kvs_at ndk (List.mem_of_getElem? hm)).symm⟩, _, rfl, rfl, _, rfl, ?_⟩
          by_cases hu' : u = t
          · subst hu'
            rw [decide_eq_true (rfl : V.int (u : Int) = V.int (u : Int))]
            exact iteT ⟨_, rfl, go _ _ (by simp) (Same.refl _) rfl⟩
          · rw [decide_eq_false (fun z : V.int (u : Int) = V.int (t : Int) => hu' (by injection z with z; omega))]
            exact iteF (no _ (by simp [hu']) (Same.refl _))
        · intro G ys smG eD rel
          rw [hlast] at rel
          obtain rfl := pair_ints rel
          have edG : (upd G d (.dK (kvs (iter xs S r i t).1))) d = some (.dK (kvs (iter xs S r i t).1)) := upd_same
          have eDG : (upd G d (.dK (kvs (iter xs S r i t).1))) D = some (.lst (ivs (iter xs S r i t).2)) := by rw [upd_ne Dd]; exact eD
          have smR : Same H (upd G d (.dK (kvs (iter xs S r i t).1))) := same_upd (smz.trans smG) nd
          refine ⟨smG _ _ edz, D, rfl, ⟨_, SqL.of eDG⟩, for_list (K := K) (a := D) (xs := ivs (iter xs S r i t).2) (fun j σ H5 => ∃ (s7 s8 s9 s10 : Option V), σ = [some (.ref q), some (.ref b), some (.int (i : Nat)), some (.str (sideS r)), some (.ref d), some (.int (t : Nat)), some (.bl (!(((iter xs S r i t).2.take j).foldl (stepLv xs S r (t + 1)) ((iter xs S r i t).1, [])).2.isEmpty)), s7, s8, s9, s10] ∧
            Same H H5 ∧ H5 d = some (.dK (kvs (((iter xs S r i t).2.take j).foldl (stepLv xs S r (t + 1)) ((iter xs S r i t).1, [])).1)) ∧ H5 D = some (.lst (ivs (iter xs S r i t).2))) ?_ ?_ ?_ ?_⟩
          · exact ⟨_, _, _, _, rfl, smR, edG, eDG⟩
          · rintro j σ H5 _ ⟨_, _, _, _, _, _, _, e⟩
            exact SqL.of e
          · rintro j y σ H5 hy ⟨s7, s8, s9, s10, rfl, sm5, ed5, el5⟩
            obtain ⟨m, hm, rfl⟩ := ivs_get hy
            have hmx : m < xs.length := by
              have h1 := ((iter_spec (xs := xs) (S := S) (r := r) (i := i) t).2.2 m).mp (List.mem_of_getElem? hm)
              refine keyIn t m (List.mem_map.mpr ⟨(m, t), ((iter_spec t).2.1 m t).mpr ⟨Nat.le_refl _, h1⟩, rfl⟩)
            obtain ⟨x, hx⟩ : ∃ x, xs[m]? = some x := ⟨xs[m], by simp [hmx]⟩
            obtain ⟨ca, hca, hsca⟩ := hS.2 m x hx
            have eT : ((iter xs S r i t).2.take (j + 1)).foldl (stepLv xs S r (t + 1)) ((iter xs S r i t).1, []) = S.foldl (stepIn xs r (t + 1) m) (((iter xs S r i t).2.take j).foldl (stepLv xs S r (t + 1)) ((iter xs S r i t).1, [])) := by
              rw [List.take_add_one, hm, List.foldl_append]
              rfl
            rw [eT]
            generalize hst : ((iter xs S r i t).2.take j).foldl (stepLv xs S r (t + 1)) ((iter xs S r i t).1, []) = st at ed5
            have stl : st.1.length ≤ 110000 := by
              have h1 := lv_len (xs := xs) (S := S) (r := r) (t := t + 1) ((iter xs S r i t).2.take j) ((iter xs S r i t).1, [])
              rw [hst] at h1
              have h3 := lvl_len (xs := xs) (S := S) (r := r) (i := i) t
              have h4 : ((iter xs S r i t).2.take j).length ≤ 41 := by rw [List.length_take]; omega
              have h5 : ((iter xs S r i t).2.take j).length * S.length ≤ 41 * 40 := Nat.mul_le_mul h4 hc
              have h6 : ((iter xs S r i t).1, ([] : List Nat)).1.length = (iter xs S r i t).1.length := rfl
              omega
            refine ⟨_, rfl, b, rfl, ⟨_, sm5.seq hb⟩, for_list (K := K) (a := b) (xs := ivs S) (fun n σ H6 => ∃ (s8 s9 s10 : Option V), σ = [some (.ref q), some (.ref b), some (.int (i : Nat)), some (.str (sideS r)), some (.ref d), some (.int (t : Nat)), some (.bl (!((S.take n).foldl (stepIn xs r (t + 1) m) st).2.isEmpty)), some (.int (m : Nat)), s8, s9, s10] ∧
              Same H H6 ∧ H6 d = some (.dK (kvs ((S.take n).foldl (stepIn xs r (t + 1) m) st).1)) ∧ H6 D = some (.lst (ivs (iter xs S r i t).2))) ?_ ?_ ?_ ?_⟩
            · exact ⟨_, _, _, rfl, sm5, ed5, el5⟩
            · rintro n σ H6 _ ⟨_, _, _, _, sm6, _⟩
              exact sm6.seq hb
            · rintro n y σ H6 hy ⟨s8, s9, s10, rfl, sm6, ed6, el6⟩
              obtain ⟨o, ho, rfl⟩ := ivs_get hy
              have hox : o < xs.length := hlt o (List.mem_of_getElem? ho)
              obtain ⟨y, hy⟩ : ∃ y, xs[o]? = some y := ⟨xs[o], by simp [hox]⟩
              obtain ⟨cb, hcb, hscb⟩ := hS.2 o y hy
              have eS : (S.take (n + 1)).foldl (stepIn xs r (t + 1) m) st = stepIn xs r (t + 1) m ((S.take n).foldl (stepIn xs r (t + 1) m) st) o := by
                rw [List.take_add_one, ho, List.foldl_append]
                rfl
              rw [eS]
              have len := in_len (xs := xs) (r := r) (t := t + 1) (m := m) (S.take n) st
              rw [List.length_take] at len
              generalize (S.take n).foldl (stepIn xs r (t + 1) m) st = sn at ed6 len
              have hit : hitB xs r m o = (decide (0 < far x y r) && decide (far x y r ≤ x.2)) := by unfold hitB; rw [hx, hy]
              -- away
              refine ⟨_, rfl, _, rfl, q, us, _, _, rfl, rfl, sm6.seq hq, atI_nat hcb, cb, _, ((0 : Nat) : Int), _, rfl, rfl, sqT_same hscb sm6, atI_nat (j := 0) rfl, _, rfl, _, rfl, q, us, _, _, rfl, rfl, sm6.seq hq, atI_nat hca, ca, _, ((0 : Nat) : Int), _, rfl, rfl, sqT_same hsca sm6, atI_nat (j := 0) rfl, _, _, rfl, rfl, ?_⟩
              refine seq_of (asg_of (if_side (n := 3) (r := r) (v := .int (far x y r)) rfl (fun e Q' q' => ?_) (fun e Q' q' => ?_) ?_))
              · subst e
                exact ⟨_, rfl, q'⟩
              · subst e
                refine ⟨_, rfl, _, _, rfl, rfl, ?_⟩
                show Q' (V.int (0 - (y.1 - x.1))) H6
                rw [show (0 : Int) - (y.1 - x.1) = far x y false by show _ = x.1 - y.1; omega]
                exact q'
              have no : stepIn xs r (t + 1) m sn o = sn → ∀ s10, ∃ s8' s9' s10', [some (.ref q), some (.ref b), some (.int (i : Nat)), some (.str (sideS r)), some (.ref d), some (.int (t : Nat)), some (.bl (!sn.2.isEmpty)), some (.int (m : Nat)), s8, some (.int (o : Nat)), s10] = [some (.ref q), some (.ref b), some (.int (i : Nat)), some (.str (sideS r)), some (.ref d), some (.int (t : Nat)), some (V.bl (!(stepIn xs r (t + 1) m sn o).2.isEmpty)), some (.int (m : Nat)), s8', s9', s10'] ∧
                  Same H H6 ∧ H6 d = some (.dK (kvs (stepIn xs r (t + 1) m sn o).1)) ∧ H6 D = some (.lst (ivs (iter xs S r i t).2)) := fun e s10 => by
                rw [e]
                exact ⟨_, _, _, rfl, sm6, ed6, el6⟩
              refine ⟨_, rfl, _, rfl, d, _, rfl, DGet.k (k := Sum.inl (o : Int)) ed6, _, rfl, ?_⟩
              cases hv : valV (kvs sn.1) (Sum.inl (o : Int) : Key) with
              | some v =>
                refine iteF ?_
                refine no ?_ _
                unfold stepIn
                rw [if_neg (fun z => by rw [kvs_none.mpr z.2] at hv; cases hv)]
              | none =>
                have nk := kvs_none.mp hv
                refine iteT ?_
                refine ⟨_, rfl, _, _, rfl, rfl, _, rfl, ?_⟩
                refine ite2 (fun h1 => ?_) (fun h1 => ?_)
                · refine ⟨_, rfl, _, rfl, q, us, _, _, rfl, rfl, sm6.seq hq, atI_nat hca, ca, _, ((1 : Nat) : Int), _, rfl, rfl, sqT_same hsca sm6, atI_nat (j := 1) rfl, _, _, rfl, rfl, _, rfl, ?_⟩
                  refine ite2 (fun h2 => ?_) (fun h2 => ?_)
                  · have hh : hitB xs r m o = true := by rw [hit, h1, h2]; rfl
                    have e : stepIn xs r (t + 1) m sn o = (sn.1 ++ [(o, t + 1)], sn.2 ++ [o]) := by
                      unfold stepIn
                      rw [if_pos ⟨hh, nk⟩]
                    rw [e]
                    refine ⟨_, rfl, _, _, rfl, rfl, by show 2 ≤ sizeLine; decide, fun T6 nT6 => ?_⟩
                    have ed7 := same_new (o := .tup [V.int ((t : Int) + 1), V.bl true]) nT6 _ _ ed6
                    have el7 := same_new (o := .tup [V.int ((t : Int) + 1), V.bl true]) nT6 _ _ el6
                    have sm7 := sm6.trans (same_new (o := .tup [V.int ((t : Int) + 1), V.bl true]) nT6)
                    refine ⟨T6, _, rfl, SqT.of upd_same, rfl, _, _, rfl, _, rfl, _, rfl, d, _, rfl, DPut.k (k := Sum.inl (o : Int)) ed7 (by rw [kvs_len, sizeLine_eq]; omega), _, _, rfl, rfl, ?_⟩
                    have ep : putK (kvs sn.1) (Sum.inl (o : Int) : Key) (V.int ((t : Int) + 1)) = kvs (sn.1 ++ [(o, t + 1)]) := kvs_put (t := t + 1) nk
                    refine ⟨s8, some (.int (o : Nat)), some (.int (far x y r)), ?_, same_upd sm7 nd, ?_, ?_⟩
                    · have eb : (!(sn.2 ++ [o]).isEmpty) = true := by simp
                      show _ = [some (V.ref q), some (.ref b), some (.int (i : Nat)), some (.str (sideS r)), some (.ref d), some (.int (t : Nat)), some (.bl (!(sn.2 ++ [o]).isEmpty)), some (.int (m : Nat)), s8, some (.int (o : Nat)), some (.int (far x y r))]
                      rw [eb]
                      rfl
                    · rw [upd_same, ep]
                    · rw [upd_ne Dd]
                      exact el7
                  · have hf : decide (far x y r ≤ x.2) = false := Bool.eq_false_iff.mpr h2
                    refine no ?_ _
                    unfold stepIn
                    rw [if_neg (fun z => by rw [hit, hf, Bool.and_false] at z; cases z.1)]
                · have hf : decide (0 < far x y r) = false := Bool.eq_false_iff.mpr h1
                  refine ⟨false, rfl, iteF ?_⟩
                  refine no ?_ _
                  unfold stepIn
                  rw [if_neg (fun z => by rw [hit, hf, Bool.false_and] at z; cases z.1)]
            · rintro σ H6 ⟨s8, s9, s10, rfl, sm6, ed6, el6⟩
              rw [show (ivs S).length = S.length from by unfold ivs; simp, List.take_length] at ed6 ⊢
              exact ⟨_, _, _, _, rfl, sm6, ed6, el6⟩
          · rintro σ H5 ⟨s7, s8, s9, s10, rfl, sm5, ed5, el5⟩
            have eI : ((iter xs S r i t).2.take (ivs (iter xs S r i t).2).length).foldl (stepLv xs S r (t + 1)) ((iter xs S r i t).1, []) = iter xs S r i (t + 1) := by
              rw [show (ivs (iter xs S r i t).2).length = (iter xs S r i t).2.length from by unfold ivs; simp, List.take_length]
              rfl
            rw [eI] at ed5 ⊢
            exact ⟨_, rfl, _, _, rfl, rfl, _, iter_meas t hn, t + 1, _, _, _, _, rfl, sm5, ed5, rfl⟩
end
/-! ### numbers of stones -/
theorem numB_some {v : V} {lo hi : Int} (h : numB v lo hi = true) : ∃ i, v = .int i ∧ lo ≤ i ∧ i ≤ hi := by
  cases v with
  | int i =>
    have h : (decide (lo ≤ i) && decide (i ≤ hi)) = true := h
    rw [Bool.and_eq_true] at h
    exact ⟨i, rfl, of_decide_eq_true h.1, of_decide_eq_true h.2⟩
  | _ => cases h
/-! ### fall_ticks -/
def tickOf : List (Nat × Nat) → Nat → Nat
  | [], _ => 0
  | p :: fs, j => if p.1 = j then p.2 else tickOf fs j
theorem tickOf_mem : ∀ {fs : List (Nat × Nat)} {j u : Nat}, (fs.map (·.1)).Nodup → (j, u) ∈ fs → tickOf fs j = u
  | [], _, _, _, h => nomatch h
  | p :: fs, j, u, nd, h => by
    rw [List.map_cons, List.nodup_cons] at nd
    unfold tickOf
    rcases List.mem_cons.mp h with e | g
    · rw [← e, if_pos rfl]
    · rw [if_neg (fun z => nd.1 (by rw [z]; exact List.mem_map.mpr ⟨(j, u), g, rfl⟩))]
      exact tickOf_mem nd.2 g
theorem kvs_get : ∀ {fs : List (Nat × Nat)} {j u : Nat}, (fs.map (·.1)).Nodup → (j, u) ∈ fs → valV (kvs fs) (Sum.inl (j : Int) : Key) = some (V.int (u : Int))
  | [], _, _, _, h => nomatch h
  | p :: fs, j, u, nd, h => by
    rw [List.map_cons, List.nodup_cons] at nd
    have c : kvs (p :: fs) = ((Sum.inl (p.1 : Int) : Key), V.int (p.2 : Int)) :: kvs fs := rfl
    rw [c]
    rcases List.mem_cons.mp h with e | g
    · rw [← e, valV_pos rfl]
    · rw [valV_neg (fun z => ?_)]
      · exact kvs_get nd.2 g
      · have z : (Sum.inl (p.1 : Int) : Key) = Sum.inl (j : Int) := z
        injection z with z
        exact nd.1 (by rw [show p.1 = j by omega]; exact List.mem_map.mpr ⟨(j, u), g, rfl⟩)
theorem kvs_keys (fs : List (Nat × Nat)) : (kvs fs).map (·.1) = (fs.map fun p => (p.1 : Int)).map Sum.inl := by
  unfold kvs
  rw [List.map_map, List.map_map]
  rfl
/-- the pairs by their sorted keys -/
theorem by_keys {fs : List (Nat × Nat)} (nd : (fs.map (·.1)).Nodup) {ys : List Int} (p : ys.Perm (fs.map fun p => (p.1 : Int))) (s : ys.Pairwise (· ≤ ·)) :
    ∃ gs : List (Nat × Nat), ys = gs.map (fun p => (p.1 : Int)) ∧ gs.Pairwise (fun a b => a.1 < b.1) ∧ (∀ q, q ∈ gs ↔ q ∈ fs) ∧ gs.length = fs.length := by
  have eF : (fs.map fun p => (p.1 : Int)) = (fs.map (·.1)).map fun (k : Nat) => (k : Int) := by rw [List.map_map]; rfl
  rw [eF] at p
  have ey : ys = (ys.map Int.toNat).map fun (k : Nat) => (k : Int) := by
    rw [List.map_map]
    refine ((List.map_id _).symm).trans (List.map_congr_left fun y hy => ?_)
    obtain ⟨k, _, rfl⟩ := List.mem_map.mp (p.mem_iff.mp hy)
    show (k : Int) = ((k : Int).toNat : Int)
    omega
  have pk : (ys.map Int.toNat).Perm (fs.map (·.1)) := by
    have := p.map Int.toNat
    rw [List.map_map] at this
    refine this.trans (.of_eq ?_)
    refine (List.map_congr_left fun k _ => ?_).trans (List.map_id _)
    exact Int.toNat_natCast k
  generalize ys.map Int.toNat = ks at ey pk
  subst ey
  have ndk : ks.Nodup := pk.nodup_iff.mpr nd
  refine ⟨ks.map fun j => (j, tickOf fs j), ?_, ?_, fun q => ?_, ?_⟩
  · rw [List.map_map]
    rfl
  · rw [List.pairwise_map]
    rw [List.pairwise_map] at s
    exact (List.pairwise_and_iff.mpr ⟨s, ndk⟩).imp fun {a b} h => by
      have h1 : (a : Int) ≤ (b : Int) := h.1
      have h2 : a ≠ b := h.2
      show a < b
      omega
  · obtain ⟨j, u⟩ := q
    rw [List.mem_map]
    constructor
    · rintro ⟨j', hj, e⟩
      obtain ⟨rfl, rfl⟩ := Prod.mk.inj e
      obtain ⟨⟨j2, u2⟩, h1, h2⟩ := List.mem_map.mp (pk.mem_iff.mp hj)
      have h2 : j2 = j' := h2
      subst h2
      rw [tickOf_mem nd h1]
      exact h1
    · intro h
      exact ⟨j, pk.mem_iff.mpr (List.mem_map.mpr ⟨(j, u), h, rfl⟩), by rw [tickOf_mem nd h]⟩
  · rw [List.length_map, pk.length_eq, List.length_map]
def spReaches (K : PySem.W.Frag) : Sp := fun vs H Q _ => ∃ (a b : Addr) (x y : Int × Int), vs = [.ref a, .ref b] ∧ SqT K H a [.int x.1, .int x.2] ∧ SqT K H b [.int y.1, .int y.2] ∧ Q (.bl (decide (ab (y.1 - x.1) ≤ x.2))) H
def spTicks (K : PySem.W.Frag) (C C2 C3 : Addr) : Sp := fun vs H Q E => ∃ (p : Addr) (xs : List (Int × Int)) (v sv : V) (d : PyData), vs = [.ref p, v, sv] ∧ RowAt K C H p xs ∧ Wf 0 xs ∧ xs.length ≤ 40 ∧ Known K H v ∧ Dp K H sv d ∧ SeqAt.shaped d = true ∧
  (numB v 0 ((xs.length : Int) - 1) = false → E (.ref C2) none H) ∧ (numB v 0 ((xs.length : Int) - 1) = true → sideD d = false → E (.ref C3) none H) ∧
  ∀ (i : Nat) (r : Bool), v = .int (i : Int) → sv = .str (sideS r) → i < xs.length → ∀ (z : Addr) (gs : List (Nat × Nat)) (H' : Hp), Same H H' → H z = none → H' z = some (.dK (kvs gs)) → Ticks xs r i gs → Q (.ref z) H'
theorem near_take {xs : List (Int × Int)} {fs : List (Nat × Nat)} {o n : Nat} {p : Nat × Nat} (h : fs[n]? = some p) : nearT xs (fs.take (n + 1)) o = nearT xs (fs.take n) o ++ if touch xs p.1 o then [p.2] else [] := by
  unfold nearT
  rw [List.take_add_one, h, List.filter_append, List.map_append]
  cases e : touch xs p.1 o <;> simp [e]
section
variable {P : Program} {w : World} {K : PySem.W.Frag} {mg : Str → Option Value} {base : Heap}
theorem ok_reaches {f : Addr} {fd : FuncData} (F : Fun K "_reaches" "_reaches" s_reaches f fd) (B : Blt mg) : FnOk P w K mg base CX0 1 f fd ["stone", "other"] (spReaches K) := by
  refine F.ok sc_reaches (fun vs H Q E h => ?_) (fun cdv A outer s H vs Q E hr h => ?_)
  · obtain ⟨a, b, x, y, rfl, _⟩ := h
    rfl
  · obtain ⟨a, b, x, y, rfl, ha, hb, k⟩ := h
    refine ⟨_, pss_cons (ps_asg (pv 0) (pg_tup rfl (pgs_cons (pg_name (i := 2) sc_reaches.nd rfl (Or.inl rfl)) (pgs_cons (pg_name (i := 3) sc_reaches.nd rfl (Or.inl rfl)) pgs_nil)))) (pss_one (ps_ret (pe_cmpR (op_le) (pe_callB (call_abs) (by rfl) B.abs boot_abs (pa_cons (pe_op op_sub (pe_ix ix_tup (pv 1) (pe_int) (fun _ _ => rfl)) (pv 2)) pa_nil)) (pv 3) (nomark _)))), ?_⟩
    refine ⟨_, rfl, a, _, rfl, ha, rfl, _, _, rfl, _, _, rfl, rfl, ?_⟩
    refine ⟨_, rfl, b, _, ((0 : Nat) : Int), _, rfl, rfl, hb, atI_nat (j := 0) rfl, _, rfl, _, _, rfl, rfl, _, rfl, _, rfl, _, _, rfl, rfl, ?_⟩
    exact k
theorem ok_ticks {f C C2 C3 pP gP gL g1 g2 g3 g4 : Addr} {fd dP d1 d2 d3 d4 : FuncData} (F : Fun K "fall_ticks" "fall_ticks" s_fall_ticks f fd) (B : Blt mg) (R : RowC K mg C) (SL : Sign K C "__len__" gL) (GL : FnR P w K mg base CX0 1 gL (spLen K C))
    (pr : PropOf K C "stones" pP gP) (P1 : FnOk P w K mg base CX0 1 gP dP ["self"] (spGet K C)) (bP : Binds K dP ["self"] [])
    (N1 : At P w K mg base (L2.CX P w) 2 "check_stone" ["stone", "count"] (spCheckStoneX K C2) g1 d1) (N2 : At P w K mg base (L2.CX P w) 1 "check_side" ["side"] (spCheckSideX K C3) g2 d2)
    (N3 : At P w K mg base CX0 1 "stones_beside" ["stone", "side", "count"] spBeside g3 d3) (N4 : At P w K mg base CX0 1 "_reaches" ["stone", "other"] (spReaches K) g4 d4) :
    FnOk P w K mg base (L2.CX P w) 3 f fd ["row", "stone", "side"] (spTicks K C C2 C3) := by
  refine F.okX sc_fall_ticks (fun vs H Q E h => ?_) (fun cdv A outer s H vs Q E hr h => ?_)
  · obtain ⟨p, xs, v, sv, d, rfl, _⟩ := h
    rfl
  · obtain ⟨p, xs, v, sv, d, rfl, hR, hw, hz, kn, hd, sd, h1, h2, k⟩ := h
    obtain ⟨dx, t, us, ep, hT, hS⟩ := id hR
    have r1 : Room 1 _ := hr.mono (by decide)
    have hu := hu_of hr
    refine ⟨_, pss_cons (ps_expr (pe_atE N1 hr (takes_of rfl rfl rfl rfl) (pa_cons (pv 1) (pa_cons (pe_callB (Own.call_len SL.at_ SL.fn GL hr pass0) (by rfl) B.len PySem.boot_len (pa_cons (pv 0) pa_nil)) pa_nil))))
      (pss_cons (ps_expr (pe_atE N2 r1 (takes_of rfl rfl rfl rfl) (pa_cons (pv 2) pa_nil)))
      (pss_cons (ps_set (i := 3) sc_fall_ticks.nd rfl (Or.inr rfl) (pe_prop (pv 0) R.cl pr P1 hr bP .nil pass0 rfl))
      (pss_cons (ps_set (i := 4) sc_fall_ticks.nd rfl (Or.inr rfl) (pe_disp (pps_cons (pv 1) pe_int pps_nil) (by rfl) (by rfl) (fun z => by cases z) (by decide)))
      (pss_cons (ps_for (passes_of rfl) rfl (pi_list (pe_at N3 r1 (pa_cons (pv 1) (pa_cons (pv 2) (pa_cons (pe_callB (Own.call_len SL.at_ SL.fn GL hr pass0) (by rfl) B.len PySem.boot_len (pa_cons (pv 0) pa_nil)) pa_nil))))) (pg_name (i := 5) sc_fall_ticks.nd rfl (Or.inr rfl))
        (pss_cons (ps_lock (ps_setLc (i := 6) (own := [("fallen", 7)]) (g := gName 7) rfl sc_fall_ticks.nd rfl rfl (sw_true rfl rfl rfl (by decide +kernel)) (pi_keys (pv 4)) (blkOk_by (N := n_fall_ticks) (sc := defScope s_fall_ticks) (by decide +kernel))
          (fun _ _ _ _ _ => pg_name (i := 7) sc_fall_ticks.nd rfl (Or.inl rfl)) (fun _ _ _ _ _ => pts_one (show PT _ _ (tB (tCall (spReaches K) [] E0 (tCons (tOp (rIxT K) (tVar 3) (tVar 7)) (tCons (tOp (rIxT K) (tVar 3) (tVar 5)) tNil)))) from pt_val (pe_at N4 r1 (pa_cons (pe_ix ix_tup (pv 3) (pv 7) (fun _ _ => rfl)) (pa_cons (pe_ix ix_tup (pv 3) (pv 5) (fun _ _ => rfl)) pa_nil)))))
          (fun _ _ _ _ _ => pe_dget hu (pv 4) (pv 7) (fun _ _ => rfl))))
        (pss_one (ps_if (pt_truth (pv 6) (by intro _; rfl)) (pss_one (ps_dput hu (pv 4) (pv 5) (pe_op op_add (pe_callB ((cr_min rfl)) (by rfl) B.min boot_min (pa_cons (pv 6) pa_nil)) (pe_int)) rfl)) pss_nil))))
      (pss_one (ps_ret (pe_dc (own := [("fallen", 7)]) (g := gName 7) rfl sc_fall_ticks.nd (pi_list (pe_callB ((DictI.cr_sortedDI rfl)) (by rfl) B.sorted boot_sorted (pa_cons (pv 4) pa_nil))) (blkOk_by (N := n_fall_ticks) (sc := defScope s_fall_ticks) (by decide +kernel))
        (fun _ _ _ _ _ => pg_name (i := 7) sc_fall_ticks.nd rfl (Or.inl rfl)) (fun _ _ _ _ _ => pts_nil) (fun _ _ _ _ _ => pv 7) (fun _ _ _ _ _ => pe_dget hu (pv 4) (pv 7) (fun _ _ => rfl))))))))), ?_⟩
    -- check_stone, check_side
    refine ⟨_, rfl, _, rfl, p, dx, _, rfl, ep, p, xs, rfl, hR, _, rfl, by omega, by omega, v, xs.length, rfl, kn, by omega, fun e => ?_, h1⟩
    refine ⟨_, rfl, sv, d, rfl, hd, sd, fun e2 => ?_, fun e2 => h2 e e2⟩
    obtain ⟨i0, rfl, i1, i2⟩ := numB_some e
    obtain ⟨r, rfl⟩ := side_some hd e2
    obtain ⟨i, rfl⟩ : ∃ i : Nat, i0 = (i : Int) := ⟨i0.toNat, by omega⟩
    have hi : i < xs.length := by omega
    have k := k i r rfl rfl hi
    have hx := hw.inc
    -- stones
    refine ⟨_, rfl, p, dx, _, rfl, ep, p, xs, rfl, hR, fun t us hT hS => ?_⟩
    refine nm_of ?_
    -- ticks
    refine fun dd nd => ⟨_, rfl, upd_same, [((Sum.inl (i : Int) : Key), V.int 0)], rfl, by show 1 ≤ 15; decide, ?_⟩
    have eM : upd (upd H dd (.dK [])) dd (.dK (mergeK [] [((Sum.inl (i : Int) : Key), V.int 0)])) = upd H dd (.dK (kvs [(i, 0)])) := upd_upd
    rw [eM]
    refine nm_of ?_
    have s1 : Same H (upd H dd (.dK (kvs [(i, 0)]))) := same_new nd
    have ed1 : (upd H dd (.dK (kvs [(i, 0)]))) dd = some (.dK (kvs [(i, 0)])) := upd_same
    generalize upd H dd (.dK (kvs [(i, 0)])) = H1 at s1 ed1
    -- the stones beside
    refine ⟨_, rfl, _, rfl, _, rfl, p, dx, _, rfl, s1 _ _ ep, p, xs, rfl, hR.same s1, _, rfl, by omega, by omega, i, xs.length, r, rfl, hi, by omega, fun q nq => ?_⟩
    have s2 : Same H (upd H1 q (.lst (ivs (beside r i xs.length)))) := s1.trans (same_new nq)
    have dq : dd ≠ q := ne_of_none ed1 nq
    have blen := beside_length r i xs.length
    have bm : bmax r i xs.length < xs.length := by cases r <;> simp [bmax] <;> omega
    refine ⟨q, rfl, ⟨_, SqL.of upd_same⟩, for_list (K := K) (a := q) (xs := ivs (beside r i xs.length)) (fun j σ H3 => ∃ (fs : List (Nat × Nat)) (s5 s6 s7 : Option V), σ = [some (.ref p), some (.int (i : Nat)), some (.str (sideS r)), some (.ref t), some (.ref dd), s5, s6, s7] ∧
      Same H H3 ∧ H3 dd = some (.dK (kvs fs)) ∧ H3 q = some (.lst (ivs (beside r i xs.length))) ∧ TickI xs r i j fs) ?_ ?_ ?_ ?_⟩
    · exact ⟨[(i, 0)], none, none, none, rfl, s2, by rw [upd_ne dq]; exact ed1, upd_same, TickI.start⟩
    · rintro j σ H3 _ ⟨_, _, _, _, _, _, _, e, _⟩
      exact SqL.of e
    · rintro j y σ H3 hy ⟨fs, s5, s6, s7, rfl, sm, ed, eq, T⟩
      obtain ⟨o, ho, rfl⟩ := ivs_get hy
      have hj : j < bmax r i xs.length := by rw [← blen]; exact (List.getElem?_eq_some_iff.mp ho).1
      obtain rfl : bpos r i (j + 1) = o := Option.some.inj ((beside_at hj).symm.trans ho)
      have hox : bpos r i (j + 1) < xs.length := bpos_lt hi hj
      obtain ⟨y, hy⟩ : ∃ y, xs[bpos r i (j + 1)]? = some y := ⟨xs[bpos r i (j + 1)], by simp [hox]⟩
      obtain ⟨cb, hcb, hscb⟩ := hS.2 _ y hy
      have fl : fs.length ≤ 41 := by have := T.len; omega
      refine nm_of ?_
      -- hits
      refine ⟨dd, _, ed, True.intro, fun od => ?_⟩
      have edz : (upd H3 dd (.frz od (.dK (kvs fs)))) dd = some (.frz od (.dK (kvs fs))) := upd_same
      refine ⟨_, rfl, dd, od, rfl, .inl ⟨kvs fs, edz, fun D nD => ?_⟩⟩
      have Dd : D ≠ dd := fun z => by rw [z, edz] at nD; cases nD
      have nD3 : H3 D = none := by rw [upd_ne Dd] at nD; exact nD
      refine lc_it (walk_keys (d := dd) (o := od) (kvs := kvs fs)) (fun n G => G dd = some (.frz od (.dK (kvs fs))) ∧ (∀ b o, b ≠ dd → H3 b = some o → G b = some o) ∧ G D = some (.lst (ivs (nearT xs (fs.take n) (bpos r i (j + 1)))))) ?_ ?_ ?_ ?_
      · exact ⟨by rw [upd_ne (Ne.symm Dd)]; exact edz, fun b o n e => by rw [upd_ne (ne_of_none e nD3), upd_ne n]; exact e, upd_same⟩
      · rintro n G _ ⟨e, _⟩
        exact e
      · rintro n x G G' hn ⟨eG, bG, eD⟩ ⟨rfl, kk, vv, e1, rfl⟩
        rw [kvs_len] at hn
        obtain ⟨⟨m, u⟩, hm⟩ : ∃ q, fs[n]? = some q := ⟨fs[n], by simp [hn]⟩
        have ek : (kvs fs)[n]? = some ((Sum.inl (m : Int) : Key), V.int (u : Int)) := by unfold kvs; rw [List.getElem?_map, hm]; rfl
        rw [ek] at e1
        obtain ⟨rfl, rfl⟩ : (Sum.inl (m : Int) : Key) = kk ∧ V.int (u : Int) = vv := by injection e1 with e1; injection e1 with a b; exact ⟨a, b⟩
        have hmf : (m, u) ∈ fs := List.mem_of_getElem? hm
        have hmx : m < xs.length := by
          obtain ⟨⟨dd', hd', e⟩, _⟩ := (T.has m u).mp hmf
          rw [e]
          exact bpos_lt hi (by omega)
        obtain ⟨x, hx1⟩ : ∃ x, xs[m]? = some x := ⟨xs[m], by simp [hmx]⟩
        obtain ⟨ca, hca, hsca⟩ := hS.2 m x hx1
        have up : ∀ {a : Addr} {zs : List V}, SqT K H a zs → SqT K G' a zs := fun {a zs} h => by
          have h3 := sqT_same h sm
          rcases h3 with (h3 | ⟨ob, h3⟩) | h3
          · exact .inl (.inl (bG _ _ (fun z => by rw [z, ed] at h3; cases h3) h3))
          · exact .inl (.inr ⟨ob, bG _ _ (fun z => by rw [z, ed] at h3; cases h3) h3⟩)
          · exact .inr h3
        have eN := near_take (xs := xs) (o := bpos r i (j + 1)) hm
        have et : decide (ab (y.1 - x.1) ≤ x.2) = touch xs m (bpos r i (j + 1)) := by
          unfold touch
          rw [(pl_of hy).1, (pl_of hx1).1, (pl_of hx1).2]
        refine ⟨rfl, _, rfl, _, rfl, t, us, _, _, rfl, rfl, up hT, atI_nat hca, _, rfl, _, rfl, t, us, _, _, rfl, rfl, up hT, atI_nat hcb, ca, cb, x, y, rfl, up hsca, up hscb, _, rfl, ?_⟩
        rw [et, eN]
        cases touch xs m (bpos r i (j + 1)) with
        | true =>
          refine iteT ⟨_, rfl, _, rfl, dd, V.int (u : Int), rfl, ?_, _, eD, ?_, ?_, fun b o n e => ?_, ?_⟩
          · exact .inl ⟨kvs fs, Sum.inl (m : Int), .inr ⟨od, eG⟩, rfl, (kvs_get T.nd hmf).symm⟩
          · unfold ivs nearT
            rw [List.length_map, List.length_map, sizeLine_eq]
            have := List.length_filter_le (fun p : Nat × Nat => touch xs p.1 (bpos r i (j + 1))) (fs.take n)
            rw [List.length_take] at this
            omega
          · rw [upd_ne (Ne.symm Dd)]; exact eG
          · rw [upd_ne (ne_of_none e nD3)]; exact bG b o n e
          · rw [upd_same]
            unfold ivs
            simp
        | false => exact iteF ⟨eG, bG, by rw [eD]; simp⟩
      · rintro G ⟨eG, bG, eD⟩
        rw [kvs_len, List.take_length] at eD
        refine ⟨eG, ?_⟩
        have smG : Same H (upd G dd (.dK (kvs fs))) := fun b o e => by
          have nb : b ≠ dd := ne_of_none e nd
          rw [upd_ne nb]
          exact bG b o nb (sm _ _ e)
        have eDG : (upd G dd (.dK (kvs fs))) D = some (.lst (ivs (nearT xs fs (bpos r i (j + 1))))) := by rw [upd_ne Dd]; exact eD
        have edG : (upd G dd (.dK (kvs fs))) dd = some (.dK (kvs fs)) := upd_same
        have eqG : (upd G dd (.dK (kvs fs))) q = some (.lst (ivs (beside r i xs.length))) := by rw [upd_ne (Ne.symm dq)]; exact bG _ _ (Ne.symm dq) eq
        generalize upd G dd (.dK (kvs fs)) = G2 at smG eDG edG eqG
        refine nm_of ?_
        dsimp only [List.set]
        -- if hits
        refine ⟨_, rfl, _, .inl ⟨_, SqL.of eDG, rfl⟩, ?_⟩
        cases hn : nearT xs fs (bpos r i (j + 1)) with
        | nil => exact iteF ⟨fs, _, _, _, rfl, smG, edG, eqG, T.none hx hi hj hn⟩
        | cons m0 ms =>
          have eI : ivs (m0 :: ms) = ((m0 :: ms).map fun (k : Nat) => (k : Int)).map V.int := by unfold ivs; rw [List.map_map]; rfl
          rw [hn, eI] at eDG
          refine iteT ⟨_, rfl, D, _, rfl, SqL.of eDG, by simp, fun m hm hle => ⟨_, _, rfl, rfl, _, rfl, _, rfl, dd, _, rfl, DPut.k (k := Sum.inl (bpos r i (j + 1) : Int)) edG (by rw [kvs_len, sizeLine_eq]; omega), ?_⟩⟩
          obtain ⟨m', hm', rfl⟩ := List.mem_map.mp hm
          obtain ⟨new, T'⟩ := T.some hx hi hj (m := m') (by rw [hn]; exact hm') (by
            rw [hn]
            intro y hy
            have := hle (y : Int) (List.mem_map.mpr ⟨y, hy, rfl⟩)
            omega)
          have ep' : putK (kvs fs) (Sum.inl (bpos r i (j + 1) : Int) : Key) (V.int ((m' : Int) + 1)) = kvs (fs ++ [(bpos r i (j + 1), m' + 1)]) := kvs_put (t := m' + 1) new
          rw [ep']
          refine ⟨_, _, _, _, rfl, same_upd smG nd, upd_same, ?_, T'⟩
          rw [upd_ne (Ne.symm dq)]
          exact eqG
    · rintro σ H3 ⟨fs, s5, s6, s7, rfl, sm, ed, eq, T⟩
      rw [show (ivs (beside r i xs.length)).length = bmax r i xs.length by unfold ivs; rw [List.length_map, blen]] at T
      have fl : fs.length ≤ xs.length := by have := T.len; omega
      -- the dict by sorted stones
      refine ⟨_, rfl, dd, kvs fs, _, rfl, .inl ed, kvs_keys fs, fun ys l pm so nl => ⟨l, rfl, ⟨_, SqL.of upd_same⟩, fun D nD => ?_⟩⟩
      obtain ⟨gs, rfl, gup, ghas, glen⟩ := by_keys T.nd pm so
      have sl := same_new (o := .lst ((gs.map fun p => (p.1 : Int)).map V.int)) nl
      have edl := sl _ _ ed
      have ell : (upd H3 l (.lst ((gs.map fun p => (p.1 : Int)).map V.int))) l = some (.lst ((gs.map fun p => (p.1 : Int)).map V.int)) := upd_same
      have sml := sm.trans sl
      generalize upd H3 l (.lst ((gs.map fun p => (p.1 : Int)).map V.int)) = H4 at edl ell sml nD
      have Dl : l ≠ D := ne_of_none ell nD
      have Ddd : dd ≠ D := ne_of_none edl nD
      have gnd : (gs.map (·.1)).Nodup := by
        refine (List.pairwise_map.mpr gup).imp fun {a b} h => ?_
        exact Nat.ne_of_lt h
      refine DictI.dc_it (walk_list (K := K) (a := l) (xs := (gs.map fun p => (p.1 : Int)).map V.int)) (fun n G => But D H4 G ∧ G D = some (.dK (kvs (gs.take n)))) ⟨but_upd, upd_same⟩ ?_ ?_ ?_
      · rintro n G _ ⟨b, _⟩
        exact SqL.of (b _ _ Dl ell)
      · rintro n x G G' hn ⟨b, eD⟩ ⟨rfl, hx⟩
        rw [List.length_map, List.length_map] at hn
        obtain ⟨⟨m, u⟩, hm⟩ : ∃ q, gs[n]? = some q := ⟨gs[n], by simp [hn]⟩
        rw [List.getElem?_map, List.getElem?_map, hm] at hx
        obtain rfl : V.int (m : Int) = x := Option.some.inj hx
        have hmf : (m, u) ∈ fs := (ghas _).mp (List.mem_of_getElem? hm)
        refine ⟨rfl, _, rfl, _, rfl, _, rfl, dd, V.int (u : Int), rfl, ?_, _, Sum.inl (m : Int), rfl, eD, ?_, b.trans but_upd, ?_⟩
        · exact .inl ⟨kvs fs, Sum.inl (m : Int), .inl (b _ _ Ddd edl), rfl, (kvs_get T.nd hmf).symm⟩
        · rw [kvs_len, List.length_take, sizeLine_eq]
          omega
        · have new : m ∉ (gs.take n).map (·.1) := fun z => by
            rw [List.map_take] at z
            obtain ⟨a, ha, e⟩ := List.mem_take_iff_getElem.mp z
            have h2 : (gs.map (·.1))[n]? = some m := by rw [List.getElem?_map, hm]; rfl
            have h1 : (gs.map (·.1))[a]? = some m := by rw [List.getElem?_eq_getElem (by omega)]; exact congrArg some e
            have := (List.getElem?_inj (by omega) gnd).mp (h1.trans h2.symm)
            omega
          rw [upd_same, List.take_add_one, hm]
          exact congrArg (fun z => some (HO.dK z)) (kvs_put (t := u) new)
      · rintro G ⟨b, eD⟩
        rw [List.length_map, List.length_map, List.take_length] at eD
        have smG : Same H G := sml.trans (But.same b nD)
        refine k D gs G smG (Same.free sml nD) eD ⟨gup, fun a u => ?_, by omega⟩
        rw [ghas]
        exact T.all hx hi a u
end
/-! ### the law's draws -/
def Drw (K : PySem.W.Frag) (H : Hp) (L a : Addr) (ns : List Int) : Prop := ∃ i s r : Int, H L = some (.lst [.ref a, .int i, .int s, .int r]) ∧ 0 ≤ i ∧ 0 ≤ s ∧ s < 2147483647 ∧ SqL K H a (ns.map V.int)
theorem Drw.up {K : PySem.W.Frag} {H H' : Hp} {L a : Addr} {ns : List Int} (h : Drw K H L a ns) (e : Same H H') : Drw K H' L a ns :=
  let ⟨i, s, r, h1, h2, h3, h4, h5⟩ := h; ⟨i, s, r, e _ _ h1, h2, h3, h4, e.seq h5⟩
theorem script_stays {K : PySem.W.Frag} {H : Hp} {L a : Addr} {ns : List Int} {o : HO} {vs : List V} (h : H L = some (.lst (.ref a :: vs))) (hs : SqL K H a (ns.map V.int)) : SqL K (upd H L o) a (ns.map V.int) := by
  have ne : ∀ u, H a = some u → (u = .lst (ns.map V.int) ∨ ∃ ob, u = .frz ob (.lst (ns.map V.int))) → a ≠ L := by
    intro u hu hk z
    subst z
    rw [h] at hu
    rcases hk with rfl | ⟨ob, rfl⟩
    · injection hu with e
      injection e with e
      cases ns <;> cases e
    · cases hu
  rcases hs with (hs | ⟨ob, hs⟩) | hs
  · exact .inl (.inl (by rw [upd_ne (ne _ hs (.inl rfl))]; exact hs))
  · exact .inl (.inr ⟨ob, by rw [upd_ne (ne _ hs (.inr ⟨ob, rfl⟩))]; exact hs⟩)
  · exact .inr hs
/-- the law's own list: the script, a place in it, a seed, a rest -/
def Cell (H : Hp) (L a : Addr) : Prop := ∃ i s r : Int, H L = some (.lst [.ref a, .int i, .int s, .int r]) ∧ 0 ≤ i ∧ 0 ≤ s ∧ s < 2147483647
theorem Drw.cell {K : PySem.W.Frag} {H : Hp} {L a : Addr} {ns : List Int} (h : Drw K H L a ns) : Cell H L a := let ⟨i, s, r, h1, h2, h3, h4, _⟩ := h; ⟨i, s, r, h1, h2, h3, h4⟩
theorem Cell.list {H : Hp} {L a : Addr} (h : Cell H L a) : ∃ ys, H L = some (.lst ys) := let ⟨_, _, _, h, _⟩ := h; ⟨_, h⟩
theorem Cell.but {H H' : Hp} {L a p : Addr} (h : Cell H L a) (b : But p H H') (ne : L ≠ p) : Cell H' L a := let ⟨i, s, r, h1, h2⟩ := h; ⟨i, s, r, b _ _ ne h1, h2⟩
theorem Cell.same {H H' : Hp} {L a : Addr} (h : Cell H L a) (b : Same H H') : Cell H' L a := let ⟨i, s, r, h1, h2⟩ := h; ⟨i, s, r, b _ _ h1, h2⟩
theorem Drw.next {K : PySem.W.Frag} {H H' : Hp} {L a : Addr} {ns : List Int} (h : Drw K H L a ns) (b : But L H H') (c : Cell H' L a) : Drw K H' L a ns := by
  obtain ⟨i, s, r, h1, h2, h3, h4, hs⟩ := h
  obtain ⟨i', s', r', g1, g2, g3, g4⟩ := c
  refine ⟨i', s', r', g1, g2, g3, g4, ?_⟩
  have ne : ∀ u, H a = some u → (u = .lst (ns.map V.int) ∨ ∃ ob, u = .frz ob (.lst (ns.map V.int))) → a ≠ L := by
    intro u hu hk z
    subst z
    rw [h1] at hu
    rcases hk with rfl | ⟨ob, rfl⟩
    · injection hu with e
      injection e with e
      cases ns <;> cases e
    · cases hu
  rcases hs with (hs | ⟨ob, hs⟩) | hs
  · exact .inl (.inl (b _ _ (ne _ hs (.inl rfl)) hs))
  · exact .inl (.inr ⟨ob, b _ _ (ne _ hs (.inr ⟨ob, rfl⟩)) hs⟩)
  · exact .inr hs
theorem But.sub {H H' : Hp} {p L : Addr} (b : But p H H') (hp : H p = none) : But L H H' := fun c o _ e => b c o (ne_of_none e hp) e
/-! ### the second family's draws -/
def spNext (K : PySem.W.Frag) : Sp := fun vs H Q _ => ∃ (L a : Addr) (ns : List Int) (m : Int), vs = [.ref L, .int m] ∧ 0 < m ∧ m < 1073741824 ∧ Drw K H L a ns ∧
  ∀ (n : Int) (H' : Hp), 0 ≤ n → n < m → Drw K H' L a ns → But L H H' → Q (.int n) H'
def spDice (K : PySem.W.Frag) : Sp := fun vs H Q _ => ∃ (a : Addr) (ns : List Int), vs = [.ref a] ∧ SqL K H a (ns.map V.int) ∧ ns.length ≤ 63 ∧ ∀ L H', Same H H' → H L = none → Drw K H' L a ns → Q (.ref L) H'
section
variable {P : Program} {w : World} {K : PySem.W.Frag} {mg : Str → Option Value} {base : Heap}
theorem ok_next {f : Addr} {fd : FuncData} (F : Fun K "_law_next" "_law_next" s_law_next f fd) (B : Blt mg) : FnOk P w K mg base CX0 1 f fd ["_law_dice_here", "_law_many"] (spNext K) := by
  refine F.ok sc_law_next (fun vs H Q E h => ?_) (fun cdv A outer s H vs Q E hr h => ?_)
  · obtain ⟨L, a, ns, m, rfl, _⟩ := h
    rfl
  · obtain ⟨L, a, ns, m, rfl, m0, m1, ⟨i, sd, r, hL, i0, sd0, sd1, hs⟩, k⟩ := h
    refine ⟨_, pss_cons (ps_if (pt_cmpR (op_gt) (pe_ix ix_list (pv 0) (pe_int) (fun _ _ => rfl)) (pe_int) (nomark _))
        (pss_cons (ps_set (i := 2) sc_law_next.nd rfl (Or.inl rfl) (pe_op op_mod (pe_callTy (call_int1) (by rfl) B.int boot_int (pa_cons (pe_ix ix_list (pv 0) (pe_int) (fun _ _ => rfl)) pa_nil)) (pv 1)))
        (pss_cons (ps_asg (pe_op op_fdiv (pe_ix ix_list (pv 0) (pe_int) (fun _ _ => rfl)) (pv 1)) (pg_sub (pv 0) pe_int set_list))
        (pss_one (ps_ret (pv 2))))) pss_nil)
      (pss_cons (ps_asg (pe_op op_add (pe_ix ix_list (pv 0) (pe_int) (fun _ _ => rfl)) (pe_int)) (pg_sub (pv 0) pe_int set_list))
      (pss_cons (ps_if (pt_cmpR (op_le) (pe_ix ix_list (pv 0) (pe_int) (fun _ _ => rfl)) (pe_callB call_len_seq (by rfl) B.len PySem.boot_len (pa_cons (pe_ix ix_list (pv 0) (pe_int) (fun _ _ => rfl)) pa_nil)) (nomark _))
        (pss_cons (ps_set (i := 3) sc_law_next.nd rfl (Or.inl rfl) (pe_ix ix_list (pe_ix ix_list (pv 0) (pe_int) (fun _ _ => rfl)) (pe_op op_sub (pe_ix ix_list (pv 0) (pe_int) (fun _ _ => rfl)) (pe_int)) (fun _ _ => rfl)))
        (pss_cons (ps_asg (pe_ifExp (pt_cmpR (op_ge) (pv 3) (pe_op op_pow pe_int pe_int) (nomark _)) (pe_op op_fdiv (pv 3) (pv 1)) pe_int) (pg_sub (pv 0) pe_int set_list))
        (pss_one (ps_ret (pe_op op_mod (pe_callTy (call_int1) (by rfl) B.int boot_int (pa_cons (pv 3) pa_nil)) (pv 1)))))) pss_nil)
      (pss_cons (ps_asg (pe_op op_mod (pe_callTy (call_int1) (by rfl) B.int boot_int (pa_cons (pe_op op_mul (pe_ix ix_list (pv 0) (pe_int) (fun _ _ => rfl)) pe_int) pa_nil)) pe_int) (pg_sub (pv 0) pe_int set_list))
      (pss_one (ps_ret (pe_op op_mod (pe_callTy (call_int1) (by rfl) B.int boot_int (pa_cons (pe_op op_fdiv (pe_ix ix_list (pv 0) (pe_int) (fun _ _ => rfl)) pe_int) pa_nil)) (pv 1))))))), ?_⟩
    refine ⟨_, rfl, ⟨L, _, ((3 : Nat) : Int), _, rfl, rfl, SqL.of hL, atI_nat (j := 3) rfl, _, _, rfl, rfl, _, rfl, ?_⟩⟩
    refine ite2 (fun hr3 => ?_) (fun hr3 => ?_)
    · refine ⟨_, rfl, ⟨L, _, ((3 : Nat) : Int), _, rfl, rfl, SqL.of hL, atI_nat (j := 3) rfl, .inl ⟨_, rfl, _, rfl, _, _, rfl, rfl, m0, ?_⟩⟩⟩
      refine ⟨_, rfl, ⟨L, _, ((3 : Nat) : Int), _, rfl, rfl, SqL.of hL, atI_nat (j := 3) rfl, _, rfl, _, _, rfl, rfl, ⟨m0, m1⟩, _, rfl, L, _, _, 3, rfl, rfl, hL, rfl, _, rfl, ?_⟩⟩
      exact k _ _ (Int.emod_nonneg _ (by omega)) (Int.emod_lt_of_pos _ m0) ⟨i, sd, _, upd_same, i0, sd0, sd1, script_stays hL hs⟩ but_upd
    · refine ⟨_, rfl, ⟨L, _, ((1 : Nat) : Int), _, rfl, rfl, SqL.of hL, atI_nat (j := 1) rfl, _, _, rfl, rfl, _, rfl, L, _, _, 1, rfl, rfl, hL, rfl, ?_⟩⟩
      have hs1 : SqL K (upd H L (.lst [.ref a, .int (i + 1), .int sd, .int r])) a (ns.map V.int) := script_stays hL hs
      have b1 : But L H (upd H L (.lst [.ref a, .int (i + 1), .int sd, .int r])) := but_upd
      have h1 : (upd H L (.lst [.ref a, .int (i + 1), .int sd, .int r])) L = some (.lst [.ref a, .int (i + 1), .int sd, .int r]) := upd_same
      generalize hH1 : upd H L (.lst [.ref a, .int (i + 1), .int sd, .int r]) = H1 at hs1 b1 h1
      rw [show upd H L (.lst ([V.ref a, V.int i, V.int sd, V.int r].set 1 (V.int (i + 1)))) = H1 from hH1]
      have h2 : ∀ z : Int, (upd H1 L (.lst [.ref a, .int (i + 1), .int z, .int r])) L = some (.lst [.ref a, .int (i + 1), .int z, .int r]) := fun z => upd_same
      refine ⟨_, rfl, ⟨L, _, ((1 : Nat) : Int), _, rfl, rfl, SqL.of h1, atI_nat (j := 1) rfl, _, rfl, ⟨L, _, ((0 : Nat) : Int), _, rfl, rfl, SqL.of h1, atI_nat (j := 0) rfl, a, _, rfl, .inl hs1, _, _, rfl, rfl, _, rfl, ?_⟩⟩⟩
      refine ite2 (fun hle => ?_) (fun hgt => ?_)
      · have hle : i + 1 ≤ (ns.length : Int) := by
          have := of_decide_eq_true hle
          rw [List.length_map] at this
          exact this
        obtain ⟨c, hc⟩ : ∃ c, ns[i.toNat]? = some c := ⟨ns[i.toNat]'(by omega), by simp⟩
        have hc2 : atI (ns.map V.int) (i + 1 - 1) = some (.int c) := at_of (j := i.toNat) (by omega) (by rw [List.getElem?_map, hc]; rfl)
        refine ⟨_, rfl, ⟨L, _, ((0 : Nat) : Int), _, rfl, rfl, SqL.of h1, atI_nat (j := 0) rfl, _, rfl, ⟨L, _, ((1 : Nat) : Int), _, rfl, rfl, SqL.of h1, atI_nat (j := 1) rfl, _, _, rfl, rfl, a, _, _, _, rfl, rfl, hs1, hc2, ?_⟩⟩⟩
        refine ⟨_, rfl, 10, 18, rfl, rfl, ⟨by decide, by decide, by decide⟩, _, _, rfl, rfl, _, rfl, ?_⟩
        refine ite2 (fun hbig => ?_) (fun hbig => ?_)
        · refine ⟨_, rfl, _, rfl, _, _, rfl, rfl, ⟨m0, m1⟩, _, rfl, L, _, _, 3, rfl, rfl, h1, rfl, ?_⟩
          refine ⟨_, rfl, .inl ⟨_, rfl, _, rfl, _, _, rfl, rfl, m0, ?_⟩⟩
          exact k _ _ (Int.emod_nonneg _ (by omega)) (Int.emod_lt_of_pos _ m0) ⟨i + 1, sd, _, upd_same, by omega, sd0, sd1, script_stays h1 hs1⟩ (b1.trans but_upd)
        · refine ⟨_, rfl, L, _, _, 3, rfl, rfl, h1, rfl, ?_⟩
          refine ⟨_, rfl, .inl ⟨_, rfl, _, rfl, _, _, rfl, rfl, m0, ?_⟩⟩
          exact k _ _ (Int.emod_nonneg _ (by omega)) (Int.emod_lt_of_pos _ m0) ⟨i + 1, sd, _, upd_same, by omega, sd0, sd1, script_stays h1 hs1⟩ (b1.trans but_upd)
      · refine ⟨_, rfl, ⟨L, _, ((2 : Nat) : Int), _, rfl, rfl, SqL.of h1, atI_nat (j := 2) rfl, _, _, rfl, rfl, .inl ⟨by omega, by omega⟩, .inl ⟨_, rfl, _, _, rfl, rfl, (show (0 : Int) < 2147483647 by decide), _, rfl, L, _, _, 2, rfl, rfl, h1, rfl, ?_⟩⟩⟩
        refine ⟨_, rfl, ⟨L, _, ((2 : Nat) : Int), _, rfl, rfl, SqL.of (h2 _), atI_nat (j := 2) rfl, _, _, rfl, rfl, ⟨by decide, by decide⟩, .inl ⟨_, rfl, _, rfl, _, _, rfl, rfl, m0, ?_⟩⟩⟩
        exact k _ _ (Int.emod_nonneg _ (by omega)) (Int.emod_lt_of_pos _ m0) ⟨i + 1, _, r, upd_same, by omega, Int.emod_nonneg _ (by decide), Int.emod_lt_of_pos _ (by decide), script_stays h1 hs1⟩ (b1.trans but_upd)
theorem ok_dice {f : Addr} {fd : FuncData} (F : Fun K "_law_dice" "_law_dice" s_law_dice f fd) (B : Blt mg) : FnOk P w K mg base CX0 1 f fd ["_law_script"] (spDice K) := by
  refine F.ok sc_law_dice (fun vs H Q E h => ?_) (fun cdv A outer s H vs Q E hr h => ?_)
  · obtain ⟨a, ns, rfl, _⟩ := h
    rfl
  · obtain ⟨a, ns, rfl, hs, hl, k⟩ := h
    refine ⟨_, pss_cons (ps_set (i := 1) sc_law_dice.nd rfl (Or.inl rfl) (pe_int))
      (pss_cons (ps_for PassesOwn.never rfl (pi_list (pv 0)) (pg_name (i := 2) sc_law_dice.nd rfl (Or.inl rfl))
        (pss_one (ps_set (i := 1) sc_law_dice.nd rfl (Or.inl rfl) (pe_op op_mod (pe_callTy (call_int1) (by rfl) B.int boot_int (pa_cons (pe_op op_add (pe_op op_add (pe_op op_mul (pv 1) pe_int) (pe_op op_mul (pe_op op_mod (pe_callTy (call_int1) (by rfl) B.int boot_int (pa_cons (pv 2) pa_nil)) pe_int) pe_int)) (pe_int)) pa_nil)) pe_int))))
      (pss_one (ps_ret (pe_lst (pa_cons (pv 0) (pa_cons (pe_int) (pa_cons (pe_op op_mul (pv 1) (pe_callTy (call_int1) (by rfl) B.int boot_int (pa_cons (pe_cmpR (op_gt) (pe_callB call_len_seq (by rfl) B.len PySem.boot_len (pa_cons (pv 0) pa_nil)) (pe_int) (nomark _)) pa_nil))) (pa_cons (pe_int) pa_nil)))))))), ?_⟩
    refine ⟨_, rfl, a, rfl, ⟨_, hs⟩, for_it (walk_list (K := K) (a := a) (xs := ns.map V.int)) (fun (j : Nat) (σ : L2.St) (G : Hp) => ∃ (m : Int) (s2 : Option V), σ = [some (.ref a), some (.int m), s2] ∧ 0 ≤ m ∧ m < 2147483647 ∧ G = H) ?_ ?_ ?_ ?_⟩
    · exact ⟨0, none, rfl, by decide, by decide, rfl⟩
    · rintro j σ G _ ⟨_, _, _, _, _, rfl⟩
      exact hs
    · rintro j x σ G G' hj ⟨m, s2, rfl, m0, m1, rfl⟩ ⟨rfl, hx⟩
      obtain ⟨c, hc, rfl⟩ : ∃ c, ns[j]? = some c ∧ x = V.int c := by
        rw [List.getElem?_map] at hx
        cases e : ns[j]? with
        | none => rw [e] at hx; cases hx
        | some c => rw [e] at hx; exact ⟨c, rfl, (Option.some.inj hx).symm⟩
      have n1 := Int.emod_nonneg c (b := 2147483647) (by decide)
      have n2 := Int.emod_lt_of_pos c (b := 2147483647) (by decide)
      refine nm_of ?_
      refine ⟨_, rfl, _, _, rfl, rfl, .inl ⟨by omega, by omega⟩, _, rfl, .inl ⟨_, rfl, _, _, rfl, rfl, (show (0 : Int) < 2147483647 by decide), _, _, rfl, rfl, .inl ⟨by omega, by omega⟩, _, _, rfl, rfl, _, _, rfl, rfl, .inl ⟨_, rfl, _, _, rfl, rfl, (show (0 : Int) < 2147483647 by decide), ?_⟩⟩⟩
      exact ⟨_, _, rfl, Int.emod_nonneg _ (by decide), Int.emod_lt_of_pos _ (by decide), rfl⟩
    · rintro σ G ⟨m, s2, rfl, m0, m1, rfl⟩
      refine ⟨_, rfl, _, rfl, _, rfl, a, _, rfl, .inl hs, _, _, rfl, rfl, .inr ⟨_, rfl, _, _, rfl, rfl, .inl ⟨by omega, by omega⟩, by show 4 ≤ sizeLine; decide, fun L nL => k L _ (same_new nL) nL ⟨0, _, 0, upd_same, by decide, ?_, ?_, (same_new nL).seq hs⟩⟩⟩
      · split <;> omega
      · split <;> omega
end
/-! ### the law's stones -/
/-- stones as the law draws them -/
def Drawn (xs : List (Int × Int)) : Prop := ∀ x ∈ xs, 0 ≤ x.1 ∧ x.1 ≤ 3 + 6 * (xs.length : Int) ∧ 1 ≤ x.2 ∧ x.2 ≤ 40
theorem Wf.snoc : ∀ {xs : List (Int × Int)} {lo : Int} {y : Int × Int}, Wf lo xs → lo ≤ y.1 → (∀ x ∈ xs, x.1 + 1 ≤ y.1) → y.1 ≤ 1000000000 → 1 ≤ y.2 → y.2 ≤ 1000000000 → Wf lo (xs ++ [y])
  | [], lo, y, _, h1, _, h2, h3, h4 => ⟨h1, h2, h3, h4, True.intro⟩
  | x :: xs, lo, y, w, _, h, h2, h3, h4 => ⟨w.1, w.2.1, w.2.2.1, w.2.2.2.1, Wf.snoc w.2.2.2.2 (h x (by simp)) (fun z hz => h z (by simp [hz])) h2 h3 h4⟩
theorem pick {m k : Int} {vs : List Int} (hm : m = (vs.length : Int)) (h0 : 0 ≤ k) (h1 : k < m) : ∃ z ∈ vs, atI (vs.map V.int) k = some (.int z) := by
  have hk : k.toNat < vs.length := by omega
  exact ⟨vs[k.toNat], by simp, at_of (j := k.toNat) (by omega) (by simp [hk])⟩
def spStones (K : PySem.W.Frag) : Sp := fun vs H Q _ => ∃ (L a : Addr) (ns : List Int) (m : Int), vs = [.ref L, .int m] ∧ 0 ≤ m ∧ m ≤ 30 ∧ Drw K H L a ns ∧
  ∀ (p : Addr) (us : List V) (xs : List (Int × Int)) (H' : Hp), Drw K H' L a ns → But L H H' → H p = none → H' p = some (.lst us) → StonesAt K H' us xs → Wf 0 xs → Drawn xs → (xs.length : Int) ≤ m → Q (.ref p) H'
section
variable {P : Program} {w : World} {K : PySem.W.Frag} {mg : Str → Option Value} {base : Heap}
theorem ok_stones {f g : Addr} {fd gd : FuncData} (F : Fun K "_law_stones" "_law_stones" s_law_stones f fd) (B : Blt mg) (N : At P w K mg base CX0 1 "_law_next" ["_law_dice_here", "_law_many"] (spNext K) g gd) :
    FnOk P w K mg base CX0 2 f fd ["_law_d", "_law_most"] (spStones K) := by
  refine F.ok sc_law_stones (fun vs H Q E h => ?_) (fun cdv A outer s H vs Q E hr h => ?_)
  · obtain ⟨L, a, ns, m, rfl, _⟩ := h
    rfl
  · obtain ⟨L, a, ns, m, rfl, m0, m1, D, k⟩ := h
    refine ⟨_, pss_cons (ps_par rfl sc_law_stones.nd (i := 2) (j := 3) rfl rfl (by decide) rfl rfl (pa_cons (pe_lst pa_nil) (pa_cons (pe_at N hr (pa_cons (pv 0) (pa_cons (pe_int) pa_nil))) pa_nil)) (by rfl))
      (pss_cons (ps_for PassesOwn.never rfl (pi_range1 (by rfl) B.range (pa_cons (pe_at N hr (pa_cons (pv 0) (pa_cons (pe_op op_add (pv 1) (pe_int)) pa_nil))) pa_nil)) (pg_name (i := 4) sc_law_stones.nd rfl (Or.inl rfl))
        (pss_cons (ps_expr (pe_bm PySem.F.plainAttrs_list PySem.F.slot_list_append PySem.F.type_list_append mt_append (pv 2) (pa_cons (pe_tup (pa_cons (pv 3) (pa_cons (pe_op op_add (pe_int) (pe_at N hr (pa_cons (pv 0) (pa_cons (pe_ix ix_list (pe_lst (pa_cons (pe_int) (pa_cons (pe_int) pa_nil))) (pe_at N hr (pa_cons (pv 0) (pa_cons (pe_int) pa_nil))) (fun _ _ => rfl)) pa_nil)))) pa_nil))) pa_nil)))
        (pss_one (ps_set (i := 3) sc_law_stones.nd rfl (Or.inl rfl) (pe_op op_add (pe_op op_add (pv 3) (pe_int)) (pe_at N hr (pa_cons (pv 0) (pa_cons (pe_ix ix_list (pe_lst (pa_cons (pe_int) (pa_cons (pe_int) pa_nil))) (pe_at N hr (pa_cons (pv 0) (pa_cons (pe_int) pa_nil))) (fun _ _ => rfl)) pa_nil))))))))
      (pss_one (ps_ret (pv 2)))), ?_⟩
    refine ⟨by show 0 ≤ sizeLine; decide, fun p np => ?_⟩
    have c0 := D.cell
    have nLp : L ≠ p := let ⟨ys, e⟩ := c0.list; ne_of_none e np
    -- place
    refine ⟨_, rfl, L, a, ns, 4, rfl, by decide, by decide, D.up (same_new np), fun pl H1 p0 p1 D1 b1 => ?_⟩
    have e1 : H1 p = some (.lst []) := b1 _ _ (Ne.symm nLp) upd_same
    have b1' : But L H H1 := (Same.but (same_new np) L).trans b1
    refine ⟨_, _, rfl, ?_⟩
    -- how many
    refine ⟨_, rfl, _, rfl, _, _, rfl, rfl, L, a, ns, m + 1, rfl, by omega, by omega, D1, fun n H2 n0 n1 D2 b2 => ?_⟩
    refine ⟨n, rfl, by omega, by omega, for_range (lo := 0) (n := n.toNat) (fun j σ H3 => ∃ (us : List V) (xs : List (Int × Int)) (pl : Int) (s4 : Option V), σ = [some (.ref L), some (.int m), some (.ref p), some (.int pl), s4] ∧
      Cell H3 L a ∧ But L H H3 ∧ H3 p = some (.lst us) ∧ StonesAt K H3 us xs ∧ Wf 0 xs ∧ xs.length = j ∧ 0 ≤ pl ∧ pl ≤ 3 + 6 * (j : Int) ∧ Drawn xs ∧ (∀ x ∈ xs, x.1 + 1 ≤ pl)) ?_ ?_ ?_⟩
    · exact ⟨[], [], pl, none, rfl, D2.cell, b1'.trans b2, b2 _ _ (Ne.symm nLp) e1, StonesAt.nil, True.intro, rfl, p0, by omega, fun x h => (nomatch h), fun x h => (nomatch h)⟩
    · rintro j σ H3 hj ⟨us, xs, pl, s4, rfl, cl, b3, ep, hS, hw, hl, q0, q1, hd, hlt⟩
      have hj' : (j : Int) < 30 := by omega
      -- the tuple: place, 1 + ..
      refine ⟨_, rfl, .inl ⟨rfl, _, SqL.of ep⟩, ?_⟩
      refine ⟨_, rfl, _, rfl, ?_⟩
      refine ⟨by show 2 ≤ sizeLine; decide, fun l1 nl1 => ?_⟩
      have s4' := same_new (o := .lst [V.int 3, V.int 9]) nl1
      refine ⟨_, rfl, L, a, ns, 2, rfl, by decide, by decide, (D.next b3 cl).up s4', fun k1 H4 k10 k11 D4 b4 => ?_⟩
      obtain ⟨z1, hz1, ez1⟩ := pick (vs := [3, 9]) rfl k10 k11
      have nl1L : l1 ≠ L := fun e => by obtain ⟨ys, q⟩ := cl.list; rw [← e, nl1] at q; cases q
      refine ⟨l1, _, k1, _, rfl, rfl, SqL.of (b4 _ _ nl1L upd_same), ez1, ?_⟩
      have z1b : 1 ≤ z1 ∧ z1 ≤ 9 := by simp at hz1; omega
      refine ⟨L, a, ns, z1, rfl, by omega, by omega, D4, fun h1 H5 h10 h11 D5 b5 => ?_⟩
      refine ⟨_, _, rfl, rfl, by show 2 ≤ sizeLine; decide, fun T nT => ?_⟩
      have b35 : But L H3 H5 := ((Same.but s4' L).trans b4).trans b5
      have ep5 : H5 p = some (.lst us) := b35 _ _ (Ne.symm nLp) ep
      have epT : (upd H5 T (.tup [V.int pl, V.int (1 + h1)])) p = some (.lst us) := same_new nT _ _ ep5
      obtain ⟨ysL, eL⟩ := cl.list
      have hS5 : StonesAt K (upd H5 T (.tup [V.int pl, V.int (1 + h1)])) us xs := (hS.but eL b35).same (same_new nT)
      refine ⟨p, us, _, rfl, rfl, epT, ?_, ?_⟩
      · rw [hS.1, hl, sizeLine_eq]; omega
      have epN : (upd (upd H5 T (.tup [V.int pl, V.int (1 + h1)])) p (.lst (us ++ [.ref T]))) p = some (.lst (us ++ [.ref T])) := upd_same
      have hT : SqT K (upd (upd H5 T (.tup [V.int pl, V.int (1 + h1)])) p (.lst (us ++ [.ref T]))) T [V.int pl, V.int (1 + h1)] := sqT_but (SqT.of upd_same) epT but_upd
      have hSN : StonesAt K (upd (upd H5 T (.tup [V.int pl, V.int (1 + h1)])) p (.lst (us ++ [.ref T]))) (us ++ [.ref T]) (xs ++ [(pl, 1 + h1)]) := (hS5.but epT but_upd).append (StonesAt.one hT)
      have clN : Cell (upd (upd H5 T (.tup [V.int pl, V.int (1 + h1)])) p (.lst (us ++ [.ref T]))) L a := (D5.cell.same (same_new nT)).but but_upd nLp
      have bN : But L H (upd (upd H5 T (.tup [V.int pl, V.int (1 + h1)])) p (.lst (us ++ [.ref T]))) := ((b3.trans b35).new nT).two np but_upd
      generalize hHN : upd (upd H5 T (.tup [V.int pl, V.int (1 + h1)])) p (.lst (us ++ [.ref T])) = HN at epN hSN clN bN
      -- place = place + 1 + ..
      refine ⟨_, rfl, _, _, rfl, rfl, _, rfl, ?_⟩
      refine ⟨by show 2 ≤ sizeLine; decide, fun l2 nl2 => ?_⟩
      have s6 := same_new (o := .lst [V.int 2, V.int 5]) nl2
      refine ⟨_, rfl, L, a, ns, 2, rfl, by decide, by decide, (D.next bN clN).up s6, fun k2 H6 k20 k21 D6 b6 => ?_⟩
      obtain ⟨z2, hz2, ez2⟩ := pick (vs := [2, 5]) rfl k20 k21
      have nl2L : l2 ≠ L := fun e => by obtain ⟨ys, q⟩ := clN.list; rw [← e, nl2] at q; cases q
      refine ⟨l2, _, k2, _, rfl, rfl, SqL.of (b6 _ _ nl2L upd_same), ez2, ?_⟩
      have z2b : 1 ≤ z2 ∧ z2 ≤ 5 := by simp at hz2; omega
      refine ⟨L, a, ns, z2, rfl, by omega, by omega, D6, fun h2 H7 h20 h21 D7 b7 => ?_⟩
      have bN7 : But L HN H7 := ((Same.but s6 L).trans b6).trans b7
      obtain ⟨ysN, eN⟩ := clN.list
      refine ⟨_, _, rfl, rfl, us ++ [.ref T], xs ++ [(pl, 1 + h1)], pl + 1 + h2, _, rfl, D7.cell, bN.trans bN7, bN7 _ _ (Ne.symm nLp) epN, hSN.but eN bN7, ?_, by simp [hl], by omega, by omega, ?_, ?_⟩
      · exact hw.snoc q0 hlt (by show pl ≤ _; omega) (by show 1 ≤ 1 + h1; omega) (by show 1 + h1 ≤ _; omega)
      · intro x hx
        rcases List.mem_append.mp hx with hx | hx
        · obtain ⟨w1, w2, w3⟩ := hd x hx; exact ⟨w1, by rw [List.length_append]; simp; omega, w3⟩
        · simp at hx; subst hx; exact ⟨q0, by rw [List.length_append]; simp; omega, by show 1 ≤ 1 + h1; omega, by show 1 + h1 ≤ 40; omega⟩
      · intro x hx
        rcases List.mem_append.mp hx with hx | hx
        · have := hlt x hx; omega
        · simp at hx; subst hx; show pl + 1 ≤ _; omega
    · rintro σ H3 ⟨us, xs, pl, s4, rfl, cl, b3, ep, hS, hw, hl, q0, q1, hd, hlt⟩
      exact ⟨_, rfl, k p us xs H3 (D.next b3 cl) b3 np ep hS hw hd (by omega)⟩
end
def spRow2 : Unit := ()
section
variable {P : Program} {w : World} {K : PySem.W.Frag} {mg : Str → Option Value} {base : Heap}
theorem ok_made {f g a C : Addr} {fd : FuncData} (F : Fun K "_law_made" "_law_made" s_law_made f fd) (B : Blt mg) (R : RowC K mg C) (M : Mk K C g) (G : FnR P w K mg base CX0 3 g (spMake K C)) (A1 : FnR P w K mg base CX0 5 a (spAdd K C)) (SA : Sign K C "__add__" a) :
    FnOk P w K mg base CX0 6 f fd ["_law_stones_here"] (spRow K C) := by
  refine F.ok sc_law_made (fun vs H Q E h => ?_) (fun cdv A outer s H vs Q E hr h => ?_)
  · obtain ⟨q, us, xs, rfl, _⟩ := h
    rfl
  · obtain ⟨q, us, xs, rfl, hq, hS, hw, hz, k⟩ := h
    refine ⟨_, pss_cons (ps_set (i := 1) sc_law_made.nd rfl (Or.inl rfl) (Own.pe_makeR0 M G (hr.mono (by decide)) (by rfl) R.mgC pass0))
      (pss_cons (ps_for PassesOwn.never rfl (pi_list (pv 0)) (pg_name (i := 2) sc_law_made.nd rfl (Or.inl rfl))
        (pss_one (ps_set (i := 1) sc_law_made.nd rfl (Or.inl rfl) (pe_op (Own.op_bin (op := .Add) (C := C) (g := a) R.first SA.at_ SA.fn A1 hr pass0) (pv 1) (StX.pe_makeR M G (hr.mono (by decide)) (by rfl) R.mgC pass0 (pa_cons (pv 2) pa_nil))))))
      (pss_one (ps_ret (pv 1)))), ?_⟩
    refine seq_of (asg_of (mk0 fun z0 H1 s1 nz0 r0 => ?_))
    refine ⟨_, rfl, q, rfl, ⟨_, s1.seq hq⟩, for_list (K := K) (a := q) (xs := us) (fun j σ H2 => ∃ (z : Addr) (s2 : Option V), σ = [some (.ref q), some (.ref z), s2] ∧ Same H H2 ∧ H z = none ∧ RowAt K C H2 z (xs.take j)) ?_ ?_ ?_ ?_⟩
    · exact ⟨z0, none, rfl, s1, nz0, by rw [List.take_zero]; exact r0⟩
    · rintro j σ H2 _ ⟨_, _, _, sm, _⟩
      exact sm.seq hq
    · rintro j y σ H2 hy ⟨z, s2, rfl, sm, nz, rz⟩
      have hj : j < xs.length := by rw [← hS.1]; exact (List.getElem?_eq_some_iff.mp hy).1
      obtain ⟨x, hx⟩ : ∃ x, xs[j]? = some x := ⟨xs[j], by simp [hj]⟩
      obtain ⟨c, hc, hsc⟩ := hS.2 j x hx
      obtain rfl : y = V.ref c := Option.some.inj (hy.symm.trans hc)
      refine ⟨_, rfl, mk1 (i := 2) (x := x) rfl (sqT_same hsc sm) (hw.sub (Int.le_refl _) hx) fun z2 H3 s3 nz2 r2 => ?_⟩
      obtain ⟨dx, t, ws, e1, g1, g2⟩ := id (rz.same s3)
      obtain ⟨dy, t', ws', e2, g3, g4⟩ := id r2
      have et : xs.take j ++ [x] = xs.take (j + 1) := by rw [List.take_add_one, hx]; rfl
      refine ⟨z, dx, _, z2, dy, _, rfl, rfl, e1, e2, z, z2, _, _, rfl, rz.same s3, r2, by rw [et]; exact hw.take _, by rw [et]; simp; omega, fun z4 H4 s4 nz4 r4 => ?_⟩
      rw [et] at r4
      exact ⟨z4, _, rfl, (sm.trans s3).trans s4, Same.free (sm.trans s3) nz4, r4⟩
    · rintro σ H2 ⟨z, s2, rfl, sm, nz, rz⟩
      rw [show us.length = xs.length from hS.1, List.take_length] at rz
      exact ⟨_, rfl, k z H2 sm nz rz⟩
end
def spPick : PySem.W.Frag → Sp := fun K vs H Q _ => ∃ (L a p : Addr) (ns : List Int) (us : List V), vs = [.ref L, .ref p] ∧ Drw K H L a ns ∧ H p = some (.lst us) ∧ p ≠ L ∧ 0 < us.length ∧ us.length ≤ 1000 ∧ ∀ v (i : Nat) H', us[i]? = some v → Drw K H' L a ns → But L H H' → Q v H'
section
variable {P : Program} {w : World} {K : PySem.W.Frag} {mg : Str → Option Value} {base : Heap}
theorem ok_pick {f g : Addr} {fd gd : FuncData} (F : Fun K "_law_pick" "_law_pick" s_law_pick f fd) (B : Blt mg) (N : At P w K mg base CX0 1 "_law_next" ["_law_dice_here", "_law_many"] (spNext K) g gd) : FnOk P w K mg base CX0 2 f fd ["_law_d", "_law_some"] (spPick K) := by
  refine F.ok sc_law_pick (fun vs H Q E h => ?_) (fun cdv A outer s H vs Q E hr h => ?_)
  · obtain ⟨L, a, p, ns, us, rfl, _⟩ := h
    rfl
  · obtain ⟨L, a, p, ns, us, rfl, D, hp, ne, h0, hz, k⟩ := h
    refine ⟨_, pss_one (ps_ret (pe_ix ix_list (pv 1) (pe_at N hr (pa_cons (pv 0) (pa_cons (pe_callB call_len_seq (by rfl) B.len PySem.boot_len (pa_cons (pv 1) pa_nil)) pa_nil))) (fun _ _ => rfl))), ?_⟩
    refine ⟨_, rfl, _, rfl, _, rfl, p, us, rfl, .inl (SqL.of hp), L, a, ns, (us.length : Int), rfl, by omega, by omega, D, fun m H1 m0 m1 D1 b1 => ?_⟩
    have hm : m.toNat < us.length := by omega
    have e : us[m.toNat]? = some us[m.toNat] := by simp [hm]
    exact ⟨p, us, m, _, rfl, rfl, SqL.of (b1 _ _ ne hp), at_of (j := m.toNat) (by omega) e, k _ m.toNat H1 e D1 b1⟩
end
/-! ### _law_told: the result of a call, or its exception in words -/
structure Exc11 where
  e : Addr
  c0 : Addr
  c1 : Addr
  c2 : Addr
  c3 : Addr
  c4 : Addr
  c5 : Addr
  c6 : Addr
  c7 : Addr
  c8 : Addr
  c9 : Addr
  c10 : Addr
/-- the field that tells of the place p -/
def fldW (p : Nat) : Str := if p == 3 || p == 4 then "stone" else "index"
/-- D is the class of the place p -/
structure ExcOfW (K : PySem.W.Frag) (Z : Exc11) (D : Addr) (p : Nat) : Prop where
  ex : ExcC K D
  ix : PySem.W.findIn K (.ref D) "index" = some none
  sx : PySem.W.findIn K (.ref D) "stone" = some none
  se : PySem.W.exmOne K (.ref D) (.ref Z.e) = some true
  k0 : PySem.W.kitOne K (.ref D) (.ref Z.c0) = some (p == 0)
  k1 : PySem.W.kitOne K (.ref D) (.ref Z.c1) = some (p == 1)
  k2 : PySem.W.kitOne K (.ref D) (.ref Z.c2) = some (p == 2)
  k3 : PySem.W.kitOne K (.ref D) (.ref Z.c3) = some (p == 3)
  k4 : PySem.W.kitOne K (.ref D) (.ref Z.c4) = some (p == 4)
  k5 : PySem.W.kitOne K (.ref D) (.ref Z.c5) = some (p == 5)
  k6 : PySem.W.kitOne K (.ref D) (.ref Z.c6) = some (p == 6)
  k7 : PySem.W.kitOne K (.ref D) (.ref Z.c7) = some (p == 7)
  k8 : PySem.W.kitOne K (.ref D) (.ref Z.c8) = some (p == 8)
  k9 : PySem.W.kitOne K (.ref D) (.ref Z.c9) = some (p == 9)
  k10 : PySem.W.kitOne K (.ref D) (.ref Z.c10) = some (p == 10)
  ve : PySem.W.kitOne K (.ref D) (.type "ValueError") = some true
def ExcOfW.xf {K : PySem.W.Frag} {Z : Exc11} {D : Addr} {p : Nat} (o : ExcOfW K Z D p) : XfC K D := ⟨o.ex.hg, o.ex.hk, o.ex.hs, o.ex.hd⟩
/-- the names of the classes in the law -/
structure ExcMW (mg : Str → Option Value) (Z : Exc11) : Prop where
  e : mg "StoneError" = some (.ref Z.e)
  c0 : mg "InvalidOperation" = some (.ref Z.c0)
  c1 : mg "DecodeError" = some (.ref Z.c1)
  c2 : mg "NotationError" = some (.ref Z.c2)
  c3 : mg "NotStanding" = some (.ref Z.c3)
  c4 : mg "NotLying" = some (.ref Z.c4)
  c5 : mg "InvalidRow" = some (.ref Z.c5)
  c6 : mg "UnknownStone" = some (.ref Z.c6)
  c7 : mg "InvalidSide" = some (.ref Z.c7)
  c8 : mg "InvalidNumber" = some (.ref Z.c8)
  c9 : mg "Contradiction" = some (.ref Z.c9)
  c10 : mg "InvalidCount" = some (.ref Z.c10)
  ve : mg "ValueError" = none
def wordsW : List Str := ["InvalidOperation", "DecodeError", "NotationError", "NotStanding", "NotLying", "InvalidRow", "UnknownStone", "InvalidSide", "InvalidNumber", "Contradiction", "InvalidCount", "other"]
def wordW (p : Nat) : Str := wordsW.getD p ""
def bitsW (p : Nat) : List Bool := [p == 0, p == 1, p == 2, p == 3, p == 4, p == 5, p == 6, p == 7, p == 8, p == 9, p == 10]
theorem bitsW_one {p : Nat} (h : p < 11) : (((bitsW p).map PyData.bool).countP fun z => PyData.eqv z (.bool true)) = 1 := by
  have key : ∀ p, p < 11 → (((bitsW p).map PyData.bool).countP fun z => PyData.eqv z (.bool true)) = 1 := by
    intro p h
    match p, h with
    | 0, _ => rfl
    | 1, _ => rfl
    | 2, _ => rfl
    | 3, _ => rfl
    | 4, _ => rfl
    | 5, _ => rfl
    | 6, _ => rfl
    | 7, _ => rfl
    | 8, _ => rfl
    | 9, _ => rfl
    | 10, _ => rfl
  exact key p h
theorem bitsW_at {p : Nat} (h : p < 11) : (((bitsW p).map V.bl).all flatV = true) ∧ ((bitsW p).map V.bl)[p]? = some (V.bl true) ∧ ∀ (m : Nat) (z : V), m < p → ((bitsW p).map V.bl)[m]? = some z → eqV z (.bl true) = false := by
  have key : ∀ p, p < 11 → (((bitsW p).map V.bl).all flatV = true) ∧ (bitsW p)[p]? = some true ∧ ∀ m, m < p → (bitsW p)[m]? = some false := by decide
  obtain ⟨a, b, c⟩ := key p h
  refine ⟨a, by rw [List.getElem?_map, b]; rfl, fun m z hm e => ?_⟩
  rw [List.getElem?_map, c m hm] at e
  cases e
  rfl
theorem wordW_at {p : Nat} (h : p < 11) : atI (wordsW.map V.str) (p : Int) = some (.str (wordW p)) := by
  match p, h with
  | 0, _ => rfl
  | 1, _ => rfl
  | 2, _ => rfl
  | 3, _ => rfl
  | 4, _ => rfl
  | 5, _ => rfl
  | 6, _ => rfl
  | 7, _ => rfl
  | 8, _ => rfl
  | 9, _ => rfl
  | 10, _ => rfl
theorem bitsW_dp {K : PySem.W.Frag} {H : Hp} : ∀ bs : List Bool, DpAll K H (bs.map V.bl) (bs.map PyData.bool)
  | [] => .nil
  | b :: bs => .cons (.bl b) (bitsW_dp bs)
theorem bitsW_shaped (p : Nat) : SeqAt.shaped (.list ((bitsW p).map PyData.bool)) = true := by
  have h1 : ∀ bs : List Bool, PyData.canLayAll0 (bs.map PyData.bool) = true := fun bs => by
    induction bs with
    | nil => simp [PyData.canLayAll0]
    | cons b bs ih => simp [PyData.canLayAll0, PyData.canLay0, ih]
  have h2 : ∀ bs : List Bool, PyData.depthAll (bs.map PyData.bool) ≤ 1 := fun bs => by
    induction bs with
    | nil => simp [PyData.depthAll]
    | cons b bs ih => simp only [List.map_cons, PyData.depthAll, PyData.depth]; omega
  have h3 : PyData.depth (.list ((bitsW p).map PyData.bool)) ≤ 64 := by have := h2 (bitsW p); simp only [PyData.depth]; omega
  show (PyData.canLay0 (.list ((bitsW p).map PyData.bool)) && decide (PyData.depth (.list ((bitsW p).map PyData.bool)) ≤ 64)) = true
  rw [Bool.and_eq_true]
  exact ⟨by simp only [PyData.canLay0]; exact h1 _, decide_eq_true h3⟩
theorem refW_one {c : Addr} : ∀ u, L2.RelV (.ref c) u → u = .ref c := fun _ r => r
theorem tyW_one {c : String} : ∀ u, L2.RelV (.ty c) u → u = .type c := fun _ r => r
theorem lenW_five {l : L2.St} (h : l.length = 5) : ∃ a b c d e, l = [a, b, c, d, e] := by
  match l, h with
  | [a, b, c, d, e], _ => exact ⟨a, b, c, d, e, rfl⟩
/-- an exception is told so: its words and the list of its field, if it has one -/
def ToldW (K : PySem.W.Frag) (Z : Exc11) (Q : VK) : XK := fun cls d H => ∃ (D : Addr) (p : Nat) (v : V), cls = .ref D ∧ p < 11 ∧ p ≠ 1 ∧ p ≠ 2 ∧ ExcOfW K Z D p ∧ (∀ dd, d = some dd → ∃ fs, H dd = some (.xd fs)) ∧ (p < 6 → ∃ dd fs, d = some dd ∧ H dd = some (.xd fs) ∧ fs.lookup (fldW p) = some v) ∧
  (p < 6 → ∀ t l H', Same H H' → H' l = some (.lst [v]) → H' t = some (.tup [.str "error", .str (wordW p), .ref l]) → Q (.ref t) H') ∧ (¬ p < 6 → ∀ t H', Same H H' → H' t = some (.tup [.str "error", .str (wordW p)]) → Q (.ref t) H')
def TToldW (K : PySem.W.Frag) (Z : Exc11) : (XK → Hp → VK → Prop) → Hp → VK → Prop := fun tl H Q => tl (ToldW K Z Q) H Q
/-- the handler's reading -/
def tHandW (K : PySem.W.Frag) (Z : Exc11) (a : Addr) (cls : Value) (d : Option Addr) : TS := fun D sl H => (∃ s0 : L2.St, sl = s0.set 1 (some (.ref a))) ∧ H a = none ∧ ToldW K Z D.rt cls d H
def tNoE : TE := fun _ _ _ => False
theorem pe_noE {X : Cx} {e : Expr} : PE X e tNoE := ⟨fun _ _ _ _ _ _ h => h.elim⟩
section
variable {Y : Cx} {Z : Exc11} {a : Addr} {oe : Obj} {d : Option Addr} {cls : Value} {pn : List (Addr × Obj)}
theorem handW_ok (eN : Y.N = n_law_told) {body : List Stmt}
    (hb : ∀ (D : Addr) (p : Nat), ExcOfW Y.K Z D p → cls = .ref D → p < 11 → ∃ t, PSs (Y.suite a ((a, oe) :: pn)) body t ∧ ∀ (De : Ends) (x0 x2 x3 x4 : Option V) (H : Hp), H a = none → ToldW Y.K Z De.rt cls d H → t De [x0, some (.ref a), x2, x3, x4] H) :
    PSs (Y.suite a ((a, oe) :: pn)) body (tHandW Y.K Z a cls d) := by
  refine ⟨fun pins s sl H De inv h => ?_⟩
  obtain ⟨⟨s0, rfl⟩, na, told⟩ := h
  obtain ⟨D, p, v, ec, hp, _, _, o, _⟩ := id told
  obtain ⟨t, ht, go⟩ := hb D p o ec hp
  have len : (s0.set 1 (some (V.ref a))).length = 5 := by rw [inv.len, show (Y.suite a ((a, oe) :: pn)).N = n_law_told from eN]; rfl
  rw [List.length_set] at len
  obtain ⟨x0, x1, x2, x3, x4, rfl⟩ := lenW_five len
  exact ht.run pins s _ H De inv (go De x0 x2 x3 x4 H na told)
end
theorem in34 : ∀ p : Nat, p < 11 → inV (.int (p : Int)) [V.int 3, V.int 4] = (p == 3 || p == 4) := by
  intro p h
  match p, h with
  | 0, _ => rfl
  | 1, _ => rfl
  | 2, _ => rfl
  | 3, _ => rfl
  | 4, _ => rfl
  | 5, _ => rfl
  | 6, _ => rfl
  | 7, _ => rfl
  | 8, _ => rfl
  | 9, _ => rfl
  | 10, _ => rfl
section
variable {X : Cx} {Z : Exc11}
theorem told_givesW {g : Addr} {cdg : Value} (M : ExcMW X.mg Z) (B : Blt X.mg) (hu : X.A.units + 130 < cLine) : LamV.Gives X n_law_told "_law_told" (defScope s_law_told) g cdg (defBody s_law_told) "_law_work" (TToldW X.K Z) := by
  intro f is s H Q tl act hi go
  have hsu : ∀ (a : Addr) (oe : Obj) (cls : Value) (d : Option Addr) (pn : List (Addr × Obj)), Zc cls d oe → (∃ vs, oe.data = .fields vs) →
      PSs ((cxOf CX0 X.prog X.w X.K X.mg X.base n_law_told "_law_told" (defScope s_law_told) g cdg X.A X.stack s H E0).nox.suite a ((a, oe) :: pn)) (match defBody s_law_told with | .Try _ [.ExceptHandler _ _ b _] _ _ _ :: _ => b | _ => []) (tHandW X.K Z a cls d) := fun a oe cls d pn hz hf => by
    refine handW_ok (Y := (cxOf CX0 X.prog X.w X.K X.mg X.base n_law_told "_law_told" (defScope s_law_told) g cdg X.A X.stack s H E0).nox) rfl fun D p o ec hp => ?_
    subst ec
    refine ⟨_, pss_cons (ps_set (i := 2) sc_law_told.nd rfl (Or.inl rfl) (pe_lst (pa_cons (pe_callB (LamV.call_isD o.ex hz hf) (by rfl) B.isinstance boot_isinstance (pa_cons (pv 1) (pa_cons (pe_glob (v := .ref Z.c0) (by rfl) M.c0 rfl) pa_nil))) (pa_cons (pe_callB (LamV.call_isD o.ex hz hf) (by rfl) B.isinstance boot_isinstance (pa_cons (pv 1) (pa_cons (pe_glob (v := .ref Z.c1) (by rfl) M.c1 rfl) pa_nil))) (pa_cons (pe_callB (LamV.call_isD o.ex hz hf) (by rfl) B.isinstance boot_isinstance (pa_cons (pv 1) (pa_cons (pe_glob (v := .ref Z.c2) (by rfl) M.c2 rfl) pa_nil))) pa_nil)))))
      (pss_cons (ps_set (i := 2) sc_law_told.nd rfl (Or.inl rfl) (pe_op op_cat (pv 2) (pe_lst (pa_cons (pe_callB (LamV.call_isD o.ex hz hf) (by rfl) B.isinstance boot_isinstance (pa_cons (pv 1) (pa_cons (pe_glob (v := .ref Z.c3) (by rfl) M.c3 rfl) pa_nil))) (pa_cons (pe_callB (LamV.call_isD o.ex hz hf) (by rfl) B.isinstance boot_isinstance (pa_cons (pv 1) (pa_cons (pe_glob (v := .ref Z.c4) (by rfl) M.c4 rfl) pa_nil))) (pa_cons (pe_callB (LamV.call_isD o.ex hz hf) (by rfl) B.isinstance boot_isinstance (pa_cons (pv 1) (pa_cons (pe_glob (v := .ref Z.c5) (by rfl) M.c5 rfl) pa_nil))) pa_nil))))))
      (pss_cons (ps_set (i := 2) sc_law_told.nd rfl (Or.inl rfl) (pe_op op_cat (pv 2) (pe_lst (pa_cons (pe_callB (LamV.call_isD o.ex hz hf) (by rfl) B.isinstance boot_isinstance (pa_cons (pv 1) (pa_cons (pe_glob (v := .ref Z.c6) (by rfl) M.c6 rfl) pa_nil))) (pa_cons (pe_callB (LamV.call_isD o.ex hz hf) (by rfl) B.isinstance boot_isinstance (pa_cons (pv 1) (pa_cons (pe_glob (v := .ref Z.c7) (by rfl) M.c7 rfl) pa_nil))) (pa_cons (pe_callB (LamV.call_isD o.ex hz hf) (by rfl) B.isinstance boot_isinstance (pa_cons (pv 1) (pa_cons (pe_glob (v := .ref Z.c8) (by rfl) M.c8 rfl) pa_nil))) pa_nil))))))
      (pss_cons (ps_set (i := 2) sc_law_told.nd rfl (Or.inl rfl) (pe_op op_cat (pv 2) (pe_lst (pa_cons (pe_callB (LamV.call_isD o.ex hz hf) (by rfl) B.isinstance boot_isinstance (pa_cons (pv 1) (pa_cons (pe_glob (v := .ref Z.c9) (by rfl) M.c9 rfl) pa_nil))) (pa_cons (pe_callB (LamV.call_isD o.ex hz hf) (by rfl) B.isinstance boot_isinstance (pa_cons (pv 1) (pa_cons (pe_glob (v := .ref Z.c10) (by rfl) M.c10 rfl) pa_nil))) pa_nil)))))
      (pss_cons (ps_set (i := 3) sc_law_told.nd rfl (Or.inl rfl) (pe_lst (pa_cons pe_str (pa_cons pe_str (pa_cons (pe_str) (pa_cons (pe_str) (pa_cons (pe_str) (pa_cons (pe_str) pa_nil))))))))
      (pss_cons (ps_set (i := 3) sc_law_told.nd rfl (Or.inl rfl) (pe_op op_cat (pv 3) (pe_lst (pa_cons pe_str (pa_cons pe_str (pa_cons (pe_str) (pa_cons (pe_str) (pa_cons (pe_str) (pa_cons (pe_str) pa_nil)))))))))
      (pss_cons (ps_set (i := 4) sc_law_told.nd rfl (Or.inl rfl) (pe_ifExp (PW.pt (pw_and (pt_cmpR (op_eq) (pe_bm PySem.F.plainAttrs_list PySem.F.slot_list_count PySem.F.type_list_count (LamV.mt_countD (X := (cxOf CX0 X.prog X.w X.K X.mg X.base n_law_told "_law_told" (defScope s_law_told) g cdg X.A X.stack s H E0).nox.suite a ((a, oe) :: pn)) ?hcnt) (pv 2) (pa_cons (pe_bl) pa_nil)) (pe_int) (nomark _))
          (pw_and1 (pt_val (pe_callB (LamV.call_isD o.ex hz hf) (by rfl) B.isinstance boot_isinstance (pa_cons (pv 1) (pa_cons (pe_bltn (v := .ty "ValueError") (by rfl) M.ve (by rfl) rfl) pa_nil)))))))
          (pe_bm PySem.F.plainAttrs_list PySem.F.slot_list_index PySem.F.type_list_index mt_index (pv 2) (pa_cons (pe_bl) pa_nil)) pe_int))
      (pss_cons (ps_if (pt_cmpR (op_eq) (pv 4) (pe_int) (nomark _)) pss_never pss_nil)
      (pss_cons (ps_if (pt_cmpR (op_in_seq) (pv 4) (pe_tup (pa_cons (pe_int) (pa_cons (pe_int) pa_nil))) (by rfl)) (pss_one (ps_ret (pe_tup (pa_cons (pe_str) (pa_cons (pe_ix ix_list (pv 3) (pv 4) (fun _ _ => rfl)) (pa_cons (pe_lst (pa_cons (pe_xf o.xf o.sx hz hf (pv 1)) pa_nil)) pa_nil)))))) pss_nil)
      (pss_one (ps_ret (pe_ifExp (pt_cmpR (op_lt) (pv 4) (pe_int) (nomark _)) (pe_tup (pa_cons (pe_str) (pa_cons (pe_ix ix_list (pv 3) (pv 4) (fun _ _ => rfl)) (pa_cons (pe_ifExp (pt_cmpR (op_eq) (pv 4) (pe_int) (nomark _)) pe_noE (pe_lst (pa_cons (pe_xf o.xf o.ix hz hf (pv 1)) pa_nil))) pa_nil)))) (pe_tup (pa_cons (pe_str) (pa_cons (pe_ix ix_list (pv 3) (pv 4) (fun _ _ => rfl)) pa_nil))))))))))))))
      , fun De x0 x2 x3 x4 H1 na told => ?_⟩
    case hcnt => exact (show X.A.units + 3 + 65 < cLine by omega)
    obtain ⟨D', p', v, eD, hp', hp1, hp2, o', dict, fld, k3, k2⟩ := told
    cases eD
    refine ⟨_, rfl, _, _, _, rfl, refW_one, o'.k0, dict, ⟨_, rfl, _, _, _, rfl, refW_one, o'.k1, dict, ⟨_, rfl, _, _, _, rfl, refW_one, o'.k2, dict, by show 3 ≤ sizeLine; decide, fun l1 n1 => ?_⟩⟩⟩
    have s1 := same_new (o := .lst [V.bl (p' == 0), V.bl (p' == 1), V.bl (p' == 2)]) n1
    have e1 : (upd H1 l1 (.lst [V.bl (p' == 0), V.bl (p' == 1), V.bl (p' == 2)])) l1 = some (.lst [V.bl (p' == 0), V.bl (p' == 1), V.bl (p' == 2)]) := upd_same
    change gName 2 (V.ref l1) _ (upd H1 l1 (.lst [V.bl (p' == 0), V.bl (p' == 1), V.bl (p' == 2)])) _
    generalize upd H1 l1 (.lst [V.bl (p' == 0), V.bl (p' == 1), V.bl (p' == 2)]) = h1 at s1 e1 ⊢
    have dict2 : ∀ dd, d = some dd → ∃ fs, h1 dd = some (.xd fs) := fun dd e => (dict dd e).imp fun fs z => s1 _ _ z
    refine ⟨_, rfl, ⟨_, rfl, _, _, _, rfl, refW_one, o'.k3, dict2, ⟨_, rfl, _, _, _, rfl, refW_one, o'.k4, dict2, ⟨_, rfl, _, _, _, rfl, refW_one, o'.k5, dict2, by show 3 ≤ sizeLine; decide, fun m2 nm2 => ?_⟩⟩⟩⟩
    have t2 := same_new (o := .lst [V.bl (p' == 3), V.bl (p' == 4), V.bl (p' == 5)]) nm2
    refine ⟨l1, m2, _, _, rfl, rfl, t2 _ _ e1, upd_same, by show 3 + 3 ≤ sizeLine; decide, fun l2 n2 => ?_⟩
    have s2 := (s1.trans t2).trans (same_new (o := .lst [V.bl (p' == 0), V.bl (p' == 1), V.bl (p' == 2), V.bl (p' == 3), V.bl (p' == 4), V.bl (p' == 5)]) n2)
    have e2 : (upd (upd h1 m2 (.lst [V.bl (p' == 3), V.bl (p' == 4), V.bl (p' == 5)])) l2 (.lst [V.bl (p' == 0), V.bl (p' == 1), V.bl (p' == 2), V.bl (p' == 3), V.bl (p' == 4), V.bl (p' == 5)])) l2 = some (.lst [V.bl (p' == 0), V.bl (p' == 1), V.bl (p' == 2), V.bl (p' == 3), V.bl (p' == 4), V.bl (p' == 5)]) := upd_same
    change gName 2 (V.ref l2) _ (upd (upd h1 m2 (.lst [V.bl (p' == 3), V.bl (p' == 4), V.bl (p' == 5)])) l2 (.lst [V.bl (p' == 0), V.bl (p' == 1), V.bl (p' == 2), V.bl (p' == 3), V.bl (p' == 4), V.bl (p' == 5)])) _
    generalize upd (upd h1 m2 (.lst [V.bl (p' == 3), V.bl (p' == 4), V.bl (p' == 5)])) l2 (.lst [V.bl (p' == 0), V.bl (p' == 1), V.bl (p' == 2), V.bl (p' == 3), V.bl (p' == 4), V.bl (p' == 5)]) = h2 at s2 e2 ⊢
    have dict3 : ∀ dd, d = some dd → ∃ fs, h2 dd = some (.xd fs) := fun dd e => (dict dd e).imp fun fs z => s2 _ _ z
    refine ⟨_, rfl, ⟨_, rfl, _, _, _, rfl, refW_one, o'.k6, dict3, ⟨_, rfl, _, _, _, rfl, refW_one, o'.k7, dict3, ⟨_, rfl, _, _, _, rfl, refW_one, o'.k8, dict3, by show 3 ≤ sizeLine; decide, fun m3 nm3 => ?_⟩⟩⟩⟩
    have t3 := same_new (o := .lst [V.bl (p' == 6), V.bl (p' == 7), V.bl (p' == 8)]) nm3
    refine ⟨l2, m3, _, _, rfl, rfl, t3 _ _ e2, upd_same, by show 6 + 3 ≤ sizeLine; decide, fun l3 n3 => ?_⟩
    have s3 := (s2.trans t3).trans (same_new (o := .lst [V.bl (p' == 0), V.bl (p' == 1), V.bl (p' == 2), V.bl (p' == 3), V.bl (p' == 4), V.bl (p' == 5), V.bl (p' == 6), V.bl (p' == 7), V.bl (p' == 8)]) n3)
    have e3 : (upd (upd h2 m3 (.lst [V.bl (p' == 6), V.bl (p' == 7), V.bl (p' == 8)])) l3 (.lst [V.bl (p' == 0), V.bl (p' == 1), V.bl (p' == 2), V.bl (p' == 3), V.bl (p' == 4), V.bl (p' == 5), V.bl (p' == 6), V.bl (p' == 7), V.bl (p' == 8)])) l3 = some (.lst [V.bl (p' == 0), V.bl (p' == 1), V.bl (p' == 2), V.bl (p' == 3), V.bl (p' == 4), V.bl (p' == 5), V.bl (p' == 6), V.bl (p' == 7), V.bl (p' == 8)]) := upd_same
    change gName 2 (V.ref l3) _ (upd (upd h2 m3 (.lst [V.bl (p' == 6), V.bl (p' == 7), V.bl (p' == 8)])) l3 (.lst [V.bl (p' == 0), V.bl (p' == 1), V.bl (p' == 2), V.bl (p' == 3), V.bl (p' == 4), V.bl (p' == 5), V.bl (p' == 6), V.bl (p' == 7), V.bl (p' == 8)])) _
    generalize upd (upd h2 m3 (.lst [V.bl (p' == 6), V.bl (p' == 7), V.bl (p' == 8)])) l3 (.lst [V.bl (p' == 0), V.bl (p' == 1), V.bl (p' == 2), V.bl (p' == 3), V.bl (p' == 4), V.bl (p' == 5), V.bl (p' == 6), V.bl (p' == 7), V.bl (p' == 8)]) = h3 at s3 e3 ⊢
    have dict4 : ∀ dd, d = some dd → ∃ fs, h3 dd = some (.xd fs) := fun dd e => (dict dd e).imp fun fs z => s3 _ _ z
    refine ⟨_, rfl, ⟨_, rfl, _, _, _, rfl, refW_one, o'.k9, dict4, ⟨_, rfl, _, _, _, rfl, refW_one, o'.k10, dict4, by show 2 ≤ sizeLine; decide, fun m4 nm4 => ?_⟩⟩⟩
    have t4 := same_new (o := .lst [V.bl (p' == 9), V.bl (p' == 10)]) nm4
    refine ⟨l3, m4, _, _, rfl, rfl, t4 _ _ e3, upd_same, by show 9 + 2 ≤ sizeLine; decide, fun l4 n4 => ?_⟩
    have s4 := (s3.trans t4).trans (same_new (o := .lst [V.bl (p' == 0), V.bl (p' == 1), V.bl (p' == 2), V.bl (p' == 3), V.bl (p' == 4), V.bl (p' == 5), V.bl (p' == 6), V.bl (p' == 7), V.bl (p' == 8), V.bl (p' == 9), V.bl (p' == 10)]) n4)
    have e4 : (upd (upd h3 m4 (.lst [V.bl (p' == 9), V.bl (p' == 10)])) l4 (.lst [V.bl (p' == 0), V.bl (p' == 1), V.bl (p' == 2), V.bl (p' == 3), V.bl (p' == 4), V.bl (p' == 5), V.bl (p' == 6), V.bl (p' == 7), V.bl (p' == 8), V.bl (p' == 9), V.bl (p' == 10)])) l4 = some (.lst [V.bl (p' == 0), V.bl (p' == 1), V.bl (p' == 2), V.bl (p' == 3), V.bl (p' == 4), V.bl (p' == 5), V.bl (p' == 6), V.bl (p' == 7), V.bl (p' == 8), V.bl (p' == 9), V.bl (p' == 10)]) := upd_same
    change gName 2 (V.ref l4) _ (upd (upd h3 m4 (.lst [V.bl (p' == 9), V.bl (p' == 10)])) l4 (.lst [V.bl (p' == 0), V.bl (p' == 1), V.bl (p' == 2), V.bl (p' == 3), V.bl (p' == 4), V.bl (p' == 5), V.bl (p' == 6), V.bl (p' == 7), V.bl (p' == 8), V.bl (p' == 9), V.bl (p' == 10)])) _
    generalize upd (upd h3 m4 (.lst [V.bl (p' == 9), V.bl (p' == 10)])) l4 (.lst [V.bl (p' == 0), V.bl (p' == 1), V.bl (p' == 2), V.bl (p' == 3), V.bl (p' == 4), V.bl (p' == 5), V.bl (p' == 6), V.bl (p' == 7), V.bl (p' == 8), V.bl (p' == 9), V.bl (p' == 10)]) = h4 at s4 e4 ⊢
    have sq : SqL X.K h4 l4 ((bitsW p').map V.bl) := SqL.of e4
    refine ⟨by show 6 ≤ sizeLine; decide, fun w1 nw1 => ?_⟩
    refine ⟨_, rfl, by show 6 ≤ sizeLine; decide, fun w2 nw2 => ?_⟩
    have ew1 : (upd (upd h4 w1 (.lst [V.str "InvalidOperation", V.str "DecodeError", V.str "NotationError", V.str "NotStanding", V.str "NotLying", V.str "InvalidRow"])) w2 (.lst [V.str "UnknownStone", V.str "InvalidSide", V.str "InvalidNumber", V.str "Contradiction", V.str "InvalidCount", V.str "other"])) w1 = some (.lst [V.str "InvalidOperation", V.str "DecodeError", V.str "NotationError", V.str "NotStanding", V.str "NotLying", V.str "InvalidRow"]) := same_new nw2 _ _ upd_same
    refine ⟨w1, w2, _, _, rfl, rfl, ew1, upd_same, by show 6 + 6 ≤ sizeLine; decide, fun w3 nw3 => ?_⟩
    have s5 := ((s4.trans (same_new (o := .lst [V.str "InvalidOperation", V.str "DecodeError", V.str "NotationError", V.str "NotStanding", V.str "NotLying", V.str "InvalidRow"]) nw1)).trans (same_new (o := .lst [V.str "UnknownStone", V.str "InvalidSide", V.str "InvalidNumber", V.str "Contradiction", V.str "InvalidCount", V.str "other"]) nw2)).trans (same_new (o := .lst (wordsW.map V.str)) nw3)
    have sq := ((((same_new (o := .lst [V.str "InvalidOperation", V.str "DecodeError", V.str "NotationError", V.str "NotStanding", V.str "NotLying", V.str "InvalidRow"]) nw1).trans (same_new (o := .lst [V.str "UnknownStone", V.str "InvalidSide", V.str "InvalidNumber", V.str "Contradiction", V.str "InvalidCount", V.str "other"]) nw2)).trans (same_new (o := .lst (wordsW.map V.str)) nw3))).seq sq
    have e5 : (upd (upd (upd h4 w1 (.lst [V.str "InvalidOperation", V.str "DecodeError", V.str "NotationError", V.str "NotStanding", V.str "NotLying", V.str "InvalidRow"])) w2 (.lst [V.str "UnknownStone", V.str "InvalidSide", V.str "InvalidNumber", V.str "Contradiction", V.str "InvalidCount", V.str "other"])) w3 (.lst (wordsW.map V.str))) w3 = some (.lst (wordsW.map V.str)) := upd_same
    change gName 3 (V.ref w3) _ (upd (upd (upd h4 w1 (.lst [V.str "InvalidOperation", V.str "DecodeError", V.str "NotationError", V.str "NotStanding", V.str "NotLying", V.str "InvalidRow"])) w2 (.lst [V.str "UnknownStone", V.str "InvalidSide", V.str "InvalidNumber", V.str "Contradiction", V.str "InvalidCount", V.str "other"])) w3 (.lst (wordsW.map V.str))) _
    generalize upd (upd (upd h4 w1 (.lst [V.str "InvalidOperation", V.str "DecodeError", V.str "NotationError", V.str "NotStanding", V.str "NotLying", V.str "InvalidRow"])) w2 (.lst [V.str "UnknownStone", V.str "InvalidSide", V.str "InvalidNumber", V.str "Contradiction", V.str "InvalidCount", V.str "other"])) w3 (.lst (wordsW.map V.str)) = h5 at s5 e5 sq ⊢
    have dict5 : ∀ dd, d = some dd → ∃ fs, h5 dd = some (.xd fs) := fun dd e => (dict dd e).imp fun fs z => s5 _ _ z
    refine ⟨_, rfl, .inl ⟨rfl, _, sq⟩, l4, _, _, _, rfl, rfl, .lst sq (bitsW_dp _), .bl true, bitsW_shaped p', rfl, rfl, _, rfl, ?_⟩
    have ec1 : decide (V.int ((((bitsW p').map PyData.bool).countP fun z => PyData.eqv z (.bool true) : Nat) : Int) = V.int 1) = true := by
      rw [bitsW_one hp']
      rfl
    rw [ec1]
    refine iteT ⟨_, rfl, _, _, _, rfl, tyW_one, o'.ve, dict5, _, rfl, iteT ?_⟩
    obtain ⟨y1, y2, y3⟩ := bitsW_at hp'
    refine ⟨_, rfl, .inl ⟨rfl, _, sq⟩, l4, _, _, p', _, rfl, rfl, sq, rfl, y1, y2, rfl, y3, ?_⟩
    refine ⟨_, rfl, rfl, _, rfl, ?_⟩
    rw [show decide (V.int (p' : Int) = V.int 2) = false from decide_eq_false fun z => hp2 (by injection z with z; omega)]
    refine iteF ?_
    have at5 : ∀ {H : Hp}, Same h5 H → ∀ {Q : VK}, Q (.str (wordW p')) H → rIxL X.K (.ref w3) (.int (p' : Int)) H Q := fun sm Q q => ⟨w3, _, _, _, rfl, rfl, SqL.of (sm _ _ e5), wordW_at hp', q⟩
    refine ⟨_, rfl, by show 2 ≤ sizeLine; decide, fun t nt => ⟨t, _, rfl, .inr (SqT.of upd_same), rfl, rfl, _, rfl, ?_⟩⟩
    have s6 := same_new (o := .tup [V.int 3, V.int 4]) nt
    generalize upd h5 t (.tup [V.int 3, V.int 4]) = h6 at s6 ⊢
    rw [if_neg Bool.false_ne_true]
    have ei : inV (.int (p' : Int)) [V.int 3, V.int 4] = (p' == 3 || p' == 4) := in34 p' hp'
    rw [ei]
    have s56 := s5.trans s6
    cases q : (p' == 3 || p' == 4) with
    | true =>
      have hlt : p' < 6 := by
        rw [Bool.or_eq_true, beq_iff_eq, beq_iff_eq] at q
        omega
      obtain ⟨dd, fs, ed, hd, lk⟩ := fld hlt
      have ef : fldW p' = "stone" := by unfold fldW; rw [if_pos q]
      rw [ef] at lk
      refine iteT ⟨_, rfl, _, rfl, w3, _, _, _, rfl, rfl, SqL.of (s6 _ _ e5), wordW_at hp', _, rfl, rfl, rfl, dd, fs, v, ed, s56 _ _ hd, lk, by show 1 ≤ sizeLine; decide, fun l nl => ⟨by show 3 ≤ sizeLine; decide, fun T nT => ?_⟩⟩
      exact k3 hlt T l _ ((s56.trans (same_new nl)).trans (same_new nT)) (same_new nT _ _ upd_same) upd_same
    | false =>
      refine iteF ?_
      refine ⟨_, rfl, _, _, rfl, rfl, _, rfl, ?_⟩
      have ef : fldW p' = "index" := by unfold fldW; rw [if_neg (by rw [q]; exact Bool.false_ne_true)]
      refine ite2 (fun c => ?_) (fun c => ?_)
      · have hlt : p' < 6 := by have := of_decide_eq_true c; omega
        obtain ⟨dd, fs, ed, hd, lk⟩ := fld hlt
        rw [ef] at lk
        refine ⟨_, rfl, _, rfl, w3, _, _, _, rfl, rfl, SqL.of (s6 _ _ e5), wordW_at hp', _, rfl, rfl, _, rfl, ?_⟩
        rw [show decide (V.int (p' : Int) = V.int 1) = false from decide_eq_false fun z => hp1 (by injection z with z; omega)]
        refine iteF ⟨_, rfl, rfl, rfl, dd, fs, v, ed, s56 _ _ hd, lk, by show 1 ≤ sizeLine; decide, fun l nl => ⟨by show 3 ≤ sizeLine; decide, fun T nT => ?_⟩⟩
        exact k3 hlt T l _ ((s56.trans (same_new nl)).trans (same_new nT)) (same_new nT _ _ upd_same) upd_same
      · have hlt : ¬ p' < 6 := fun z => c (decide_eq_true (by omega))
        refine ⟨_, rfl, _, rfl, w3, _, _, _, rfl, rfl, SqL.of (s6 _ _ e5), wordW_at hp', by show 2 ≤ sizeLine; decide, fun T nT => ?_⟩
        exact k2 hlt T _ (s56.trans (same_new nT)) upd_same
  refine ⟨_, pss_one (ps_try_as (X := (cxOf CX0 X.prog X.w X.K X.mg X.base n_law_told "_law_told" (defScope s_law_told) g cdg X.A X.stack s H E0).nox) (c := .ref Z.e) (i := 1) (ts := tHandW X.K Z)
      (tb := fun W D sl H => ∃ E : XK, (∀ cls d sl' H', E cls d H' → W cls d sl' H') ∧ sl[0]? = some (some (.ref f)) ∧ is H ∧ tl E H fun v H' => D.rt v H')
      rfl rfl sc_law_told.nd rfl rfl ⟨by rfl, by decide, .inl M.e⟩ L2.takes0 (fun W pn xe tk _ => ⟨fun pins s' sl H' D inv h => ?_⟩) hsu), ?_⟩
  · obtain ⟨E, hE, h0, h1, h2⟩ := h
    exact (pss_one (ps_ret (act W pn xe E _ _ tk hE))).run pins s' sl H' D inv ⟨h0, h1, h2⟩
  · refine ⟨ToldW X.K Z Q, fun cls d sl' H' told => ?_, rfl, hi, go⟩
    obtain ⟨D, p, v, ec, hp, h1, h2, o, more⟩ := id told
    subst ec
    exact ⟨true, o.se, fun _ a na => ⟨⟨sl', rfl⟩, na, told⟩, fun z => nomatch z⟩
end
/-! ### numbers with commas, words set right -/
def spGrouped : Sp := fun vs H Q _ => ∃ n : Int, vs = [.int n] ∧ 0 ≤ n ∧ n ≤ 2000000000 ∧ Q (.str (TxtG.T (TxtG.comT n))) H
def spFilled : Sp := fun vs H Q _ => ∃ (l : List Nat) (w : Nat), vs = [.str (TxtG.T l), .int (w : Nat)] ∧ l.length ≤ 100 ∧ w ≤ 100 ∧ Q (.str (TxtG.T (TxtG.fillL w l))) H
theorem lit_nil : Str.ofString "" = TxtG.T [] := by decide +kernel
theorem lit_com : Str.ofString "," = TxtG.T [44] := by decide +kernel
theorem lit_sp : Str.ofString " " = TxtG.T [32] := by decide +kernel
theorem lit_no : Str.ofString "-" = TxtG.T [45] := by decide +kernel
theorem log_small {n : Int} (h : 0 ≤ n) (h2 : n ≤ 2000000000) : n.natAbs.log2 < 1920 := by
  by_cases h0 : n.natAbs = 0
  · rw [h0]; decide
  · have : n.natAbs < 2 ^ 31 := by omega
    have := (Nat.log2_lt h0).mpr this
    omega
section
variable {P : Program} {w : World} {K : PySem.W.Frag} {mg : Str → Option Value} {base : Heap}
theorem ok_grouped {f : Addr} {fd : FuncData} (F : Fun K "_law_grouped" "_law_grouped" s_law_grouped f fd) (B : Blt mg) (bs : mg "str" = none) : FnOk P w K mg base CX0 1 f fd ["_law_number"] spGrouped := by
  refine F.ok sc_law_grouped (fun vs H Q E h => ?_) (fun cdv A outer s H vs Q E hr h => ?_)
  · obtain ⟨n, rfl, _⟩ := h
    rfl
  · obtain ⟨n, rfl, h0, h1, k⟩ := h
    have hu := hu_of hr
    refine ⟨_, pss_cons (ps_par (i := 1) (j := 2) (by rfl) sc_law_grouped.nd rfl rfl (by decide) rfl rfl (pa_cons (pe_callTy call_str_int (by rfl) bs boot_str (pa_cons (pv 0) pa_nil)) (pa_cons (pe_str) pa_nil)) (by rfl))
      (pss_cons (ps_while PassesOwn.never (pt_cmpR (op_gt) (pe_callB call_len_str (by rfl) B.len PySem.boot_len (pa_cons (pv 1) pa_nil)) (pe_int) (nomark _))
        (pss_cons (ps_set (i := 2) sc_law_grouped.nd rfl (Or.inl rfl) (pe_op op_add_str (pe_op op_add_str pe_str (pe_slice sl_str (pv 1) (po_some (pe_un un_neg pe_int)) po_none)) (pv 2)))
        (pss_one (ps_set (i := 1) sc_law_grouped.nd rfl (Or.inl rfl) (pe_slice sl_str (pv 1) po_none (po_some (pe_un un_neg pe_int)))))))
      (pss_one (ps_ret (pe_op op_add_str (pv 1) (pv 2))))), ?_⟩
    obtain ⟨m, rfl⟩ : ∃ m : Nat, n = (m : Int) := ⟨n.toNat, by omega⟩
    refine ⟨_, rfl, _, rfl, log_small h0 h1, ?_⟩
    rw [TxtG.T_str]
    have hl : (FmtS.digs (m : Int)).length ≤ 10 := TxtG.digs_len h0 (by omega)
    refine ⟨_, _, rfl, ?_⟩
    have bnd : ∀ n : Nat, n ≤ 100 → n ≤ sizeLine := fun n h => Nat.le_trans h (by decide)
    refine ⟨fun t σ G => ∃ (wd o : List Nat), σ = [some (.int (m : Nat)), some (.str (TxtG.T wd)), some (.str (TxtG.T o))] ∧ TxtG.com t wd o = TxtG.comT (m : Int) ∧ wd.length ≤ 10 ∧ wd.length + o.length ≤ 20 + (20 - wd.length) ∧ wd.length < t ∧ G = H, ?_, ?_⟩
    · refine ⟨_, FmtS.digs (m : Int), [], ?_, rfl, hl, by simp; omega, Nat.lt_succ_self _, rfl⟩
      rw [← lit_nil]
      rfl
    · rintro t σ G ⟨wd, o, rfl, ec, h10, ho, ht, rfl⟩
      refine ⟨_, rfl, _, rfl, by rw [TxtG.T_len]; exact bnd _ (by omega), _, _, rfl, rfl, _, rfl, ?_⟩
      rw [TxtG.T_len]
      obtain ⟨t', rfl⟩ : ∃ t', t = t' + 1 := ⟨t - 1, by omega⟩
      unfold TxtG.com at ec
      by_cases h3 : 3 < wd.length
      · rw [if_neg (by omega)] at ec
        rw [decide_eq_true (show (3 : Int) < (wd.length : Int) by omega)]
        refine iteT ⟨_, fun _ _ z => z, ?_⟩
        refine seq_of (asg_of ?_)
        refine ⟨_, rfl, _, rfl, _, rfl, _, rfl, by rw [TxtG.T_len]; exact bnd _ (by omega), ?_⟩
        rw [show cutS (TxtG.T wd) (some (-3)) none = TxtG.T (wd.drop (wd.length - 3)) from TxtG.cut_tail wd h3, lit_com]
        have l3 : (wd.drop (wd.length - 3)).length = 3 := by rw [List.length_drop]; omega
        refine ⟨_, _, rfl, rfl, by rw [TxtG.T_len, TxtG.T_len, l3]; exact bnd _ (by decide), _, rfl, _, _, rfl, rfl, ?_, ?_⟩
        · rw [TxtG.T_app, TxtG.T_len, TxtG.T_len, List.length_append, l3]
          exact bnd _ (by simp; omega)
        rw [TxtG.T_app, TxtG.T_app]
        refine nm_of ?_
        dsimp only
        show tAsg _ _ _ _ _
        refine asg_of ?_
        refine ⟨_, rfl, _, rfl, _, rfl, _, rfl, by rw [TxtG.T_len]; exact bnd _ (by omega), ?_⟩
        rw [show cutS (TxtG.T wd) none (some (-3)) = TxtG.T (wd.take (wd.length - 3)) from TxtG.cut_head wd h3]
        refine ⟨t', Nat.lt_succ_self _, wd.take (wd.length - 3), 44 :: (wd.drop (wd.length - 3) ++ o), rfl, ec, ?_, ?_, ?_, rfl⟩
        · rw [List.length_take]; omega
        · rw [List.length_take, List.length_cons, List.length_append, l3]; omega
        · rw [List.length_take]; omega
      · rw [if_pos (by omega)] at ec
        rw [decide_eq_false (show ¬ (3 : Int) < (wd.length : Int) by omega)]
        refine iteF ⟨_, rfl, _, rfl, _, _, rfl, rfl, by rw [TxtG.T_len, TxtG.T_len]; exact bnd _ (by omega), ?_⟩
        rw [TxtG.T_app, ec]
        exact k
theorem ok_filled {f : Addr} {fd : FuncData} (F : Fun K "_law_filled" "_law_filled" s_law_filled f fd) (B : Blt mg) : FnOk P w K mg base CX0 1 f fd ["_law_word", "_law_size"] spFilled := by
  refine F.ok sc_law_filled (fun vs H Q E h => ?_) (fun cdv A outer s H vs Q E hr h => ?_)
  · obtain ⟨l, w, rfl, _⟩ := h
    rfl
  · obtain ⟨l, w, rfl, h0, h1, k⟩ := h
    have hu := hu_of hr
    refine ⟨_, pss_one (ps_ret (pe_op op_add_str (pe_op FmtS.op_smul pe_str (pe_op op_sub (pv 1) (pe_callB call_len_str (by rfl) B.len PySem.boot_len (pa_cons (pv 0) pa_nil)))) (pv 0))), ?_⟩
    have bnd : ∀ n : Nat, n ≤ 1000 → n ≤ sizeLine := fun n h => Nat.le_trans h (by decide)
    refine ⟨_, rfl, _, rfl, _, rfl, by rw [TxtG.T_len]; exact bnd _ (by omega), _, _, rfl, rfl, ?_⟩
    rw [lit_sp, TxtG.T_len]
    refine ⟨_, _, rfl, rfl, TxtG.mul_ok (by omega) (by omega), _, rfl, _, _, rfl, rfl, ?_, ?_⟩
    · rw [TxtG.mul_sp, TxtG.T_len, TxtG.T_len, List.length_replicate]
      exact bnd _ (by omega)
    · rw [TxtG.mul_sp, TxtG.T_app]
      exact k
end
/-! ### chart -/
def tickL (gs : List (Nat × Nat)) (j : Nat) : List Nat := match valV (kvs gs) (Sum.inl (j : Int) : Key) with
  | some (.int u) => FmtS.digs u
  | _ => [45]
def lineOf (xs : List (Int × Int)) (gs : List (Nat × Nat)) (k : Nat) : Str := TxtG.lineT k (xs.getD k (0, 0)) (tickL gs k)
def linesOf (xs : List (Int × Int)) (gs : List (Nat × Nat)) (n : Nat) : List Str := (List.range n).map (lineOf xs gs)
def chartT (xs : List (Int × Int)) (gs : List (Nat × Nat)) : Str := Txt.join (Str.ofString "\n") (linesOf xs gs xs.length)
theorem linesOf_succ {xs : List (Int × Int)} {gs : List (Nat × Nat)} {n : Nat} : linesOf xs gs (n + 1) = linesOf xs gs n ++ [lineOf xs gs n] := by
  unfold linesOf
  rw [List.range_succ, List.map_append]
  rfl
theorem linesOf_len {xs : List (Int × Int)} {gs : List (Nat × Nat)} {n : Nat} : (linesOf xs gs n).length = n := by
  unfold linesOf
  simp
theorem valV_none : ∀ {fs : List (Nat × Nat)} {j : Nat}, (∀ u, (j, u) ∉ fs) → valV (kvs fs) (Sum.inl (j : Int) : Key) = none
  | [], _, _ => rfl
  | p :: fs, j, h => by
    have c : kvs (p :: fs) = ((Sum.inl (p.1 : Int) : Key), V.int (p.2 : Int)) :: kvs fs := rfl
    rw [c, valV_neg (fun z => h p.2 (by
      have z : (Sum.inl (p.1 : Int) : Key) = Sum.inl (j : Int) := z
      injection z with z
      rw [show j = p.1 by omega]
      exact List.mem_cons_self))]
    exact valV_none fun u m => h u (List.mem_cons_of_mem _ m)
theorem valV_cases {fs : List (Nat × Nat)} (nd : (fs.map (·.1)).Nodup) (j : Nat) : (∃ u, (j, u) ∈ fs ∧ valV (kvs fs) (Sum.inl (j : Int) : Key) = some (V.int (u : Int))) ∨ ((∀ u, (j, u) ∉ fs) ∧ valV (kvs fs) (Sum.inl (j : Int) : Key) = none) := by
  by_cases h : ∃ u, (j, u) ∈ fs
  · obtain ⟨u, hu⟩ := h
    exact .inl ⟨u, hu, kvs_at nd hu⟩
  · exact .inr ⟨fun u m => h ⟨u, m⟩, valV_none fun u m => h ⟨u, m⟩⟩
theorem tick_small {xs : List (Int × Int)} {S : List Nat} {r : Bool} {i u j : Nat} (h : Fst xs S r i u j) : u ≤ 2 * S.length + 1 := by
  obtain ⟨h, low⟩ := h
  have ne : ∀ s, s < u → (iter xs S r i s).2 ≠ [] := fun s hs e => low s hs (iter_done e u j h)
  have st : ∀ t, t ≤ u → meas (S.length + 1) (iter xs S r i t) + t ≤ meas (S.length + 1) (iter xs S r i 0) := by
    intro t
    induction t with
    | zero => intro _; omega
    | succ t ih =>
      intro ht
      have := ih (by omega)
      have := iter_meas (xs := xs) (S := S) (r := r) (i := i) t (ne t (by omega))
      omega
  have := st u (Nat.le_refl _)
  have e0 : meas (S.length + 1) (iter xs S r i 0) = 2 * (S.length + 1 - 1) + 1 := rfl
  omega
theorem tickL_len {xs : List (Int × Int)} {r : Bool} {i : Nat} {gs : List (Nat × Nat)} (G : Ticks xs r i gs) (hz : xs.length ≤ 40) (j : Nat) : (tickL gs j).length ≤ 10 := by
  have nd : (gs.map (·.1)).Nodup := (List.pairwise_map.mpr G.up).imp fun {a b} h => Nat.ne_of_lt h
  unfold tickL
  rcases valV_cases nd j with ⟨u, hu, e⟩ | ⟨_, e⟩
  · rw [e]
    have := tick_small ((G.has j u).mp hu)
    rw [List.length_range] at this
    exact TxtG.digs_len (by omega) (by omega)
  · rw [e]
    decide
def spChart (K : PySem.W.Frag) (C C2 C3 : Addr) : Sp := fun vs H Q E => ∃ (p : Addr) (xs : List (Int × Int)) (v sv : V) (d : PyData), vs = [.ref p, v, sv] ∧ RowAt K C H p xs ∧ Wf 0 xs ∧ xs.length ≤ 40 ∧ Known K H v ∧ Dp K H sv d ∧ SeqAt.shaped d = true ∧
  (numB v 0 ((xs.length : Int) - 1) = false → E (.ref C2) none H) ∧ (numB v 0 ((xs.length : Int) - 1) = true → sideD d = false → E (.ref C3) none H) ∧
  ∀ (i : Nat) (r : Bool), v = .int (i : Int) → sv = .str (sideS r) → i < xs.length → ∀ (gs : List (Nat × Nat)) (H' : Hp), Same H H' → Ticks xs r i gs → Q (.str (chartT xs gs)) H'
section
variable {P : Program} {w : World} {K : PySem.W.Frag} {mg : Str → Option Value} {base : Heap}
theorem ok_chart {f C C2 C3 pP gP g1 : Addr} {fd dP d1 : FuncData} (F : Fun K "chart" "chart" s_chart f fd) (B : Blt mg) (R : RowC K mg C)
    (pr : PropOf K C "stones" pP gP) (P1 : FnOk P w K mg base CX0 1 gP dP ["self"] (spGet K C)) (bP : Binds K dP ["self"] [])
    (N1 : At P w K mg base (L2.CX P w) 3 "fall_ticks" ["row", "stone", "side"] (spTicks K C C2 C3) g1 d1) :
    FnOk P w K mg base (L2.CX P w) 4 f fd ["row", "stone", "side"] (spChart K C C2 C3) := by
  refine F.okX sc_chart (fun vs H Q E h => ?_) (fun cdv A outer s H vs Q E hr h => ?_)
  · obtain ⟨p, xs, v, sv, d, rfl, _⟩ := h
    rfl
  · obtain ⟨p, xs, v, sv, d, rfl, hR, hw, hz, kn, hd, sd, h1, h2, k⟩ := h
    obtain ⟨dx, t, us, ep, hT, hS⟩ := id hR
    have r2 : Room 2 _ := hr.mono (by decide)
    have r1 : Room 1 _ := hr.mono (by decide)
    have hu := hu_of hr
    refine ⟨_, pss_cons (ps_set (i := 3) sc_chart.nd rfl (Or.inl rfl) (pe_atE N1 hr (takes_of rfl rfl rfl rfl) (pa_cons (pv 0) (pa_cons (pv 1) (pa_cons (pv 2) pa_nil)))))
      (pss_cons (ps_set (i := 4) sc_chart.nd rfl (Or.inl rfl) (pe_lst pa_nil))
      (pss_cons (ps_for (passes_of rfl) rfl (Own.pi_enumT (by rfl) B.enumerate (pa_cons (pe_prop (pv 0) R.cl pr P1 r2 bP .nil pass0 rfl) pa_nil)) (pg_tup rfl (pgs_cons (pg_name (i := 5) sc_chart.nd rfl (Or.inl rfl)) (pgs_cons (pg_tup rfl (pgs_cons (pg_name (i := 6) sc_chart.nd rfl (Or.inl rfl)) (pgs_cons (pg_name (i := 7) sc_chart.nd rfl (Or.inl rfl)) pgs_nil))) pgs_nil)))
        (pss_cons (ps_set (i := 8) sc_chart.nd rfl (Or.inl rfl) (pe_dget2 hu (pv 3) (pv 5) pe_str ⟨by rfl, by rfl, by rfl, by rfl⟩))
        (pss_one (ps_expr (pe_bm PySem.F.plainAttrs_list PySem.F.slot_list_append PySem.F.type_list_append mt_append (pv 4) (pa_cons (pe_joined (.cons (FmtS.pe_fmtS (pv 5) (pe_joined1 pe_str) (by decide +kernel)) (.cons pe_str (.cons (FmtS.pe_fmtS (pv 6) (pe_joined1 pe_str) (by decide +kernel)) (.cons pe_str (.cons (FmtS.pe_fmtS (pv 7) (pe_joined1 pe_str) (by decide +kernel)) (.cons pe_str (.cons (FmtS.pe_fmtS (pv 8) (pe_joined1 pe_str) (by decide +kernel)) .nil)))))))) pa_nil))))))
      (pss_one (ps_ret (pe_join pe_str (pv 4)))))), ?_⟩
    refine ⟨_, rfl, _, rfl, _, rfl, p, xs, v, sv, d, rfl, hR, hw, hz, kn, hd, sd, h1, h2, fun i r ei er hi z gs H1 s1 nz ez hG => ?_⟩
    subst ei er
    refine nm_of ?_
    refine ⟨by show 0 ≤ sizeLine; decide, fun q nq => ?_⟩
    refine nm_of ?_
    have sameH1 := same_new (o := .lst []) nq
    have s2 := s1.trans (same_new (o := .lst []) nq)
    have ez2 := same_new (o := .lst []) nq _ _ ez
    have eq2 : (upd H1 q (.lst [])) q = some (.lst ((linesOf xs gs 0).map V.str)) := upd_same
    generalize upd H1 q (.lst []) = H2 at s2 ez2 eq2 sameH1 ⊢
    have zq : z ≠ q := fun e => by rw [e, eq2] at ez2; cases ez2
    refine ⟨_, rfl, p, dx, _, rfl, s2 _ _ ep, p, xs, rfl, hR.same s2, fun t us hT hS => ?_⟩
    refine ⟨t, us, rfl, hT, for_it (Own.walk_item (K := K) (a := t) (xs := us)) (fun j σ G => ∃ (s5 s6 s7 s8 : Option V), σ = [some (.ref p), some (.int (i : Nat)), some (.str (sideS r)), some (.ref z), some (.ref q), s5, s6, s7, s8] ∧
      But q H2 G ∧ G q = some (.lst ((linesOf xs gs j).map V.str))) ?_ ?_ ?_ ?_⟩
    · exact ⟨none, none, none, none, rfl, fun _ _ _ e => e, eq2⟩
    · rintro j σ G _ ⟨_, _, _, _, _, sm, _⟩
      exact sqT_but hT eq2 sm
    · rintro j v σ G G' hj ⟨s5, s6, s7, s8, rfl, sm, eq⟩ ⟨T, y, zz, rfl, nT, rfl, e1, e2⟩
      obtain rfl : y = V.int (j : Int) := (Option.some.inj e1).symm
      have hjx : j < xs.length := by rw [← hS.1]; exact hj
      obtain ⟨x, hx⟩ : ∃ x, xs[j]? = some x := ⟨xs[j], by simp [hjx]⟩
      obtain ⟨c, hc, hsc⟩ := hS.2 j x hx
      obtain rfl : zz = V.ref c := Option.some.inj (e2.symm.trans hc)
      have sT := sm.trans (Same.but (same_new (o := .tup [V.int (j : Int), V.ref c]) nT) q)
      have eqT := same_new (o := .tup [V.int (j : Int), V.ref c]) nT _ _ eq
      have eT : SqT K (upd G T (.tup [V.int (j : Int), V.ref c])) T [V.int (j : Int), V.ref c] := SqT.of upd_same
      generalize upd G T (.tup [V.int (j : Int), V.ref c]) = G1 at sT eqT eT ⊢
      refine ⟨T, _, rfl, eT, rfl, _, _, rfl, _, _, rfl, c, _, rfl, sqT_but hsc eq2 sT, rfl, _, _, rfl, _, _, rfl, rfl, rfl, ?_⟩
      dsimp only
      show tSeq _ _ _ _ _
      refine seq_of (asg_of ?_)
      have ndg : (gs.map (·.1)).Nodup := (List.pairwise_map.mpr hG.up).imp fun {a b} h => Nat.ne_of_lt h
      have eg : G1 z = some (.dK (kvs gs)) := sT _ _ zq ez2
      have xe : xs.getD j (0, 0) = x := by rw [List.getD_eq_getElem?_getD, hx]; rfl
      obtain ⟨_, _, w1, w2, w3⟩ := hw.get hx
      have w0 : 0 ≤ x.1 := hw.low hx
      have fJ : FmtS.FmtOf (Str.ofString ">2") (.int (j : Int)) (TxtG.T (TxtG.fillL 2 (FmtS.digs (j : Int)))) := .inl ⟨(j : Int), 2, false, rfl, log_small (by omega) (by omega), FmtS.spec2, by rw [TxtG.fld_fill 2 (by omega), TxtG.dsOf_plain]⟩
      have fP : FmtS.FmtOf (Str.ofString ">13,") (.int x.1) (TxtG.T (TxtG.fillL 13 (TxtG.comT x.1))) := .inl ⟨x.1, 13, true, rfl, log_small (by omega) (by omega), FmtS.spec13, by rw [TxtG.fld_fill 13 (by omega), TxtG.dsOf_com]⟩
      have fH : FmtS.FmtOf (Str.ofString ">13,") (.int x.2) (TxtG.T (TxtG.fillL 13 (TxtG.comT x.2))) := .inl ⟨x.2, 13, true, rfl, log_small (by omega) (by omega), FmtS.spec13, by rw [TxtG.fld_fill 13 (by omega), TxtG.dsOf_com]⟩
      have fT : FmtS.FmtOf (Str.ofString ">3") ((valV (kvs gs) (Sum.inl (j : Int) : Key)).getD (.str (Str.ofString "-"))) (TxtG.T (TxtG.fillL 3 (tickL gs j))) := by
        unfold tickL
        rcases valV_cases ndg j with ⟨u, hu, e⟩ | ⟨_, e⟩
        · rw [e]
          have := tick_small ((hG.has j u).mp hu)
          rw [List.length_range] at this
          exact .inl ⟨(u : Int), 3, false, rfl, log_small (by omega) (by omega), FmtS.spec3, by rw [TxtG.fld_fill 3 (by omega), TxtG.dsOf_plain]⟩
        · rw [e]
          refine .inr ⟨TxtG.T [45], 3, by rw [← lit_no]; rfl, by decide, FmtS.spec3s, ?_⟩
          exact (TxtG.padded_fill 3 [45]).symm
      have tl := tickL_len hG hz j
      have lJ := TxtG.fillL_len 2 (FmtS.digs (j : Int))
      have lP := TxtG.fillL_len 13 (TxtG.comT x.1)
      have lH := TxtG.fillL_len 13 (TxtG.comT x.2)
      have lT := TxtG.fillL_len 3 (tickL gs j)
      have mJ := TxtG.digs_len (a := (j : Int)) (by omega) (by omega)
      have mP := TxtG.comT_len w0 (by omega)
      have mH := TxtG.comT_len (a := x.2) (by omega) (by omega)
      have bnd : ∀ n : Nat, n ≤ 200 → n ≤ sizeLine := fun n h => Nat.le_trans h (by decide)
      have bT : ∀ l : List Nat, l.length ≤ 200 → (TxtG.T l).length ≤ sizeLine := fun l h => by rw [TxtG.T_len]; exact bnd _ h
      refine ⟨_, rfl, z, rfl, (.inl ⟨kvs gs, .inl eg⟩), _, rfl, _, .inl ⟨kvs gs, Sum.inl (j : Int), .inl eg, rfl, rfl⟩, ?_⟩
      refine nm_of ?_
      refine ⟨_, rfl, .inl ⟨rfl, _, SqL.of eqT⟩, ?_⟩
      refine ⟨_, rfl, _, fJ, bT _ (by omega), _, rfl, ?_, ?_⟩
      · simp only [TxtG.T_nil, lit_sp, TxtG.T_app, TxtG.T_len, List.length_append, List.length_nil, List.length_singleton]
        exact bnd _ (by omega)
      refine ⟨_, rfl, ?_, _, rfl, _, fP, bT _ (by omega), _, rfl, ?_, ?_⟩
      · simp only [TxtG.T_nil, lit_sp, TxtG.T_app, TxtG.T_len, List.length_append, List.length_nil, List.length_singleton]
        exact bnd _ (by omega)
      · simp only [TxtG.T_nil, lit_sp, TxtG.T_app, TxtG.T_len, List.length_append, List.length_nil, List.length_singleton]
        exact bnd _ (by omega)
      refine ⟨_, rfl, ?_, _, rfl, _, fH, bT _ (by omega), _, rfl, ?_, ?_⟩
      · simp only [TxtG.T_nil, lit_sp, TxtG.T_app, TxtG.T_len, List.length_append, List.length_nil, List.length_singleton]
        exact bnd _ (by omega)
      · simp only [TxtG.T_nil, lit_sp, TxtG.T_app, TxtG.T_len, List.length_append, List.length_nil, List.length_singleton]
        exact bnd _ (by omega)
      refine ⟨_, rfl, ?_, _, rfl, _, fT, bT _ (by omega), _, rfl, ?_, ?_⟩
      · simp only [TxtG.T_nil, lit_sp, TxtG.T_app, TxtG.T_len, List.length_append, List.length_nil, List.length_singleton]
        exact bnd _ (by omega)
      · simp only [TxtG.T_nil, lit_sp, TxtG.T_app, TxtG.T_len, List.length_append, List.length_nil, List.length_singleton]
        exact bnd _ (by omega)
      have eL : Str.empty ++ TxtG.T (TxtG.fillL 2 (FmtS.digs (j : Int))) ++ Str.ofString " " ++ TxtG.T (TxtG.fillL 13 (TxtG.comT x.1)) ++ Str.ofString " " ++ TxtG.T (TxtG.fillL 13 (TxtG.comT x.2)) ++ Str.ofString " " ++ TxtG.T (TxtG.fillL 3 (tickL gs j)) = lineOf xs gs j := by
        unfold lineOf TxtG.lineT
        rw [xe]
        simp only [TxtG.T_nil, lit_sp, TxtG.T_app, List.nil_append, List.append_assoc]
      rw [eL]
      refine ⟨q, _, _, rfl, rfl, eqT, ?_, ?_⟩
      · rw [List.length_map, linesOf_len]
        exact bnd _ (by omega)
      · refine ⟨_, _, _, _, rfl, sT.trans but_upd, ?_⟩
        rw [upd_same, linesOf_succ, List.map_append]
        rfl
    · rintro σ G ⟨s5, s6, s7, s8, rfl, sm, eq⟩
      refine ⟨⟨_, rfl⟩, _, rfl, _, q, linesOf xs gs xs.length, rfl, rfl, .inl ?_, ?_, ?_⟩
      · rw [← hS.1]
        exact SqL.of eq
      · have l1 : (linesOf xs gs xs.length).length = xs.length := linesOf_len
        have l2 : ∀ (ys : List Str), (∀ y ∈ ys, y.length ≤ 200) → (ys.map (·.length)).sum ≤ 200 * ys.length := by
          intro ys
          induction ys with
          | nil => intro _; simp
          | cons y ys ih =>
            intro h
            have := h y (by simp)
            have := ih fun z hz => h z (by simp [hz])
            simp
            omega
        have l3 := l2 (linesOf xs gs xs.length) fun y hy => by
          obtain ⟨n, hn, rfl⟩ := List.mem_map.mp hy
          have hn := List.mem_range.mp hn
          obtain ⟨x, hx⟩ : ∃ x, xs[n]? = some x := ⟨xs[n], by simp [hn]⟩
          have xe : xs.getD n (0, 0) = x := by rw [List.getD_eq_getElem?_getD, hx]; rfl
          obtain ⟨_, _, w1, w2, w3⟩ := hw.get hx
          have w0 : 0 ≤ x.1 := hw.low hx
          have tl := tickL_len hG hz n
          unfold lineOf
          rw [xe]
          exact TxtG.lineT_len (by omega) w0 w1 (by omega) w3 (by omega)
        rw [l1] at l3 ⊢
        have : (Str.ofString "\n").length = 1 := by decide +kernel
        rw [this]
        omega
      · exact k i r rfl rfl hi gs G (fun c o e => sm c o (ne_of_none (s1 c o e) nq) (sameH1 c o (s1 c o e))) hG
end
/-! ### what stands while tables grow -/
def qL : Str := (("law" : Str) ++ (".<locals>." : Str)) ++ ("<lambda>" : Str)
theorem sqT_extN {H H' : Hp} {a : Addr} {xs : List V} {K : PySem.W.Frag} (e : LamX.ExtN H H') (h : SqT K H a xs) : SqT K H' a xs := by
  rcases h with (h | ⟨o, h⟩) | h
  · exact .inl (.inl (e _ _ h fun ps z => nomatch z))
  · exact .inl (.inr ⟨o, e _ _ h fun ps z => nomatch z⟩)
  · exact .inr h
theorem sqL_extN {H H' : Hp} {a : Addr} {xs : List V} {K : PySem.W.Frag} (e : LamX.ExtN H H') (h : SqL K H a xs) : SqL K H' a xs := by
  rcases h with (h | ⟨o, h⟩) | h
  · exact .inl (.inl (e _ _ h fun ps z => nomatch z))
  · exact .inl (.inr ⟨o, e _ _ h fun ps z => nomatch z⟩)
  · exact .inr h
theorem extN_of {H H' : Hp} (e : Same H H') : LamX.ExtN H H' := fun b o h _ => e b o h
theorem tabs_same {T : List (Addr × Str)} {H H' : Hp} (e : Same H H') (h : LamX.Tabs T H) : LamX.Tabs T H' := LamX.Tabs.ext h e
theorem tabs_but {T : List (Addr × Str)} {H H' : Hp} {L : Addr} {ys : List V} (e : But L H H') (hL : H L = some (.lst ys)) (h : LamX.Tabs T H) : LamX.Tabs T H' := fun p hp => by
  obtain ⟨ps, a, b, c⟩ := h p hp
  refine ⟨ps, e _ _ (fun z => by rw [z, hL] at a; cases a) a, b, fun pos cv q => ?_⟩
  obtain ⟨c0, d1, d2⟩ := c pos cv q
  exact ⟨c0, d1, e _ _ (fun z => by rw [z, hL] at d2; cases d2) d2⟩
theorem StonesAt.map {K : PySem.W.Frag} {H H' : Hp} {us : List V} {xs : List (Int × Int)} (h : StonesAt K H us xs) (f : ∀ a ys, SqT K H a ys → SqT K H' a ys) : StonesAt K H' us xs :=
  ⟨h.1, fun k x q => let ⟨a, q1, q2⟩ := h.2 k x q; ⟨a, q1, f _ _ q2⟩⟩
theorem Drw.extN {K : PySem.W.Frag} {H H' : Hp} {L a : Addr} {ns : List Int} (h : Drw K H L a ns) (e : LamX.ExtN H H') : Drw K H' L a ns :=
  let ⟨i, s, r, h1, h2, h3, h4, h5⟩ := h; ⟨i, s, r, e _ _ h1 (fun ps z => nomatch z), h2, h3, h4, sqL_extN e h5⟩
theorem next_of {D : Ends} {σ : L2.St} {H : Hp} (h : D.nx σ H) : tNext D σ H := h
theorem RowAt.extN {K : PySem.W.Frag} {C : Addr} {H H' : Hp} {p : Addr} {xs : List (Int × Int)} (h : RowAt K C H p xs) (e : LamX.ExtN H H') : RowAt K C H' p xs :=
  let ⟨dx, t, us, h1, h2, h3⟩ := h; ⟨dx, t, us, e _ _ h1 (fun ps z => nomatch z), sqT_extN e h2, h3.map fun _ _ => sqT_extN e⟩
theorem rgV_ivs (n : Nat) : rgV 0 (n : Int) = ivs (List.range n) := by
  unfold rgV ivs
  have e : ((n : Int) - 0).toNat = n := by omega
  rw [e]
  exact List.map_congr_left fun k _ => congrArg V.int (by omega)
theorem lines_sum {xs : List (Int × Int)} {gs : List (Nat × Nat)} (hw : Wf 0 xs) (hz : xs.length ≤ 40) (ht : ∀ k, (tickL gs k).length ≤ 10) : ((linesOf xs gs xs.length).map (·.length)).sum + (linesOf xs gs xs.length).length * (Str.ofString "\n").length ≤ 16777216 := by
  have l1 : (linesOf xs gs xs.length).length = xs.length := linesOf_len
  have l2 : ∀ (ys : List Str), (∀ y ∈ ys, y.length ≤ 200) → (ys.map (·.length)).sum ≤ 200 * ys.length := by
    intro ys
    induction ys with
    | nil => intro _; simp
    | cons y ys ih =>
      intro h
      have := h y (by simp)
      have := ih fun z hz => h z (by simp [hz])
      simp
      omega
  have l3 := l2 (linesOf xs gs xs.length) fun y hy => by
    obtain ⟨n, hn, rfl⟩ := List.mem_map.mp hy
    have hn := List.mem_range.mp hn
    obtain ⟨x, hx⟩ : ∃ x, xs[n]? = some x := ⟨xs[n], by simp [hn]⟩
    have xe : xs.getD n (0, 0) = x := by rw [List.getD_eq_getElem?_getD, hx]; rfl
    obtain ⟨_, _, w1, w2, w3⟩ := hw.get hx
    have w0 : 0 ≤ x.1 := hw.low hx
    have tl := ht n
    unfold lineOf
    rw [xe]
    exact TxtG.lineT_len (by omega) w0 w1 (by omega) w3 (by omega)
  rw [l1] at l3 ⊢
  have : (Str.ofString "\n").length = 1 := by decide +kernel
  rw [this]
  omega
/-! ### k47's law -/
def spLaw (K : PySem.W.Frag) (T : List (Addr × Str)) : Sp := fun vs H Q _ => ∃ (a : Addr) (ns : List Int), vs = [.ref a] ∧ SqL K H a (ns.map V.int) ∧ ns.length ≤ 63 ∧ LamX.Tabs T H ∧ ∀ H', Q (.bl true) H'
section
variable {P : Program} {w : World} {K : PySem.W.Frag} {mg : Str → Option Value} {base : Heap}
theorem ok_law {Y : Exc11} {C C2 C3 f1 f2 f3 f4 f5 f6 f7 f8 f9 : Addr} {d1 d2 d3 d4 d5 d6 d7 d8 d9 : FuncData}
    {f c Pt g : Addr} {oC kV doc pm ct dVr kVr docr pmr cdr ctr ocr : Value} {an od' anr odr : Option Addr} {osl oslr : Array (Option Value)} {T : List (Addr × Str)}
    (B : Blt mg) (bs : mg "str" = none)
    (ND : At P w K mg base CX0 1 "_law_dice" ["_law_script"] (spDice K) f1 d1) (NX : At P w K mg base CX0 1 "_law_next" ["_law_dice_here", "_law_many"] (spNext K) f2 d2) (S2 : At P w K mg base CX0 2 "_law_stones" ["_law_d", "_law_most"] (spStones K) f3 d3)
    (R6 : At P w K mg base CX0 6 "_law_made" ["_law_stones_here"] (spRow K C) f4 d4) (PK : At P w K mg base CX0 2 "_law_pick" ["_law_d", "_law_some"] (spPick K) f5 d5)
    (TK : At P w K mg base CX0 1 "_law_ticks" ["_law_stones_here", "_law_up", "_law_stone", "_law_side"] (spTicksW K) f6 d6)
    (GP : At P w K mg base CX0 1 "_law_grouped" ["_law_number"] spGrouped f7 d7) (FI : At P w K mg base CX0 1 "_law_filled" ["_law_word", "_law_size"] spFilled f8 d8)
    (CH : At P w K mg base (L2.CX P w) 4 "chart" ["row", "stone", "side"] (spChart K C C2 C3) f9 d9)
    (M : ExcMW mg Y) (o1 : ExcOfW K Y C2 6) (o2 : ExcOfW K Y C3 7)
    (lk : K.lookup f = some ⟨oC, od', .func (PySem.W.fnOf "law" "law" (defArgs s_law) (defBody s_law) (defScope s_law) .none kV doc pm an (.ref c) ct), osl⟩) (hcd : PySem.W.codeIn K (.ref c) "law" = true)
    (mR : mg "_law_told" = some (.ref g)) (kR : PySem.W.keepIn K (.ref g) = true) (lkR : K.lookup g = some ⟨ocr, odr, .func (PySem.W.fnOf "_law_told" "_law_told" (defArgs s_law_told) (defBody s_law_told) (defScope s_law_told) dVr kVr docr pmr anr cdr ctr), oslr⟩)
    (hcR : PySem.W.codeIn K cdr "_law_told" = true) (bR : L2.Binds K (PySem.W.fnOf "_law_told" "_law_told" (defArgs s_law_told) (defBody s_law_told) (defScope s_law_told) dVr kVr docr pmr anr cdr ctr) ["_law_work"] [])
    (TB : LamX.TabB base mg c Pt) (inT : (Pt, qL) ∈ T) (one : ∀ p ∈ T, p.1 = Pt → p.2 = qL) :
    FnOk P w K mg base CX0 8 f (PySem.W.fnOf "law" "law" (defArgs s_law) (defBody s_law) (defScope s_law) .none kV doc pm an (.ref c) ct) ["_law_script"] (spLaw K T) := by
  refine fn_of lk hcd sc_law (fun vs H Q E h => ?_) (fun A outer s H vs Q E hr hsp => ?_)
  · obtain ⟨a, ns, rfl, _⟩ := h
    rfl
  · obtain ⟨a, ns, rfl, hs, hn63, tabs, k⟩ := hsp
    have hu := hu_of hr
    have hu64 := hr.units
    have r6 : Room 6 _ := hr.mono (by decide)
    have r4 : Room 4 _ := hr.mono (by decide)
    have r2 : Room 2 _ := hr.mono (by decide)
    have r1 : Room 1 _ := hr.mono (by decide)
    have hG := told_givesW (X := (cxOf CX0 P w K mg base n_law "law" (defScope s_law) f (.ref c) A outer s H E).nox) (Z := Y) (g := g) (cdg := cdr) M B (by have := hr.un; show (A.deeper _).units + 130 < cLine; omega)
    suffices hh : ∃ t, PSs (cxOf CX0 P w K mg base n_law "law" (defScope s_law) f (.ref c) A outer s H E).nox (defBody s_law) t ∧ t { nx := fun _ H' => Q .non H', rt := Q } (start n_law [.ref a]) H by
      obtain ⟨t, q1, q2⟩ := hh
      exact ⟨t, q1.nox, q2⟩
    refine ⟨_, pss_cons (ps_set (i := 1) sc_law.nd rfl (Or.inr rfl) (pe_at ND r1 (pa_cons (pv 0) pa_nil)))
      (pss_cons (ps_for PassesOwn.never rfl (pi_range1 (by rfl) B.range (pa_cons (pe_int) pa_nil)) (pg_name (i := 2) sc_law.nd rfl (Or.inl rfl))
        (pss_cons (ps_set (i := 3) sc_law.nd rfl (Or.inl rfl) (pe_op op_cat (pe_at S2 r2 (pa_cons (pv 1) (pa_cons (pe_int) pa_nil))) (pe_lst (pa_cons (pe_tup (pa_cons (pe_op op_sub (pe_op op_pow pe_int pe_int) (pe_at NX r1 (pa_cons (pv 1) (pa_cons (pe_op op_pow pe_int pe_int) pa_nil)))) (pa_cons (pe_op op_add (pe_int) (pe_at NX r1 (pa_cons (pv 1) (pa_cons (pe_op op_pow pe_int pe_int) pa_nil)))) pa_nil))) pa_nil))))
        (pss_cons (ps_par (i := 4) (j := 5) (by rfl) sc_law.nd rfl rfl (by decide) rfl rfl (pa_cons (pe_at NX r1 (pa_cons (pv 1) (pa_cons (pe_callB call_len_seq (by rfl) B.len PySem.boot_len (pa_cons (pv 3) pa_nil)) pa_nil))) (pa_cons (pe_at PK r2 (pa_cons (pv 1) (pa_cons (pe_lst (pa_cons (pe_str) (pa_cons (pe_str) pa_nil))) pa_nil))) pa_nil)) (by rfl))
        (pss_cons (ps_par (i := 6) (j := 7) (by rfl) sc_law.nd rfl rfl (by decide) rfl rfl (pa_cons (pe_at TK r1 (pa_cons (pv 3) (pa_cons (pe_listRg rfl (by rfl) B.list (prg_1 (by rfl) B.range (pe_callB call_len_seq (by rfl) B.len PySem.boot_len (pa_cons (pv 3) pa_nil)))) (pa_cons (pv 4) (pa_cons (pv 5) pa_nil))))) (pa_cons (pe_lst pa_nil) pa_nil)) (by rfl))
        (pss_cons (ps_for PassesOwn.never rfl (pi_range1 (by rfl) B.range (pa_cons (pe_callB call_len_seq (by rfl) B.len PySem.boot_len (pa_cons (pv 3) pa_nil)) pa_nil)) (pg_name (i := 8) sc_law.nd rfl (Or.inl rfl))
          (pss_cons (ps_set (i := 9) sc_law.nd rfl (Or.inl rfl) (pe_ifExp (pt_cmp (pc_din hu (pv 8) (pv 6))) (pe_callTy call_str_int (by rfl) bs boot_str (pa_cons (pe_dget hu (pv 6) (pv 8) (fun _ _ => rfl)) pa_nil)) pe_str))
          (pss_cons (ps_asg (pe_lc (own := [("_law_number", 12)]) (g := gName 12) rfl sc_law.nd (pi_tup (pe_ix ix_list (pv 3) (pv 8) (fun _ _ => rfl))) (blkOk_by (N := n_law) (sc := defScope s_law) (by decide +kernel))
              (fun _ _ _ _ _ => pg_name (i := 12) sc_law.nd rfl (Or.inl rfl)) (fun _ _ _ _ _ => pts_nil) (fun _ _ _ _ _ => (show PE _ _ (tCall spGrouped [] E0 (tCons (tVar 12) tNil)) from pe_at GP r1 (pa_cons (pv 12) pa_nil)))) (pg_unl rfl (pgs_cons (pg_name (i := 10) sc_law.nd rfl (Or.inl rfl)) (pgs_cons (pg_name (i := 11) sc_law.nd rfl (Or.inl rfl)) pgs_nil))))
          (pss_cons (ps_set (i := 13) sc_law.nd rfl (Or.inl rfl) (pe_op op_add_str (pe_op op_add_str (pe_op op_add_str (pe_op op_add_str (pe_at FI r1 (pa_cons (pe_callTy call_str_int (by rfl) bs boot_str (pa_cons (pv 8) pa_nil)) (pa_cons (pe_int) pa_nil))) pe_str) (pe_at FI r1 (pa_cons (pv 10) (pa_cons (pe_int) pa_nil)))) pe_str) (pe_at FI r1 (pa_cons (pv 11) (pa_cons (pe_int) pa_nil)))))
          (pss_one (ps_expr (pe_bm PySem.F.plainAttrs_list PySem.F.slot_list_append PySem.F.type_list_append mt_append (pv 7) (pa_cons (pe_op op_add_str (pe_op op_add_str (pv 13) pe_str) (pe_at FI r1 (pa_cons (pv 9) (pa_cons (pe_int) pa_nil)))) pa_nil))))))))
        (pss_cons (ps_set (i := 14) sc_law.nd rfl (Or.inr rfl) (pe_at R6 r6 (pa_cons (pv 3) pa_nil)))
        (pss_cons (ps_if (pt_cmpR (op_ne) (pe_call CH.ok r4 (by rfl) CH.m CH.kp CH.b .nil passL (pa_cons (pv 14) (pa_cons (pv 4) (pa_cons (pv 5) pa_nil)))) (pe_join pe_str (pv 7)) (nomark _)) (pss_one (ps_ret pe_bl)) pss_nil)
        (pss_cons (ps_set (i := 15) sc_law.nd rfl (Or.inr rfl) (pe_at PK r2 (pa_cons (pv 1) (pa_cons (pe_lst (pa_cons (pe_un un_neg pe_int) (pa_cons (pe_callB call_len_seq (by rfl) B.len PySem.boot_len (pa_cons (pv 3) pa_nil)) (pa_cons (pe_non) (pa_cons (pe_bl) pa_nil))))) pa_nil))))
        (pss_cons (ps_if (pt_cmpR (op_neD hu64) (LamV.pe_give (k := 5) (by rfl) mR kR lkR hcR bR sc_law_told rfl (.inl rfl) hG hr (pa_cons (LamV.pe_lam0 TB rfl inT one (LamV.lamN_by (N := n_law) (sc := defScope s_law) (by decide +kernel)).free rfl) pa_nil)) (pe_tup (pa_cons (pe_str) (pa_cons (pe_str) pa_nil))) (nomark _)) (pss_one (ps_ret pe_bl)) pss_nil)
        (pss_one (ps_if (pt_cmpR (op_neD hu64) (LamV.pe_give (k := 5) (by rfl) mR kR lkR hcR bR sc_law_told rfl (.inl rfl) hG hr (pa_cons (LamV.pe_lam1 TB rfl inT one (LamV.lamN_by (N := n_law) (sc := defScope s_law) (by decide +kernel)).free rfl rfl (pe_int)) pa_nil)) (pe_tup (pa_cons (pe_str) (pa_cons (pe_str) pa_nil))) (nomark _)) (pss_one (ps_ret pe_bl)) pss_nil)))))))))))
      (pss_one (ps_ret pe_bl))), ?_⟩
    -- the dice
    refine ⟨_, rfl, a, ns, rfl, hs, hn63, fun L0 H1 s1 nL D1 => ?_⟩
    have t1 := tabs_same s1 tabs
    refine nm_of ?_
    refine ⟨4, rfl, by decide, by decide, for_range (lo := 0) (n := 4) (fun j σ G => ∃ (s2 s3 s4 s5 s6 s7 s8 s9 s10 s11 s12 s13 s14 s15 : Option V), σ = [some (.ref a), some (.ref L0), s2, s3, s4, s5, s6, s7, s8, s9, s10, s11, s12, s13, s14, s15] ∧ LamX.Tabs T G ∧ Drw K G L0 a ns) ?_ ?_ ?_⟩
    · exact ⟨_, _, _, _, _, _, _, _, _, _, _, _, _, _, rfl, t1, D1⟩
    · rintro jt σ G hj ⟨s2, s3, s4, s5, s6, s7, s8, s9, s10, s11, s12, s13, s14, s15, rfl, tG, DG⟩
      refine nm_of ?_
      -- the stones
      refine ⟨_, rfl, L0, a, ns, 12, rfl, by decide, by decide, DG, fun sl us xs H2 D2 b2 nsl esl hS hw hd hz => ?_⟩
      obtain ⟨yL, eL⟩ := DG.cell.list
      have slL : sl ≠ L0 := fun e => by rw [e, eL] at nsl; cases nsl
      have t2 := tabs_but b2 eL tG
      have ul : us.length = xs.length := hS.1
      -- the last one
      refine ⟨_, _, rfl, rfl, ⟨by decide, by decide⟩, ?_⟩
      refine ⟨_, rfl, _, _, rfl, rfl, ⟨by decide, by decide⟩, L0, a, ns, _, rfl, by decide, by decide, D2, fun n1 H3 n10 n11 D3 b3 => ?_⟩
      have n11 : n1 < 100000000 := n11
      refine ⟨_, _, rfl, rfl, ?_⟩
      refine ⟨_, rfl, _, _, rfl, rfl, ⟨by decide, by decide⟩, L0, a, ns, _, rfl, by decide, by decide, D3, fun n2 H4 n20 n21 D4 b4 => ?_⟩
      have n21 : n2 < 1000000000 := n21
      refine ⟨_, _, rfl, rfl, by show 2 ≤ sizeLine; decide, fun T1 nT1 => ?_⟩
      refine ⟨by show 1 ≤ sizeLine; decide, fun l1 nl1 => ?_⟩
      obtain ⟨yL2, eL2⟩ := D2.cell.list
      have b24 : But L0 H2 H4 := b3.trans b4
      have t4 := tabs_but b24 eL2 t2
      have esl4 := b24 _ _ slL esl
      have hS4 := hS.but eL2 b24
      have sT := same_new (o := .tup [V.int ((10 : Int) ^ (9 : Int).toNat - n1), V.int (1 + n2)]) nT1
      have sl1 := same_new (o := .lst [V.ref T1]) nl1
      have hT1 : SqT K (upd (upd H4 T1 (.tup [V.int ((10 : Int) ^ (9 : Int).toNat - n1), V.int (1 + n2)])) l1 (.lst [V.ref T1])) T1 [V.int ((10 : Int) ^ (9 : Int).toNat - n1), V.int (1 + n2)] := sqT_same (SqT.of upd_same) sl1
      have s46 := sT.trans sl1
      have el1 : (upd (upd H4 T1 (.tup [V.int ((10 : Int) ^ (9 : Int).toNat - n1), V.int (1 + n2)])) l1 (.lst [V.ref T1])) l1 = some (.lst [V.ref T1]) := upd_same
      generalize upd (upd H4 T1 (.tup [V.int ((10 : Int) ^ (9 : Int).toNat - n1), V.int (1 + n2)])) l1 (.lst [V.ref T1]) = H6 at hT1 s46 el1 ⊢
      clear nT1 nl1 sT sl1
      refine ⟨sl, l1, us, _, rfl, rfl, s46 _ _ esl4, el1, by show us.length + 1 ≤ sizeLine; rw [sizeLine_eq]; omega, fun sr nsr => ?_⟩
      have e10 : (10 : Int) ^ (9 : Int).toNat = 1000000000 := by decide
      rw [e10] at hT1
      have srs := same_new (o := .lst (us ++ [V.ref T1])) nsr
      have hS7 : StonesAt K (upd H6 sr (.lst (us ++ [V.ref T1]))) (us ++ [V.ref T1]) (xs ++ [(1000000000 - n1, 1 + n2)]) := ((hS4.same s46).append (StonesAt.one hT1)).same srs
      have esr : (upd H6 sr (.lst (us ++ [V.ref T1]))) sr = some (.lst (us ++ [V.ref T1])) := upd_same
      have D7 := D4.up (s46.trans srs)
      have t7 := tabs_same (s46.trans srs) t4
      have hw7 : Wf 0 (xs ++ [(1000000000 - n1, 1 + n2)]) := by
        refine Wf.snoc hw (by show 0 ≤ 1000000000 - n1; omega) (fun x hx => ?_) (by show 1000000000 - n1 ≤ _; omega) (by show 1 ≤ 1 + n2; omega) (by show 1 + n2 ≤ 1000000000; omega)
        have := (hd x hx).2.1
        show x.1 + 1 ≤ 1000000000 - n1
        omega
      have hz7 : (xs ++ [(1000000000 - n1, 1 + n2)]).length ≤ 13 := by rw [List.length_append]; simp; omega
      have hn7 : 1 ≤ (xs ++ [(1000000000 - n1, 1 + n2)]).length := by rw [List.length_append]; simp
      have srL : sr ≠ L0 := fun e => by
        obtain ⟨yL3, eL3⟩ := D4.cell.list
        have := s46 _ _ eL3
        rw [e, this] at nsr; cases nsr
      generalize upd H6 sr (.lst (us ++ [V.ref T1])) = H7 at hS7 esr D7 t7 ⊢
      generalize xs ++ [(1000000000 - n1, 1 + n2)] = ys at hS7 hw7 hz7 hn7
      generalize us ++ [V.ref T1] = vs at hS7 esr
      have vl : vs.length = ys.length := hS7.1
      clear srs nsr hT1 e10 s46 el1 esl4 hS4 t4 b24 eL2 b3 b4 D4 D3 D2 esl hS hw hd hz nsl slL eL t2 ul tG DG b2
      refine nm_of ?_
      -- a stone and a side
      refine ⟨_, rfl, _, rfl, sr, vs, rfl, .inl (SqL.of esr), L0, a, ns, vs.length, rfl, by omega, by omega, D7, fun i0 H8 i00 i01 D8 b8 => ?_⟩
      obtain ⟨yL, eL⟩ := D7.cell.list
      have esr8 := b8 _ _ srL esr
      have hS8 := hS7.but eL b8
      have t8 := tabs_but b8 eL t7
      clear esr hS7 t7 D7 eL b8
      obtain ⟨yL, eL⟩ := D8.cell.list
      refine ⟨_, rfl, by show 2 ≤ sizeLine; decide, fun pl npl => ?_⟩
      have spl := same_new (o := .lst [V.str "left", V.str "right"]) npl
      have plL : pl ≠ L0 := fun e => by rw [e, eL] at npl; cases npl
      refine ⟨L0, a, pl, ns, _, rfl, D8.up spl, upd_same, plL, by show 0 < 2; decide, by show 2 ≤ 1000; decide, fun v iv H9 hv D9 b9 => ?_⟩
      obtain ⟨r, rfl⟩ : ∃ r : Bool, v = .str (sideS r) := by
        match iv, hv with
        | 0, hv => exact ⟨false, (Option.some.inj hv).symm⟩
        | 1, hv => exact ⟨true, (Option.some.inj hv).symm⟩
        | iv + 2, hv => simp at hv
      have eL' := spl _ _ eL
      have esr9 := b9 _ _ srL (spl _ _ esr8)
      have hS9 := (hS8.same spl).but eL' b9
      have t9 := tabs_but b9 eL' (tabs_same spl t8)
      clear hv b9 eL' plL spl npl eL esr8 hS8 t8 D8
      obtain ⟨i, rfl⟩ : ∃ i : Nat, i0 = (i : Int) := ⟨i0.toNat, by omega⟩
      have hi : i < ys.length := by omega
      refine ⟨_, _, rfl, ?_⟩
      dsimp only
      show tSeq _ _ _ _ _
      refine seq_of ?_
      -- the ticks
      refine ⟨_, rfl, _, rfl, sr, vs, rfl, .inl (SqL.of esr9), ?_⟩
      have eR : rgV 0 (vs.length : Int) = ivs (List.range ys.length) := by rw [vl, rgV_ivs]
      refine ⟨_, rfl, ⟨by omega, by omega, by omega, by omega, by omega⟩, fun rg nrg => ?_⟩
      rw [eR]
      have srg := same_new (o := .lst (ivs (List.range ys.length))) nrg
      refine ⟨_, rfl, _, rfl, sr, rg, vs, ys, List.range ys.length, i, r, rfl, SqL.of (srg _ _ esr9), hS9.same srg, SqL.of upd_same, fun o ho => List.mem_range.mp ho, hi, by rw [List.length_range]; omega, fun d fs H11 s11 nd ed ndp flen has => ?_⟩
      rw [List.length_range] at flen
      have sA := srg.trans s11
      refine ⟨by show 0 ≤ sizeLine; decide, fun ln nln => ⟨_, _, rfl, ?_⟩⟩
      have sln := same_new (o := .lst []) nln
      have sB := sA.trans sln
      have eln : (upd H11 ln (.lst [])) ln = some (.lst ((linesOf ys fs 0).map V.str)) := upd_same
      have ed2 := sln _ _ ed
      have D2 := D9.up sB
      have t2 := tabs_same sB t9
      have esr2 := sB _ _ esr9
      have hS2 := hS9.same sB
      have lnL : ln ≠ L0 := fun e => by
        obtain ⟨yL, eL⟩ := (D9.up sA).cell.list
        rw [e, eL] at nln; cases nln
      have lsr : ln ≠ sr := fun e => by rw [e, sA _ _ esr9] at nln; cases nln
      have lnd : ln ≠ d := fun e => by rw [e, ed] at nln; cases nln
      have D11 := D9.up sA
      generalize upd H11 ln (.lst []) = H12 at eln ed2 D2 t2 esr2 hS2 sln ⊢
      clear sB sA s11 nd ed srg nrg eR esr9 hS9 t9 D9
      have tickN : ∀ j, (tickL fs j).length ≤ 10 := fun j => by
        unfold tickL
        rcases valV_cases ndp j with ⟨u, hu, e⟩ | ⟨_, e⟩
        · rw [e]
          have := tick_small ((has j u).mp hu)
          rw [List.length_range] at this
          exact TxtG.digs_len (by omega) (by omega)
        · rw [e]
          decide
      -- the lines
      refine seq_of ?_
      refine ⟨_, rfl, sr, vs, rfl, .inl (SqL.of esr2), vs.length, rfl, by omega, by omega, for_range (lo := 0) (n := vs.length) (fun j σ G => ∃ (s8 s9 s10 s11 s12 s13 : Option V), σ = [some (.ref a), some (.ref L0), some (.int (0 + (jt : Nat))), some (.ref sr), some (.int (i : Nat)), some (.str (sideS r)), some (.ref d), some (.ref ln), s8, s9, s10, s11, s12, s13, s14, s15] ∧
        But ln H12 G ∧ G ln = some (.lst ((linesOf ys fs j).map V.str))) ?_ ?_ ?_⟩
      · exact ⟨_, _, _, _, _, _, rfl, fun _ _ _ e => e, eln⟩
      · rintro j σ G hj ⟨s8, s9, s10, s11, s12, s13, rfl, bG, eG⟩
        refine nm_of ?_
        have e0 : (0 : Int) + (j : Int) = (j : Int) := Int.zero_add _
        rw [e0]
        have hjy : j < ys.length := by omega
        obtain ⟨x, hx⟩ : ∃ x, ys[j]? = some x := ⟨ys[j], by simp [hjy]⟩
        have xe : ys.getD j (0, 0) = x := by rw [List.getD_eq_getElem?_getD, hx]; rfl
        obtain ⟨_, _, w1, w2, w3⟩ := hw7.get hx
        have w0 : 0 ≤ x.1 := hw7.low hx
        have edG := bG _ _ (Ne.symm lnd) ed2
        have esrG := bG _ _ (Ne.symm lsr) esr2
        have hSG := hS2.but eln bG
        have tk3 := tickN j
        refine seq_of (asg_of ?_)
        have tick : ∀ Q : VK, Q (V.str (TxtG.T (tickL fs j))) G → tIf (tB (tDIn (tVar 8) (tVar 6))) (tCB (fun xs H Q => ∃ i, xs = [V.int i] ∧ i.natAbs.log2 < 1920 ∧ Q (V.str (Str.ofString (toString i))) H) (tCons (tDGet (tVar 6) (tVar 8)) tNil)) (tC (V.str (Str.ofString "-"))) [some (.ref a), some (.ref L0), some (.int (0 + (jt : Nat))), some (.ref sr), some (.int (i : Nat)), some (.str (sideS r)), some (.ref d), some (.ref ln), some (.int (j : Nat)), s9, s10, s11, s12, s13, s14, s15] G Q := by
          intro Q q
          unfold tickL at q
          rcases valV_cases ndp j with ⟨u, hu, e⟩ | ⟨_, e⟩
          · rw [e] at q
            have := tick_small ((has j u).mp hu)
            rw [List.length_range] at this
            refine ⟨_, rfl, _, rfl, d, _, rfl, .inl ⟨kvs fs, Sum.inl (j : Int), .inl edG, rfl, rfl⟩, _, rfl, ?_⟩
            rw [e]
            refine iteT ⟨_, rfl, _, rfl, d, .int (u : Int), rfl, .inl ⟨kvs fs, Sum.inl (j : Int), .inl edG, rfl, e.symm⟩, ?_⟩
            refine ⟨_, rfl, log_small (by omega) (by omega), ?_⟩
            rw [TxtG.T_str]
            exact q
          · rw [e] at q
            refine ⟨_, rfl, _, rfl, d, _, rfl, .inl ⟨kvs fs, Sum.inl (j : Int), .inl edG, rfl, rfl⟩, _, rfl, ?_⟩
            rw [e]
            refine iteF ?_
            show Q (V.str (Str.ofString "-")) G
            rw [lit_no]
            exact q
        refine tick _ ?_
        refine nm_of ?_
        -- place and height
        obtain ⟨cs, hc, hsc⟩ := hSG.2 j x hx
        dsimp only
        show tSeq _ _ _ _ _
        refine seq_of (asg_of ?_)
        refine ⟨_, rfl, _, rfl, sr, vs, (j : Int), _, rfl, rfl, SqL.of esrG, atI_nat hc, cs, rfl, ⟨_, hsc⟩, fun D nD => ?_⟩
        refine lc_fm (walk_tup (K := K) (a := cs) (xs := [V.int x.1, V.int x.2])) [x.1, x.2] (fun _ => true) (fun m : Int => m) (fun _ v m => v = V.str (TxtG.T (TxtG.comT m))) rfl (by show 2 < 1000000; decide) nD (fun _ _ _ _ _ _ _ q => q) (fun _ e => sqT_same hsc e) ?_ ?_
        · rintro n m y G1 G2 N' M' hm smG _ ⟨rfl, hy⟩ no go
          obtain ⟨rfl, m0, m1⟩ : y = V.int m ∧ 0 ≤ m ∧ m ≤ 2000000000 := by
            match n, hm, hy with
            | 0, hm, hy => cases hm; cases hy; exact ⟨rfl, w0, by omega⟩
            | 1, hm, hy => cases hm; cases hy; exact ⟨rfl, by omega, by omega⟩
          exact ⟨rfl, _, rfl, m, rfl, m0, m1, go _ _ rfl (Same.refl _) rfl⟩
        · intro G1 zs smG eD rel
          rw [filter_all] at rel
          have ez := paired_eq (fun m : Int => V.str (TxtG.T (TxtG.comT m))) rel
          refine ⟨D, [V.str (TxtG.T (TxtG.comT x.1)), V.str (TxtG.T (TxtG.comT x.2))], rfl, SqL.of (by rw [eD, ez]; rfl), rfl, _, _, rfl, _, _, rfl, rfl, ?_⟩
          have eG1 := smG _ _ eG
          have lJ := TxtG.fillL_len 2 (FmtS.digs (j : Int))
          have lP := TxtG.fillL_len 13 (TxtG.comT x.1)
          have lH := TxtG.fillL_len 13 (TxtG.comT x.2)
          have lT := TxtG.fillL_len 3 (tickL fs j)
          have mJ := TxtG.digs_len (a := (j : Int)) (by omega) (by omega)
          have mP := TxtG.comT_len w0 (by omega)
          have mH := TxtG.comT_len (a := x.2) (by omega) (by omega)
          have bnd : ∀ n : Nat, n ≤ 200 → n ≤ sizeLine := fun n h => Nat.le_trans h (by decide)
          dsimp only
          show tSeq _ _ _ _ _
          refine seq_of (asg_of ?_)
          refine ⟨_, rfl, _, rfl, log_small (by omega) (by omega), FmtS.digs (j : Int), 2, by rw [TxtG.T_str]; rfl, by omega, by decide, _, _, rfl, rfl, by simp only [lit_sp, TxtG.T_app, TxtG.T_len, List.length_append, List.length_nil, List.length_singleton]; exact bnd _ (by omega), ?_⟩
          refine ⟨_, rfl, TxtG.comT x.1, 13, rfl, by omega, by decide, _, _, rfl, rfl, by simp only [lit_sp, TxtG.T_app, TxtG.T_len, List.length_append, List.length_nil, List.length_singleton]; exact bnd _ (by omega), _, _, rfl, rfl, by simp only [lit_sp, TxtG.T_app, TxtG.T_len, List.length_append, List.length_nil, List.length_singleton]; exact bnd _ (by omega), ?_⟩
          refine ⟨_, rfl, TxtG.comT x.2, 13, rfl, by omega, by decide, _, _, rfl, rfl, by simp only [lit_sp, TxtG.T_app, TxtG.T_len, List.length_append, List.length_nil, List.length_singleton]; exact bnd _ (by omega), ?_⟩
          refine nm_of ?_
          dsimp only
          refine ⟨_, rfl, .inl ⟨rfl, _, SqL.of eG1⟩, ?_⟩
          refine ⟨_, rfl, _, _, rfl, rfl, by simp only [lit_sp, TxtG.T_app, TxtG.T_len, List.length_append, List.length_nil, List.length_singleton]; exact bnd _ (by omega), ?_⟩
          refine ⟨_, rfl, tickL fs j, 3, rfl, by omega, by decide, _, _, rfl, rfl, by simp only [lit_sp, TxtG.T_app, TxtG.T_len, List.length_append, List.length_nil, List.length_singleton]; exact bnd _ (by omega), ?_⟩
          have eL : TxtG.T (TxtG.fillL 2 (FmtS.digs (j : Int))) ++ Str.ofString " " ++ TxtG.T (TxtG.fillL 13 (TxtG.comT x.1)) ++ Str.ofString " " ++ TxtG.T (TxtG.fillL 13 (TxtG.comT x.2)) ++ Str.ofString " " ++ TxtG.T (TxtG.fillL 3 (tickL fs j)) = lineOf ys fs j := by
            unfold lineOf TxtG.lineT
            rw [xe]
            simp only [lit_sp, TxtG.T_app, List.append_assoc]
          rw [eL]
          refine ⟨ln, _, _, rfl, rfl, eG1, ?_, ?_⟩
          · rw [List.length_map, linesOf_len]
            exact bnd _ (by omega)
          · refine ⟨_, _, _, _, _, _, rfl, (bG.trans (Same.but smG ln)).trans but_upd, ?_⟩
            rw [upd_same, linesOf_succ, List.map_append]
            rfl
      · rintro σ G ⟨s8, s9, s10, s11, s12, s13, rfl, bG, eG⟩
        rw [vl] at eG
        have edG := bG _ _ (Ne.symm lnd) ed2
        have esrG := bG _ _ (Ne.symm lsr) esr2
        have hSG := hS2.but eln bG
        have tG := tabs_but bG eln t2
        have DG : Drw K G L0 a ns := D11.up (But.same ((Same.but sln ln).trans bG) nln)
        clear bG esr2 hS2 t2 D2 ed2 eln D11 sln nln
        -- the row
        dsimp only
        show tSeq _ _ _ _ _
        refine seq_of (asg_of ?_)
        refine ⟨_, rfl, sr, vs, ys, rfl, SqL.of esrG, hSG, hw7, by omega, fun z G1 s1 nz Rz => ?_⟩
        refine nm_of ?_
        dsimp only
        show tSeq _ _ _ _ _
        refine seq_of ?_
        -- the chart
        have sr1 := s1 _ _ esrG
        have D1' := DG.up s1
        have t1' := tabs_same s1 tG
        have eG1 := s1 _ _ eG
        clear nz esrG hSG tG DG eG edG s1
        refine ⟨_, rfl, _, rfl, _, rfl, z, ys, _, _, _, rfl, Rz, hw7, by omega, ?_, .str _, ?_, fun e => ?_, fun _ e => ?_, fun i' r' ei er hi' gs G2 s2 hgs => ?_⟩
        · exact True.intro
        · exact side_shaped r
        · exact absurd e (by rw [numB_int (by omega) (by omega)]; exact fun z => nomatch z)
        · exact absurd e (by cases r <;> decide +kernel)
        obtain rfl : i = i' := by injection ei with ei; omega
        obtain rfl : r = r' := by
          injection er with er
          revert er
          cases r <;> cases r' <;> decide +kernel
        have hT : ∀ k, tickL gs k = tickL fs k := by
          intro k
          have ndg : (gs.map (·.1)).Nodup := (List.pairwise_map.mpr hgs.up).imp fun {a b} h => Nat.ne_of_lt h
          unfold tickL
          rcases valV_cases ndp k with ⟨u, hu, e⟩ | ⟨hn, e⟩
          · rw [e, kvs_at ndg ((hgs.has k u).mpr ((has k u).mp hu))]
          · rw [e, valV_none fun u hu => hn u ((has k u).mpr ((hgs.has k u).mp hu))]
        have hC : chartT ys gs = Txt.join (Str.ofString "\n") (linesOf ys fs ys.length) := by
          unfold chartT linesOf
          congr 1
          exact List.map_congr_left fun k _ => by unfold lineOf; rw [hT]
        have eG2 := s2 _ _ eG1
        refine ⟨⟨_, rfl⟩, _, rfl, _, ln, linesOf ys fs ys.length, rfl, rfl, .inl (SqL.of eG2), ?_, ?_⟩
        · exact lines_sum hw7 (by omega) tickN
        rw [hC]
        refine ⟨rfl, _, rfl, ?_⟩
        rw [show (!decide (V.str (Txt.join (Str.ofString "\n") (linesOf ys fs ys.length)) = V.str (Txt.join (Str.ofString "\n") (linesOf ys fs ys.length)))) = false from by rw [decide_eq_true rfl]; rfl]
        refine iteF (next_of ?_)
        dsimp only
        show tSeq _ _ _ _ _
        refine seq_of (asg_of ?_)
        have sr2 := s2 _ _ sr1
        have Rz2 := Rz.same s2
        have D2' := D1'.up s2
        have t2' := tabs_same s2 t1'
        clear Rz D1' t1' s2 eG1 sr1 hC hT hgs eG2
        -- a bad stone
        refine ⟨_, rfl, _, rfl, _, rfl, sr, vs, rfl, .inl (SqL.of sr2), ?_⟩
        refine ⟨by show 4 ≤ sizeLine; decide, fun bl nbl => ?_⟩
        have sbl := same_new (o := .lst [V.int (-1), V.int (vs.length : Int), V.non, V.bl true]) nbl
        obtain ⟨yL, eL⟩ := D2'.cell.list
        have blL : bl ≠ L0 := fun e => by rw [e, eL] at nbl; cases nbl
        refine ⟨L0, a, bl, ns, _, rfl, D2'.up sbl, upd_same, blL, by show 0 < 4; decide, by show 4 ≤ 1000; decide, fun bad iv H9 hv D9 b9 => ?_⟩
        have eL' := sbl _ _ eL
        have Rz9 := (Rz2.same sbl).but eL' b9
        have t9 := tabs_but b9 eL' (tabs_same sbl t2')
        obtain ⟨nb, kb⟩ : numB bad 0 ((ys.length : Int) - 1) = false ∧ ∀ G, Known K G bad := by
          match iv, hv with
          | 0, hv => cases hv; exact ⟨rfl, fun _ => True.intro⟩
          | 1, hv => cases hv; exact ⟨by
              show (decide ((0 : Int) ≤ (vs.length : Int)) && decide ((vs.length : Int) ≤ (ys.length : Int) - 1)) = false
              rw [Bool.and_eq_false_iff]
              exact .inr (decide_eq_false (by omega)), fun _ => True.intro⟩
          | 2, hv => cases hv; exact ⟨rfl, fun _ => True.intro⟩
          | 3, hv => cases hv; exact ⟨rfl, fun _ => True.intro⟩
          | iv + 4, hv => simp at hv
        clear hv b9 eL' blL sbl nbl eL Rz2 t2' D2' sr2
        refine nm_of ?_
        dsimp only
        show tSeq _ _ _ _ _
        refine seq_of ?_
        -- an unknown stone
        refine ⟨t9, fun f0 c0 G4 eN0 mn0 tT0 nf0 eF0 eC0 => ?_⟩
        have Rz4 := Rz9.extN eN0
        have D4 := D9.extN eN0
        clear Rz9 D9 t9
        obtain ⟨F0, j0, of0⟩ : ∃ F0 : LamV.LF, F0.is f0 (fun _ => True) G4 ∧ F0.Of (cxOf CX0 P w K mg base n_law "law" (defScope s_law) f (.ref c) A outer s H E).nox ⟨defArgs s_law, F0.body, F0.scope, fun E => tCall (spChart K C C2 C3) [] E (tCons (tVar 14) (tCons (tVar 15) (tCons (tC (.str "up")) tNil)))⟩ (fun _ => True) 5 := by
          refine ⟨_, ⟨eF0, eC0, True.intro⟩, rfl, rfl, rfl, rfl, ?wa5, fun _ _ _ _ _ _ _ => ⟨[], .of_eq rfl, fun y hy => by cases hy⟩, ?wa7⟩
          (case wa5 => exact LamV.lamN_by (N := n_law) (sc := defScope s_law) (scope := { kind := .function, names := [("_law_bad", .free), ("_law_row", .free), ("chart", .globalImplicit)], isGenerator := false, isCoroutine := false }) (by decide +kernel))
          (case wa7 =>
            intro A outer s H E f c' r
            exact pe_call CH.ok (r.mono (by decide)) (by rfl) CH.m CH.kp CH.b .nil (passes_call (takes_of rfl rfl rfl rfl) fun _ _ _ _ z => z) (pa_cons (pv 14) (pa_cons (pv 15) (pa_cons (pe_str) pa_nil))))
        refine ⟨f0, F0, _, _, rfl, of0, j0, ?_⟩
        refine ⟨_, rfl, _, rfl, z, ys, bad, .str "up", .str "up", rfl, Rz4, hw7, by omega, kb _, .str _, by decide +kernel, fun _ => ?told1, fun e _ => absurd (nb.symm.trans e) (fun z => nomatch z), fun i' r' e1 _ hi' => ?no1⟩
        case no1 =>
          rw [e1, numB_int (by omega) (by omega)] at nb
          cases nb
        case told1 =>
          refine ⟨C2, 6, .non, rfl, by decide, by decide, by decide, o1, (fun dd h => nomatch h), fun h => absurd h (by decide), fun h => absurd h (by decide), fun _ t H5 s5 e5 => ?_⟩
          refine ⟨by show 2 ≤ sizeLine; decide, fun T2 nT2 => ?_⟩
          have sT2 := same_new (o := .tup [V.str "error", V.str "UnknownStone"]) nT2
          refine ⟨.tuple [.str "error", .str (wordW 6)], .tuple [.str "error", .str "UnknownStone"], .tup (SqT.of (sT2 _ _ e5)) (.cons (.str _) (.cons (.str _) .nil)), .tup (SqT.of upd_same) (.cons (.str _) (.cons (.str _) .nil)), by decide +kernel, by decide +kernel, _, rfl, ?_⟩
          rw [show (!PyData.eqv (.tuple [.str "error", .str (wordW 6)]) (.tuple [.str "error", .str "UnknownStone"])) = false from by decide +kernel]
          refine iteF (next_of ?_)
          dsimp only
          have Rz5 := (Rz4.same s5).same sT2
          have D5 := (D4.up s5).up sT2
          have t5 := tabs_same (s5.trans sT2) tT0
          generalize upd H5 T2 (.tup [V.str "error", V.str "UnknownStone"]) = H6 at Rz5 D5 t5 ⊢
          clear sT2 nT2 e5 s5 Rz4 D4 j0 of0 eN0 mn0 tT0 nf0 eF0 eC0
          -- an invalid side
          refine ⟨t5, fun td ntd f1 c1 G6 eN1 mn1 tT1 nf1 eF1 eC1 => ?_⟩
          have std := same_new (o := .tup [V.int 0]) ntd
          have Rz6 := (Rz5.same std).extN eN1
          have D6 := (D5.up std).extN eN1
          obtain ⟨F1, j1, of1⟩ : ∃ F1 : LamV.LF, F1.is f1 (fun G => G td = some (.tup [.int 0])) G6 ∧ F1.Of (cxOf CX0 P w K mg base n_law "law" (defScope s_law) f (.ref c) A outer s H E).nox ⟨defArgs s_law, F1.body, F1.scope, fun E => tCall (spChart K C C2 C3) [] E (tCons (tVar 14) (tCons (tC (.int 0)) (tCons (tCall (spPick K) [] E0 (tCons (tVar 1) (tCons (tLst (tCons (tC (.str "up")) (tCons (tC .non) (tCons (tC (.int 5)) tNil)))) tNil))) tNil)))⟩ (fun G => G td = some (.tup [.int 0])) 5 := by
            refine ⟨_, ⟨eF1, eC1, eN1 _ _ upd_same (fun ps z => nomatch z)⟩, rfl, rfl, rfl, rfl, ?o5, fun s' G ok e doc pm ctv => ?o6, ?o7⟩
            (case o5 => exact LamV.lamN_by (N := n_law) (sc := defScope s_law) (scope := { kind := .function, names := [("_law_a", .local), ("_law_d", .free), ("_law_row", .free), ("chart", .globalImplicit), ("_law_pick", .globalImplicit)], isGenerator := false, isCoroutine := false }) (by decide +kernel))
            (case o6 =>
              obtain ⟨_, its, r, o, ho, hc, n, hd⟩ := ok td _ e
              obtain ⟨u, rfl, _⟩ := r.one
              exact ⟨[("_law_a", u)], BindsTo.of_defaults rfl ho hd rfl rfl, fun y hy => by
                simp only [List.mem_cons, List.not_mem_nil, or_false] at hy
                subst hy
                rfl⟩)
            (case o7 =>
              intro A outer s H E f c' r
              exact pe_call CH.ok (r.mono (by decide)) (by rfl) CH.m CH.kp CH.b .nil (passes_call (takes_of rfl rfl rfl rfl) fun _ _ _ _ z => z) (pa_cons (pv 14) (pa_cons (pe_int) (pa_cons (pe_at PK (r.mono (by decide)) (pa_cons (pv 1) (pa_cons (pe_lst (pa_cons (pe_str) (pa_cons (pe_non) (pa_cons (pe_int) pa_nil)))) pa_nil))) pa_nil))))
          refine ⟨f1, F1, _, _, rfl, of1, j1, ?_⟩
          refine ⟨_, rfl, _, rfl, by show 3 ≤ sizeLine; decide, fun ql nql => ?_⟩
          have sql := same_new (o := .lst [V.str "up", V.non, V.int 5]) nql
          obtain ⟨yL, eL⟩ := D6.cell.list
          have qlL : ql ≠ L0 := fun e => by rw [e, eL] at nql; cases nql
          refine ⟨L0, a, ql, ns, _, rfl, D6.up sql, upd_same, qlL, by show 0 < 3; decide, by show 3 ≤ 1000; decide, fun sv iv H7 hv D7 b7 => ?_⟩
          have eL' := sql _ _ eL
          have Rz7 := (Rz6.same sql).but eL' b7
          have t7 := tabs_but b7 eL' (tabs_same sql tT1)
          obtain ⟨dd, hdd, sdd, bad2, no2⟩ : ∃ dd, Dp K H7 sv dd ∧ SeqAt.shaped dd = true ∧ sideD dd = false ∧ ∀ r, sv ≠ .str (sideS r) := by
            match iv, hv with
            | 0, hv => cases hv; exact ⟨_, .str _, by decide +kernel, by decide +kernel, fun r z => by injection z with z; revert z; cases r <;> decide +kernel⟩
            | 1, hv => cases hv; exact ⟨_, .non, rfl, by decide +kernel, fun r z => nomatch z⟩
            | 2, hv => cases hv; exact ⟨_, .int _, rfl, by decide +kernel, fun r z => nomatch z⟩
            | iv + 3, hv => simp at hv
          refine ⟨z, ys, .int 0, sv, dd, rfl, Rz7, hw7, by omega, True.intro, hdd, sdd, fun e => absurd e (by rw [numB_int (by omega) (by omega)]; exact fun z => nomatch z), fun _ _ => ?told2, fun i' r' _ er _ => absurd er (no2 r')⟩
          case told2 =>
            refine ⟨C3, 7, .non, rfl, by decide, by decide, by decide, o2, (fun dd h => nomatch h), fun h => absurd h (by decide), fun h => absurd h (by decide), fun _ t H8 s8 e8 => ?_⟩
            refine ⟨by show 2 ≤ sizeLine; decide, fun T3 nT3 => ?_⟩
            have sT3 := same_new (o := .tup [V.str "error", V.str "InvalidSide"]) nT3
            refine ⟨.tuple [.str "error", .str (wordW 7)], .tuple [.str "error", .str "InvalidSide"], .tup (SqT.of (sT3 _ _ e8)) (.cons (.str _) (.cons (.str _) .nil)), .tup (SqT.of upd_same) (.cons (.str _) (.cons (.str _) .nil)), by decide +kernel, by decide +kernel, _, rfl, ?_⟩
            rw [show (!PyData.eqv (.tuple [.str "error", .str (wordW 7)]) (.tuple [.str "error", .str "InvalidSide"])) = false from by decide +kernel]
            refine iteF (next_of ?_)
            exact ⟨_, _, _, _, _, _, _, _, _, _, _, _, _, _, rfl, tabs_same (s8.trans sT3) t7, (D7.up s8).up sT3⟩
    · rintro sl G _
      exact k G
end
theorem all_mk {l : PySem.W.OpenLaw} {w : World} {K : PySem.W.Frag} {h : Heap} {mg : Str → Option Value} {fa C cl Pt f_ini f_len f_add p_get f_get f_num f_cst f_csi f_bes f_iss f_rea f_ftk f_cha f_dic f_nex f_pic f_tol f_sto f_mad f_tic f_gro f_fil f_law xe xc0 xc1 xc2 xc3 xc4 xc5 xc6 xc7 xc8 xc9 xc10 : Addr} (X : K.In h) (G : h.Ns mainGlobals mg) (hfa : mg "law" = some (.ref fa)) (own : LamX.OwnTab K fa h)
    {od_ini an_ini od_len an_len od_add an_add od_get an_get od_num an_num od_cst an_cst od_csi an_csi od_bes an_bes od_iss an_iss od_rea an_rea od_ftk an_ftk od_cha an_cha od_dic an_dic od_nex an_nex od_pic an_pic od_tol an_tol od_sto an_sto od_mad an_mad od_tic an_tic od_gro an_gro od_fil an_fil od_law an_law ddC : Option Addr} {sl_ini sl_len sl_add sl_get sl_num sl_cst sl_csi sl_bes sl_iss sl_rea sl_ftk sl_cha sl_dic sl_nex sl_pic sl_tol sl_sto sl_mad sl_tic sl_gro sl_fil sl_law : Array (Option Value)} {oc_ini kV_ini dc_ini pm_ini cd_ini ct_ini oc_len kV_len dc_len pm_len cd_len ct_len oc_add kV_add dc_add pm_add cd_add ct_add oc_get kV_get dc_get pm_get cd_get ct_get oc_num kV_num dc_num pm_num cd_num ct_num oc_cst kV_cst dc_cst pm_cst cd_cst ct_cst oc_csi kV_csi dc_csi pm_csi cd_csi ct_csi oc_bes kV_bes dc_bes pm_bes cd_bes ct_bes oc_iss kV_iss dc_iss pm_iss cd_iss ct_iss oc_rea kV_rea dc_rea pm_rea cd_rea ct_rea oc_ftk kV_ftk dc_ftk pm_ftk cd_ftk ct_ftk oc_cha kV_cha dc_cha pm_cha cd_cha ct_cha oc_dic kV_dic dc_dic pm_dic cd_dic ct_dic oc_nex kV_nex dc_nex pm_nex cd_nex ct_nex oc_pic kV_pic dc_pic pm_pic cd_pic ct_pic oc_tol kV_tol dc_tol pm_tol cd_tol ct_tol oc_sto kV_sto dc_sto pm_sto cd_sto ct_sto oc_mad kV_mad dc_mad pm_mad cd_mad ct_mad oc_tic kV_tic dc_tic pm_tic cd_tic ct_tic oc_gro kV_gro dc_gro pm_gro cd_gro ct_gro oc_fil kV_fil dc_fil pm_fil cd_fil ct_fil oc_law kV_law dc_law pm_law ct_law eC : Value} {vsC : Array Value} {slC : Array (Option Value)}
    {rs_get : List Value}
    {S : Addr} {odS : Option Addr} {itS : Array Value} {nS : Nat} {slS : Array (Option Value)}
    {tP tH tM : Tok}
    (aC : PySem.W.nsIn K mainGlobals "Row" = some (some (.ref C)))
    (a_ini : PySem.W.findIn K (.ref C) "__init__" = some (some (.ref f_ini)))
    (i_ini : PySem.W.isFn K (.ref f_ini) = true)
    (l_ini : K.lookup f_ini = some ⟨oc_ini, od_ini, .func (PySem.W.fnOf "__init__" "Row.__init__" (defArgs s_Row_init) (defBody s_Row_init) (defScope s_Row_init) .none kV_ini dc_ini pm_ini an_ini cd_ini ct_ini), sl_ini⟩)
    (c_ini : PySem.W.codeIn K cd_ini "Row.__init__" = true)
    (k_ini : PySem.W.keepIn K (.ref f_ini) = true)
    (a_len : PySem.W.findIn K (.ref C) "__len__" = some (some (.ref f_len)))
    (i_len : PySem.W.isFn K (.ref f_len) = true)
    (l_len : K.lookup f_len = some ⟨oc_len, od_len, .func (PySem.W.fnOf "__len__" "Row.__len__" (defArgs s_Row_len) (defBody s_Row_len) (defScope s_Row_len) .none kV_len dc_len pm_len an_len cd_len ct_len), sl_len⟩)
    (c_len : PySem.W.codeIn K cd_len "Row.__len__" = true)
    (k_len : PySem.W.keepIn K (.ref f_len) = true)
    (a_add : PySem.W.findIn K (.ref C) "__add__" = some (some (.ref f_add)))
    (i_add : PySem.W.isFn K (.ref f_add) = true)
    (l_add : K.lookup f_add = some ⟨oc_add, od_add, .func (PySem.W.fnOf "__add__" "Row.__add__" (defArgs s_Row_add) (defBody s_Row_add) (defScope s_Row_add) .none kV_add dc_add pm_add an_add cd_add ct_add), sl_add⟩)
    (c_add : PySem.W.codeIn K cd_add "Row.__add__" = true)
    (k_add : PySem.W.keepIn K (.ref f_add) = true)
    (pa_get : PySem.W.findIn K (.ref C) "stones" = some (some (.ref p_get)))
    (pb_get : PySem.W.specialIn K (.ref p_get) "__get__" = some (some (.builtin "property.__get__")))
    (pc_get : PySem.W.takesIn K (.ref p_get) = some true)
    (pd_get : PySem.W.recIn K p_get "property" = some (.ref f_get :: rs_get))
    (l_get : K.lookup f_get = some ⟨oc_get, od_get, .func (PySem.W.fnOf "stones" "Row.stones" (defArgs s_Row_stones) (defBody s_Row_stones) (defScope s_Row_stones) .none kV_get dc_get pm_get an_get cd_get ct_get), sl_get⟩)
    (c_get : PySem.W.codeIn K cd_get "Row.stones" = true)
    (k_get : PySem.W.keepIn K (.ref f_get) = true)
    (a_num : PySem.W.nsIn K mainGlobals "is_number" = some (some (.ref f_num)))
    (l_num : K.lookup f_num = some ⟨oc_num, od_num, .func (PySem.W.fnOf "is_number" "is_number" (defArgs s_is_number) (defBody s_is_number) (defScope s_is_number) .none kV_num dc_num pm_num an_num cd_num ct_num), sl_num⟩)
    (c_num : PySem.W.codeIn K cd_num "is_number" = true)
    (k_num : PySem.W.keepIn K (.ref f_num) = true)
    (a_cst : PySem.W.nsIn K mainGlobals "check_stone" = some (some (.ref f_cst)))
    (l_cst : K.lookup f_cst = some ⟨oc_cst, od_cst, .func (PySem.W.fnOf "check_stone" "check_stone" (defArgs s_check_stone) (defBody s_check_stone) (defScope s_check_stone) .none kV_cst dc_cst pm_cst an_cst cd_cst ct_cst), sl_cst⟩)
    (c_cst : PySem.W.codeIn K cd_cst "check_stone" = true)
    (k_cst : PySem.W.keepIn K (.ref f_cst) = true)
    (a_csi : PySem.W.nsIn K mainGlobals "check_side" = some (some (.ref f_csi)))
    (l_csi : K.lookup f_csi = some ⟨oc_csi, od_csi, .func (PySem.W.fnOf "check_side" "check_side" (defArgs s_check_side) (defBody s_check_side) (defScope s_check_side) .none kV_csi dc_csi pm_csi an_csi cd_csi ct_csi), sl_csi⟩)
    (c_csi : PySem.W.codeIn K cd_csi "check_side" = true)
    (k_csi : PySem.W.keepIn K (.ref f_csi) = true)
    (a_bes : PySem.W.nsIn K mainGlobals "stones_beside" = some (some (.ref f_bes)))
    (l_bes : K.lookup f_bes = some ⟨oc_bes, od_bes, .func (PySem.W.fnOf "stones_beside" "stones_beside" (defArgs s_stones_beside) (defBody s_stones_beside) (defScope s_stones_beside) .none kV_bes dc_bes pm_bes an_bes cd_bes ct_bes), sl_bes⟩)
    (c_bes : PySem.W.codeIn K cd_bes "stones_beside" = true)
    (k_bes : PySem.W.keepIn K (.ref f_bes) = true)
    (a_iss : PySem.W.nsIn K mainGlobals "_is_stone" = some (some (.ref f_iss)))
    (l_iss : K.lookup f_iss = some ⟨oc_iss, od_iss, .func (PySem.W.fnOf "_is_stone" "_is_stone" (defArgs s_is_stone) (defBody s_is_stone) (defScope s_is_stone) .none kV_iss dc_iss pm_iss an_iss cd_iss ct_iss), sl_iss⟩)
    (c_iss : PySem.W.codeIn K cd_iss "_is_stone" = true)
    (k_iss : PySem.W.keepIn K (.ref f_iss) = true)
    (a_rea : PySem.W.nsIn K mainGlobals "_reaches" = some (some (.ref f_rea)))
    (l_rea : K.lookup f_rea = some ⟨oc_rea, od_rea, .func (PySem.W.fnOf "_reaches" "_reaches" (defArgs s_reaches) (defBody s_reaches) (defScope s_reaches) .none kV_rea dc_rea pm_rea an_rea cd_rea ct_rea), sl_rea⟩)
    (c_rea : PySem.W.codeIn K cd_rea "_reaches" = true)
    (k_rea : PySem.W.keepIn K (.ref f_rea) = true)
    (a_ftk : PySem.W.nsIn K mainGlobals "fall_ticks" = some (some (.ref f_ftk)))
    (l_ftk : K.lookup f_ftk = some ⟨oc_ftk, od_ftk, .func (PySem.W.fnOf "fall_ticks" "fall_ticks" (defArgs s_fall_ticks) (defBody s_fall_ticks) (defScope s_fall_ticks) .none kV_ftk dc_ftk pm_ftk an_ftk cd_ftk ct_ftk), sl_ftk⟩)
    (c_ftk : PySem.W.codeIn K cd_ftk "fall_ticks" = true)
    (k_ftk : PySem.W.keepIn K (.ref f_ftk) = true)
    (a_cha : PySem.W.nsIn K mainGlobals "chart" = some (some (.ref f_cha)))
    (l_cha : K.lookup f_cha = some ⟨oc_cha, od_cha, .func (PySem.W.fnOf "chart" "chart" (defArgs s_chart) (defBody s_chart) (defScope s_chart) .none kV_cha dc_cha pm_cha an_cha cd_cha ct_cha), sl_cha⟩)
    (c_cha : PySem.W.codeIn K cd_cha "chart" = true)
    (k_cha : PySem.W.keepIn K (.ref f_cha) = true)
    (a_dic : PySem.W.nsIn K mainGlobals "_law_dice" = some (some (.ref f_dic)))
    (l_dic : K.lookup f_dic = some ⟨oc_dic, od_dic, .func (PySem.W.fnOf "_law_dice" "_law_dice" (defArgs s_law_dice) (defBody s_law_dice) (defScope s_law_dice) .none kV_dic dc_dic pm_dic an_dic cd_dic ct_dic), sl_dic⟩)
    (c_dic : PySem.W.codeIn K cd_dic "_law_dice" = true)
    (k_dic : PySem.W.keepIn K (.ref f_dic) = true)
    (a_nex : PySem.W.nsIn K mainGlobals "_law_next" = some (some (.ref f_nex)))
    (l_nex : K.lookup f_nex = some ⟨oc_nex, od_nex, .func (PySem.W.fnOf "_law_next" "_law_next" (defArgs s_law_next) (defBody s_law_next) (defScope s_law_next) .none kV_nex dc_nex pm_nex an_nex cd_nex ct_nex), sl_nex⟩)
    (c_nex : PySem.W.codeIn K cd_nex "_law_next" = true)
    (k_nex : PySem.W.keepIn K (.ref f_nex) = true)
    (a_pic : PySem.W.nsIn K mainGlobals "_law_pick" = some (some (.ref f_pic)))
    (l_pic : K.lookup f_pic = some ⟨oc_pic, od_pic, .func (PySem.W.fnOf "_law_pick" "_law_pick" (defArgs s_law_pick) (defBody s_law_pick) (defScope s_law_pick) .none kV_pic dc_pic pm_pic an_pic cd_pic ct_pic), sl_pic⟩)
    (c_pic : PySem.W.codeIn K cd_pic "_law_pick" = true)
    (k_pic : PySem.W.keepIn K (.ref f_pic) = true)
    (a_tol : PySem.W.nsIn K mainGlobals "_law_told" = some (some (.ref f_tol)))
    (l_tol : K.lookup f_tol = some ⟨oc_tol, od_tol, .func (PySem.W.fnOf "_law_told" "_law_told" (defArgs s_law_told) (defBody s_law_told) (defScope s_law_told) .none kV_tol dc_tol pm_tol an_tol cd_tol ct_tol), sl_tol⟩)
    (c_tol : PySem.W.codeIn K cd_tol "_law_told" = true)
    (k_tol : PySem.W.keepIn K (.ref f_tol) = true)
    (a_sto : PySem.W.nsIn K mainGlobals "_law_stones" = some (some (.ref f_sto)))
    (l_sto : K.lookup f_sto = some ⟨oc_sto, od_sto, .func (PySem.W.fnOf "_law_stones" "_law_stones" (defArgs s_law_stones) (defBody s_law_stones) (defScope s_law_stones) .none kV_sto dc_sto pm_sto an_sto cd_sto ct_sto), sl_sto⟩)
    (c_sto : PySem.W.codeIn K cd_sto "_law_stones" = true)
    (k_sto : PySem.W.keepIn K (.ref f_sto) = true)
    (a_mad : PySem.W.nsIn K mainGlobals "_law_made" = some (some (.ref f_mad)))
    (l_mad : K.lookup f_mad = some ⟨oc_mad, od_mad, .func (PySem.W.fnOf "_law_made" "_law_made" (defArgs s_law_made) (defBody s_law_made) (defScope s_law_made) .none kV_mad dc_mad pm_mad an_mad cd_mad ct_mad), sl_mad⟩)
    (c_mad : PySem.W.codeIn K cd_mad "_law_made" = true)
    (k_mad : PySem.W.keepIn K (.ref f_mad) = true)
    (a_tic : PySem.W.nsIn K mainGlobals "_law_ticks" = some (some (.ref f_tic)))
    (l_tic : K.lookup f_tic = some ⟨oc_tic, od_tic, .func (PySem.W.fnOf "_law_ticks" "_law_ticks" (defArgs s_law_ticks) (defBody s_law_ticks) (defScope s_law_ticks) .none kV_tic dc_tic pm_tic an_tic cd_tic ct_tic), sl_tic⟩)
    (c_tic : PySem.W.codeIn K cd_tic "_law_ticks" = true)
    (k_tic : PySem.W.keepIn K (.ref f_tic) = true)
    (a_gro : PySem.W.nsIn K mainGlobals "_law_grouped" = some (some (.ref f_gro)))
    (l_gro : K.lookup f_gro = some ⟨oc_gro, od_gro, .func (PySem.W.fnOf "_law_grouped" "_law_grouped" (defArgs s_law_grouped) (defBody s_law_grouped) (defScope s_law_grouped) .none kV_gro dc_gro pm_gro an_gro cd_gro ct_gro), sl_gro⟩)
    (c_gro : PySem.W.codeIn K cd_gro "_law_grouped" = true)
    (k_gro : PySem.W.keepIn K (.ref f_gro) = true)
    (a_fil : PySem.W.nsIn K mainGlobals "_law_filled" = some (some (.ref f_fil)))
    (l_fil : K.lookup f_fil = some ⟨oc_fil, od_fil, .func (PySem.W.fnOf "_law_filled" "_law_filled" (defArgs s_law_filled) (defBody s_law_filled) (defScope s_law_filled) .none kV_fil dc_fil pm_fil an_fil cd_fil ct_fil), sl_fil⟩)
    (c_fil : PySem.W.codeIn K cd_fil "_law_filled" = true)
    (k_fil : PySem.W.keepIn K (.ref f_fil) = true)
    (a_law : PySem.W.nsIn K mainGlobals "law" = some (some (.ref f_law)))
    (l_law : K.lookup f_law = some ⟨oc_law, od_law, .func (PySem.W.fnOf "law" "law" (defArgs s_law) (defBody s_law) (defScope s_law) .none kV_law dc_law pm_law an_law (.ref cl) ct_law), sl_law⟩)
    (c_law : PySem.W.codeIn K (.ref cl) "law" = true)
    (k_law : PySem.W.keepIn K (.ref f_law) = true)
    (lc : K.lookup cl = some ⟨eC, ddC, .fields vsC, slC⟩)
    (lp : vsC[11]? = some (.ref Pt))
    (np : K.lookup Pt = none)
    (ch : PySem.W.codeHdIn K cl Pt = true)
    (z_isinstance : PySem.W.nsIn K mainGlobals "isinstance" = some none)
    (z_int : PySem.W.nsIn K mainGlobals "int" = some none)
    (z_bool : PySem.W.nsIn K mainGlobals "bool" = some none)
    (z_len : PySem.W.nsIn K mainGlobals "len" = some none)
    (z_tuple : PySem.W.nsIn K mainGlobals "tuple" = some none)
    (z_list : PySem.W.nsIn K mainGlobals "list" = some none)
    (z_range : PySem.W.nsIn K mainGlobals "range" = some none)
    (z_enumerate : PySem.W.nsIn K mainGlobals "enumerate" = some none)
    (z_abs : PySem.W.nsIn K mainGlobals "abs" = some none)
    (z_max : PySem.W.nsIn K mainGlobals "max" = some none)
    (z_min : PySem.W.nsIn K mainGlobals "min" = some none)
    (z_sorted : PySem.W.nsIn K mainGlobals "sorted" = some none)
    (z_str : PySem.W.nsIn K mainGlobals "str" = some none)
    (z_super : PySem.W.nsIn K mainGlobals "super" = some none)
    (z_VE : PySem.W.nsIn K mainGlobals "ValueError" = some none)
    (ne : PySem.W.nsIn K mainGlobals "StoneError" = some (some (.ref xe)))
    (nc0 : PySem.W.nsIn K mainGlobals "InvalidOperation" = some (some (.ref xc0)))
    (nc1 : PySem.W.nsIn K mainGlobals "DecodeError" = some (some (.ref xc1)))
    (nc2 : PySem.W.nsIn K mainGlobals "NotationError" = some (some (.ref xc2)))
    (nc3 : PySem.W.nsIn K mainGlobals "NotStanding" = some (some (.ref xc3)))
    (nc4 : PySem.W.nsIn K mainGlobals "NotLying" = some (some (.ref xc4)))
    (nc5 : PySem.W.nsIn K mainGlobals "InvalidRow" = some (some (.ref xc5)))
    (nc6 : PySem.W.nsIn K mainGlobals "UnknownStone" = some (some (.ref xc6)))
    (nc7 : PySem.W.nsIn K mainGlobals "InvalidSide" = some (some (.ref xc7)))
    (nc8 : PySem.W.nsIn K mainGlobals "InvalidNumber" = some (some (.ref xc8)))
    (nc9 : PySem.W.nsIn K mainGlobals "Contradiction" = some (some (.ref xc9)))
    (nc10 : PySem.W.nsIn K mainGlobals "InvalidCount" = some (some (.ref xc10)))
    (gac6 : PySem.W.findIn K (.ref xc6) "__getattribute__" = some (some (.builtin "BaseException.__getattribute__")))
    (ggc6 : PySem.W.findIn K (.ref xc6) "__getattr__" = some none)
    (suc6 : PySem.W.subIn K (.ref xc6) (.type "BaseException") = some true)
    (hdc6 : PySem.W.hasDictIn K xc6 = true)
    (cac6 : PySem.W.findIn K (.ref xc6) "__class__" = some (some (.builtin "object.__class__")))
    (moc6 : PySem.W.mroIn K xc6 (.type "object") = some true)
    (ixc6 : PySem.W.findIn K (.ref xc6) "index" = some none)
    (sxc6 : PySem.W.findIn K (.ref xc6) "stone" = some none)
    (sec6 : PySem.W.exmOne K (.ref xc6) (.ref xe) = some true)
    (q0c6 : PySem.W.kitOne K (.ref xc6) (.ref xc0) = some (6 == 0))
    (q1c6 : PySem.W.kitOne K (.ref xc6) (.ref xc1) = some (6 == 1))
    (q2c6 : PySem.W.kitOne K (.ref xc6) (.ref xc2) = some (6 == 2))
    (q3c6 : PySem.W.kitOne K (.ref xc6) (.ref xc3) = some (6 == 3))
    (q4c6 : PySem.W.kitOne K (.ref xc6) (.ref xc4) = some (6 == 4))
    (q5c6 : PySem.W.kitOne K (.ref xc6) (.ref xc5) = some (6 == 5))
    (q6c6 : PySem.W.kitOne K (.ref xc6) (.ref xc6) = some (6 == 6))
    (q7c6 : PySem.W.kitOne K (.ref xc6) (.ref xc7) = some (6 == 7))
    (q8c6 : PySem.W.kitOne K (.ref xc6) (.ref xc8) = some (6 == 8))
    (q9c6 : PySem.W.kitOne K (.ref xc6) (.ref xc9) = some (6 == 9))
    (q10c6 : PySem.W.kitOne K (.ref xc6) (.ref xc10) = some (6 == 10))
    (vec6 : PySem.W.kitOne K (.ref xc6) (.type "ValueError") = some true)
    (kpc6 : PySem.W.keepIn K (.ref xc6) = true)
    (tyc6 : PySem.W.typeIn K (.ref xc6) = some (.type "type"))
    (gac7 : PySem.W.findIn K (.ref xc7) "__getattribute__" = some (some (.builtin "BaseException.__getattribute__")))
    (ggc7 : PySem.W.findIn K (.ref xc7) "__getattr__" = some none)
    (suc7 : PySem.W.subIn K (.ref xc7) (.type "BaseException") = some true)
    (hdc7 : PySem.W.hasDictIn K xc7 = true)
    (cac7 : PySem.W.findIn K (.ref xc7) "__class__" = some (some (.builtin "object.__class__")))
    (moc7 : PySem.W.mroIn K xc7 (.type "object") = some true)
    (ixc7 : PySem.W.findIn K (.ref xc7) "index" = some none)
    (sxc7 : PySem.W.findIn K (.ref xc7) "stone" = some none)
    (sec7 : PySem.W.exmOne K (.ref xc7) (.ref xe) = some true)
    (q0c7 : PySem.W.kitOne K (.ref xc7) (.ref xc0) = some (7 == 0))
    (q1c7 : PySem.W.kitOne K (.ref xc7) (.ref xc1) = some (7 == 1))
    (q2c7 : PySem.W.kitOne K (.ref xc7) (.ref xc2) = some (7 == 2))
    (q3c7 : PySem.W.kitOne K (.ref xc7) (.ref xc3) = some (7 == 3))
    (q4c7 : PySem.W.kitOne K (.ref xc7) (.ref xc4) = some (7 == 4))
    (q5c7 : PySem.W.kitOne K (.ref xc7) (.ref xc5) = some (7 == 5))
    (q6c7 : PySem.W.kitOne K (.ref xc7) (.ref xc6) = some (7 == 6))
    (q7c7 : PySem.W.kitOne K (.ref xc7) (.ref xc7) = some (7 == 7))
    (q8c7 : PySem.W.kitOne K (.ref xc7) (.ref xc8) = some (7 == 8))
    (q9c7 : PySem.W.kitOne K (.ref xc7) (.ref xc9) = some (7 == 9))
    (q10c7 : PySem.W.kitOne K (.ref xc7) (.ref xc10) = some (7 == 10))
    (vec7 : PySem.W.kitOne K (.ref xc7) (.type "ValueError") = some true)
    (kpc7 : PySem.W.keepIn K (.ref xc7) = true)
    (tyc7 : PySem.W.typeIn K (.ref xc7) = some (.type "type"))
    (exc6 : PySem.W.excIn K xc6 [.type "ValueError", .type "Exception", .type "BaseException", .type "object"] "ValueError.__new__" = true)
    (exc7 : PySem.W.excIn K xc7 [.type "ValueError", .type "Exception", .type "BaseException", .type "object"] "ValueError.__new__" = true)
    (aS : PySem.W.nsIn K mainGlobals "SIDES" = some (some (.ref S)))
    (lS : K.lookup S = some ⟨.type "tuple", odS, .seq itS nS, slS⟩)
    (pS : itS.size ≤ sizeLine)
    (vS : Vals [.str "left", .str "right"] itS.toList)
    (aP : PySem.W.nsIn K mainGlobals "GREATEST_PLACE" = some (some (.int 1000000000 tP)))
    (aH : PySem.W.nsIn K mainGlobals "GREATEST_HEIGHT" = some (some (.int 1000000000 tH)))
    (pg : PySem.W.plainGet K C Str.empty = true)
    (hd : PySem.W.hasDictIn K C = true)
    (po : PySem.W.plainOver K C = true)
    (sa : PySem.W.findIn K (.ref C) "__setattr__" = some (some (.builtin "object.__setattr__")))
    (mk : PySem.W.makesIn K C = true)
    (kc : PySem.W.keepIn K (.ref C) = true)
    (nQ : PySem.W.findIn K (.ref C) "_stones" = some none)
    (mM : PySem.W.findIn K (.ref C) "MAX_STONES" = some (some (.int 40 tM)))
    (gM : PySem.W.specialIn K (.int 40 tM) "__get__" = some none)
    (sf : PySem.W.selfFirst K C = true)
    (ca : PySem.W.findIn K (.ref C) "__class__" = some (some (.builtin "object.__class__")))
    (cn : PySem.W.specialIn K (.builtin "object.__class__") "__get__" = some (some (.builtin "getset_descriptor.__get__")))
    (ct : PySem.W.takesIn K (.builtin "object.__class__") = some true)
    (cm : PySem.W.mroIn K C (.type "object") = some true) :
    LamX.LawAtS l w K CX0 8 63 "_law_script" mg fa h := by
  have e := hfa.symm.trans (PySem.W.mg_of X G a_law)
  obtain rfl : f_law = fa := by cases e; rfl
  have B : Blt mg := ⟨PySem.W.mg_none_of X G z_isinstance, PySem.W.mg_none_of X G z_int, PySem.W.mg_none_of X G z_bool, PySem.W.mg_none_of X G z_len, PySem.W.mg_none_of X G z_tuple, PySem.W.mg_none_of X G z_list, PySem.W.mg_none_of X G z_range, PySem.W.mg_none_of X G z_enumerate, PySem.W.mg_none_of X G z_abs, PySem.W.mg_none_of X G z_max, PySem.W.mg_none_of X G z_min, PySem.W.mg_none_of X G z_sorted⟩
  have F_ini := fun_mk (st := s_Row_init) l_ini c_ini k_ini
  have F_len := fun_mk (st := s_Row_len) l_len c_len k_len
  have b_len := F_len.binds (ps := ["self"]) fun _ _ _ _ _ _ us hl => match us, hl with | [_], _ => rfl
  have F_add := fun_mk (st := s_Row_add) l_add c_add k_add
  have b_add := F_add.binds (ps := ["self", "other"]) fun _ _ _ _ _ _ us hl => match us, hl with | [_, _], _ => rfl
  have F_get := fun_mk (st := s_Row_stones) l_get c_get k_get
  have b_get := F_get.binds (ps := ["self"]) fun _ _ _ _ _ _ us hl => match us, hl with | [_], _ => rfl
  have P_get : PropOf K C "stones" p_get f_get := ⟨pa_get, pb_get, pc_get, ⟨rs_get, pd_get⟩⟩
  have F_num := fun_mk (st := s_is_number) l_num c_num k_num
  have D_num : DefAt K mg "is_number" s_is_number ["value", "least", "greatest"] f_num _ := ⟨F_num, PySem.W.mg_of X G a_num, F_num.binds fun _ _ _ _ _ _ us hl => match us, hl with | [_, _, _], _ => rfl⟩
  have F_cst := fun_mk (st := s_check_stone) l_cst c_cst k_cst
  have D_cst : DefAt K mg "check_stone" s_check_stone ["stone", "count"] f_cst _ := ⟨F_cst, PySem.W.mg_of X G a_cst, F_cst.binds fun _ _ _ _ _ _ us hl => match us, hl with | [_, _], _ => rfl⟩
  have F_csi := fun_mk (st := s_check_side) l_csi c_csi k_csi
  have D_csi : DefAt K mg "check_side" s_check_side ["side"] f_csi _ := ⟨F_csi, PySem.W.mg_of X G a_csi, F_csi.binds fun _ _ _ _ _ _ us hl => match us, hl with | [_], _ => rfl⟩
  have F_bes := fun_mk (st := s_stones_beside) l_bes c_bes k_bes
  have D_bes : DefAt K mg "stones_beside" s_stones_beside ["stone", "side", "count"] f_bes _ := ⟨F_bes, PySem.W.mg_of X G a_bes, F_bes.binds fun _ _ _ _ _ _ us hl => match us, hl with | [_, _, _], _ => rfl⟩
  have F_iss := fun_mk (st := s_is_stone) l_iss c_iss k_iss
  have D_iss : DefAt K mg "_is_stone" s_is_stone ["stone", "least_place"] f_iss _ := ⟨F_iss, PySem.W.mg_of X G a_iss, F_iss.binds fun _ _ _ _ _ _ us hl => match us, hl with | [_, _], _ => rfl⟩
  have F_rea := fun_mk (st := s_reaches) l_rea c_rea k_rea
  have D_rea : DefAt K mg "_reaches" s_reaches ["stone", "other"] f_rea _ := ⟨F_rea, PySem.W.mg_of X G a_rea, F_rea.binds fun _ _ _ _ _ _ us hl => match us, hl with | [_, _], _ => rfl⟩
  have F_ftk := fun_mk (st := s_fall_ticks) l_ftk c_ftk k_ftk
  have D_ftk : DefAt K mg "fall_ticks" s_fall_ticks ["row", "stone", "side"] f_ftk _ := ⟨F_ftk, PySem.W.mg_of X G a_ftk, F_ftk.binds fun _ _ _ _ _ _ us hl => match us, hl with | [_, _, _], _ => rfl⟩
  have F_cha := fun_mk (st := s_chart) l_cha c_cha k_cha
  have D_cha : DefAt K mg "chart" s_chart ["row", "stone", "side"] f_cha _ := ⟨F_cha, PySem.W.mg_of X G a_cha, F_cha.binds fun _ _ _ _ _ _ us hl => match us, hl with | [_, _, _], _ => rfl⟩
  have F_dic := fun_mk (st := s_law_dice) l_dic c_dic k_dic
  have D_dic : DefAt K mg "_law_dice" s_law_dice ["_law_script"] f_dic _ := ⟨F_dic, PySem.W.mg_of X G a_dic, F_dic.binds fun _ _ _ _ _ _ us hl => match us, hl with | [_], _ => rfl⟩
  have F_nex := fun_mk (st := s_law_next) l_nex c_nex k_nex
  have D_nex : DefAt K mg "_law_next" s_law_next ["_law_dice_here", "_law_many"] f_nex _ := ⟨F_nex, PySem.W.mg_of X G a_nex, F_nex.binds fun _ _ _ _ _ _ us hl => match us, hl with | [_, _], _ => rfl⟩
  have F_pic := fun_mk (st := s_law_pick) l_pic c_pic k_pic
  have D_pic : DefAt K mg "_law_pick" s_law_pick ["_law_d", "_law_some"] f_pic _ := ⟨F_pic, PySem.W.mg_of X G a_pic, F_pic.binds fun _ _ _ _ _ _ us hl => match us, hl with | [_, _], _ => rfl⟩
  have F_tol := fun_mk (st := s_law_told) l_tol c_tol k_tol
  have D_tol : DefAt K mg "_law_told" s_law_told ["_law_work"] f_tol _ := ⟨F_tol, PySem.W.mg_of X G a_tol, F_tol.binds fun _ _ _ _ _ _ us hl => match us, hl with | [_], _ => rfl⟩
  have F_sto := fun_mk (st := s_law_stones) l_sto c_sto k_sto
  have D_sto : DefAt K mg "_law_stones" s_law_stones ["_law_d", "_law_most"] f_sto _ := ⟨F_sto, PySem.W.mg_of X G a_sto, F_sto.binds fun _ _ _ _ _ _ us hl => match us, hl with | [_, _], _ => rfl⟩
  have F_mad := fun_mk (st := s_law_made) l_mad c_mad k_mad
  have D_mad : DefAt K mg "_law_made" s_law_made ["_law_stones_here"] f_mad _ := ⟨F_mad, PySem.W.mg_of X G a_mad, F_mad.binds fun _ _ _ _ _ _ us hl => match us, hl with | [_], _ => rfl⟩
  have F_tic := fun_mk (st := s_law_ticks) l_tic c_tic k_tic
  have D_tic : DefAt K mg "_law_ticks" s_law_ticks ["_law_stones_here", "_law_up", "_law_stone", "_law_side"] f_tic _ := ⟨F_tic, PySem.W.mg_of X G a_tic, F_tic.binds fun _ _ _ _ _ _ us hl => match us, hl with | [_, _, _, _], _ => rfl⟩
  have F_gro := fun_mk (st := s_law_grouped) l_gro c_gro k_gro
  have D_gro : DefAt K mg "_law_grouped" s_law_grouped ["_law_number"] f_gro _ := ⟨F_gro, PySem.W.mg_of X G a_gro, F_gro.binds fun _ _ _ _ _ _ us hl => match us, hl with | [_], _ => rfl⟩
  have F_fil := fun_mk (st := s_law_filled) l_fil c_fil k_fil
  have D_fil : DefAt K mg "_law_filled" s_law_filled ["_law_word", "_law_size"] f_fil _ := ⟨F_fil, PySem.W.mg_of X G a_fil, F_fil.binds fun _ _ _ _ _ _ us hl => match us, hl with | [_, _], _ => rfl⟩
  have L : Lims mg := ⟨⟨tP, PySem.W.mg_of X G aP⟩, ⟨tH, PySem.W.mg_of X G aH⟩⟩
  have R : RowC K mg C := ⟨⟨pg, hd, po, sa⟩, nQ, ⟨_, mM, ⟨tM, rfl⟩, gM, by decide⟩, PySem.W.mg_of X G aC, sf, ca, cn, ct, cm⟩
  have M : Mk K C f_ini := ⟨mk, a_ini, i_ini, kc⟩
  have YM : ExcMW mg ⟨xe, xc0, xc1, xc2, xc3, xc4, xc5, xc6, xc7, xc8, xc9, xc10⟩ := ⟨PySem.W.mg_of X G ne, PySem.W.mg_of X G nc0, PySem.W.mg_of X G nc1, PySem.W.mg_of X G nc2, PySem.W.mg_of X G nc3, PySem.W.mg_of X G nc4, PySem.W.mg_of X G nc5, PySem.W.mg_of X G nc6, PySem.W.mg_of X G nc7, PySem.W.mg_of X G nc8, PySem.W.mg_of X G nc9, PySem.W.mg_of X G nc10, PySem.W.mg_none_of X G z_VE⟩
  have x6 : ExcOfW K ⟨xe, xc0, xc1, xc2, xc3, xc4, xc5, xc6, xc7, xc8, xc9, xc10⟩ xc6 6 := ⟨⟨gac6, ggc6, suc6, hdc6, cac6, cn, ct, moc6⟩, ixc6, sxc6, sec6, q0c6, q1c6, q2c6, q3c6, q4c6, q5c6, q6c6, q7c6, q8c6, q9c6, q10c6, vec6⟩
  have x7 : ExcOfW K ⟨xe, xc0, xc1, xc2, xc3, xc4, xc5, xc6, xc7, xc8, xc9, xc10⟩ xc7 7 := ⟨⟨gac7, ggc7, suc7, hdc7, cac7, cn, ct, moc7⟩, ixc7, sxc7, sec7, q0c7, q1c7, q2c7, q3c7, q4c7, q5c7, q6c7, q7c7, q8c7, q9c7, q10c7, vec7⟩
  have R6 : RaiseC K mg "UnknownStone" xc6 := ⟨exc6, PySem.W.mg_of X G nc6, kpc6, suc6, tyc6⟩
  have R7 : RaiseC K mg "InvalidSide" xc7 := ⟨exc7, PySem.W.mg_of X G nc7, kpc7, suc7, tyc7⟩
  have hS : ∀ H : Hp, SqT K H S [.str "left", .str "right"] := fun H => .inr ⟨_, itS, nS, lS, rfl, rfl, pS, vS⟩
  have empty := own cl Pt _ _ eC ddC vsC slC l_law rfl rfl lc lp
  have code := PySem.W.codeHd_of_K X ch
  refine ⟨PySem.W.fnOf "law" "law" (defArgs s_law) (defBody s_law) (defScope s_law) .none kV_law dc_law pm_law an_law (.ref cl) ct_law, [(cl, Pt)], spLaw K [(Pt, qL)], fun p hp => ?_, fun p hp => ?_, fun p hp => ?_, fun s v => .of_eq rfl, fun H a ns hn63 _ hT hS => ⟨a, ns, rfl, hS, hn63, fun p hp => ?_, fun _ => rfl⟩, fun base _ _ hB => ?_⟩
  · obtain rfl : p = (cl, Pt) := by simpa using hp
    exact empty
  · obtain rfl : p = (cl, Pt) := by simpa using hp
    exact np
  · obtain rfl : p = (cl, Pt) := by simpa using hp
    exact code
  · obtain rfl : p = (Pt, qL) := by simpa using hp
    exact LamX.TabS.nil (hT (cl, Pt) (by simp))
  have A_num := D_num.at (ok_num (P := l.prog) (w := w) (base := base) F_num B)
  have A_cst := D_cst.at (ok_checkStoneX F_cst R6 A_num)
  have A_csi := D_csi.at (ok_checkSideX (P := l.prog) (w := w) (base := base) F_csi R7 (PySem.W.mg_of X G aS) hS)
  have A_bes := D_bes.at (ok_beside (P := l.prog) (w := w) (base := base) F_bes B)
  have A_iss := D_iss.at (ok_isStone F_iss B L A_num)
  have G_ini := ok_init F_ini B R A_iss
  have G_len := toR (ok_len (P := l.prog) (w := w) (base := base) F_len B R) b_len
  have O_get := ok_get (P := l.prog) (w := w) (base := base) F_get R
  have A_rea := D_rea.at (ok_reaches (P := l.prog) (w := w) (base := base) F_rea B)
  have A_ftk := D_ftk.at (ok_ticks F_ftk B R ⟨a_len, i_len⟩ G_len P_get O_get b_get A_cst A_csi A_bes A_rea)
  have A_cha := D_cha.at (ok_chart F_cha B R P_get O_get b_get A_ftk)
  have A_dic := D_dic.at (ok_dice (P := l.prog) (w := w) (base := base) F_dic B)
  have A_nex := D_nex.at (ok_next (P := l.prog) (w := w) (base := base) F_nex B)
  have A_pic := D_pic.at (ok_pick F_pic B A_nex)
  have A_sto := D_sto.at (ok_stones F_sto B A_nex)
  have G_add := toR (ok_add F_add B R M G_ini) b_add
  have A_mad := D_mad.at (ok_made F_mad B R M G_ini G_add ⟨a_add, i_add⟩)
  have A_tic := D_tic.at (ok_ticksW (P := l.prog) (w := w) (mg := mg) (base := base) F_tic)
  have A_gro := D_gro.at (ok_grouped (P := l.prog) (w := w) (base := base) F_gro B (PySem.W.mg_none_of X G z_str))
  have A_fil := D_fil.at (ok_filled (P := l.prog) (w := w) (base := base) F_fil B)
  exact ok_law B (PySem.W.mg_none_of X G z_str) A_dic A_nex A_sto A_mad A_pic A_tic A_gro A_fil A_cha YM x6 x7 l_law c_law
    (PySem.W.mg_of X G a_tol) k_tol l_tol c_tol D_tol.b (hB (cl, Pt) (by simp)) (by simp) (fun p hp _ => by
      obtain rfl : p = (Pt, qL) := by simpa using hp
      rfl)
theorem walk {l : PySem.W.OpenLaw} {q : Program} {loose : List Str} {XP : (Str → Option Value) → Heap → Prop} {YP : World → Heap → Prop} {d : DefRec} {K : Params → PySem.W.Frag} (hn : l.most = some 63) (hdf : d.params.defaults = []) (hrec : ((recsOf q).any fun e => e.name == d.name) = true)
    (hY : ∀ (w : World) (h : Heap), YP w h → (K w.params).In h)
    (F : ∀ (w : World) (mg : Str → Option Value) (fa : Addr) (h : Heap), (K w.params).In h → h.Ns mainGlobals mg → mg d.name = some (.ref fa) → LamX.OwnTab (K w.params) fa h → LamX.LawAtS l w (K w.params) CX0 8 63 "_law_script" mg fa h) :
    PySem.W.WalkO q loose XP YP l.row.toRowW d [] (fun f vs => PySem.call f vs) :=
  LamX.walk_ofOwn (n := 63) (k := 8) (x := "_law_script") (CX := fun _ => CX0) hn (by decide) hdf ⟨rfl, by decide, by decide⟩ hrec hY (fun w mg fa h _ => F w mg fa h) fun _ _ _ _ _ z => z
end RD
end
open PySem PySem.W PyProof.Rows
set_option maxRecDepth 100000 in
set_option maxHeartbeats 0 in
theorem PySem.Challenge.cw_rowdominoes_k47_charts_holds : PySem.Challenge.rw_rowdominoes_k47_charts.Holds := by
  w_on; o_law; k_head; (case hw => w_witness2)
  k_fill
  refine RD.walk (l := PySem.Challenge.rw_rowdominoes_k47_charts) rfl rfl ?hrec (fun w h Y => PySem.W.km_in_of Y) ?F
  case hrec => decide +kernel
  case F =>
    intro w mg fa h KX G hmg own
    refine' RD.all_mk KX G hmg own ?aC ?a_ini ?i_ini ?l_ini ?c_ini ?k_ini ?a_len ?i_len ?l_len ?c_len ?k_len ?a_add ?i_add ?l_add ?c_add ?k_add ?pa_get ?pb_get ?pc_get ?pd_get ?l_get ?c_get ?k_get ?a_num ?l_num ?c_num ?k_num ?a_cst ?l_cst ?c_cst ?k_cst ?a_csi ?l_csi ?c_csi ?k_csi ?a_bes ?l_bes ?c_bes ?k_bes ?a_iss ?l_iss ?c_iss ?k_iss ?a_rea ?l_rea ?c_rea ?k_rea ?a_ftk ?l_ftk ?c_ftk ?k_ftk ?a_cha ?l_cha ?c_cha ?k_cha ?a_dic ?l_dic ?c_dic ?k_dic ?a_nex ?l_nex ?c_nex ?k_nex ?a_pic ?l_pic ?c_pic ?k_pic ?a_tol ?l_tol ?c_tol ?k_tol ?a_sto ?l_sto ?c_sto ?k_sto ?a_mad ?l_mad ?c_mad ?k_mad ?a_tic ?l_tic ?c_tic ?k_tic ?a_gro ?l_gro ?c_gro ?k_gro ?a_fil ?l_fil ?c_fil ?k_fil ?a_law ?l_law ?c_law ?k_law ?lc ?lp ?np ?ch ?z_isinstance ?z_int ?z_bool ?z_len ?z_tuple ?z_list ?z_range ?z_enumerate ?z_abs ?z_max ?z_min ?z_sorted ?z_str ?z_super ?z_VE ?ne ?nc0 ?nc1 ?nc2 ?nc3 ?nc4 ?nc5 ?nc6 ?nc7 ?nc8 ?nc9 ?nc10 ?gac6 ?ggc6 ?suc6 ?hdc6 ?cac6 ?moc6 ?ixc6 ?sxc6 ?sec6 ?q0c6 ?q1c6 ?q2c6 ?q3c6 ?q4c6 ?q5c6 ?q6c6 ?q7c6 ?q8c6 ?q9c6 ?q10c6 ?vec6 ?kpc6 ?tyc6 ?gac7 ?ggc7 ?suc7 ?hdc7 ?cac7 ?moc7 ?ixc7 ?sxc7 ?sec7 ?q0c7 ?q1c7 ?q2c7 ?q3c7 ?q4c7 ?q5c7 ?q6c7 ?q7c7 ?q8c7 ?q9c7 ?q10c7 ?vec7 ?kpc7 ?tyc7 ?exc6 ?exc7 ?aS ?lS ?pS ?vS ?aP ?aH ?pg ?hd ?po ?sa ?mk ?kc ?nQ ?mM ?gM ?sf ?ca ?cn ?ct ?cm
    (case aC => k_is)
    (case a_ini => k_is)
    (case i_ini => k_is)
    (case l_ini => k_is)
    (case c_ini => k_is)
    (case k_ini => k_is)
    (case a_len => k_is)
    (case i_len => k_is)
    (case l_len => k_is)
    (case c_len => k_is)
    (case k_len => k_is)
    (case a_add => k_is)
    (case i_add => k_is)
    (case l_add => k_is)
    (case c_add => k_is)
    (case k_add => k_is)
    (case pa_get => k_is)
    (case pb_get => k_is)
    (case pc_get => k_is)
    (case pd_get => k_is)
    (case l_get => k_is)
    (case c_get => k_is)
    (case k_get => k_is)
    (case a_num => k_is)
    (case l_num => k_is)
    (case c_num => k_is)
    (case k_num => k_is)
    (case a_cst => k_is)
    (case l_cst => k_is)
    (case c_cst => k_is)
    (case k_cst => k_is)
    (case a_csi => k_is)
    (case l_csi => k_is)
    (case c_csi => k_is)
    (case k_csi => k_is)
    (case a_bes => k_is)
    (case l_bes => k_is)
    (case c_bes => k_is)
    (case k_bes => k_is)
    (case a_iss => k_is)
    (case l_iss => k_is)
    (case c_iss => k_is)
    (case k_iss => k_is)
    (case a_rea => k_is)
    (case l_rea => k_is)
    (case c_rea => k_is)
    (case k_rea => k_is)
    (case a_ftk => k_is)
    (case l_ftk => k_is)
    (case c_ftk => k_is)
    (case k_ftk => k_is)
    (case a_cha => k_is)
    (case l_cha => k_is)
    (case c_cha => k_is)
    (case k_cha => k_is)
    (case a_dic => k_is)
    (case l_dic => k_is)
    (case c_dic => k_is)
    (case k_dic => k_is)
    (case a_nex => k_is)
    (case l_nex => k_is)
    (case c_nex => k_is)
    (case k_nex => k_is)
    (case a_pic => k_is)
    (case l_pic => k_is)
    (case c_pic => k_is)
    (case k_pic => k_is)
    (case a_tol => k_is)
    (case l_tol => k_is)
    (case c_tol => k_is)
    (case k_tol => k_is)
    (case a_sto => k_is)
    (case l_sto => k_is)
    (case c_sto => k_is)
    (case k_sto => k_is)
    (case a_mad => k_is)
    (case l_mad => k_is)
    (case c_mad => k_is)
    (case k_mad => k_is)
    (case a_tic => k_is)
    (case l_tic => k_is)
    (case c_tic => k_is)
    (case k_tic => k_is)
    (case a_gro => k_is)
    (case l_gro => k_is)
    (case c_gro => k_is)
    (case k_gro => k_is)
    (case a_fil => k_is)
    (case l_fil => k_is)
    (case c_fil => k_is)
    (case k_fil => k_is)
    (case a_law => k_is)
    (case l_law => k_is)
    (case c_law => k_is)
    (case k_law => k_is)
    (case lc => k_is)
    (case lp => exact rfl)
    (case np => first | exact rfl | kernel_rfl | decide +kernel)
    (case ch => first | exact rfl | kernel_rfl | decide +kernel)
    (case z_isinstance => k_is)
    (case z_int => k_is)
    (case z_bool => k_is)
    (case z_len => k_is)
    (case z_tuple => k_is)
    (case z_list => k_is)
    (case z_range => k_is)
    (case z_enumerate => k_is)
    (case z_abs => k_is)
    (case z_max => k_is)
    (case z_min => k_is)
    (case z_sorted => k_is)
    (case z_str => k_is)
    (case z_super => k_is)
    (case z_VE => k_is)
    (case ne => k_is)
    (case nc0 => k_is)
    (case nc1 => k_is)
    (case nc2 => k_is)
    (case nc3 => k_is)
    (case nc4 => k_is)
    (case nc5 => k_is)
    (case nc6 => k_is)
    (case nc7 => k_is)
    (case nc8 => k_is)
    (case nc9 => k_is)
    (case nc10 => k_is)
    (case gac6 => k_is)
    (case ggc6 => k_is)
    (case suc6 => k_is)
    (case hdc6 => k_is)
    (case cac6 => k_is)
    (case moc6 => k_is)
    (case ixc6 => k_is)
    (case sxc6 => k_is)
    (case sec6 => first | exact rfl | kernel_rfl | decide +kernel)
    (case q0c6 => first | exact rfl | kernel_rfl | decide +kernel)
    (case q1c6 => first | exact rfl | kernel_rfl | decide +kernel)
    (case q2c6 => first | exact rfl | kernel_rfl | decide +kernel)
    (case q3c6 => first | exact rfl | kernel_rfl | decide +kernel)
    (case q4c6 => first | exact rfl | kernel_rfl | decide +kernel)
    (case q5c6 => first | exact rfl | kernel_rfl | decide +kernel)
    (case q6c6 => first | exact rfl | kernel_rfl | decide +kernel)
    (case q7c6 => first | exact rfl | kernel_rfl | decide +kernel)
    (case q8c6 => first | exact rfl | kernel_rfl | decide +kernel)
    (case q9c6 => first | exact rfl | kernel_rfl | decide +kernel)
    (case q10c6 => first | exact rfl | kernel_rfl | decide +kernel)
    (case vec6 => first | exact rfl | kernel_rfl | decide +kernel)
    (case kpc6 => k_is)
    (case tyc6 => k_is)
    (case gac7 => k_is)
    (case ggc7 => k_is)
    (case suc7 => k_is)
    (case hdc7 => k_is)
    (case cac7 => k_is)
    (case moc7 => k_is)
    (case ixc7 => k_is)
    (case sxc7 => k_is)
    (case sec7 => first | exact rfl | kernel_rfl | decide +kernel)
    (case q0c7 => first | exact rfl | kernel_rfl | decide +kernel)
    (case q1c7 => first | exact rfl | kernel_rfl | decide +kernel)
    (case q2c7 => first | exact rfl | kernel_rfl | decide +kernel)
    (case q3c7 => first | exact rfl | kernel_rfl | decide +kernel)
    (case q4c7 => first | exact rfl | kernel_rfl | decide +kernel)
    (case q5c7 => first | exact rfl | kernel_rfl | decide +kernel)
    (case q6c7 => first | exact rfl | kernel_rfl | decide +kernel)
    (case q7c7 => first | exact rfl | kernel_rfl | decide +kernel)
    (case q8c7 => first | exact rfl | kernel_rfl | decide +kernel)
    (case q9c7 => first | exact rfl | kernel_rfl | decide +kernel)
    (case q10c7 => first | exact rfl | kernel_rfl | decide +kernel)
    (case vec7 => first | exact rfl | kernel_rfl | decide +kernel)
    (case kpc7 => k_is)
    (case tyc7 => k_is)
    (case exc6 => k_exc)
    (case exc7 => k_exc)
    (case aS => k_is)
    (case lS => k_is)
    (case pS => decide)
    (case vS => exact .cons ⟨_, rfl⟩ (.cons ⟨_, rfl⟩ .nil))
    (case aP => k_is)
    (case aH => k_is)
    (case pg => k_is)
    (case hd => k_is)
    (case po => k_is)
    (case sa => k_is)
    (case mk => k_is)
    (case kc => k_is)
    (case nQ => k_is)
    (case mM => k_is)
    (case gM => k_is)
    (case sf => k_is)
    (case ca => k_is)
    (case cn => k_is)
    (case ct => k_is)
    (case cm => k_is)
#print axioms PySem.Challenge.cw_rowdominoes_k47_charts_holds
