import PyProof.Rows.All
import Wide.All
import OpenK.AllK
import Wide.FinOn
import KE.KOpsOwn
import KE.GoesMore
import KE.GoesEnum
import HandS.ForMost
import HandS.Star
import HandS.Conv
import HandS.Deep
import HandS.DictTup
import HandS.IsInst
import HandS.Walk
import HandS.SlotsOwn
import HandS.TupAny
import HandS.Property
import KE.KDflt
import HandS.Lambda
import HandS.EndTab
import HandS.Nested
import HandS.Words
import HandS.SetFor
import HandS.ExcIs
import HandS.ExcField
import KE.KExcIs
import HandS.More
import PyProof.InstEq
import KE.KItemsList
import KE.KDictWalk
import HandS.SortInts
import HandS.ListItems
import HandS.DictComp
import HandS.Iter
import HandS.Sort
import OpenK.KMeth
import HandS.Strs
import HandS.List
import HandS.Style
import PyProof.EqAt
import PyProof.EqKinds
import PyProof.TupleCall
import KE.KDictList
import HandS.Base
import HandS.Call
import HandS.Dict
import HandS.TupMul
import HandS.GenBody
import HandS.GenYield
import PyProof.GenComp
import HandS.GenList
import KE.KExcSuper
import KE.KSuper
import HandS.Exc
import HandS.ExcInit
import PyProof.FString3
import HandS.FStr
import HandS.Text
import HandS.Codes
import HandS.StrMore
import HandS.MapJoin
import PyProof.Rows.StrSplitCount
import HandS.Comp
import HandS.NoneIn
import HandS.OwnEq
import HandS.EndOwn
import KE.KNestM
import HandS.ExcSuper
import HandS.RaiseMore
import HandS.WordsExc
import HandS.TupSets
import HandS.GenCall
import HandS.Small
import HandS.Flow
import HandS.Finally
import PySem.Challenge.RW_rowdominoes_k46_notation
set_option Elab.async false
set_option maxRecDepth 100000
section
set_option maxHeartbeats 4000000
/-! Own signs of own classes, as rules of the hand layer. -/
namespace Own
open PySem PySem.Spec PyProof.Rows L2

section
variable {X : Cx} {CX : CXT} {n : Nat} {C g : Addr} {sp : Sp} {E : XK}

/-- an instance of C, as the library's rules want it -/
theorem insAt {pins : List (Addr × Obj)} {sl : L2.St} {H : Hp} {st : Shared} {a dx : Addr} {fs : List (Str × V)} (inv : Inv X pins sl H st) (ea : H a = some (.ins C dx fs)) :
    ∃ od, PySem.W.InstAt st.heap a (PySem.W.instObj C dx) C (some od) := by
  obtain ⟨mm, ob, _⟩ := ins_get inv.hok ea
  obtain ⟨od, at1, _⟩ := ob.look
  exact ⟨od, at1⟩
/-- the def of a sign, called with the object and one more -/
theorem run2 {pins : List (Addr × Obj)} {sl : L2.St} {H : Hp} {st : Shared} {Q : VK} {a : Addr} {y : V} {u : Value} (F : FnR X.prog X.w X.K X.mg X.base CX n g sp) (hr : Room n X.A) (hx : Passes CX X E) (inv : Inv X pins sl H st) (ry : RelV y u)
    (h : sp [.ref a, y] H Q E) : wpAny (model X.prog X.w) X.A (call (.ref g) [.ref a, u]) (PySem.W.CmpBack (EP X pins sl Q)) X.xe st := by
  have go := wpAny_call (run_fnR (us := [.ref a, u]) (vs := [.ref a, y]) F hr hx inv (.cons rfl (.cons ry .nil)) h)
  refine wpAny_mono go (fun r st' z => ?_) fun _ _ z => z
  obtain ⟨z', H', inv', rz, qz⟩ := z
  exact SlX.cmpback rz ⟨z', H', inv', rz, qz⟩

/-- x op y: the class of x has the sign's def, y is an instance of it, too -/
def rBin (C : Addr) (sp : Sp) (E : XK) : R2 := fun x y H Q => ∃ a dx fs b dy gs, x = .ref a ∧ y = .ref b ∧ H a = some (.ins C dx fs) ∧ H b = some (.ins C dy gs) ∧ sp [x, y] H Q E
theorem op_bin {op : Operator} (hc : PySem.W.selfFirst X.K C = true) (hs : PySem.W.findIn X.K (.ref C) (PySem.dunder op.info.2) = some (some (.ref g))) (hf : PySem.W.isFn X.K (.ref g) = true)
    (F : FnR X.prog X.w X.K X.mg X.base CX n g sp) (hr : Room n X.A) (hx : Passes CX X E) : OpR X (binaryOp op) (rBin C sp E) := by
  intro pins st sl H x y v u Q inv rx ry h
  obtain ⟨a, dx, fs, b, dy, gs, rfl, rfl, ea, eb, h⟩ := h
  obtain rfl : v = Value.ref a := rx
  obtain rfl : u = Value.ref b := ry
  obtain ⟨_, ja⟩ := insAt inv ea
  obtain ⟨_, jb⟩ := insAt inv eb
  obtain ⟨_, fr⟩ := inv.fr
  exact PySem.W.binop_K fr inv.ok.mod.kin ja jb.type hc hs hf (run2 (y := .ref b) F hr hx inv rfl h)

/-- x op y: y an int, a bool, None or a text -/
def flatTy : V → Option String
  | .int _ => some "int"
  | .bl _ => some "bool"
  | .non => some "NoneType"
  | .str _ => some "str"
  | _ => none
theorem typeOf_flat {y : V} {u : Value} {t : String} (h : flatTy y = some t) (r : RelV y u) : typeOf u = pure (.type t) := by
  cases y with
  | int i => obtain ⟨k, rfl⟩ := r; cases h; rfl
  | bl i => cases r; cases h; rfl
  | non => cases r; cases h; rfl
  | str i => obtain ⟨k, rfl⟩ := r; cases h; rfl
  | byt i => cases h
  | flt i => cases h
  | ref i => cases h
  | ty i => cases h
def rBinF (K : PySem.W.Frag) (C : Addr) (nm : String) (sp : Sp) (E : XK) : R2 := fun x y H Q => ∃ a dx fs t fo ro, x = .ref a ∧ H a = some (.ins C dx fs) ∧ flatTy y = some t ∧
  PySem.W.findIn K (.type t) (PySem.dunder nm) = some fo ∧ PySem.W.findIn K (.type t) (dunderR nm) = some ro ∧ PySem.W.subIn K (.type t) (.ref C) = some false ∧ sp [x, y] H Q E

/-- len(x): the class of x has __len__ -/
def rLen (C : Addr) (sp : Sp) (E : XK) : List V → Hp → VK → Prop := fun xs H Q => ∃ a dx fs, xs = [.ref a] ∧ H a = some (.ins C dx fs) ∧ sp [.ref a] H (fun z H' => ∃ k : Int, z = .int k ∧ 0 ≤ k ∧ k < 2 ^ 63 ∧ Q z H') E
theorem call_len (hs : PySem.W.findIn X.K (.ref C) "__len__" = some (some (.ref g))) (hf : PySem.W.isFn X.K (.ref g) = true) (F : FnR X.prog X.w X.K X.mg X.base CX n g sp) (hr : Room (n + 1) X.A) (hx : Passes CX X E) :
    CallR X (.builtin "len") (rLen C sp E) := by
  intro pins st sl H xs us Q inv r h
  obtain ⟨a, dx, fs, rfl, ea, h⟩ := h
  obtain ⟨u, rfl, ru⟩ := r.one
  obtain rfl : u = Value.ref a := ru
  obtain ⟨_, ja⟩ := insAt inv ea
  obtain ⟨_, fr⟩ := inv.fr
  have go := wpAny_call (SlX.run_at (A := X.A.in1) (us := [.ref a]) (ws := [.ref a]) F hr.in1 inv.env0.in1 hx inv (.cons rfl .nil) h)
  refine PySem.W.len_K fr inv.ok.mod.kin ja hs hf (wpAny_mono go (fun v st' z => ?_) fun _ _ z => z)
  obtain ⟨z', H', inv', rz, k, rfl, h0, h1, qz⟩ := z
  obtain ⟨t, rfl⟩ := rz
  exact ⟨⟨h0, h1⟩, .int k, H', inv'.tok _, ⟨_, rfl⟩, qz⟩
end

/-! ### C(), C(e), C(*e) where __init__ has a star -/
section
variable {X : Cx} {CX : CXT} {k : Nat} {f C : Addr} {sp : Sp} {E : XK} {x : Str} {e : Expr} {te : TE} {p ps pos : Pos}
theorem pe_makeR0 (M : Mk X.K C f) (F : FnR X.prog X.w X.K X.mg X.base CX k f sp) (hr : Room (k + 1) X.A) (hg : Gl X x) (hm : X.mg x = some (.ref C)) (hx : Passes CX X E) (hdb : (x == ("__debug__" : Str)) = false := by decide) :
    PE X (.Call (.Name x p) [] [] pos) (StX.tMakeR C sp E tNil) := by
  refine ⟨fun pins st sl H Q inv h => wpAny_Call_Name_kw (ld_glob inv hg hm ?_ hdb)⟩
  exact PySem.W.callWith_K0 inv.kIn M.kp (StX.run_makeR (us := []) M F hr hx inv .nil h)
/-- C(*e) -/
def tMakeS (K : PySem.W.Frag) (C : Addr) (sp : Sp) (E : XK) (te : TE) : TE := fun sl H Q => te sl H fun y H1 => ∃ a xs, y = V.ref a ∧ (SqT K H1 a xs ∨ SqL K H1 a xs) ∧ ∀ z dz, H1 z = Option.none → H1 dz = Option.none → dz ≠ z →
  sp (V.ref z :: xs) (upd (upd H1 dz (.own z)) z (.ins C dz [])) (fun v H2 => v = .non ∧ Q (.ref z) H2) E
theorem pe_makeS (M : Mk X.K C f) (F : FnR X.prog X.w X.K X.mg X.base CX k f sp) (hr : Room (k + 1) X.A) (hg : Gl X x) (hm : X.mg x = some (.ref C)) (hx : Passes CX X E) (he : PE X e te) (hdb : (x == ("__debug__" : Str)) = false := by decide)
    (hst : starEach [.Starred e ps] X.env = [(true, eval e X.env)] := by rfl) : PE X (.Call (.Name x p) [.Starred e ps] [] pos) (tMakeS X.K C sp E te) := by
  refine ⟨fun pins st sl H Q inv h => wpAny_Call_Name_kw (ld_glob inv hg hm ?_ hdb)⟩
  refine PySem.W.callWith_S (h₀ := X.base) inv.ok.mod.kin M.kp (thn (he.run pins st sl H _ inv h) fun v s1 z => ?_) hst
  obtain ⟨y, H1, inv1, ry, a, xs, ey, hxs, q⟩ := z
  subst ey
  obtain rfl : v = Value.ref a := ry
  exact StX.star_any inv1 hxs fun us s2 inv2 rv => ⟨inv2.kIn, StX.run_makeR M F hr hx inv2 rv q⟩
end

/-! ### enumerate(tuple) -/
section
def Item (K : PySem.W.Frag) (a : Addr) : It :=
  ⟨fun i H => ∃ (xs : List V) (x : V), SqT K H a xs ∧ xs[i]? = some x, fun i H v H' => ∃ T x, v = .ref T ∧ H T = none ∧ H' = upd H T (.tup [.int (i : Nat), x]) ∧ ∀ ys, SqT K H a ys → ys[i]? = some x, fun i H => ∃ ys : List V, SqT K H a ys ∧ ys.length = i⟩
theorem walk_item {K : PySem.W.Frag} {a : Addr} {xs : List V} : Walk (Item K a) xs.length (fun H => SqT K H a xs) (YPair (fun i => some (.int (i : Nat))) (fun i => xs[i]?)) := by
  refine ⟨fun i _ hi q => ⟨xs, xs[i], q, by simp [hi]⟩, fun _ q => ⟨xs, q, rfl⟩, fun i H v H' _ q y => ?_⟩
  obtain ⟨T, x, e1, e2, e3, e4⟩ := y
  exact ⟨T, .int (i : Nat), x, e1, e2, e3, rfl, e4 xs q⟩
theorem two_cases {b en it : Addr} (hb : b ∈ [en, it]) : b = en ∨ b = it := by simpa using hb
theorem turn_item {P : Program} {w : World} {K : PySem.W.Frag} {elts : List Expr} {kk : Nat} {tpos : Pos} (a en it : Addr) (hat : a ≠ it) :
    Turn P w K (.Tuple elts kk tpos) (Item K a) [en, it] en (fun i h => (∃ old, IsEnum h en it ((i : Nat) : Int) old) ∧ h.IsTupleIter it a i ∧ en ≠ it ∧ en ≠ a) where
  mem := by simp
  obj := fun i h st b hb => by
    obtain ⟨⟨_, q⟩, ⟨oo, q1, _, q2⟩, _⟩ := st
    rcases two_cases hb with rfl | rfl
    · exact ⟨_, q, fun v z => nomatch z⟩
    · exact ⟨oo, q1, fun v z => by rw [q2] at z; cases z⟩
  keep := fun i h h' st k => let ⟨⟨old, q⟩, q1, q2⟩ := st; ⟨⟨old, k en (by simp) _ q⟩, q1.at fun o z => k it (by simp) o z, q2⟩
  item := by
    intro X hP hw hK hc i pins st sl H E inv free now hg
    subst hP hw hK
    obtain ⟨⟨old, q⟩, q1, q2, q3⟩ := now
    obtain ⟨xs, x, hq, hx⟩ := hg
    obtain ⟨its, rv, hp, _⟩ := inv.tuple hq
    obtain ⟨u, hu, ru⟩ := rv.get hx
    have lt1 : en < st.heap.objs.size := Heap.lt_size q
    have lt2 : it < st.heap.objs.size := by obtain ⟨_, z, _⟩ := q1; exact Heap.lt_size z
    have lt3 : a < st.heap.objs.size := by obtain ⟨_, z, _⟩ := hp; exact Heap.lt_size z
    have dr := Draws.tuple (prog := X.prog) (w := X.w) (A := X.A.in1) (show X.A.in1.handled = none from inv.ok.hd hc) it a hat its.toArray
    have hi : i < its.toArray.size := by
      have := (List.getElem?_eq_some_iff.mp hu).1
      simpa using this
    refine wpAny_pyNext_enum_itemD dr q ⟨q1, hp⟩ hi q2 (by simp [q2, q3]) fun x' h1 tk hx' ho hs1 hT hsz hk => ?_
    obtain rfl : x' = u := by
      have z : its.toArray[i]? = some u := by simpa using hu
      rw [z] at hx'
      exact (Option.some.inj hx').symm
    refine ⟨_, rfl, wpAny_letOwnedTupleGo_enum (s := { st with heap := h1, toks := tk + 1 }) ho fun h2 he2 sb => ?_⟩
    have hT2 : h2.get? st.heap.objs.size = some { cls := .type "tuple", data := .seq #[.int i tk, x'] } := (sb.2 _ (Nat.ne_of_gt lt1)).trans hT
    have pair : ObjOk X.prog X.w (upd H st.heap.objs.size (.tup [.int (i : Nat), x])) h2 st.heap.objs.size (.tup [.int (i : Nat), x]) :=
      ⟨by show 2 ≤ sizeLine; decide, [.int i tk, x'], .cons ⟨_, rfl⟩ (.cons ru .nil), ⟨_, hT2, rfl, _, rfl⟩⟩
    have inv2 : Inv X pins sl (upd H st.heap.objs.size (.tup [.int (i : Nat), x])) { st with heap := h2, toks := tk + 1 } :=
      inv.turnedNew (ch := [en, it]) (fun b ob hb z => (sb.2 b (fun y => hb (by simp [y]))).trans (hk b ob (fun y => hb (by simp [y])) (fun y => hb (by simp [y])) z)) free (Nat.le_refl _) pair
    refine ⟨.ref st.heap.objs.size, _, inv2, rfl, ⟨_, x, rfl, inv.hok.fresh (Nat.le_refl _), rfl, fun ys hy => by rw [inv.tuple_inj hy hq]; exact hx⟩, ⟨⟨x', ?_⟩, hs1.1.at fun o z => (sb.2 it (Ne.symm q2)).trans z, q2, q3⟩, fun b hb => ?_⟩
    · have e1 : ((i + 1 : Nat) : Int) = (i : Int) + 1 := by omega
      rw [e1]
      exact he2
    · have hb' : b < st.heap.objs.size := by
        rcases two_cases hb with rfl | rfl
        · exact lt1
        · exact lt2
      rw [upd_ne (Nat.ne_of_lt hb')]
      exact (free b hb).1
  done := by
    intro X hP hw hK hc i pins st sl H E inv free now hg
    subst hP hw hK
    obtain ⟨⟨old, q⟩, q1, q2, q3⟩ := now
    obtain ⟨xs, hq, hx⟩ := hg
    obtain ⟨its, rv, hp, _⟩ := inv.tuple hq
    obtain ⟨f0, f1, f2, f3, f4, f5⟩ := free it (by simp)
    have len := rv.length
    have dr := Draws.tuple (prog := X.prog) (w := X.w) (A := X.A.in1) (show X.A.in1.handled = none from inv.ok.hd hc) it a hat (its.toArray)
    have hn : i = its.toArray.size := by rw [List.size_toArray, ← len, hx]
    subst hn
    exact wpAny_pyNext_enum_endD dr q ⟨q1, hp⟩ fun h1 eb => ⟨rfl, inv.turned (t' := st.toks) (fun b o hb z => eb b o hb z) f0 f1 f3 f4 f5⟩
  self := fun A i s Q E now h => let ⟨⟨_, q⟩, _⟩ := now; wpAny_pyIter_enum q h

theorem new_enum {v : Value} {o : Obj} {G : Heap → Prop} (B : Begins v o G) :
    Meets (Builtin.«enumerate.__new__» ⟨[.type "enumerate", v], []⟩) (fun _ R st => G st.heap ∧
      R (.ok (.ret (.ref (st.heap.push o).objs.size))) { st with heap := (st.heap.push o).push { cls := .type "enumerate", data := .fields #[.none, .bool false, .ref st.heap.objs.size, rawInt 0, .none, .none] } }) :=
  .of_wp fun prog w A R st h => by
    obtain ⟨hp, g, d, tk, os⟩ := st; obtain ⟨h1, h⟩ := h
    have hsub := sub_enumerate
    have it1 : ∀ {A' : Around} {E : Value → Shared → Prop} {Q : Value → Shared → Prop}, Q (.ref hp.objs.size) ⟨hp.push o, g, d, tk, os⟩ → wpAny (model prog w) A' (pyIter v) Q E ⟨hp, g, d, tk, os⟩ :=
      fun z => B.iter prog w _ _ ⟨hp, g, d, tk, os⟩ _ h1 z
    wp_walk using it1
    refine wpAny_stack_any fun fs => wpAny_pure ?_
    split
    · rename_i c _ _ _ _ _
      cases (c == Value.type "enumerate")
      · wp_walk using it1
        exact ⟨_, rfl, h⟩
      · wp_walk using it1
        exact ⟨_, rfl, h⟩
    · wp_walk using it1
      exact ⟨_, rfl, h⟩
section
variable {prog : Program} {w : World} {A : Around} {E : Value → Shared → Prop} {st : Shared}
theorem call_enum {v : Value} {o : Obj} {G : Heap → Prop} {Q : Value → Shared → Prop} (B : Begins v o G) (h1 : G st.heap)
    (h : ∀ h', IsEnum h' (st.heap.objs.size + 1) st.heap.objs.size 0 .none → h'.get? st.heap.objs.size = some o → h'.objs.size = st.heap.objs.size + 2 →
      (∀ b u, st.heap.get? b = some u → h'.get? b = some u) → Q (.ref (st.heap.objs.size + 1)) { st with heap := h' }) :
    wpAny (model prog w) A (call (.type "enumerate") [v]) Q E st := by
  refine callType_new F.called_enumerate (by decide) (F.typeCall_enumerate_1 _) (F.newCall_enumerate_1 _) (fun obj => F.args_object_init_2 obj _) F.entry_enumerate_new (new_enum B) ⟨h1, ?_⟩
  have sz : (st.heap.push o).objs.size = st.heap.objs.size + 1 := Heap.size_push ..
  show _ ∧ _
  rw [sz]
  have en : IsEnum ((st.heap.push o).push { cls := .type "enumerate", data := .fields #[.none, .bool false, .ref st.heap.objs.size, rawInt 0, .none, .none] }) (st.heap.objs.size + 1) st.heap.objs.size 0 .none := by
    have z := Heap.get?_push_size (st.heap.push o) (o := { cls := .type "enumerate", data := .fields #[.none, .bool false, .ref st.heap.objs.size, rawInt 0, .none, .none] }) rfl
    rw [sz] at z
    exact z
  exact ⟨⟨_, en, rfl⟩, h _ en (Heap.get?_push_of_some _ (Heap.get?_push_size _ B.free)) (by rw [Heap.size_push, sz]) fun b u z => Heap.get?_push_of_some _ (Heap.get?_push_of_some _ z)⟩
end
def iEnumT (K : PySem.W.Frag) (ta : TA) : TI := fun sl H R => ta sl H fun vs H1 => ∃ a xs, vs = [.ref a] ∧ SqT K H1 a xs ∧ R (Item K a) H1
theorem pi_enumT {X : Cx} {e : Expr} {ta : TA} {p pos tpos : Pos} {elts : List Expr} {kk : Nat} (hg : Gl X "enumerate") (hm : X.mg "enumerate" = none) (ha : PA X [e] ta) (hs : starEach [e] X.env = [(false, eval e X.env)] := by rfl) :
    PI X (.Tuple elts kk tpos) (.Call (.Name "enumerate" p) [e] [] pos) (iEnumT X.K ta) := by
  refine ⟨fun pins st sl H R inv h => Call_ (ld_blt inv hg hm boot_enumerate (PyProof.Rows.callWith_type1 (thn (ha.run pos pins st sl H _ inv h) fun us s1 z => ?_) hs rfl))⟩
  obtain ⟨vs, H1, inv1, r1, a, xs, ex, hq, q⟩ := z
  subst ex
  obtain ⟨u, rfl, ru⟩ := r1.one
  obtain rfl : u = Value.ref a := ru
  obtain ⟨its, rv, hp, _⟩ := inv1.tuple hq
  have lt3 : a < s1.heap.objs.size := by obtain ⟨_, z, _⟩ := hp; exact Heap.lt_size z
  refine call_enum (begins_tuple a its.toArray) hp fun h' en hit hsz hk => wpAny_pyIter_enum en ?_
  have inv2 : Inv X pins sl H1 { s1 with heap := h' } := inv1.kept (t' := s1.toks) hk
  refine ⟨s1.heap.objs.size + 1, [s1.heap.objs.size + 1, s1.heap.objs.size], _, _, H1, rfl, inv2, turn_item a (s1.heap.objs.size + 1) s1.heap.objs.size (Nat.ne_of_lt lt3), ⟨⟨.none, en⟩, ⟨_, hit, rfl, rfl⟩, Nat.succ_ne_self _, Nat.ne_of_gt (Nat.lt_succ_of_lt lt3)⟩, fun b hb => ?_, q⟩
  have low : s1.heap.objs.size ≤ b := by
    rcases two_cases hb with rfl | rfl
    · exact Nat.le_add_right _ _
    · exact Nat.le_refl _
  exact inv1.fpOk low (inv1.hok.fresh low)
end

/-! ### list(range(a, b, -1)) -/
section
def dnV (a b : Int) : List V := (List.range (a - b).toNat).map fun i => V.int (a - (i : Nat))
theorem dnV_length (a b : Int) : (dnV a b).length = (a - b).toNat := by unfold dnV; simp
def tDown (ta : TA) : TE := fun sl H Q => ta sl H fun vs H1 => ∃ i j : Int, vs = [.int i, .int j, .int (-1)] ∧ -1000000 ≤ i ∧ i ≤ 1000000 ∧ -1000000 ≤ j ∧ j ≤ 1000000 ∧ ∀ q, H1 q = none → Q (.ref q) (upd H1 q (.lst (dnV i j)))
theorem pe_listDown {X : Cx} {a b c : Expr} {ta : TA} {p pos rp rpos : Pos} (hc : X.calm = true) (hg : Gl X "list") (hm : X.mg "list" = none) (hg2 : Gl X "range") (hm2 : X.mg "range" = none) (ha : PA X [a, b, c] ta)
    (hs : starEach [a, b, c] X.env = (false, eval a X.env) :: starEach [b, c] X.env := by rfl) (hpl : (backTo rpos (starEach [b, c] X.env)).any (·.1) = false := by rfl)
    (na : starEach [.Call (.Name "range" rp) [a, b, c] [] rpos] X.env = (false, eval (.Call (.Name "range" rp) [a, b, c] [] rpos) X.env) :: starEach [] X.env := by rfl) :
    PE X (.Call (.Name "list" p) [.Call (.Name "range" rp) [a, b, c] [] rpos] [] pos) (tDown ta) := by
  refine ⟨fun pins st sl H Q inv h => ?_⟩
  refine Call_ (ld_blt inv hg hm boot_list (PyProof.Rows.callWith_type1 (args_cons ?_ na) na))
  refine Call_ (ld_blt inv hg2 hm2 boot_range (PyProof.Rows.callWith_type1 (thn (ha.run rpos pins st sl H _ inv h) fun us s1 z => ?_) hs hpl))
  obtain ⟨vs, H1, inv1, r1, i, j, e, b1, b2, b3, b4, q⟩ := z
  subst e
  cases r1 with
  | cons r rr =>
    cases rr with
    | cons r' rr =>
      cases rr with
      | cons r'' rr =>
        cases rr
        obtain ⟨t, rfl⟩ := r
        obtain ⟨t', rfl⟩ := r'
        obtain ⟨t'', rfl⟩ := r''
        obtain ⟨c0, c1, c2, c3⟩ := RgC.neg (i := i) (j := j) (by omega) (by omega) (by omega) (by omega)
        refine call_range_3 c0 (args_nil ?_) (.inl (PyProof.noPylong_small c1))
        have inv2 : Inv X pins sl H1 { s1 with heap := s1.heap.push { cls := .type "range", data := .fields #[.int i t, .int j t', .int (-1) t''] } } := inv1.kept (t' := s1.toks) fun b o e => Heap.get?_push_of_some _ e
        refine call_list_range (n := (i - j).toNat) (inv2.ok.hd hc) (IsRange.new ..) c2 c3 (by omega) fun h' tk acc c' hk e' hi => ?_
        refine ⟨.ref _, upd H1 _ (.lst (dnV i j)), inv2.laid hk (Nat.le_refl _) (show ObjOk X.prog X.w _ _ _ (.lst (dnV i j)) from ⟨?_, acc.toList, c', ?_, ?_⟩), rfl, q _ (inv2.hok.fresh (Nat.le_refl _))⟩
        · rw [dnV_length, sizeLine_eq]; omega
        · have e : acc.toList.length = (i - j).toNat := by rw [Array.length_toList]; exact hi.1
          unfold dnV
          rw [← e]
          refine vals_of_get acc.toList _ fun k u hk => ?_
          obtain ⟨t, rfl⟩ := hi.2 k u (by rw [← hk, Array.getElem?_toList])
          exact ⟨t, by congr 1; omega⟩
        · rw [Array.toArray_toList]; exact e'
end
end Own

/-! Lambdas as values: made, kept in lists, handed to a def that calls them. -/
namespace LamV
open PySem PySem.Spec PyProof.Rows L2 LamX NdefX
/-- a lambda as it was made -/
structure LF where
  qual : Str
  params : Arguments
  body : Expr
  scope : Scope
  cl : List (Str × Addr)
  dV : Value
  c : Addr
abbrev LF.data (F : LF) (doc pm ctv : Value) : FuncData := PySem.W.kdv_fn "<lambda>" F.qual F.params (.expr F.body) F.scope F.cl F.dV doc pm (.ref F.c) ctv
/-- at f stands the lambda F -/
def LamO (f : Addr) (F : LF) : HO := .ext fun h => ∃ (doc pm ctv : Value), h.get? f = some ({ cls := .type "function", data := .func (F.data doc pm ctv) } : Obj)
theorem lamO_at {P : Program} {w : World} {H : Hp} {hp : Heap} {f : Addr} {F : LF} (ok : HOk P w H hp) (e : H f = some (LamO f F)) : ∃ (doc pm ctv : Value), hp.get? f = some ({ cls := .type "function", data := .func (F.data doc pm ctv) } : Obj) :=
  (ok f _ e).1
section
variable {X : Cx} {pins : List (Addr × Obj)} {sl : L2.St} {H : Hp} {st : Shared}
theorem lamO_laid {F : LF} {ob : Obj} {tk : Nat} {doc pm ctv : Value} (inv : Inv X pins sl H st) (eo : ob = { cls := .type "function", data := .func (F.data doc pm ctv) }) :
    Inv X pins sl (upd H st.heap.objs.size (LamO st.heap.objs.size F)) { st with heap := st.heap.push ob, toks := tk } := by
  subst eo
  have got : (st.heap.push ({ cls := .type "function", data := .func (F.data doc pm ctv) } : Obj)).get? st.heap.objs.size = some ({ cls := .type "function", data := .func (F.data doc pm ctv) } : Obj) := Heap.get?_push_size _ rfl
  exact inv.laid (a := st.heap.objs.size) (fun _ _ q => Heap.get?_push_of_some _ q) (Nat.le_refl _) ⟨⟨doc, pm, ctv, got⟩, ⟨_, got⟩, fun _ _ ⟨a, b, c, z⟩ k => ⟨a, b, c, k _ z⟩⟩
/-- what a new lambda leaves -/
def Born (T : List (Addr × Str)) (H : Hp) (Q : VK) (F : Addr → LF) : Prop :=
  ∀ (f c' : Addr) (H1 : Hp), ExtN H H1 → (∀ b, H1 b = none → H b = none) → Tabs T H1 → H f = none → H1 f = some (LamO f (F c')) → H1 c' = some (CodeO c' (F c').qual) → Q (.ref f) H1
theorem born {T : List (Addr × Str)} {c P : Addr} {params : Arguments} {body : Expr} {scope : Scope} {pos : Pos} {dV : Value} {Q : VK} (inv : Inv X pins sl H st) (TB : TabB X.base X.mg c P) (ec : X.env.code = .ref c)
    (inT : (P, X.env.qual ++ "<lambda>") ∈ T) (one : ∀ p ∈ T, p.1 = P → p.2 = X.env.qual ++ "<lambda>") (tabs : Tabs T H) (frees : ∀ y ∈ scope.names, y.2 = .free → ∃ c, X.env.cells.lookup y.1 = some c)
    (k : Born T H Q fun c' => ⟨X.env.qual ++ "<lambda>", params, body, scope, cloFrom X.env.cells scope.names [], dV, c'⟩) :
    wpAny (model X.prog X.w) X.A (makeTail "<lambda>" (X.env.qual ++ "<lambda>") params (.expr body) scope X.env dV .none none pos pos.line) (EP X pins sl Q) X.xe st := by
  obtain ⟨ps, eP, trip, all⟩ := tabs _ inT
  have bmP : st.heap.BuiltinsAt X.mg P := TB.bm.keeps inv.bk
  have atP : st.heap.get? P = some { cls := .none, data := .fields ps } := inv.hok P _ eP
  cases found : codeAmong pos ps.toList with
  | none =>
    refine PySem.W.kdv_makeTail (mg := X.mg) (c := c) (P := P) (ps := ps) (closure_ok frees) inv.ok.glob (inv.mod.glob.keeps inv.bk) ec (TB.code.keeps inv.bk) atP trip found TB.gP bmP fun c' ctv doc hp tk but ge lt rec tb => ?_
    obtain ⟨c2, oc, vs, t, e2, hoc, hd, hv⟩ := rec
    cases e2
    have nc : H c' = none := inv.hok.fresh ge
    have j1 := inv_table (t' := tk) (more := #[rawInt pos.line, rawInt pos.col, .ref c']) (h' := hp) inv eP (fun b o n q => but b o n q) tb ge ⟨oc, vs, t, hoc, hd, hv⟩
    have ex : ExtN H (upd (upd H P (.tbl (ps ++ #[rawInt pos.line, rawInt pos.col, .ref c']))) c' (CodeO c' (X.env.qual ++ "<lambda>"))) := fun b o q n => by
      rw [upd_ne (ne_of_none q nc), upd_ne (fun z => n ps (by rw [z, eP] at q; exact (Option.some.inj q).symm))]
      exact q
    have eL : (ps ++ #[rawInt pos.line, rawInt pos.col, .ref c']).toList = ps.toList ++ [rawInt pos.line, rawInt pos.col, .ref c'] := by simp
    have t1 : Tabs T (upd (upd H P (.tbl (ps ++ #[rawInt pos.line, rawInt pos.col, .ref c']))) c' (CodeO c' (X.env.qual ++ "<lambda>"))) := fun p hp => by
      by_cases same : p.1 = P
      · rw [one p hp same, same]
        refine ⟨_, by rw [upd_ne (ne_of_none eP nc), upd_same], by rw [eL]; exact PySem.TriplesOk_snoc _ _ _ _ trip, fun p' cv q => ?_⟩
        rw [eL] at q
        rcases among_app _ trip q with z | z
        · obtain ⟨c0, q1, q2⟩ := all p' cv z
          exact ⟨c0, q1, ex _ _ q2 codeO_ne⟩
        · exact ⟨c', z, upd_same⟩
      · obtain ⟨ps', q1, q2, q3⟩ := tabs p hp
        refine ⟨ps', by rw [upd_ne (ne_of_none q1 nc), upd_ne same]; exact q1, q2, fun p' cv q => ?_⟩
        obtain ⟨c0, r1, r2⟩ := q3 p' cv q
        exact ⟨c0, r1, ex _ _ r2 codeO_ne⟩
    have nf := j1.hok.fresh (Nat.le_refl _)
    have j2 := lamO_laid (F := ⟨X.env.qual ++ "<lambda>", params, body, scope, cloFrom X.env.cells scope.names [], dV, c'⟩) (tk := tk) (doc := doc) (pm := (X.mg "__name__").getD .none) (ctv := ctv) j1 rfl
    refine ⟨.ref hp.objs.size, _, j2, rfl, k hp.objs.size c' _ (fun b o q n => ?_) (fun b q => upd_none (upd_none (upd_none q))) (fun p hp => (t1 p hp).ext fun b o q => ?_) (inv.hok.fresh (Nat.le_trans ge (Nat.le_of_lt lt))) upd_same ?_⟩
    · have q1 := ex b o q n
      exact (upd_ne (ne_of_none q1 nf)).trans q1
    · exact (upd_ne (ne_of_none q nf)).trans q
    · exact (upd_ne (Nat.ne_of_lt lt)).trans upd_same
  | some cv =>
    obtain ⟨c', ecv, known⟩ := all pos cv found
    subst ecv
    refine PySem.W.kdv_makeTailHit (mg := X.mg) (c := c) (P := P) (ps := ps) (closure_ok frees) inv.ok.glob (inv.mod.glob.keeps inv.bk) ec (TB.code.keeps inv.bk) atP trip found bmP fun ctv doc hp tk keep sz => ?_
    have j1 : Inv X pins sl H { st with heap := hp, toks := tk } := inv.kept keep
    have nf : H hp.objs.size = none := j1.hok.fresh (Nat.le_refl _)
    have j2 := lamO_laid (F := ⟨X.env.qual ++ "<lambda>", params, body, scope, cloFrom X.env.cells scope.names [], dV, c'⟩) (tk := tk) (doc := doc) (pm := (X.mg "__name__").getD .none) (ctv := ctv) j1 rfl
    refine ⟨.ref hp.objs.size, _, j2, rfl, k hp.objs.size c' _ (fun b o q n => ?_) (fun b q => upd_none q) (fun p hp => (tabs p hp).ext fun b o q => ?_) nf upd_same ?_⟩
    · exact (upd_ne (ne_of_none q nf)).trans q
    · exact (upd_ne (ne_of_none q nf)).trans q
    · exact (upd_ne (ne_of_none known nf)).trans known
/-! ### the expression -/
def tLamN (T : List (Addr × Str)) (F : Addr → LF) : TE := fun _ H Q => Tabs T H ∧ Born T H Q F
def tLamD (T : List (Addr × Str)) (te : TE) (F : Addr → Addr → LF) : TE := fun sl H Q => te sl H fun v H1 => Tabs T H1 ∧ ∀ t, H1 t = none → Born T (upd H1 t (.tup [v])) Q (F t)
theorem pe_lam0 {T : List (Addr × Str)} {c P : Addr} {params : Arguments} {body : Expr} {scope : Scope} {pos : Pos} (TB : TabB X.base X.mg c P) (ec : X.env.code = .ref c) (inT : (P, X.env.qual ++ "<lambda>") ∈ T)
    (one : ∀ p ∈ T, p.1 = P → p.2 = X.env.qual ++ "<lambda>") (frees : ∀ y ∈ scope.names, y.2 = .free → X.env.scope.names.lookup y.1 = some .cell ∨ X.env.scope.names.lookup y.1 = some .free) (nod : defaultsOf params X.env = ([], [])) :
    PE X (.Lambda params body scope pos) (tLamN T fun c' => ⟨X.env.qual ++ "<lambda>", params, body, scope, cloFrom X.env.cells scope.names [], .none, c'⟩) := by
  refine ⟨fun pins st sl H Q inv h => PySem.W.kla_eval nod ?_⟩
  rw [makeFunction_eq]
  simp only [List.zip_nil_right, List.filterMap_nil, List.isEmpty_nil, if_true, pure_bind]
  exact born inv TB ec inT one h.1 (fun y hy e => (frees y hy e).elim (fun z => inv.ok.has _ (.inl z)) fun z => inv.ok.has _ (.inr z)) h.2
theorem pe_lam1 {T : List (Addr × Str)} {c P : Addr} {params : Arguments} {body e : Expr} {scope : Scope} {pos : Pos} {te : TE} (TB : TabB X.base X.mg c P) (ec : X.env.code = .ref c) (inT : (P, X.env.qual ++ "<lambda>") ∈ T)
    (one : ∀ p ∈ T, p.1 = P → p.2 = X.env.qual ++ "<lambda>") (frees : ∀ y ∈ scope.names, y.2 = .free → X.env.scope.names.lookup y.1 = some .cell ∨ X.env.scope.names.lookup y.1 = some .free) (ed : params.defaults = [e]) (ek : params.kw_defaults = []) (he : PE X e te) :
    PE X (.Lambda params body scope pos) (tLamD T te fun t c' => ⟨X.env.qual ++ "<lambda>", params, body, scope, cloFrom X.env.cells scope.names [], .ref t, c'⟩) := by
  refine ⟨fun pins st sl H Q inv h => PySem.W.kdv_lam (by rw [ed]; rfl) ek ?_⟩
  rw [ed]
  refine PySem.W.kdv_all1 (wpAny_mono (he.run pins st sl H _ inv h) (fun u s1 q => PySem.W.kdv_all0 ?_) fun _ _ z => z)
  obtain ⟨v, H1, i1, rv, tabs, k⟩ := q
  rw [makeFunction_eq]
  simp only [List.zip_nil_right, List.filterMap_nil, List.isEmpty_nil, if_true, pure_bind, List.isEmpty_cons, Bool.false_eq_true, if_false]
  refine wpAny_bind (wpAny_newTextTuple ?_)
  have nt : H1 s1.heap.objs.size = none := i1.hok.fresh (Nat.le_refl _)
  have i2 : Inv X pins sl (upd H1 s1.heap.objs.size (.tup [v])) { s1 with heap := s1.heap.push { cls := .type "tuple", data := .seq [u].toArray }, toks := s1.toks } :=
    i1.laid (fun _ _ z => Heap.get?_push_of_some _ z) (Nat.le_refl _) ⟨by show 1 ≤ sizeLine; decide, [u], .cons rv .nil, ⟨_, Heap.get?_push_size _ rfl, rfl, _, rfl⟩⟩
  exact born i2 TB ec inT one (fun p hp => (tabs p hp).ext fun b o z => (upd_ne (ne_of_none z nt)).trans z) (fun y hy e => (frees y hy e).elim (fun z => i2.ok.has _ (.inl z)) fun z => i2.ok.has _ (.inr z)) (k _ nt)
end
/-! ### the body -/
/-- captured names, globals, and own names that the maker's frame has not -/
structure LamN (N : List Str) (sc scope : Scope) : Prop where
  kind : scope.kind = .function
  co : scope.isCoroutine = false
  gen : scope.isGenerator = false
  own : ∀ y ∈ scope.names, y.2 ≠ .cell ∧ (y.2 = .local → y.1 ∉ N)
  free : ∀ y ∈ scope.names, y.2 = .free → sc.names.lookup y.1 = some .cell ∨ sc.names.lookup y.1 = some .free
def lamNB (N : List Str) (sc scope : Scope) : Bool :=
  decide (scope.kind = .function) && !scope.isCoroutine && !scope.isGenerator && scope.names.all fun y => !decide (y.2 = .cell) && (!decide (y.2 = .local) || !N.contains y.1) && (!decide (y.2 = .free) || decide (sc.names.lookup y.1 = some .cell) || decide (sc.names.lookup y.1 = some .free))
theorem lamN_by {N : List Str} {sc scope : Scope} (h : lamNB N sc scope = true) : LamN N sc scope := by
  unfold lamNB at h
  simp only [Bool.and_eq_true, Bool.or_eq_true, Bool.not_eq_true', decide_eq_true_eq, decide_eq_false_iff_not, List.all_eq_true] at h
  obtain ⟨⟨⟨a, b⟩, c⟩, d⟩ := h
  refine ⟨a, b, c, fun y hy => ⟨(d y hy).1.1, fun e z => ?_⟩, fun y hy e => ?_⟩
  · rcases (d y hy).1.2 with q | q
    · exact q e
    · rw [List.contains_iff_mem.mpr z] at q
      cases q
  · rcases (d y hy).2 with (q | q) | q
    · exact absurd e q
    · exact .inl q
    · exact .inr q
/-- the maker's cells stand as they stood -/
def Kept (X : Cx) (h0 : Heap) (HZ : Hp) (h : Heap) : Prop := ∀ y c, X.env.cells.lookup y = some c → HZ c = none ∧ ∀ o, h0.get? c = some o → ∃ sl, h.get? c = some { o with slots := sl }
section
variable {X : Cx} {pins : List (Addr × Obj)} {sl : L2.St} {H HZ : Hp} {st s1 : Shared}
theorem enter {A : Around} {outer : List Env} {E : XK} {scope : Scope} {f c' : Addr} {h1 : Heap} {tk : Nat} {bs : List (Str × Value)} (inv : Inv X pins sl H st) (L : LamN X.N X.env.scope scope) (e0 : Env0 X.prog X.w X.K X.mg X.base A outer s1 HZ) (hd : A.handled = none)
    (kept : Kept X st.heap HZ s1.heap) (ns : h1.Ns s1.heap.objs.size fun y => bs.reverse.lookup y) (grow : ∀ b o, s1.heap.get? b = some o → h1.get? b = some o) :
    Inv (lamCx X A outer s1 HZ E scope f c') [] sl HZ { s1 with heap := h1, toks := tk } := by
  have frees : ∀ y ∈ scope.names, y.2 = .free → ∃ c, X.env.cells.lookup y.1 = some c := fun y hy e => (L.free y hy e).elim (fun z => inv.ok.has _ (.inl z)) fun z => inv.ok.has _ (.inr z)
  have same : ∀ {y c}, (cloFrom X.env.cells scope.names []).lookup y = some c → X.env.cells.lookup y = some c := fun {y c} e => clo_cm frees e
  have cell : ∀ {y : Str} {c : Addr} {v : Option Value}, X.env.cells.lookup y = some c → st.heap.IsCell c v → h1.IsCell c v := fun {y c v} q ⟨o, ho, hv⟩ => by
    obtain ⟨sl, z⟩ := (kept y c q).2 o ho
    exact ⟨_, grow _ _ z, hv⟩
  have noex : ∀ b : Addr, b ∉ (lamCx X A outer s1 HZ E scope f c').ex := fun b z => absurd (show b ∈ ([] : List Addr) from z) (by simp)
  refine ⟨⟨e0.mod, L.kind, rfl, rfl, Nat.le_refl _, fun y z c a b => inv.ok.inj y z c (same a) (same b), fun y hy => ?_, fun y c z _ => ?_, fun _ => hd, Around.frames_deeper e0.frames, .inr ⟨rfl, rfl⟩, fun b z => absurd z (noex b), e0.bs, e0.bsz, fun b _ _ => noex b,
      fun b z => absurd z (noex b), e0.funs, e0.frf⟩,
    rfl, e0.bare, Un.kept grow, ⟨_, ns, fun i y v a b d => ?_⟩, fun y c e => ?_, e0.hok.fresh (Nat.le_refl _), fun y c e => (kept y c (same e)).1, fun q hq => absurd (show q ∈ ([] : List (Addr × Obj)) ++ [] from hq) (by simp), e0.hok.kept grow, inv.len⟩
  · have hy : scope.names.lookup y = some .cell ∨ scope.names.lookup y = some .free := hy
    rcases hy with z | z
    · exact absurd rfl (L.own _ (PySem.mem_of_lookup z)).1
    · obtain ⟨c, q⟩ := frees _ (PySem.mem_of_lookup z) rfl
      exact ⟨c, clo_has frees (PySem.mem_of_lookup z) q⟩
  · have z : false = true := z
    cases z
  · have d : Vis scope y := d
    have a : X.N[i]? = some y := a
    rcases d with k | k | k
    · exact absurd (List.mem_of_getElem? a) ((L.own _ (PySem.mem_of_lookup k)).2 rfl)
    · exact absurd rfl (L.own _ (PySem.mem_of_lookup k)).1
    · obtain ⟨m, hn, look⟩ := inv.loc
      have fr := L.free _ (PySem.mem_of_lookup k) rfl
      obtain ⟨u, r, q⟩ := look i y v a b (fr.elim (fun z => .inr (.inl z)) fun z => .inr (.inr z))
      obtain ⟨c1, h1'⟩ := frees _ (PySem.mem_of_lookup k) rfl
      refine ⟨u, r, .inr ⟨.inr k, c1, clo_has frees (PySem.mem_of_lookup k) h1', ?_⟩⟩
      rcases q with ⟨k', _⟩ | ⟨_, c2, q1, q2⟩
      · have k' : X.env.scope.names.lookup y = some .local := k'
        rcases fr with z | z <;> rw [show X.env.scope.names.lookup y = _ from z] at k' <;> cases k'
      · have e : c2 = c1 := Option.some.inj (q1.symm.trans h1')
        subst e
        exact cell h1' q2
  · obtain ⟨w', z⟩ := inv.cell y c (same e)
    exact ⟨w', cell (same e) z⟩
/-- a call without arguments finds its bindings -/
def Bound (P : Program) (w : World) (F : LF) (D : Hp → Prop) : Prop := ∀ (s : Shared) (H : Hp), HOk P w H s.heap → D H → ∀ doc pm ctv, ∃ bs, BindsTo s (F.data doc pm ctv) ⟨[], []⟩ bs ∧ ∀ y ∈ bs, F.scope.names.lookup y.1 = some .local
/-- v(), in the def that got the lambda: that def's context, entered at s1 with H1 -/
theorem pe_act {CXg : CXT} {Eg : XK} {Ng : List Str} {qg : Str} {sg : Scope} {g f : Addr} {cdg : Value} {F : LF} {D : Hp → Prop} {k i : Nat} {a : Str} {pn : List (Addr × Obj)} {xe : Value → Shared → Prop} {W : WX} {E : XK} {tb : TE} {p1 p2 : Pos} {H1 : Hp}
    (inv : Inv X pins sl H st) (eq : F.qual = X.env.qual ++ "<lambda>") (ec : F.cl = cloFrom X.env.cells F.scope.names []) (L : LamN X.N X.env.scope F.scope) (bd : Bound X.prog X.w F D) (kept : Kept X st.heap H1 s1.heap)
    (tk : Takes ((cxOf CXg X.prog X.w X.K X.mg X.base Ng qg sg g cdg X.A X.stack s1 H1 Eg).tr pn xe) W) (hW : ∀ cls d σ' H', E cls d H' → W cls d σ' H') (hr : Room (k + 1) (X.A.deeper (envOfC qg sg s1.heap.objs.size g cdg)))
    (hbody : ∀ (A : Around) (outer : List Env) (s : Shared) (H : Hp), Room k (A.deeper (lamEnv X F.scope s.heap.objs.size f F.c)) → PE (lamCx X A outer s H E F.scope f F.c) F.body tb)
    (hN : Ng[i]? = some a) (hv : Vis sg a) (hd : (a == ("__debug__" : Str)) = false := by decide) (hcd : (a == ("__classdict__" : Str)) = false := by decide) :
    PE ((cxOf CXg X.prog X.w X.K X.mg X.base Ng qg sg g cdg X.A X.stack s1 H1 Eg).tr pn xe) (.Call (.Name a p1) [] [] p2)
      (fun σZ HZ Q => σZ[i]? = some (some (.ref f)) ∧ HZ f = some (LamO f F) ∧ HZ F.c = some (CodeO F.c F.qual) ∧ D HZ ∧ tb sl HZ Q) := by
  refine ⟨fun pinsZ sZ σZ HZ Q IZ h => ?_⟩
  obtain ⟨at_, isF, isC, dv, go⟩ := h
  refine wpAny_Call_Name_kw (thn ((pe_var (pos := p1) (i := i) hN hv hd hcd).run pinsZ sZ σZ HZ (fun v H2 => v = .ref f ∧ H2 = HZ) IZ ⟨.ref f, at_, rfl, rfl⟩) fun u s2 ⟨v, H2, J, rv, qv⟩ => ?_)
  obtain ⟨ev, eH⟩ := qv
  subst ev
  rw [eH] at J
  obtain rfl : u = Value.ref f := rv
  obtain ⟨doc, pm, ctv, ob⟩ := lamO_at J.hok isF
  refine PySem.W.callWith_F0 ⟨_, _, _, _, ob⟩ ?_
  have un : Un (frs X.stack) [] H1 HZ s1.heap s2.heap := J.base
  have kept2 : Kept X st.heap HZ s2.heap := fun y c q => by
    obtain ⟨n1, k1⟩ := kept y c q
    obtain ⟨v0, o0, ho0, _⟩ := inv.cell y c q
    obtain ⟨sl0, z0⟩ := k1 o0 ho0
    refine ⟨un.free c _ z0 n1 (by simp), fun o ho => ?_⟩
    obtain ⟨sl1, z1⟩ := k1 o ho
    obtain ⟨sl2, z2⟩ := un.any z1 n1 (by simp)
    exact ⟨sl2, z2⟩
  obtain ⟨bs, bto, bl⟩ := bd s2 HZ J.hok dv doc pm ctv
  have rc : codeAny (model X.prog X.w) (X.A.deeper (envOfC qg sg s1.heap.objs.size g cdg)) (.call (.ref f) ⟨[], []⟩) (CR (L2.CX X.prog X.w) (envOfC qg sg s1.heap.objs.size g cdg :: X.stack) X.prog X.w HZ s2 Q E) s2 := by
    refine PySem.W.kla_callFunE hr.depth ob rfl L.co L.gen rfl (codeO_at J.hok isC) (bto _ _ _ _ ?_)
    refine wpAny_newFunctionEnv (fun y hy => (L.own y hy).1) bl (fun h1 ns sb => ⟨J.nolimit.fresh _ sb, ?_⟩) L.kind
    have grow : ∀ b o, s2.heap.get? b = some o → h1.get? b = some o := fun b o e => sb.extBut b o (Nat.ne_of_lt (Heap.lt_size e)) (Heap.get?_push_of_some _ e)
    have start : Inv (lamCx X (X.A.deeper (envOfC qg sg s1.heap.objs.size g cdg)) (envOfC qg sg s1.heap.objs.size g cdg :: X.stack) s2 HZ E F.scope f F.c) [] sl HZ { s2 with heap := h1, toks := s2.toks + bs.length } :=
      enter inv L J.env0 hr.hd kept2 ns grow
    show codeAny _ _ (.expr F.body (PySem.W.envX F.qual F.scope s2.heap.objs.size f (.ref F.c) F.cl)) _ _
    rw [eq, ec]
    refine PySem.W.kla_codeExpr (wpAny_mono ((hbody _ _ s2 HZ (hr.deeper _)).run [] _ _ HZ Q start go) (fun v s' q => ?_) fun e s' q => q)
    obtain ⟨u', H', J', rv', q'⟩ := q
    exact ⟨u', H', J'.os, J'.bare, J'.base, J'.hok, rv', q'⟩
  have ps : Passes (L2.CX X.prog X.w) ((cxOf CXg X.prog X.w X.K X.mg X.base Ng qg sg g cdg X.A X.stack s1 H1 Eg).tr pn xe) E := passes_call tk hW
  refine wpAny_call (codeAny_mono rc fun r s' q => ?_)
  match r, q with
  | .error e, q => exact ps pinsZ σZ HZ s2 e s' J q
  | .ok (.ret u), q => exact J.after q
  | .ok .next, q => exact False.elim q
  | .ok .brk, q => exact False.elim q
  | .ok .cont, q => exact False.elim q
/-- the def that calls what it got, at the first slot: TT tells what it makes of the lambda's reading -/
def Gives (X : Cx) (Ng : List Str) (x : Str) (sg : Scope) (g : Addr) (cdg : Value) (bg : List Stmt) (a : Str) (TT : (XK → Hp → VK → Prop) → Hp → VK → Prop) : Prop :=
  ∀ (f : Addr) (is : Hp → Prop) (s : Shared) (H : Hp) (Q : VK) (tl : XK → Hp → VK → Prop),
    (∀ (W : WX) (pn : List (Addr × Obj)) (xe : Value → Shared → Prop) (E : XK) (p1 p2 : Pos), Takes ((cxOf CX0 X.prog X.w X.K X.mg X.base Ng x sg g cdg X.A X.stack s H E0).tr pn xe) W → (∀ cls d σ' H', E cls d H' → W cls d σ' H') →
      PE ((cxOf CX0 X.prog X.w X.K X.mg X.base Ng x sg g cdg X.A X.stack s H E0).tr pn xe) (.Call (.Name a p1) [] [] p2) (fun σZ HZ Q => σZ[0]? = some (some (.ref f)) ∧ is HZ ∧ tl E HZ Q)) →
    is H → TT tl H Q →
    ∃ t, PSs (cxOf CX0 X.prog X.w X.K X.mg X.base Ng x sg g cdg X.A X.stack s H E0).nox bg t ∧ t { nx := fun _ H' => Q .non H', rt := Q } (L2.start Ng [.ref f]) H
/-- a written lambda's place in the maker's frame: its words, and its body's reading -/
structure Form where
  params : Arguments
  body : Expr
  scope : Scope
  t : XK → TE
def LF.is (F : LF) (f : Addr) (D : Hp → Prop) (HZ : Hp) : Prop := HZ f = some (LamO f F) ∧ HZ F.c = some (CodeO F.c F.qual) ∧ D HZ
/-- F is the lambda of these words, made here -/
structure LF.Of (F : LF) (X : Cx) (o : Form) (D : Hp → Prop) (k : Nat) : Prop where
  qual : F.qual = X.env.qual ++ "<lambda>"
  body : F.body = o.body
  scope : F.scope = o.scope
  cl : F.cl = cloFrom X.env.cells F.scope.names []
  names : LamN X.N X.env.scope F.scope
  bound : Bound X.prog X.w F D
  reads : ∀ (A : Around) (outer : List Env) (s : Shared) (H : Hp) (E : XK) (f c' : Addr), Room k (A.deeper (lamEnv X o.scope s.heap.objs.size f c')) → PE (lamCx X A outer s H E o.scope f c') o.body (o.t E)
theorem code_give {x a : Str} {g f : Addr} {k : Nat} {pg : Arguments} {bg : List Stmt} {sg : Scope} {dV kV doc pm cdv ct oc : Value} {an od : Option Addr} {osl : Array (Option Value)} {Ng : List Str} {TT : (XK → Hp → VK → Prop) → Hp → VK → Prop}
    {F : LF} {o : Form} {D : Hp → Prop} {H1 : Hp} {Q : VK} (inv : Inv X pins sl H st) (of : F.Of X o D k)
    (lk : X.K.lookup g = some ⟨oc, od, .func (PySem.W.fnOf x x pg bg sg dV kV doc pm an cdv ct), osl⟩) (hcg : PySem.W.codeIn X.K cdv x = true) (hb : L2.Binds X.K (PySem.W.fnOf x x pg bg sg dV kV doc pm an cdv ct) [a] []) (Sg : FnScope Ng [a] sg) (hNg : Ng[0]? = some a) (hva : Vis sg a)
    (hG : Gives X Ng x sg g cdv bg a TT) (hr : Room (k + 2) X.A) (e0 : Env0 X.prog X.w X.K X.mg X.base X.A X.stack s1 H1) (kept : Kept X st.heap H1 s1.heap) (is : F.is f D H1) (go : TT (fun E H' Q' => o.t E sl H' Q') H1 Q)
    (hd : (a == ("__debug__" : Str)) = false := by decide) (hcd : (a == ("__classdict__" : Str)) = false := by decide) :
    codeAny (model X.prog X.w) X.A (.call (.ref g) ⟨[.ref f], []⟩) (CR CX0 X.stack X.prog X.w H1 s1 Q E0) s1 := by
  refine run_ofS (N := Ng) (ps := [a]) (us := [.ref f]) (vs := [.ref f]) lk hcg Sg hr e0 (hb s1 [.ref f] (e0.mod.kin.keeps fun b o e => (e0.bs b o e).1) rfl) (.cons rfl .nil) rfl fun hr' => ?_
  obtain ⟨eq, eb, es, ec, L, bd, hbody⟩ := of
  have hb' : ∀ (E : XK) (A : Around) (outer : List Env) (s : Shared) (H : Hp), Room k (A.deeper (lamEnv X F.scope s.heap.objs.size f F.c)) → PE (lamCx X A outer s H E F.scope f F.c) F.body (o.t E) := by
    rw [es, eb]
    exact fun E A outer s H r => hbody A outer s H E f F.c r
  obtain ⟨t', ht', hq'⟩ := hG f (F.is f D) s1 H1 Q (fun E H' Q' => o.t E sl H' Q') (fun W pn xe E p1 p2 tk hW => ⟨fun pinsZ sZ σZ HZ Q' IZ h =>
    (pe_act (i := 0) inv eq ec L bd kept tk hW hr' (hb' E) hNg hva hd hcd).run pinsZ sZ σZ HZ Q' IZ ⟨h.1, h.2.1.1, h.2.1.2.1, h.2.1.2.2, h.2.2⟩⟩) is go
  exact ⟨t', ht'.nox, hq'⟩
theorem Kept.here (inv : Inv X pins sl H st) : Kept X st.heap H st.heap := fun y c q => ⟨inv.freeC y c q, fun o ho => ⟨o.slots, ho⟩⟩
/-- back from the call -/
theorem back {Y : Cx} {pinsY : List (Addr × Obj)} {slY : L2.St} {HY : Hp} {sY : Shared} {Q : VK} {v : Value} {args : Args} (J : Inv Y pinsY slY HY sY)
    (rc : codeAny (model Y.prog Y.w) Y.A (.call v args) (CR CX0 Y.stack Y.prog Y.w HY sY Q E0) sY) : wpAny (model Y.prog Y.w) Y.A (call v args.pos args.kw) (EP Y pinsY slY Q) Y.xe sY := by
  refine wpAny_call (codeAny_mono rc fun r s' q => ?_)
  match r, q with
  | .ok (.ret u), q => exact J.after q
  | .error e, q => exact False.elim q
  | .ok .brk, q => exact False.elim q
  | .ok .cont, q => exact False.elim q
  | .ok .next, q => exact False.elim q
/-- the reading of x(e), e a lambda made in the frame of X at the slots sl -/
def tGive (X : Cx) (k : Nat) (TT : (XK → Hp → VK → Prop) → Hp → VK → Prop) (ta : TA) (sl : L2.St) : TE := fun slY H Q => ta slY H fun vs H1 =>
  ∃ (f : Addr) (F : LF) (o : Form) (D : Hp → Prop), vs = [.ref f] ∧ F.Of X o D k ∧ F.is f D H1 ∧ TT (fun E H' Q' => o.t E sl H' Q') H1 Q
theorem pe_give {x a : Str} {g : Addr} {k : Nat} {pg : Arguments} {bg : List Stmt} {sg : Scope} {dV kV doc pm cdv ct oc : Value} {an od : Option Addr} {osl : Array (Option Value)} {Ng : List Str} {TT : (XK → Hp → VK → Prop) → Hp → VK → Prop} {e : Expr} {ta : TA} {p pos : Pos}
    (hg : Gl X x) (hm : X.mg x = some (.ref g)) (hk : PySem.W.keepIn X.K (.ref g) = true)
    (lk : X.K.lookup g = some ⟨oc, od, .func (PySem.W.fnOf x x pg bg sg dV kV doc pm an cdv ct), osl⟩) (hcg : PySem.W.codeIn X.K cdv x = true) (hb : L2.Binds X.K (PySem.W.fnOf x x pg bg sg dV kV doc pm an cdv ct) [a] []) (Sg : FnScope Ng [a] sg) (hNg : Ng[0]? = some a) (hva : Vis sg a)
    (hG : Gives X Ng x sg g cdv bg a TT) (hr : Room (k + 2) X.A) (ha : PA X [e] ta) (he : starEach [e] X.env = [(false, eval e X.env)] := by rfl)
    (hdb : (x == ("__debug__" : Str)) = false := by decide) (hd : (a == ("__debug__" : Str)) = false := by decide) (hcd : (a == ("__classdict__" : Str)) = false := by decide) :
    PE X (.Call (.Name x p) [e] [] pos) (fun sl H Q => tGive X k TT ta sl sl H Q) := by
  refine ⟨fun pins st sl H Q inv h => wpAny_Call_Name_kw (ld_glob inv hg hm ?_ hdb)⟩
  refine PySem.W.callWith_K (h₀ := X.base) inv.ok.mod.kin hk (thn (ha.run pos pins st sl H _ inv h) fun us s1 ⟨vs, H1, J, r, q⟩ => ⟨J.kIn, ?_⟩) he (by rfl)
  obtain ⟨f, F, o, D, rfl, of, is, go⟩ := q
  obtain ⟨u, rfl, ru⟩ : ∃ u, us = [u] ∧ RelV (.ref f) u := by
    cases r with
    | cons a b => cases b; exact ⟨_, rfl, a⟩
  obtain rfl : u = .ref f := ru
  exact back (args := ⟨[.ref f], []⟩) J (code_give J of lk hcg hb Sg hNg hva hG hr J.env0 (Kept.here J) is go hd hcd)
/-- .. in a block of the frame of X -/
theorem pe_giveB {x a : Str} {g : Addr} {k : Nat} {pg : Arguments} {bg : List Stmt} {sg : Scope} {dV kV doc pm cdv ct oc : Value} {an od : Option Addr} {osl : Array (Option Value)} {Ng : List Str} {TT : (XK → Hp → VK → Prop) → Hp → VK → Prop} {e : Expr} {ta : TA} {p pos : Pos}
    {scope : Scope} {cenv : Env} {fp : List Addr} (inv : Inv X pins sl H st) (nfp : ∀ b ∈ fp, ∀ y c, X.env.cells.lookup y = some c → c ≠ b) (hg : Gl (X.blk st H scope cenv fp) x) (hm : X.mg x = some (.ref g)) (hk : PySem.W.keepIn X.K (.ref g) = true)
    (lk : X.K.lookup g = some ⟨oc, od, .func (PySem.W.fnOf x x pg bg sg dV kV doc pm an cdv ct), osl⟩) (hcg : PySem.W.codeIn X.K cdv x = true) (hb : L2.Binds X.K (PySem.W.fnOf x x pg bg sg dV kV doc pm an cdv ct) [a] []) (Sg : FnScope Ng [a] sg) (hNg : Ng[0]? = some a) (hva : Vis sg a)
    (hG : Gives X Ng x sg g cdv bg a TT) (hr : Room (k + 2) X.A) (ha : PA (X.blk st H scope cenv fp) [e] ta) (he : starEach [e] cenv = [(false, eval e cenv)] := by rfl)
    (hdb : (x == ("__debug__" : Str)) = false := by decide) (hd : (a == ("__debug__" : Str)) = false := by decide) (hcd : (a == ("__classdict__" : Str)) = false := by decide) :
    PE (X.blk st H scope cenv fp) (.Call (.Name x p) [e] [] pos) (tGive X k TT ta sl) := by
  refine ⟨fun pinsY sY slY HY Q invY h => wpAny_Call_Name_kw (ld_glob invY hg hm ?_ hdb)⟩
  refine PySem.W.callWith_K (h₀ := X.base) invY.ok.mod.kin hk (thn (ha.run pos pinsY sY slY HY _ invY h) fun us s1 ⟨vs, H1, J, r, q⟩ => ⟨J.kIn, ?_⟩) he (by rfl)
  obtain ⟨f, F, o, D, rfl, of, is, go⟩ := q
  obtain ⟨u, rfl, ru⟩ : ∃ u, us = [u] ∧ RelV (.ref f) u := by
    cases r with
    | cons a b => cases b; exact ⟨_, rfl, a⟩
  obtain rfl : u = .ref f := ru
  have un := J.base
  have kept : Kept X st.heap H1 s1.heap := fun y c q => by
    have out : c ∉ fp := fun z => nfp c z y c q rfl
    obtain ⟨v0, o0, ho0, _⟩ := inv.cell y c q
    have n0 := inv.freeC y c q
    exact ⟨un.free c _ ho0 n0 out, fun o ho => un.any ho n0 out⟩
  exact back (Y := X.blk st H scope cenv fp) (args := ⟨[.ref f], []⟩) J (code_give (X := X) inv of lk hcg hb Sg hNg hva hG hr J.env0 kept is go hd hcd)
/-! ### a comprehension that keeps nothing, its test told of the frame as it stands -/
def tNone (wi : TI) (g : TG) (tt : L2.St → TT) (vs : List Nat) : TE := fun sl H Q => wi sl H fun J H1 => ∀ D, H1 D = none → ∃ W : Nat → Nat → Hp → Prop, (∃ m, W 0 m (upd H1 D (.lst []))) ∧
  ∀ i m G, W i m G → (J.stop i G ∧ Q (.ref D) G) ∨ (J.go i G ∧ ∀ x G1, J.yld i G x G1 → g x (wipe sl vs) G1 fun s2 G2 => wipe s2 vs = wipe sl vs ∧ tt sl s2 G2 fun b G3 => b = false ∧ ∃ m', m' < m ∧ W (i + 1) m' G3)
theorem pe_none {elt tg iter : Expr} {ifs : List Expr} {scope : Scope} {own : List (Str × Nat)} {pos : Pos} {wi : TI} {g : TG} {tt : L2.St → TT} (calm : X.calm = true) (nd : X.N.Nodup) (hi : PI X tg iter wi) (ok : BlkOk X.N X.env.scope scope own)
    (hg : ∀ (s : Shared) (H : Hp) (C : Addr) (cl : List (Str × Addr)) (fp : List Addr), PG (X.blk s H scope (compEnvC scope cl C X.env) fp) tg g)
    (ht : ∀ (pins : List (Addr × Obj)) (st : Shared) (sl : L2.St) (H : Hp) (C : Addr) (cl : List (Str × Addr)) (fp : List Addr), Inv X pins sl H st → (∀ b ∈ fp, ∀ y c, X.env.cells.lookup y = some c → c ≠ b) → PTs (X.blk st H scope (compEnvC scope cl C X.env) fp) ifs (tt sl))
    (hs : ∀ x, foldedSetIterable iter X.env x = pure x := by intro _; rfl) : PE X (.ListComp elt [⟨tg, iter, ifs, 0⟩] scope pos) (tNone wi g tt (own.map (·.2))) := by
  refine ⟨fun pins st sl H Q inv h => ?_⟩
  rw [eval_ListComp]
  have frees : ∀ y ∈ scope.names, y.2 = .free → ∃ c, X.env.cells.lookup y.1 = some c := fun y hy e => (ok.free y hy e).elim (fun z => inv.ok.has _ (.inl z)) fun z => inv.ok.has _ (.inr z)
  refine wpAny_comprehension_free (use := none) rfl hs (closure_ok frees) ok.kind (fun y hy e => (ok.uniq y hy).trans (by rw [e])) (thn (hi.run pins st sl H _ inv h) fun _ _ go => thn go fun _ sa found => ?_)
  obtain ⟨it, fp, tn, J, H1, rfl, ia, T, ta, fa, more⟩ := found
  refine wpAny_newObj_type (newEnv_comp ?_) (by show 0 ≤ sizeLine; decide)
  have nD : H1 sa.heap.objs.size = none := ia.hok.fresh (Nat.le_refl _)
  obtain ⟨W, ⟨m0, w0⟩, each⟩ := more _ nD
  generalize eD : sa.heap.objs.size = D at nD w0 each ⊢
  have small : ∀ b ∈ fp, b < sa.heap.objs.size := fun b hb => let ⟨_, e, _⟩ := T.obj _ _ ta b hb; Heap.lt_size e
  -- the new list is laid
  obtain ⟨sb, esb⟩ : ∃ sb : Shared, sb = { sa with heap := sa.heap.push { cls := .type "list", data := .seq ([] : List Value).toArray } } := ⟨_, rfl⟩
  have grow1 : ∀ b o, sa.heap.get? b = some o → sb.heap.get? b = some o := fun b o e => by rw [esb]; exact Heap.get?_push_of_some _ e
  have ib : Inv X pins sl (upd H1 D (.lst [])) sb := by
    rw [esb, ← eD]
    exact ia.laid (t' := sa.toks) (fun _ _ e => Heap.get?_push_of_some _ e) (Nat.le_refl _) ⟨Nat.zero_le _, [], 0, .nil, Heap.get?_push_size _ rfl⟩
  have fb : ∀ b ∈ fp, FpOk X pins (upd H1 D (.lst [])) b ∧ b < sb.heap.objs.size := fun b hb => by
    have lt := small b hb
    refine ⟨⟨(upd_ne (by rw [← eD]; exact Nat.ne_of_lt lt)).trans (fa b hb).1, (fa b hb).2⟩, ?_⟩
    rw [esb, Heap.size_push]
    exact Nat.lt_succ_of_lt lt
  rw [← esb]
  -- the block
  have ic := block_start ib ok nd fb
  generalize eC : sb.heap.objs.size = C at ic ⊢
  generalize eG : upd H1 D (.lst []) = G at ib fb ic w0
  have pg := hg sb G C (cellsFrom (C + 1) scope.names (cloFrom X.env.cells scope.names [])) fp
  have pt := ht pins sb sl G C (cellsFrom (C + 1) scope.names (cloFrom X.env.cells scope.names [])) fp ib fun b hb y c e => (fb b hb).1.2.2.2.2.1 y c e
  generalize eE : compEnvC scope (cellsFrom (C + 1) scope.names (cloFrom X.env.cells scope.names [])) C X.env = ce at ic pg pt
  have lE : ce.locals = C := by rw [← eE]; rfl
  generalize esc : ({ sb with heap := pushCells (sb.heap.push { cls := .type "dict", data := .dict #[] }) scope.names } : Shared) = sc at ic
  have tc : tn 0 sc.heap := T.keep _ _ _ ta fun b _ o e => by rw [← esc]; exact pushCells_keeps _ _ _ _ (Heap.get?_push_of_some _ (grow1 b o e))
  have held : ∀ {s2 : L2.St} {G2 : Hp} {t2 : Shared}, Inv (X.blk sb G scope ce fp) [] s2 G2 t2 → (∀ b ∈ fp, G2 b = none) → ∀ b ∈ fp, FpOk (X.blk sb G scope ce fp) [] G2 b := fun iv nb b hb =>
    ⟨nb b hb, (iv.ok.exf b hb).1, iv.ok.exfs b hb, .inl hb, fun y c e => (iv.ok.exf b hb).2 y c e, fun p hp => absurd (show p ∈ ([] : List (Addr × Obj)) ++ [] from hp) (by simp)⟩
  have turns : codeAny (model X.prog X.w) X.A (.compLoop (.ListComp elt [⟨tg, iter, ifs, 0⟩] scope pos) 0 (.ref it) (.ref D) ce) (compPost (model X.prog X.w) X.A X.xe none (EP X pins sl Q) (.ref D) C) sc := by
    refine compLoop_any (fun m t => ∃ i G2, Inv (X.blk sb G scope ce fp) [] (wipe sl (own.map (·.2))) G2 t ∧ tn i t.heap ∧ (∀ b ∈ fp, G2 b = none) ∧ W i m G2) ?_ m0 ⟨0, G, ic, tc, fun b hb => (fb b hb).1.1, w0⟩
    rintro m t ⟨i, G2, i2, t2, n2, w2⟩
    cases each i m G2 w2 with
    | inl stop =>
      refine thnF (T.done (X.blk sb G scope ce fp) rfl rfl rfl calm i [] t _ G2 (fun _ _ => False) i2 (held i2 n2) t2 stop.1) fun r t3 done => ?_
      obtain ⟨rfl, i3⟩ := done
      have i4 : Inv X pins sl G2 t3 := ib.call' (ch := fp) i3.os i3.base i3.hok i3.bare fun b hb => ⟨(fb b hb).1.2.2.2.1, (fb b hb).1.2.1, (fb b hb).1.2.2.2.2.1, (fb b hb).1.2.2.2.2.2⟩
      have nC : G2 C = none := by rw [← lE]; exact i3.free
      obtain ⟨names, hn, _⟩ := i3.loc
      have hn : t3.heap.Ns ce.locals names := hn
      rw [lE] at hn
      obtain ⟨f0, f1, f2, f3, f4, f5⟩ := ib.fpOk (Nat.le_of_eq eC) nC
      exact ⟨names, hn, fun hp sbt => ⟨.ref D, G2, i4.turned (t' := t3.toks) (fun b o nb e => (sbt.2 b nb).trans e) f0 f1 f3 f4 f5, rfl, stop.2⟩⟩
    | inr next =>
      refine thnF (T.item (X.blk sb G scope ce fp) rfl rfl rfl calm i [] t _ G2 (fun _ _ => False) i2 (held i2 n2) t2 next.1) fun r t3 came => ?_
      obtain ⟨u, rfl, kept⟩ := came
      refine thnF kept fun _ t4 got => ?_
      obtain ⟨x, G4, i4, r4, y4, tn4, n4⟩ := got
      refine thnF (pg.run _ t4 _ G4 x u _ (i4.pinned (held i4 n4) (T.obj _ _ tn4)) r4 (next.2 x G4 y4)) fun _ t5 put => ?_
      obtain ⟨s5, G5, i5, e5, q5⟩ := put
      refine thnF (pt.run _ t5 s5 G5 _ i5 q5) fun b t6 told => ?_
      obtain ⟨G6, i6, eb, m', lt, w6⟩ := told
      subst eb
      have pin : ∀ b ∈ fp, ∀ o, t4.heap.get? b = some o → t6.heap.get? b = some o ∧ G6 b = none := fun b hb o e =>
        have z := i6.pin (b, o) (List.mem_append_right _ (List.mem_append_right _ (mem_pinsAt hb e)))
        ⟨z.1, z.2.1⟩
      simp only [Bool.false_eq_true, if_false]
      refine ⟨m', lt, i + 1, G6, (i6.unpinned (pins := [])).weak (by rw [← e5, wipe_length]) (fun j v e => ?_), T.keep _ _ _ tn4 fun b hb o e => (pin b hb o e).1, fun b hb => ?_, w6⟩
      · rw [← e5] at e
        exact (wipe_some e).1
      · obtain ⟨o, e, _⟩ := T.obj _ _ tn4 b hb
        exact (pin b hb o e).2
  have fine := codeAny_compStart_list turns (T.self X.A 0 _ _ _ tc turns)
  rw [← eE] at fine
  subst eC
  exact fine
end
end LamV

namespace LamV
open PySem PySem.Spec PyProof.Rows L2
/-! ### list.count over nested data, isinstance of a caught exception with or without fields -/
def rCountD (K : PySem.W.Frag) : V → List V → Hp → VK → Prop := fun x xs H Q => ∃ (a : Addr) (y : V) (d : PyData) (ds : List PyData), x = .ref a ∧ xs = [y] ∧ Dp K H (.ref a) (.list ds) ∧ Dp K H y d ∧ SeqAt.shaped (.list ds) = true ∧ SeqAt.shaped d = true ∧ Q (.int (ds.countP fun z => PyData.eqv z d : Nat)) H
section
variable {X : Cx}
theorem mt_countD (hu : X.A.units + 65 < cLine) : MtR X "list.count" (rCountD X.K) := by
  intro pins st sl H x xs v us Q inv rx rxs h
  obtain ⟨a, y, d, ds, rfl, rfl, dl, dy, sh, sd, q⟩ := h
  obtain rfl : v = .ref a := rx
  obtain ⟨uy, rfl, ry⟩ := rxs.one
  obtain ⟨bs, r1⟩ := Dp.reads inv d y uy dy ry
  have lay : PyData.canLayAll0 ds = true := SeqAt.canLay_of_shaped sh
  cases dl with
  | lst hs ha =>
    obtain ⟨its, rv, ⟨⟨cls, dd, data, sls⟩, n, ho, hc, _, hdt⟩, _⟩ := inv.list hs
    simp only at hc hdt
    subst hc hdt
    obtain ⟨as, reads⟩ := Dp.readsAll inv ds _ its ha rv
    have em : its.map (SeqAt.readOf st.heap) = ds := SeqAt.readsAll_map ds its as lay reads
    refine call_meets PySem.F.slot_list_count ⟨_, ho, rfl⟩ PySem.F.entry_list_count (PySem.F.args_list_count_2 _ _) (SeqAt.list_countAt a its.toArray n dd sls uy (fun u => PyData.eqv (SeqAt.readOf st.heap u) d)) ⟨ho, SeqAt.items_eqAt (vs := its.toArray) reads r1 lay (SeqAt.canLay_of_shaped sd) (room_in_shaped sd hu), ?_⟩
    refine ⟨.int (ds.countP fun z => PyData.eqv z d : Nat), H, inv.tok _, ⟨st.toks, ?_⟩, q⟩
    rw [← em, List.countP_map]
    rfl
/-- isinstance(e, c), e the caught exception of the class D, its dict at d if it has one -/
def rIsD (K : PySem.W.Frag) (D a : Addr) (d : Option Addr) : List V → Hp → VK → Prop := fun xs H Q => ∃ (c : V) (cv : Value) (b : Bool), xs = [.ref a, c] ∧ (∀ u, RelV c u → u = cv) ∧ PySem.W.kitOne K (.ref D) cv = some b ∧ (∀ dd, d = some dd → ∃ fs, H dd = some (.xd fs)) ∧ Q (.bl b) H
theorem call_isD {a D : Addr} {oe : Obj} {d : Option Addr} {pn : List (Addr × Obj)} (C : ExcC X.K D) (hz : Zc (.ref D) d oe) (hf : ∃ vs, oe.data = .fields vs) : CallR (X.suite a ((a, oe) :: pn)) (.builtin "isinstance") (rIsD X.K D a d) := by
  intro pins st sl H xs us Q inv r h
  obtain ⟨c, cv, b, rfl, one, is, dict, q⟩ := h
  cases r with
  | cons rx rr =>
    obtain ⟨ut, rfl, rt⟩ := Vals.one rr
    obtain rfl := one _ rt
    obtain rfl := (show _ = Value.ref a from rx)
    obtain ⟨got, _⟩ := inv.pin (a, oe) (List.mem_append.mpr (.inl List.mem_cons_self))
    obtain ⟨vs, hv⟩ := hf
    have fin : ∀ tk, EP (X.suite a ((a, oe) :: pn)) pins sl Q (.bool b) { st with toks := tk } := fun tk => ⟨.bl b, H, inv.kept (t' := tk) fun _ _ z => z, rfl, q⟩
    have nc : PySem.W.notCls oe = true := by
      unfold PySem.W.notCls
      rw [hv] <;> rfl
    cases d with
    | none => exact PySem.W.kia_one (PySem.W.handS_kitx_exc C.hg C.hk C.hs C.hd C.ha C.hn C.ht C.hm) inv.kIn (show PySem.W.InstAt st.heap a oe D none from ⟨got, hz.1, nc, by rw [hz.2]; trivial⟩) is (fun z => nomatch z) fin
    | some dd =>
      obtain ⟨fs, ed⟩ := dict dd rfl
      obtain ⟨mA, ns, _⟩ := (show ObjOk X.prog X.w H st.heap dd (.xd fs) from inv.hok dd _ ed)
      obtain ⟨od, ho, _⟩ := lookIn_ns ns
      exact PySem.W.kia_one (PySem.W.kitx_exc (by obtain ⟨cd, e, _⟩ := PySem.W.any_some C.hd; rw [e]; rfl) C.hg C.hk C.hs C.ha C.hn C.ht C.hm) inv.kIn (show PySem.W.InstAt st.heap a oe D (some od) from ⟨got, hz.1, nc, by rw [hz.2]; exact ho⟩) is (fun z => nomatch z) fin
end
end LamV

/-! x != y and x == y of instances whose class has its own __eq__ alone. -/
namespace Own
open PySem PySem.Spec PyProof.Rows L2
section
variable {prog : Program} {w : World} {A : Around} {E : Value → Shared → Prop} {s : Shared} {K : PySem.W.Frag} {x y C g : Addr} {ox oy : Obj} {od od' : Option Obj}
/-- object.__ne__ asks __eq__ -/
theorem ne_body {Q : Fin → Shared → Prop} (hu : A.units < cLine) (KX : K.In s.heap) (I : PySem.W.InstAt s.heap x ox C od) (hs : PySem.W.findIn K (.ref C) "__eq__" = some (some (.ref g))) (hf : PySem.W.isFn K (.ref g) = true)
    (h : wpAny (model prog w) A (call (.ref g) [.ref x, .ref y]) (fun v s' => ∃ b, v = .bool b ∧ Q (.done (.ret (.bool !b))) s') E s) : wpAny (model prog w) A (Builtin.«object.__ne__» ⟨[.ref x, .ref y], []⟩) Q E s := by
  unfold Builtin.«object.__ne__»
  refine wpAny_bind (wpAny_of_eq (a := ((Value.ref x : Value), [Value.ref y])) (by first | rfl | (simp only [slotArgs]; rfl)) ?_)
  refine wpAny_bind (wpAny_cRoomFor hu ?_)
  refine wpAny_bind (PySem.W.ifBound_K (args := [.ref y]) KX I hs hf (wpAny_mono h (fun v s' z => ?_) fun _ _ z => z))
  obtain ⟨b, rfl, q⟩ := z
  exact wpAny_bind (wpAny_pure (wpAny_pure q))
theorem rich_ne {Q : Value → Shared → Prop} (hu : A.units + 1 < cLine) (KX : K.In s.heap) (I : PySem.W.InstAt s.heap x ox C od) (J : PySem.W.InstAt s.heap y oy C od') (hn : PySem.W.findIn K (.ref C) "__ne__" = some (some (.builtin "object.__ne__")))
    (ho : PySem.W.subIn K (.ref C) (.type "object") = some true) (hs : PySem.W.findIn K (.ref C) "__eq__" = some (some (.ref g))) (hf : PySem.W.isFn K (.ref g) = true)
    (h : wpAny (model prog w) A.in1 (call (.ref g) [.ref x, .ref y]) (fun v s' => ∃ b, v = .bool b ∧ Q (.bool !b) s') E s) : wpAny (model prog w) A (richCompare .NotEq (.ref x) (.ref y)) Q E s := by
  have one : wpAny (model prog w) A (tryCompare (.ref x) "__ne__" (.ref y)) (fun r s' => ∃ v, r = some v ∧ Q v s') E s := by
    unfold tryCompare
    have sub : PySem.W.Looks (model prog w) s.heap (isInstance (.ref x) (.type "object")) true := (I.type).andThen (PySem.W.looks_subIn KX ho)
    have run : wpAny (model prog w) A (call (.builtin "object.__ne__") [.ref x, .ref y]) (fun v s' => ∃ b, v = .bool b ∧ Q (.bool b) s') E s := by
      refine wpAny_call (codeAny_call_builtin PySem.F.cmp_object.ne.plain PySem.F.cmpEntry_ne (PySem.W.check_slot PySem.F.cmpKind_ne PySem.F.cmpSplit_ne sub (PySem.F.cmpArgs_ne _ _) ?_))
      refine ne_body (A := A.in1) (by show A.units + 1 < cLine; exact hu) KX I hs hf (wpAny_mono h (fun v s' z => ?_) fun _ _ z => z)
      obtain ⟨b, rfl, q⟩ := z
      exact ⟨b, rfl, _, rfl, q⟩
    refine wpAny_bind ?_
    simp only [callSpecialIfBound?, bindSpecialIfBound?]
    refine wpAny_holding (wpAny_bind (wpAny_bind (wpAny_bind (I.type.here ((PySem.W.looks_findIn KX hn).here ?_)))))
    refine wpAny_bind (wpAny_askSetting (wpAny_ite ?_))
    have fin : wpAny (model prog w) A (call (.builtin "object.__ne__") ([.ref x] ++ [.ref y]) >>= fun v => pure (some v)) (fun r s' => wpAny (model prog w) A (match r with | some .notImplemented | none => pure none | some v => pure (some v) : Sem (Option Value)) (fun r s' => ∃ v, r = some v ∧ Q v s') E s') E s :=
      wpAny_bind (wpAny_mono run (fun v s' z => by obtain ⟨b, rfl, q⟩ := z; exact wpAny_pure (wpAny_pure ⟨_, rfl, q⟩)) fun _ _ z => z)
    split
    · rw [PySem.F.cmp_object.ne.bind (.ref x)]
      exact wpAny_bind (wpAny_pure (wpAny_pure fin))
    · rw [PySem.F.cmp_object.ne.bind (.ref x)]
      exact wpAny_tryCatch (wpAny_bind (wpAny_pure (wpAny_pure fin)))
  unfold richCompare
  simp only [PySem.oneThing_ref]
  refine wpAny_holding (wpAny_bind (wpAny_cRoomFor (by omega) (wpAny_bind (I.type.here (wpAny_bind (J.type.here ?_))))))
  rw [if_neg (by simp)]
  refine wpAny_bind (wpAny_pure ?_)
  simp only [Bool.false_eq_true, if_false]
  refine wpAny_bind (wpAny_mono one (fun r s' z => ?_) fun _ _ e => e)
  obtain ⟨v, rfl, q⟩ := z
  exact wpAny_pure q
end
section
variable {X : Cx} {CX : CXT} {n : Nat} {C g : Addr} {sp : Sp} {E : XK}
/-- x == y, x != y: instances of C that hold attributes; the own __eq__ answers with a truth value -/
def rOwnEq (neg : Bool) (C : Addr) (sp : Sp) (E : XK) : R2 := fun x y H Q => ∃ a dx fs b dy gs, x = .ref a ∧ y = .ref b ∧ H a = some (.ins C dx fs) ∧ H b = some (.ins C dy gs) ∧ sp [x, y] H (fun v H' => ∃ r, v = .bl r ∧ Q (.bl (if neg then !r else r)) H') E
theorem op_neOwn (hn : PySem.W.findIn X.K (.ref C) "__ne__" = some (some (.builtin "object.__ne__"))) (ho : PySem.W.subIn X.K (.ref C) (.type "object") = some true) (hs : PySem.W.findIn X.K (.ref C) "__eq__" = some (some (.ref g))) (hf : PySem.W.isFn X.K (.ref g) = true)
    (F : FnR X.prog X.w X.K X.mg X.base CX n g sp) (hr : Room (n + 1) X.A) (hx : Passes CX X E) : OpR X (compareOp .NotEq) (rOwnEq true C sp E) := by
  intro pins st sl H x y v u Q inv rx ry h
  obtain ⟨a, dx, fs, b, dy, gs, rfl, rfl, ea, eb, q⟩ := h
  obtain rfl := (show v = Value.ref a from rx)
  obtain rfl := (show u = Value.ref b from ry)
  obtain ⟨oa, ia⟩ := insAt inv ea
  obtain ⟨ob, ib⟩ := insAt inv eb
  show wpAny _ _ (richCompare .NotEq (.ref a) (.ref b)) _ _ _
  refine rich_ne (hu_of hr) inv.kIn ia ib hn ho hs hf (wpAny_mono (wpAny_call (SlX.run_at (us := [.ref a, .ref b]) (ws := [.ref a, .ref b]) F (Room.in1 hr) inv.env0.in1 hx inv (.cons rfl (.cons rfl .nil)) q)) (fun w s' z => ?_) fun _ _ z => z)
  obtain ⟨z', H', inv', rz, r, ez, qz⟩ := z
  subst ez
  obtain rfl := (show w = Value.bool r from rz)
  exact ⟨r, rfl, .bl (!r), H', inv', rfl, qz⟩
/-- o.m(), m a def with a star -/
theorem pe_methR0 {k : Nat} {f : Addr} {m : Str} {o : Expr} {ta : TE} {apos pos : Pos} {pl : Sem Bool} (he : PE X o ta) (c : Cls X.K C) (hm : Meth X.K C m f) (F : FnR X.prog X.w X.K X.mg X.base CX k f sp) (hr : Room k X.A) (hx : Passes CX X E)
    (ht : eval (.Call (.Attribute o m apos) [] [] pos) X.env = (do let ov ← eval o X.env; standAt apos.atName; let (f, first) ← holding [ov] (getMethod ov m pl); callWith pos f first (backTo pos (starEach [] X.env)) (backToKw pos (keywordEach [] X.env))) := by rfl) :
    PE X (.Call (.Attribute o m apos) [] [] pos) (tMethR C m sp E ta tNil) := by
  refine ⟨fun pins st sl H Q inv h => PySem.W.methodCall_KW (pl := pl) (thn (he.run pins st sl H _ inv h) fun u s1 got => ?_) ht⟩
  obtain ⟨x, H1, i1, rx, a, dx, fs, rfl, ea, lk, q⟩ := got
  obtain rfl := (show u = Value.ref a from rx)
  refine getmeth_ok i1 ea c hm lk ?_
  exact PySem.W.callWith_K0 (first := [.ref a]) i1.kIn hm.kp (wpAny_call (run_fnR (us := [.ref a]) (vs := [.ref a]) F hr hx i1 (.cons rfl .nil) q))
end
end Own

/-! Dicts with int keys: sorted, min, max of them; sorted(d.items()) of ints; x not in a tuple of data. -/
namespace DictI
open PySem PySem.Spec PyProof.Rows L2
section
variable {X : Cx}
theorem keyInt {knd : Bool} {i : Int} {v : Value} (h : keyIs (Sum.inl i : Key) v = true) : ∃ t, v = .int i t := by
  have r : RelV (.int i) v := relV_key h
  exact r
theorem ints_at {vs : List (Key × Value)} {acc : List Value} {ns : List Int} (hkeys : vs.map (·.1) = ns.map Sum.inl) (hal : acc.length = ns.length)
    (hv : ∀ (j : Nat) (v : Value), acc[j]? = some v → ∃ k x, vs[j]? = some (k, x) ∧ keyIs k v = true) : IntsAre acc ns := by
  have each : ∀ v ∈ acc, ∃ i t, v = Value.int i t := fun v hv' => by
    obtain ⟨j, hj⟩ := List.mem_iff_getElem?.mp hv'
    obtain ⟨k, x, e1, e2⟩ := hv j v hj
    have e3 : (vs.map (·.1))[j]? = some k := by rw [List.getElem?_map, e1]; rfl
    rw [hkeys, List.getElem?_map] at e3
    cases e4 : ns[j]? with
    | none => rw [e4] at e3; cases e3
    | some i =>
      rw [e4] at e3
      obtain rfl : Sum.inl i = k := Option.some.inj e3
      obtain ⟨t, rfl⟩ := keyInt (knd := true) e2
      exact ⟨i, t, rfl⟩
  have e : acc.map SrtO.iv = ns := by
    apply List.ext_getElem?
    intro j
    rw [List.getElem?_map]
    cases ha : acc[j]? with
    | none =>
      have : ns.length ≤ j := by rw [← hal]; exact List.getElem?_eq_none_iff.mp ha
      rw [List.getElem?_eq_none_iff.mpr this]
      rfl
    | some v =>
      obtain ⟨k, x, e1, e2⟩ := hv j v ha
      have e3 : (vs.map (·.1))[j]? = some k := by rw [List.getElem?_map, e1]; rfl
      rw [hkeys, List.getElem?_map] at e3
      cases e4 : ns[j]? with
      | none => rw [e4] at e3; cases e3
      | some i =>
        rw [e4] at e3
        obtain rfl : Sum.inl i = k := Option.some.inj e3
        obtain ⟨t, rfl⟩ := keyInt (knd := true) e2
        rfl
  have := SrtO.ints_iv each
  rwa [e] at this
def rSortedDI : List V → Hp → VK → Prop := fun xs H Q => ∃ (a : Addr) (kvs : List (Key × V)) (ns : List Int), xs = [.ref a] ∧ Rd H a (.dK kvs) ∧ kvs.map (·.1) = ns.map Sum.inl ∧
    ∀ (ys : List Int) (p : Addr), ys.Perm ns → ys.Pairwise (· ≤ ·) → H p = none → Q (.ref p) (upd H p (.lst (ys.map V.int)))
/-- sorted(d), d's keys ints -/
theorem cr_sortedDI (hcalm : X.calm = true) : CallR X (.builtin "sorted") rSortedDI := by
  intro pins s σ H xs us Q I r q
  obtain ⟨a, kvs, ns, ex, hd, hks, q⟩ := q
  subst ex
  obtain ⟨u, eu, rx⟩ := vals1 r
  subst eu
  cases rx
  obtain ⟨z, lo, vs, rel, dd⟩ := dk_rd I.hok hd
  obtain ⟨ep, hat⟩ := dd.dictAt
  have hkeys : vs.map (·.1) = ns.map Sum.inl := rel.keys.symm.trans hks
  have hl : vs.length = ns.length := by
    have e := congrArg List.length hkeys
    rw [List.length_map, List.length_map] at e
    exact e
  have h16 : vs.length ≤ sizeLine := by rw [← Paired.length rel]; exact z
  refine Calls.call_function_entry PyProof.Rows.kind_sorted PyProof.Rows.plain_sorted PyProof.Rows.entry_sorted (PyProof.Rows.args_sorted1 _) ?_
  unfold Builtin.«sorted»
  refine wpAny_bind (m := checkCount "sorted" 1 1 _) (wpAny_pure ?_)
  refine wpAny_bind (PySem.W.kdu_collect (A := X.A.in1) (PySem.W.kdl_dict (knd := mixKind X.prog X.w) (kvs := vs) (ep := ep) lo) (I.ok.hd hcalm) hat h16 fun h' tk acc hk hacc => ?_)
  have hal : acc.toList.length = ns.length := by rw [Array.length_toList, hacc.1, hl]
  have hi : IntsAre acc.toList ns := ints_at hkeys hal fun j v e => hacc.2 j v (by rw [← Array.getElem?_toList]; exact e)
  have I1 : Inv X pins σ H { s with heap := h', toks := tk } := I.kept hk
  have hz : acc.toList.length ≤ sizeLine := by rw [hal, ← hl]; exact h16
  refine wpAny_bind (wpAny_newList ?_ hz)
  have hoL : (h'.push (seqObj "list" acc.toList.toArray 0)).get? h'.objs.size = some (seqObj "list" acc.toList.toArray 0) := Heap.get?_push_size _ rfl
  show wpAny _ _ _ _ _ { s with heap := h'.push (seqObj "list" acc.toList.toArray 0), toks := tk }
  refine wpAny_bind (wpAny_holding (wpAny_call_entry PyProof.Rows.slot_list_sort ⟨_, hoL, rfl⟩ PyProof.Rows.entry_list_sort
    (SrtO.list_sort_ord SrtO.swo_int hoL hz (fun h2 => SrtO.ints_sortable hi h2) fun out h1 h2 => ⟨_, rfl, ?_⟩) (PyProof.Rows.args_list_sort _)))
  obtain ⟨k1, k2, k3⟩ := SrtO.ints_out hi h1 h2
  obtain ⟨e', he'⟩ := PyProof.Rows.sortedHeap_at (vs := acc.toList) (out := out.toArray) hoL
  have hlen : ((out.map SrtO.iv).map V.int).length ≤ sizeLine := by
    rw [List.length_map, k2.length_eq, ← hl]
    exact h16
  refine wpAny_pure ⟨_, rfl, .ref h'.objs.size, upd H h'.objs.size (.lst ((out.map SrtO.iv).map V.int)), I1.laid (t' := tk) (fun b u e => ?_) (Nat.le_refl _)
    (show ObjOk X.prog X.w _ _ _ (.lst ((out.map SrtO.iv).map V.int)) from ⟨hlen, out, e', vals_of_ints k1, he'⟩), rfl, q _ _ k2 k3 (I1.hok.fresh (Nat.le_refl _))⟩
  have hb : b < h'.objs.size := Heap.lt_size e
  rw [PyProof.Rows.sortedHeap_old (Nat.ne_of_lt hb) (by rw [size_push']; exact Nat.lt_succ_of_lt hb)]
  exact Heap.get?_push_of_some _ e
def rBestDI (le : Int → Int → Prop) : List V → Hp → VK → Prop := fun xs H Q => ∃ (a : Addr) (kvs : List (Key × V)) (ns : List Int), xs = [.ref a] ∧ Rd H a (.dK kvs) ∧ kvs.map (·.1) = ns.map Sum.inl ∧ 0 < ns.length ∧
    ∀ m, m ∈ ns → (∀ y ∈ ns, le m y) → Q (.int m) H
theorem key_at {vs : List (Key × Value)} {ns : List Int} (hkeys : vs.map (·.1) = ns.map Sum.inl) {i : Nat} {v : Value} (h : ∃ k x, vs[i]? = some (k, x) ∧ keyIs k v = true) : ∃ t, v = .int (ns.getD i 0) t := by
  obtain ⟨k, x, e1, e2⟩ := h
  have e3 : (vs.map (·.1))[i]? = some k := by rw [List.getElem?_map, e1]; rfl
  rw [hkeys, List.getElem?_map] at e3
  cases e4 : ns[i]? with
  | none => rw [e4] at e3; cases e3
  | some j =>
    rw [e4] at e3
    obtain rfl : Sum.inl j = k := Option.some.inj e3
    rw [List.getD_eq_getElem?_getD, e4]
    exact keyInt (knd := true) e2
theorem getD_in {ns : List Int} {i : Nat} (h : i < ns.length) : ns.getD i 0 ∈ ns := by
  rw [List.getD_eq_getElem?_getD, List.getElem?_eq_getElem h]
  exact List.getElem_mem h
theorem in_getD {ns : List Int} {y : Int} (h : y ∈ ns) : ∃ j, j < ns.length ∧ ns.getD j 0 = y := by
  obtain ⟨j, hj, e⟩ := List.mem_iff_getElem.mp h
  exact ⟨j, hj, by rw [List.getD_eq_getElem?_getD, List.getElem?_eq_getElem hj]; exact e⟩
/-- min(d), d's keys ints -/
theorem cr_minDI (hc : X.calm = true) : CallR X (.builtin "min") (rBestDI (· ≤ ·)) := by
  intro pins s σ H xs us Q I r h
  obtain ⟨a, kvs, ns, rfl, hd, hks, hne, q⟩ := h
  rw [Vals.ref1 r]
  obtain ⟨z, lo, vs, rel, dd⟩ := dk_rd I.hok hd
  obtain ⟨ep, hat⟩ := dd.dictAt
  have hkeys : vs.map (·.1) = ns.map Sum.inl := rel.keys.symm.trans hks
  have hl : vs.length = ns.length := by
    have e := congrArg List.length hkeys
    rw [List.length_map, List.length_map] at e
    exact e
  have ha : a < s.heap.objs.size := hat.lt_size
  refine call_min_walk (wpAny_pyIter_dict lo hat ?_)
  refine ⟨_, _, _, _, _, _, fun i j => decide (ns.getD i 0 < ns.getD j 0), rfl, Walks.dictKeys (A := X.A.in1) (I.ok.hd hc) _ a (Nat.ne_of_lt ha) vs ep, ⟨⟨_, Heap.get?_push_size _ rfl, rfl, rfl⟩, hat.push _⟩, fun b hb => ?_, by omega, CmpOf.ints_lt (fun i => ns.getD i 0) (fun i v z => key_at hkeys z), fun v h' tk hv' hk => ?_⟩
  · show b < (s.heap.push _).objs.size
    rw [size_push']
    rcases List.mem_cons.mp hb with z | z
    · rw [z]
      exact Nat.lt_succ_self _
    · rw [List.mem_singleton.mp z]
      exact Nat.lt_succ_of_lt ha
  · obtain ⟨t, rfl⟩ := key_at hkeys hv'
    obtain ⟨m1', m2'⟩ := argBest_lt (fun i => ns.getD i 0) (vs.length - 1)
    refine ⟨.int _, H, I.kept fun b o e => hk b o (fun z => ?_) (Heap.get?_push_of_some _ e), ⟨t, rfl⟩, q _ (getD_in (by omega)) fun y hy => ?_⟩
    · rw [List.mem_singleton.mp z] at e
      exact absurd (Heap.lt_size e) (Nat.lt_irrefl _)
    · obtain ⟨j, hj, rfl⟩ := in_getD hy
      exact m2' j (by omega)
/-- max(d), d's keys ints -/
theorem cr_maxDI (hc : X.calm = true) : CallR X (.builtin "max") (rBestDI (· ≥ ·)) := by
  intro pins s σ H xs us Q I r h
  obtain ⟨a, kvs, ns, rfl, hd, hks, hne, q⟩ := h
  rw [Vals.ref1 r]
  obtain ⟨z, lo, vs, rel, dd⟩ := dk_rd I.hok hd
  obtain ⟨ep, hat⟩ := dd.dictAt
  have hkeys : vs.map (·.1) = ns.map Sum.inl := rel.keys.symm.trans hks
  have hl : vs.length = ns.length := by
    have e := congrArg List.length hkeys
    rw [List.length_map, List.length_map] at e
    exact e
  have ha : a < s.heap.objs.size := hat.lt_size
  refine call_max_walk (wpAny_pyIter_dict lo hat ?_)
  refine ⟨_, _, _, _, _, _, fun i j => decide (ns.getD i 0 > ns.getD j 0), rfl, Walks.dictKeys (A := X.A.in1) (I.ok.hd hc) _ a (Nat.ne_of_lt ha) vs ep, ⟨⟨_, Heap.get?_push_size _ rfl, rfl, rfl⟩, hat.push _⟩, fun b hb => ?_, by omega, CmpOf.ints_gt (fun i => ns.getD i 0) (fun i v z => key_at hkeys z), fun v h' tk hv' hk => ?_⟩
  · show b < (s.heap.push _).objs.size
    rw [size_push']
    rcases List.mem_cons.mp hb with z | z
    · rw [z]
      exact Nat.lt_succ_self _
    · rw [List.mem_singleton.mp z]
      exact Nat.lt_succ_of_lt ha
  · obtain ⟨t, rfl⟩ := key_at hkeys hv'
    obtain ⟨m1', m2'⟩ := argBest_gt (fun i => ns.getD i 0) (vs.length - 1)
    refine ⟨.int _, H, I.kept fun b o e => hk b o (fun z => ?_) (Heap.get?_push_of_some _ e), ⟨t, rfl⟩, q _ (getD_in (by omega)) fun y hy => ?_⟩
    · rw [List.mem_singleton.mp z] at e
      exact absurd (Heap.lt_size e) (Nat.lt_irrefl _)
    · obtain ⟨j, hj, rfl⟩ := in_getD hy
      exact m2' j (by omega)
/-- x not in a tuple of data -/
def rNotInT (K : PySem.W.Frag) : R2 := fun x y H Q => ∃ d ds, Dp K H x d ∧ Dp K H y (.tuple ds) ∧ SeqAt.shaped d = true ∧ SeqAt.shaped (.list ds) = true ∧ Q (.bl (!ds.any fun z => PyData.eqv z d)) H
theorem op_notInT (hu : X.A.units + 65 < cLine) : OpR X (compareOp .NotIn) (rNotInT X.K) := by
  intro pins s σ H x y v u Q I rx ry h
  obtain ⟨d, ds, hd, he, sd, se, q⟩ := h
  obtain ⟨as, r1⟩ := Dp.reads I d x v hd rx
  obtain ⟨bs, r2⟩ := Dp.reads I (.tuple ds) y u he ry
  exact SeqAt.notIn_tuple_reads r2 r1 (SeqAt.canLay_of_shaped se) (SeqAt.canLay_of_shaped sd) (room_in_shaped sd hu) ⟨.bl _, H, I, rfl, q⟩
/-- d.items() as a value, d's keys ints or texts -/
def rItemsK : V → List V → Hp → VK → Prop := fun x xs H Q => ∃ (a : Addr) (kvs : List (Key × V)), x = .ref a ∧ xs = [] ∧ H a = some (.dK kvs) ∧ ∀ p, H p = none → Q (.ref p) (upd H p (DX.itemsO p a))
theorem mt_itemsK : MtR X "dict.items" rItemsK := by
  intro pins s σ H x xs v us Q I rx rxs h
  obtain ⟨a, kvs, rfl, rfl, ha, q⟩ := h
  cases rx
  cases rxs
  obtain ⟨z, hs0, vs, kv, hdo⟩ := I.hok a _ ha
  refine call_meetsIn F.slot_dict_items hdo.typeIs F.entry_dict_items (F.args_dict_items_1 _) (meets_dict_items (mixKind X.prog X.w) a hs0) ⟨⟨vs, hdo⟩, ?_⟩
  have hf : H s.heap.objs.size = none := I.hok.fresh (Nat.le_refl _)
  exact ⟨.ref s.heap.objs.size, upd H s.heap.objs.size (DX.itemsO s.heap.objs.size a), I.laid (t' := s.toks) (fun b u e => Heap.get?_push_of_some _ e) (Nat.le_refl _) (DX.itemsO_ok (Heap.get?_push_size _ rfl)), rfl, q _ hf⟩
abbrev entI (e : Int × Int) : Key × V := (Sum.inl e.1, V.int e.2)
def addrV : Value → Addr
  | .ref b => b
  | _ => 0
/-- sorted(d.items()), keys and values ints -/
def rSortIK : List V → Hp → VK → Prop := fun vs H Q => ∃ (p a : Addr) (fs : List (Int × Int)), vs = [.ref p] ∧ H p = some (DX.itemsO p a) ∧ H a = some (.dK (fs.map entI)) ∧
  ∀ (H' : Hp) (l : Addr) (ts : List Addr) (ys : List (Int × Int)), (∀ b o, H b = some o → H' b = some o) → H l = none → ys.Perm fs → ys.Pairwise (fun x y => SrtO.lexB y x = false) → H' l = some (.lst (ts.map V.ref)) →
    Paired (fun (t : Addr) (y : Int × Int) => H' t = some (.tup [.int y.1, .int y.2])) ts ys → Q (.ref l) H'
theorem paired_map {α β γ : Type} {F : α → β → Prop} (f : γ → α) (g : γ → β) : ∀ {l : List γ}, (∀ x ∈ l, F (f x) (g x)) → Paired F (l.map f) (l.map g)
  | [], _ => .nil
  | x :: l, h => .cons (h x (by simp)) (paired_map f g fun z hz => h z (by simp [hz]))
theorem cr_sortedIK (hc : X.calm = true) : CallR X (.builtin "sorted") rSortIK := by
  intro pins s σ H xs us Q I r h
  obtain ⟨p, a, fs, rfl, hp, ha, q⟩ := h
  obtain rfl := Vals.ref1 r
  have view : s.heap.IsItemsView p a := (show ObjOk X.prog X.w H s.heap p (DX.itemsO p a) from I.hok p _ hp).1
  obtain ⟨z, lo, vs, rel, dd⟩ := dk_of I.hok ha
  obtain ⟨ep, hat⟩ := dd.dictAt
  have l1 : (fs.map entI).length = vs.length := Paired.length rel
  rw [List.length_map] at l1 z
  have hh : X.A.handled = none := I.ok.hd hc
  refine Calls.call_function_entry PyProof.Rows.kind_sorted PyProof.Rows.plain_sorted PyProof.Rows.entry_sorted (PyProof.Rows.args_sorted1 _) ?_
  unfold Builtin.«sorted»
  refine wpAny_bind (m := checkCount "sorted" 1 1 _) (wpAny_pure ?_)
  obtain ⟨es, ep', raw, esz, eat⟩ := dd.raw
  refine wpAny_bind (DT.collectI (A := X.A.in1) (es := es) (ep := ep') hh view raw (by omega) fun h' tk as hk hlt0 hl hG => ?_)
  have hz : (as.map Value.ref).length ≤ sizeLine := by rw [List.length_map, hl]; omega
  refine wpAny_bind (wpAny_newList ?_ hz)
  have laf : as.length = fs.length := by omega
  have nd : as.Nodup := hG.rise.imp (fun h => Nat.ne_of_lt h)
  -- the pairs that were made
  have pr : ∀ (j : Nat) (b : Addr), as[j]? = some b → ∃ (e : Int × Int) (t u : Tok), fs[j]? = some e ∧ h'.get? b = some { cls := .type "tuple", data := .seq #[Value.int e.1 t, Value.int e.2 u] } := by
    intro j b hj
    obtain ⟨en, he, f3⟩ := hG.pairs j b hj
    obtain ⟨hjs, rfl⟩ := Array.getElem?_eq_some_iff.mp he
    obtain ⟨⟨k, x⟩, f1⟩ : ∃ p, vs[j]? = some p := ⟨vs[j]'(by omega), by simp⟩
    obtain ⟨f2, fx⟩ := eat j hjs k x f1
    obtain ⟨qv, g1, g2, g3⟩ := DX.pget rel f1
    have g3 : RelV qv.2 x := g3
    rw [← fx] at g3
    rw [List.getElem?_map] at g1
    cases hfj : fs[j]? with
    | none => rw [hfj] at g1; cases g1
    | some e =>
      rw [hfj] at g1
      obtain rfl : entI e = qv := Option.some.inj g1
      have f2' : keyIs (Sum.inl e.1 : Key) es[j].key = true := by
        have : (entI e).1 = k := g2
        rw [← this] at f2
        exact f2
      obtain ⟨t, et⟩ := keyInt (knd := true) f2'
      obtain ⟨u, eu⟩ : ∃ u, es[j].val = Value.int e.2 u := g3
      rw [et, eu] at f3
      exact ⟨e, t, u, rfl, f3⟩
  -- each pair's ints
  let k : Value → Int × Int := fun v => fs.getD (as.idxOf (addrV v)) (0, 0)
  have k_at : ∀ (j : Nat) (b : Addr) (e : Int × Int), as[j]? = some b → fs[j]? = some e → k (.ref b) = e := fun j b e hj he => by
    obtain ⟨hlt, rfl⟩ := List.getElem?_eq_some_iff.mp hj
    show fs.getD (as.idxOf as[j]) (0, 0) = e
    rw [nd.idxOf_getElem, List.getD_eq_getElem?_getD, he]
    rfl
  -- the heap of the sort
  have hoL : (h'.push (seqObj "list" (as.map Value.ref).toArray 0)).get? h'.objs.size = some (seqObj "list" (as.map Value.ref).toArray 0) := Heap.get?_push_size _ rfl
  have ka : ∀ b o, h'.get? b = some o → (h'.push (seqObj "list" (as.map Value.ref).toArray 0)).get? b = some o := fun b o e => Heap.get?_push_of_some _ e
  have ne0 : ∀ b o, h'.get? b = some o → b ≠ h'.objs.size := fun b o e => Nat.ne_of_lt (Heap.lt_size e)
  have hls : h'.objs.size < (h'.push (seqObj "list" (as.map Value.ref).toArray 0)).objs.size := by rw [size_push']; exact Nat.lt_succ_self _
  show wpAny _ _ _ _ _ { s with heap := h'.push (seqObj "list" (as.map Value.ref).toArray 0), toks := tk }
  generalize h'.push (seqObj "list" (as.map Value.ref).toArray 0) = h2 at hoL ka hls ⊢
  have hp2 : ∀ v ∈ as.map Value.ref, Srt.IsPair h2 v (k v).1 (k v).2 := fun v hv => by
    obtain ⟨b, hb, rfl⟩ := List.mem_map.mp hv
    obtain ⟨j, hj⟩ := List.mem_iff_getElem?.mp hb
    obtain ⟨e, t, u, he, hg⟩ := pr j b hj
    rw [k_at j b e hj he]
    exact ⟨b, _, t, u, 0, rfl, ka _ _ hg, rfl, rfl⟩
  refine wpAny_bind (wpAny_holding (wpAny_call_entry PyProof.Rows.slot_list_sort ⟨_, hoL, rfl⟩ PyProof.Rows.entry_list_sort
    (SrtO.list_sort_ord (s := { s with heap := h2, toks := tk }) (SrtO.swo_lex k) hoL hz (fun hlen => SrtO.pairs_sortableO (by omega) hp2 fun o e => ?_) fun out o1 o2 => ⟨_, rfl, ?_⟩) (PyProof.Rows.args_list_sort _)))
  · have e' : some o = some (seqObj "list" (as.map Value.ref).toArray 0) := e.symm.trans hoL
    cases e'
    intro c
    exact absurd (Value.type.inj c) (by decide)
  -- what came out
  have back : ∀ l : List Addr, (l.map Value.ref).map addrV = l := fun l => by rw [List.map_map]; exact List.map_id _
  have tsp : (out.map addrV).Perm as := by
    have := o2.perm.map addrV
    rwa [back] at this
  have outE : out = (out.map addrV).map Value.ref := by
    rw [List.map_map]
    refine ((List.map_id _).symm).trans (List.map_congr_left fun v hv => ?_)
    obtain ⟨b, _, rfl⟩ := List.mem_map.mp (o2.perm.mem_iff.mp hv)
    rfl
  generalize out.map addrV = ts at tsp outE
  subst outE
  have hperm : (ts.map fun b => k (.ref b)).Perm fs := by
    refine (tsp.map fun b => k (.ref b)).trans (.of_eq ?_)
    apply List.ext_getElem?
    intro j
    rw [List.getElem?_map]
    cases hj : as[j]? with
    | none =>
      have : fs.length ≤ j := by rw [← laf]; exact List.getElem?_eq_none_iff.mp hj
      rw [List.getElem?_eq_none_iff.mpr this]
      rfl
    | some b =>
      obtain ⟨e, _, _, he, _⟩ := pr j b hj
      rw [he]
      exact congrArg some (k_at j b e hj he)
  have hsort : (ts.map fun b => k (.ref b)).Pairwise (fun x y => SrtO.lexB y x = false) := by
    rw [List.pairwise_map]
    have := o1
    unfold SrtO.Srtd at this
    rw [List.pairwise_map] at this
    exact this
  have kF : ∀ b o, b ≠ h'.objs.size → h2.get? b = some o → (sortedHeap h2 h'.objs.size (as.map Value.ref) (ts.map Value.ref).toArray).get? b = some o := fun b o hb e => (PyProof.Rows.sortedHeap_old hb (Heap.lt_size e)).trans e
  have kS : ∀ b o, s.heap.get? b = some o → (sortedHeap h2 h'.objs.size (as.map Value.ref) (ts.map Value.ref).toArray).get? b = some o := fun b o e => kF b o (ne0 _ _ (hk b o e)) (ka _ _ (hk b o e))
  obtain ⟨eF, heF⟩ := PyProof.Rows.sortedHeap_at (vs := as.map Value.ref) (out := (ts.map Value.ref).toArray) hoL
  have I1 : Inv X pins σ H { s with heap := sortedHeap h2 h'.objs.size (as.map Value.ref) (ts.map Value.ref).toArray, toks := tk } := I.kept (t' := tk) kS
  have hlt : s.heap.objs.size ≤ h'.objs.size := Nat.le_of_lt hlt0
  have hn0 : H h'.objs.size = none := I.hok.fresh hlt
  have hlen : (ts.map V.ref).length ≤ sizeLine := by rw [List.length_map, tsp.length_eq, ← List.length_map (f := Value.ref)]; exact hz
  have I2 : Inv X pins σ (upd H h'.objs.size (.lst (ts.map V.ref))) { s with heap := sortedHeap h2 h'.objs.size (as.map Value.ref) (ts.map Value.ref).toArray, toks := tk } :=
    I1.take (h' := sortedHeap h2 h'.objs.size (as.map Value.ref) (ts.map Value.ref).toArray) (t' := tk) (fun b ob _ e => e) (I.fpOk hlt hn0) ⟨hlen, ts.map Value.ref, eF, LiI.vals_refs ts, heF⟩
  obtain ⟨H2, I3, g, qt⟩ := DX.takeT (P := fun b vs => vs = [.int (k (.ref b)).1, .int (k (.ref b)).2]) I as _ I2 nd fun b hb => by
    obtain ⟨j, hj⟩ := List.mem_iff_getElem?.mp hb
    obtain ⟨e, t, u, he, hg⟩ := pr j b hj
    have hbl : s.heap.objs.size ≤ b := Nat.le_of_lt (hG.above b hb)
    refine ⟨hbl, ?_, _, rfl, fun H3 => ⟨(by rw [sizeLine_eq]; show 2 ≤ 16777216; omega), [Value.int e.1 t, Value.int e.2 u], ?_, ⟨_, kF _ _ (ne0 _ _ hg) (ka _ _ hg), rfl, 0, rfl⟩⟩⟩
    · rw [upd_ne (ne0 _ _ hg)]
      exact I.hok.fresh hbl
    · rw [k_at j b e hj he]
      exact .cons ⟨_, rfl⟩ (.cons ⟨_, rfl⟩ .nil)
  have gr : ∀ b o, H b = some o → H2 b = some o := fun b o e => g b o (by rw [upd_ne (ne_of_none e hn0)]; exact e)
  refine wpAny_pure ⟨_, rfl, .ref h'.objs.size, H2, I3, rfl, q H2 h'.objs.size ts (ts.map fun b => k (.ref b)) gr hn0 hperm hsort (g _ _ upd_same) ?_⟩
  have := paired_map (F := fun (t : Addr) (y : Int × Int) => H2 t = some (.tup [.int y.1, .int y.2])) (fun b : Addr => b) (fun b => k (.ref b)) (l := ts) fun b hb => by
    obtain ⟨vs, rfl, hv⟩ := qt b (tsp.mem_iff.mp hb)
    exact hv
  rwa [List.map_id'] at this
end
/-- {k: v for x in ..}: over whatever is walked -/
theorem dc_it {J : It} {n : Nat} {G : Hp → Prop} {Y : Nat → Hp → V → Hp → Prop} (w : Walk J n G Y) {g : TG} {tt : TT} {tk tv : TE} {vs : List Nat} {σ : L2.St} {H1 : Hp} {D : Addr} {Qd : Hp → Prop} (Pv : Nat → Hp → Prop) (h0 : Pv 0 (upd H1 D (.dK []))) (hG : ∀ i H, i ≤ n → Pv i H → G H)
    (hs : ∀ i x H H', i < n → Pv i H → Y i H x H' → g x (wipe σ vs) H' fun σ2 H2 => wipe σ2 vs = wipe σ vs ∧ tt σ2 H2 fun b H3 =>
      if b = true then tk σ2 H3 fun y H4 => tv σ2 H4 fun z H5 => ∃ kvs k, y = kV k ∧ H5 D = some (.dK kvs) ∧ kvs.length < sizeLine ∧ Pv (i + 1) (upd H5 D (.dK (putK kvs k z))) else Pv (i + 1) H3) (hd : ∀ H, Pv n H → Qd H) :
    ∃ W : Nat → Nat → Hp → Prop, (∃ m, W 0 m (upd H1 D (.dK []))) ∧ ∀ i m H, W i m H →
      (J.stop i H ∧ Qd H) ∨ (J.go i H ∧ ∃ Nx : Hp → Prop, (∀ H', Nx H' → ∃ m', m' < m ∧ W (i + 1) m' H') ∧ ∀ x H', J.yld i H x H' → g x (wipe σ vs) H' fun σ2 H2 => wipe σ2 vs = wipe σ vs ∧ tt σ2 H2 fun b H3 =>
        if b = true then tk σ2 H3 fun y H4 => tv σ2 H4 fun z H5 => ∃ kvs k, y = kV k ∧ H5 D = some (.dK kvs) ∧ kvs.length < sizeLine ∧ Nx (upd H5 D (.dK (putK kvs k z))) else Nx H3) := by
  refine ⟨fun i m H => m = n - i ∧ i ≤ n ∧ Pv i H, ⟨n, by simp, Nat.zero_le _, h0⟩, ?_⟩
  rintro i m H ⟨rfl, hi, p⟩
  have q := hG i H hi p
  by_cases hlt : i < n
  · exact .inr ⟨w.goes i H hlt q, Pv (i + 1), fun H' p' => ⟨n - (i + 1), by omega, rfl, hlt, p'⟩, fun x H' y => hs i x H H' hlt p (w.yields i H x H' hlt q y)⟩
  · have e : i = n := by omega
    subst e
    exact .inl ⟨w.stops H q, hd H p⟩
section
variable {X : Cx} {a b c d : Expr} {ta tb tc td : TE} {pos : Pos}
/-- a op1 b op2 c op3 d, as a test -/
def tChain3 (r r' r'' : R2) (ta tb tc td : TE) : TT := fun σ H Q => ta σ H fun x H1 => tb σ H1 fun y H2 => r x y H2 fun e H3 => ∃ k, e = .bl k ∧
  (if k = true then tc σ H3 fun z H4 => r' y z H4 fun e' H5 => ∃ k', e' = .bl k' ∧ (if k' = true then td σ H5 fun u H6 => r'' z u H6 fun e'' H7 => ∃ k'', e'' = .bl k'' ∧ Q k'' H7 else Q false H5) else Q false H3)
theorem pt_chain3 {op op' op'' : CmpOp} {r r' r'' : R2} (ho : OpR X (compareOp op) r) (ho' : OpR X (compareOp op') r') (ho'' : OpR X (compareOp op'') r'') (ha : PE X a ta) (hb : PE X b tb) (hc : PE X c tc) (hd : PE X d td)
    (hm : lastMarks [op, op', op''] [b, c, d] = false := by with_unfolding_all rfl) : PT X (.Compare a [op, op', op''] [b, c, d] pos) (tChain3 r r' r'' ta tb tc td) := by
  refine ⟨fun pins s σ H Q I h => ?_⟩
  refine isTrue_chain (thn (ha.run pins s σ H _ I h) fun v s1 ⟨x, H1, I1, r1, q1⟩ => test_link (thn (hb.run pins s1 σ H1 _ I1 q1) fun u s2 ⟨y, H2, I2, r2, q2⟩ =>
    thn (ho pins s2 σ H2 x y v u _ I2 r1 r2 q2) fun d s3 ⟨z, H3, I3, r3, k, e, q3⟩ => ?_)) hm
  subst e
  cases r3
  refine wpAny_truthy_bool ?_
  cases k with
  | false => exact ite_ff ⟨H3, I3, q3⟩
  | true =>
    refine ite_tt (test_link (thn (hc.run pins s3 σ H3 _ I3 q3) fun w' s4 ⟨z', H4, I4, r4, q4⟩ => thn (ho' pins s4 σ H4 y z' u w' _ I4 r2 r4 q4) fun d' s5 ⟨z2, H5, I5, r5, k2, e2, q5⟩ => ?_))
    subst e2
    cases r5
    refine wpAny_truthy_bool ?_
    cases k2 with
    | false => exact ite_ff ⟨H5, I5, q5⟩
    | true =>
      refine ite_tt (test_last (thn (hd.run pins s5 σ H5 _ I5 q5) fun w'' s6 ⟨z'', H6, I6, r6, q6⟩ => thn (ho'' pins s6 σ H6 z' z'' w' w'' _ I6 r4 r6 q6) fun d'' s7 ⟨z3, H7, I7, r7, k3, e3, q7⟩ => ?_))
      subst e3
      cases r7
      exact wpAny_truthy_bool ⟨H7, I7, q7⟩
end
end DictI

/-! # own subscripts, and ranges kept in a name (own work) -/
open PySem PyProof PyProof.Rows L2
namespace Cut
section
variable {X : Cx} {CX : CXT} {n : Nat} {C g : Addr} {sp : Sp} {E : XK}
/-- x[y]: the class of x has __getitem__ -/
def rSub (C : Addr) (sp : Sp) (E : XK) : R2 := fun x y H Q => ∃ a dx fs, x = .ref a ∧ H a = some (.ins C dx fs) ∧ sp [x, y] H Q E
theorem pe_sub {a b : Expr} {ta tb : TE} {pos : Pos} (hs : PySem.W.findIn X.K (.ref C) "__getitem__" = some (some (.ref g))) (hf : PySem.W.fnIn X.K g = true) (hfn : PySem.W.isFn X.K (.ref g) = true)
    (F : FnR X.prog X.w X.K X.mg X.base CX n g sp) (hr : Room (n + 1) X.A) (hx : Passes CX X E) (ha : PE X a ta) (hb : PE X b tb)
    (hsl : ∀ x i, subscripted b true (.ref x) i = runValue (.builtin "lifetime.subscript" ⟨[.ref x, i], []⟩)) : PE X (.Subscript a b pos) (tOp (rSub C sp E) ta tb) := by
  refine ⟨fun pins s σ H Q I h => ?_⟩
  refine Subscript_ (binT ha hb I h fun v u s2 x y H2 I2 rx ry q => ?_)
  obtain ⟨a', dx, fs, rfl, ea, q⟩ := q
  obtain rfl : v = Value.ref a' := rx
  obtain ⟨_, ja⟩ := Own.insAt I2 ea
  obtain ⟨_, fr⟩ := I2.fr
  have go := wpAny_call (SlX.run_at (A := X.A.in1) (us := [.ref a', u]) (ws := [.ref a', y]) F hr.in1 I2.env0.in1 hx I2 (.cons rfl (.cons ry .nil)) q)
  exact PySem.W.sub_K fr I2.ok.mod.kin ja hs hf hfn (wpAny_mono go (fun v st' z => z) fun _ _ z => z) (hsl _ _)
/-- a range that stands in a name, walked -/
def iRngO (te : TE) : TI := fun sl H R => te sl H fun x H1 => ∃ a lo hi, x = .ref a ∧ H1 a = some (.rng lo hi) ∧ (-(2 ^ 62) ≤ lo ∧ lo < 2 ^ 62 ∧ -(2 ^ 62) ≤ hi ∧ hi < 2 ^ 62) ∧ R (Itr lo (hi - lo).toNat) H1
theorem pi_rngO {tg l : Expr} {tl : TE} (hl : PE X l tl) : PI X tg l (iRngO tl) := by
  refine ⟨fun pins s σ H R I h => ?_⟩
  refine thn (hl.run pins s σ H _ I h) fun v s1 ⟨x, H1, I1, r1, q1⟩ => ?_
  obtain ⟨a, lo, hi, rfl, ha, ⟨h1, h2, h3, h4⟩, q⟩ := q1
  obtain rfl : v = Value.ref a := r1
  obtain ⟨t, u, w', ho⟩ := I1.hok a _ ha
  refine wpAny_pyIter_range (a := lo) (b := hi) (c := 1) ho (small_one h1 h2 h3 h4) ?_
  refine ⟨s1.heap.objs.size, [s1.heap.objs.size], _, _, H1, rfl, I1.kept (t' := s1.toks) fun b o e => Heap.get?_push_of_some _ e, turn_range _ lo (hi - lo).toNat, ?_, fun b hb => ?_, q⟩
  · have e1 : lo + ((0 : Nat) : Int) * 1 = lo := by simp
    have e2 : (((hi - lo).toNat : Nat) : Int) - ((0 : Nat) : Int) = Builtin.Range.rangeSize lo hi 1 := by rw [rangeSize_one]; split <;> omega
    show IsRangeIter _ _ (lo + ((0 : Nat) : Int) * 1) ((((hi - lo).toNat : Nat) : Int) - ((0 : Nat) : Int)) 1
    rw [e1, e2]
    exact Heap.get?_push_size _ rfl
  · have e : b = s1.heap.objs.size := by simpa using hb
    subst e
    exact I1.fpOk (Nat.le_refl _) (I1.hok.fresh (Nat.le_refl _))
end
end Cut

/-! # set(xs), xs a list of ints (own work) -/
open PySem PySem.Spec PyProof.Rows L2
namespace SetL
abbrev frO (w : World) : Obj := { cls := .type "set", dict := none, data := .set #[] 0 (.fresh 0 0 (!w.params.followText "set-order")) }
section
variable {P : Program} {w : World} {A : Around} {E : Value → Shared → Prop} {s : Shared}
theorem init_list {l : Addr} {items : Array Value} (ns : List Int) {R : Value → Shared → Prop} (hh : A.handled = none) (hl : s.heap.IsList l items) (hit : IntsAre items.toList ns) (few : ns.length + 1 < scanBound)
    (hR : ∀ (h' : Heap) (tk c : Nat), SetR w h' s.heap.objs.size (fun j => decide (j ∈ ns)) c → c ≤ ns.length → (∀ b o, s.heap.get? b = some o → h'.get? b = some o) → R .none { s with heap := h', toks := tk }) :
    codeAny (model P w) A (.call (.builtin "set.__init__") ⟨[.ref s.heap.objs.size, .ref l], []⟩) (wants R E) { s with heap := s.heap.push (frO w) } := by
  have eS : (s.heap.push (frO w)).get? s.heap.objs.size = some (frO w) := Heap.get?_push_size _ rfl
  have tS : Shared.TypeIs { s with heap := s.heap.push (frO w) } (.ref s.heap.objs.size) "set" := ⟨_, eS, rfl⟩
  have el : items.size = ns.length := by have z := IntsAre.length hit; rwa [Array.length_toList] at z
  refine codeAny_call_builtin F.called_set.init.plain F.entry_set_init (check_set_init_1 tS ?_)
  obtain ⟨⟨k1, k2, k3, k4⟩, gl, ck, kn, dk⟩ := hl
  dsimp only at ck dk
  subst ck
  subst dk
  have gl2 : (s.heap.push (frO w)).get? l = some ⟨.type "list", k2, .seq items kn, k4⟩ := Heap.get?_push_of_some _ gl
  have ll : (s.heap.push (frO w)).IsList l items := ⟨_, gl2, rfl, kn, rfl⟩
  have lt : l < s.heap.objs.size := Heap.lt_size gl
  have sz : (s.heap.push (frO w)).objs.size = s.heap.objs.size + 1 := Heap.size_push ..
  have q1 := F.sub_list_set
  have q2 := F.sub_list_frozenset
  have q3 : (Value.type "list" == Value.type "dict") = false := by decide
  unfold Builtin.«set.__init__» noKeywords Builtin.Frozenset.updateFrom
  generalize hp : pyIter = it
  wp_walk
  subst hp
  refine wpAny_pyIter_list ll (wpAny_bind (wpAny_runValue ?_))
  have nfp : s.heap.objs.size ∉ [(s.heap.push (frO w)).objs.size, l] := fun hm => by
    rcases List.mem_cons.mp hm with e | e
    · rw [sz] at e
      exact Nat.ne_of_lt (Nat.lt_succ_self _) e
    · exact Nat.ne_of_gt lt (List.mem_singleton.mp e)
  have nI : l ≠ (s.heap.push (frO w)).objs.size := by
    rw [sz]
    exact Nat.ne_of_lt (Nat.lt_succ_of_lt lt)
  refine set_update_ints (Walks.list (by simp [hh]) _ l nI items).toS s.heap.objs.size nfp ns el few (fun i v hv => ?val) _ 0 _ rfl (Nat.zero_le _) ⟨⟨_, Heap.get?_push_size _ rfl, rfl, rfl⟩, ll.push _⟩ ⟨0, Nat.le_refl 0, setR_new_at (Heap.get?_push_of_some _ eS)⟩ fun s' c mv hc hS => ?fin
  case val =>
    have hi : i < items.size := (Array.getElem?_eq_some_iff.mp hv).1
    obtain ⟨t, e⟩ := IntsAre.int_at hit i v (by rw [Array.getElem?_toList]; exact hv)
    exact ⟨ns.getD i 0, t, by simp [List.getD, show i < ns.length by omega], e⟩
  case fin =>
    have e1 : s' = { s with heap := s'.heap, toks := s'.toks } := by
      have a1 := mv.gens
      have a2 := mv.drawn
      have a3 := mv.os
      cases s'
      cases s
      simp only at a1 a2 a3
      subst a1 a2 a3
      rfl
    show wpAny _ _ (pure ()) _ _ s'
    refine wpAny_pure ?_
    show wpAny _ _ (ret Value.none) _ _ s'
    rw [e1]
    refine wpAny_pure (hR s'.heap s'.toks c hS (by omega) fun b o e => ?_)
    have hb : b < s.heap.objs.size := Heap.lt_size e
    refine mv.heap b o ?_ (Heap.get?_push_of_some _ (Heap.get?_push_of_some _ e))
    intro hm
    rcases List.mem_cons.mp hm with q | q
    · exact Nat.ne_of_lt hb q
    · have q := List.mem_singleton.mp q
      rw [sz] at q
      exact Nat.ne_of_lt (Nat.lt_succ_of_lt hb) q
theorem call_setL {l : Addr} {items : Array Value} (ns : List Int) {Q : Value → Shared → Prop} (hh : A.handled = none) (hl : s.heap.IsList l items) (hit : IntsAre items.toList ns) (few : ns.length + 1 < scanBound)
    (hQ : ∀ (h' : Heap) (tk c : Nat), SetR w h' s.heap.objs.size (fun j => decide (j ∈ ns)) c → c ≤ ns.length → (∀ b o, s.heap.get? b = some o → h'.get? b = some o) → Q (.ref s.heap.objs.size) { s with heap := h', toks := tk }) :
    wpAny (model P w) A (call (.type "set") [.ref l]) Q E s := by
  obtain ⟨c, tl, m1⟩ := F.called_set.mro
  have m2 := F.called_set.made
  have m3 := F.called_set.sub
  have m4 := F.called_set.notType
  have m5 := F.called_set.canCreate
  have m6 := F.typeCall_set_1 (.ref l)
  refine wpAny_call (codeAny_of_tree (show wpAny _ _ (callAny (.type "set") _) _ _ _ from wpAny_pure ⟨Code.quiet_builtin _ (by decide +kernel), codeAny_builtin F.entry_type_call ?_⟩))
  rw [Around.under_plain (weight_type_call_type "set" [.ref l] []) rfl]
  repeat any_goals first | assumption | wp_step
  refine codeAny_mono (code_set_led1 (.ref l) (E := E) (Q₁ := fun v u => v = .ref s.heap.objs.size ∧ u = { s with heap := s.heap.push (frO w) }) ⟨rfl, rfl⟩) fun r u hr => ?_
  match r, hr with
  | .error e, hr => exact hr
  | .ok (.ret v), hr =>
    obtain ⟨rfl, rfl⟩ := hr
    have tS : Shared.TypeIs { s with heap := s.heap.push (frO w) } (.ref s.heap.objs.size) "set" := ⟨_, Heap.get?_push_size _ rfl, rfl⟩
    have m7 := F.called_set.init.lookup
    have m8 := F.called_set.init.bind (.ref s.heap.objs.size)
    repeat any_goals first | assumption | wp_step
    refine codeAny_mono (init_list (E := E) (R := fun v u => v = .none ∧ Q (.ref s.heap.objs.size) u) ns ?_ hl hit few fun h' tk c a b d => ⟨rfl, hQ h' tk c a b d⟩) fun r2 u2 hr2 => ?_
    · simp [hh]
    match r2, hr2 with
    | .error e, hr2 => exact hr2
    | .ok (.ret v2), hr2 =>
      obtain ⟨rfl, q⟩ := hr2
      repeat any_goals first | assumption | wp_step
end
section
variable {X : Cx}
/-- set(xs), xs a list of ints -/
def rSetL (K : PySem.W.Frag) (w : World) : List V → Hp → VK → Prop := fun xs H Q => ∃ (l : Addr) (ns : List Int), xs = [V.ref l] ∧ SqL K H l (ns.map V.int) ∧ ns.length ≤ 1000 ∧ ∀ a c, H a = none → c ≤ ns.length → Q (.ref a) (upd H a (SetO w a (fun j => decide (j ∈ ns)) c))
theorem cr_setL (hc : X.calm = true) : CallR X (.type "set") (rSetL X.K X.w) := by
  intro pins s sl H xs us Q inv r h
  obtain ⟨l, ns, rfl, hl, few, q⟩ := h
  rw [Vals.ref1 r]
  obtain ⟨its, rv, pl, _⟩ := inv.list hl
  have fresh : H s.heap.objs.size = none := inv.hok.fresh (Nat.le_refl _)
  refine call_setL ns (inv.ok.hd hc) pl.isList (ints_of_vals rv) (by unfold scanBound; omega) fun h' tk c R lc k => ?_
  exact ⟨.ref s.heap.objs.size, upd H s.heap.objs.size (SetO X.w s.heap.objs.size (fun j => decide (j ∈ ns)) c), inv.laid (t' := tk) k (Nat.le_refl _) (setO_new R), rfl, q _ c fresh lc⟩
end
end SetL

/-! ~x of instances whose class has its own __invert__. -/
namespace Own
open PySem PySem.Spec PyProof.Rows L2
section
variable {X : Cx} {CX : CXT} {n : Nat} {C g : Addr} {sp : Sp} {E : XK}
def rInvO (C : Addr) (sp : Sp) (E : XK) : V → Hp → VK → Prop := fun x H Q => ∃ a dx fs, x = .ref a ∧ H a = some (.ins C dx fs) ∧ sp [x] H Q E
theorem un_invO (hs : PySem.W.findIn X.K (.ref C) "__invert__" = some (some (.ref g))) (hf : PySem.W.isFn X.K (.ref g) = true) (F : FnR X.prog X.w X.K X.mg X.base CX n g sp) (hr : Room n X.A) (hx : Passes CX X E) : UnR X (unaryOp .Invert) (rInvO C sp E) := by
  intro pins st sl H x v Q inv rx h
  obtain ⟨a, dx, fs, rfl, ea, h⟩ := h
  obtain rfl : v = Value.ref a := rx
  obtain ⟨_, ja⟩ := insAt inv ea
  have go := wpAny_call (run_fnR (us := [.ref a]) (vs := [.ref a]) F hr hx inv (.cons rfl .nil) h)
  unfold unaryOp
  refine wpAny_holding ?_
  show wpAny _ _ (callSpecial? (.ref a) "__invert__" >>= fun r => match r with | some r => pure r | none => _) _ _ _
  refine wpAny_bind (PySem.W.special_fn inv.kIn ja hs (beq_iff_eq.mp hf) (wpAny_mono go (fun v st' z => ?_) fun _ _ z => z))
  exact wpAny_pure z
end
end Own

/-! t[::-1], t a tuple. -/
namespace TRev
open PySem PySem.Spec PyProof PyProof.Rows L2 HT
open PySem.SeqAt
open PySem.AutoSeq1 (wpAny_loadPart')
open PySem.MeetsSeq PySem.MeetsSeq2 PySem.MeetsSeq3
theorem fm_congr {α β : Type} {f g : α → Option β} : ∀ {l : List α}, (∀ x ∈ l, f x = g x) → l.filterMap f = l.filterMap g
  | [], _ => rfl
  | x :: l, h => by
    rw [List.filterMap_cons, List.filterMap_cons, h x List.mem_cons_self, fm_congr fun y hy => h y (List.mem_cons_of_mem _ hy)]
section
variable {prog : Program} {w : World} {A : Around} {E : Value → Shared → Prop} {s : Shared}
theorem applied_rev {sl : Addr} {vl vu vs : Value} {n : Nat} {Q : Int × Int × Nat → Shared → Prop} (hs : s.heap.IsSliceOf sl vl vu vs) (pl : IsPart vl none) (pu : IsPart vu none) (ps : IsPart vs (some (-1)))
    (h : Q ((n : Int) - 1, -1, n) s) : wpAny (model prog w) A (Builtin.Slice.sliceApplied (.ref sl) (pure (n : Int))) Q E s := by
  obtain ⟨os, hos, hcs, hds⟩ := id hs
  unfold Builtin.Slice.sliceApplied Builtin.Slice.sliceFields
  refine wpAny_bind (wpAny_bind (wpAny_field hos hds (x := vl) rfl (wpAny_bind (wpAny_field hos hds (x := vu) rfl (wpAny_bind (wpAny_field hos hds (x := vs) rfl (wpAny_pure ?_)))))))
  refine wpAny_bind (slicePart_ ps ?_)
  show wpAny _ _ (if ((-1 : Int) == 0) = true then _ else _) _ _ s
  rw [if_neg (by decide)]
  refine wpAny_bind (slicePart_ pl (wpAny_bind (slicePart_ pu (wpAny_bind (wpAny_pure ?_)))))
  show wpAny _ _ (pure ((n : Int) - 1, (-1 : Int), Builtin.Slice.slicePlaces ((n : Int) - 1) (-1) (-1))) _ _ s
  have e : Builtin.Slice.slicePlaces ((n : Int) - 1) (-1) (-1) = n := by
    unfold Builtin.Slice.slicePlaces
    rw [if_neg (by decide)]
    split
    · have : (-(-1) : Int) = 1 := by decide
      rw [this, Int.ediv_one]
      omega
    · omega
  rw [e]
  exact wpAny_pure h
theorem pick_rev (xs : Array Value) : ((List.range xs.size).filterMap fun (m : Nat) => xs[((xs.size : Int) - 1 + (m : Int) * (-1)).toNat]?).toArray = xs.toList.reverse.toArray := by
  congr 1
  have e : (List.range xs.size).filterMap (fun (m : Nat) => xs[((xs.size : Int) - 1 + (m : Int) * (-1)).toNat]?) = (List.range xs.size).filterMap (fun (m : Nat) => xs.toList.reverse[m]?) := by
    refine fm_congr fun m hm => ?_
    have hm := List.mem_range.mp hm
    rw [List.getElem?_reverse (by rw [Array.length_toList]; exact hm), Array.getElem?_toList, Array.length_toList]
    congr 1
    omega
  rw [e]
  have l : xs.size = xs.toList.reverse.length := by simp
  rw [l]
  generalize xs.toList.reverse = ys
  refine List.ext_getElem? fun k => ?_
  have : (List.range ys.length).filterMap (fun m => ys[m]?) = ys := by
    induction ys with
    | nil => rfl
    | cons y ys ih =>
      rw [List.length_cons, List.range_succ_eq_map, List.filterMap_cons]
      simp only [List.getElem?_cons_zero]
      rw [List.filterMap_map]
      congr 1
  rw [this]
theorem getItem_rev {t sl : Addr} {items : Array Value} {vl vu vs : Value} {Q : Value → Shared → Prop} (ht : IsTup s.heap t items) (hs : s.heap.IsSliceOf sl vl vu vs) (pl : IsPart vl none) (pu : IsPart vu none) (ps : IsPart vs (some (-1)))
    (h : Q (.ref s.heap.objs.size) { s with heap := s.heap.push { cls := .type "tuple", data := .seq items.toList.reverse.toArray } })
    (hsz : items.size ≤ sizeLine) : wpAny (model prog w) A (getItem (.ref t) (.ref sl)) Q E s := by
  have htake : sizeOk (.seq items.toList.reverse.toArray) := by
    show items.toList.reverse.toArray.size ≤ sizeLine
    rw [List.size_toArray, List.length_reverse, Array.length_toList]
    omega
  obtain ⟨os, hos, hcs, hds⟩ := id hs
  have hTs : s.TypeIs (.ref sl) "slice" := ⟨os, hos, hcs⟩
  unfold getItem
  try with_reducible refine wpAny_holding ?_
  first | refine wpAny_bind (wpAny_pure ?_) | skip
  refine wpAny_bind (wpAny_sequenceKey ht.typeIs (by decide) ?_)
  refine wpAny_bind (wpAny_callSpecial?_slot (name := Str.ofString "__getitem__") ht.typeIs PyProof.Rows.slot_tuple_getitem
    (wpAny_call_entry PyProof.Rows.slot_tuple_getitem ht.typeIs entry_tuple_getitem ?_ (args_tuple_getitem _ _)))
  show wpAny _ _ (Builtin.Tuple.tupleItemsOf (.ref t) >>= _) _ _ s
  refine wpAny_bind (tupleItemsOf_ ht ?_)
  refine wpAny_bind (wpAny_typeOf hTs ?_)
  rw [if_pos (by decide)]
  refine wpAny_bind (applied_rev hs pl pu ps ?_)
  show wpAny _ _ (if (((items.size : Int) - 1) == 0 && (-1 : Int) == 1 && items.size == items.size) = true then _ else _) _ _ s
  rw [if_neg (by rw [show ((-1 : Int) == 1) = false from rfl, Bool.and_false, Bool.false_and]; exact Bool.false_ne_true), pick_rev]
  first
    | exact wpAny_bind (m := Builtin.Tuple.tupleExact _) (wpAny_newObj_type (wpAny_pure ⟨_, rfl, wpAny_pure h⟩) htake)
    | exact wpAny_bind (m := Builtin.Tuple.tupleExact _) (wpAny_newObj_type (wpAny_bind (wpAny_pure (wpAny_pure ⟨_, rfl, wpAny_pure h⟩))) htake)
    | exact wpAny_bind (wpAny_bind (m := Builtin.Tuple.tupleExact _) (wpAny_newObj_type (wpAny_pure (wpAny_pure ⟨_, rfl, wpAny_pure h⟩)) htake))
    | exact wpAny_bind (wpAny_bind (m := Builtin.Tuple.tupleExact _) (wpAny_newObj_type (wpAny_pure ⟨_, rfl, wpAny_pure h⟩) htake))
end
section
variable {X : Cx}
def tRevT (K : PySem.W.Frag) (te : TE) : TE := fun σ H Q => te σ H fun x H1 => ∃ a xs, x = .ref a ∧ SqT K H1 a xs ∧ ∀ p, H1 p = none → Q (.ref p) (upd H1 p (.tup xs.reverse))
theorem pe_revT {e : Expr} {te : TE} {k : Nat} {p1 p2 p3 pos : Pos} (he : PE X e te) : PE X (.Subscript e (.Slice none none (some (.UnaryOp .USub (.Constant (.int 1) k p1) p2)) p3) pos) (tRevT X.K te) := by
  refine ⟨fun pins s σ H Q I h => ?_⟩
  refine Subscript_ (thn (he.run pins s σ H _ I h) fun v s1 ⟨x, H1, I1, r1, q1⟩ => ?_)
  obtain ⟨a, xs, ex, hx, q⟩ := q1
  subst ex
  cases r1
  have hst : PO X (some (.UnaryOp .USub (.Constant (.int 1) k p1) p2)) (tPart (tUn (rU fun i => .int (-i)) (tC (.int 1)))) := po_some (pe_un un_neg pe_int)
  refine wpAny_Slice (thn (po_none.run pins s1 σ H1 (fun o H2 => o = none ∧ H2 = H1) I1 ⟨rfl, rfl⟩) fun vl s2 ⟨l, H2, I2, pl, el, e2⟩ => ?_)
  subst el e2
  refine thn (po_none.run pins s2 σ H2 (fun o H3 => o = none ∧ H3 = H2) I2 ⟨rfl, rfl⟩) fun vu s3 ⟨u, H3, I3, pu, eu, e3⟩ => ?_
  subst eu e3
  refine thn (hst.run pins s3 σ H3 (fun o H4 => o = some (-1) ∧ H4 = H3) I3 ⟨1, rfl, -1, rfl, rfl, rfl⟩) fun vs s4 ⟨o, H4, I4, ps, eo, e4⟩ => ?_
  subst eo e4
  have I5 : Inv X pins σ H4 { s4 with heap := s4.heap.push { cls := .type "slice", data := .fields #[vl, vu, vs] } } := I4.kept (t' := s4.toks) fun b ob q => Heap.get?_push_of_some _ q
  obtain ⟨its, r, ht, hz⟩ := I5.tuple hx
  show wpAny (model X.prog X.w) X.A (subscriptTail e (.Slice none none (some (.UnaryOp .USub (.Constant (.int 1) k p1) p2)) p3) (.ref a) (.ref s4.heap.objs.size)) (EP X pins σ Q) X.xe _
  refine tail_any (ops := [.ref a, .ref s4.heap.objs.size]) ht.typeIs PyProof.Rows.slot_tuple_getitem.lookup ?_ (by with_unfolding_all rfl)
  have hlen : its.toArray.size = xs.length := by rw [List.size_toArray]; exact r.length.symm
  refine getItem_rev ht (Heap.IsSliceOf.new _ vl vu vs) pl pu ps ?_ (by rw [hlen]; exact hz)
  refine ⟨.ref _, _, I5.laid (t' := s4.toks) (o := .tup xs.reverse) (fun b ob q => Heap.get?_push_of_some _ q) (Nat.le_refl _) ?_, rfl, q _ (I5.hok.fresh (Nat.le_refl _))⟩
  exact ⟨by rw [List.length_reverse]; exact hz, _, r.reverse, IsTup.new _ _⟩
end
end TRev

/-! x op y: the class of x has the sign's def and no reflected one, y is an int. -/
namespace Own
open PySem PySem.Spec PyProof.Rows L2
section
variable {prog : Program} {w : World} {A : Around} {E : Value → Shared → Prop} {s : Shared} {K : PySem.W.Frag} {x C L f : Addr} {h₀ : Heap} {m : Str → Option Value} {ox : Obj} {od : Option Obj}
theorem binop_I {op : Operator} {i : Int} {t : Tok} {fo ro : Value} {Q : Value → Shared → Prop} (X : K.In s.heap) (I : PySem.W.InstAt s.heap x ox C od) (hc : PySem.W.selfFirst K C = true)
    (hs : PySem.W.findIn K (.ref C) (PySem.dunder op.info.2) = some (some (.ref f))) (hf : PySem.W.isFn K (.ref f) = true) (hr : PySem.W.findIn K (.ref C) (PySem.dunderR op.info.2) = some none) (ho : PySem.W.subIn K (.type "int") (.ref C) = some false)
    (h1 : PySem.W.findIn K (.type "int") (PySem.dunder op.info.2) = some (some fo)) (h2 : PySem.W.findIn K (.type "int") (PySem.dunderR op.info.2) = some (some ro)) (n1 : isSeqSlot (some fo) = false)
    (h : wpAny (model prog w) A (call (.ref f) [.ref x, .int i t]) (PySem.W.CmpBack Q) E s) : wpAny (model prog w) A (binaryOp op (.ref x) (.int i t)) Q E s := by
  obtain ⟨cd, hcd, hm⟩ := PySem.W.any_some hc
  obtain ⟨rest, hm⟩ : ∃ rest, cd.mro = .ref C :: rest := by
    cases q : cd.mro with
    | nil => rw [q] at hm; cases hm
    | cons a r => rw [q] at hm; exact ⟨r, by rw [List.head?_cons] at hm; cases (beq_iff_eq.mp hm); rfl⟩
  unfold binaryOp
  refine wpAny_holding (wpAny_bind ?_)
  unfold binaryOp1
  refine wpAny_bind (I.type.here (wpAny_bind ?_))
  show wpAny _ _ (pure (Value.type "int") : Sem Value) _ _ _
  refine wpAny_pure (wpAny_bind ((PySem.W.fills_K X hcd hm hs).here ?_))
  have ne : ((Value.ref C) == (Value.type "int")) = false := rfl
  rw [ne]
  simp only [Bool.false_eq_true, if_false, if_true]
  refine wpAny_bind ?_
  have right : PySem.W.Looks (model prog w) s.heap (fillsNumberSlot (.type "int") op.info.2) true := by
    intro A Q E s k q
    unfold fillsNumberSlot
    refine wpAny_bind (PySem.W.looks_findIn X h1 A _ E s k ?_)
    refine wpAny_bind (PySem.W.looks_findIn X h2 A _ E s k ?_)
    refine wpAny_pure ?_
    rw [n1]
    exact q
  refine right.here ?_
  simp only [Bool.and_self, if_true]
  refine wpAny_bind ((PySem.W.looks_subIn X ho).here ?_)
  simp only [Bool.false_eq_true, if_false]
  have mine : PySem.W.Looks (model prog w) s.heap (numberSlotInPython (.ref C) op.info.2) true := by
    intro A Q E s k q
    unfold numberSlotInPython
    refine wpAny_bind (PySem.W.looks_findIn X hs A _ E s k ?_)
    refine wpAny_bind (m := calledByName _ _ _) ?_
    unfold calledByName
    refine wpAny_pure ?_
    refine wpAny_bind (PySem.W.looks_findIn X hr A _ E s k ?_)
    refine wpAny_bind (wpAny_pure ?_)
    exact wpAny_pure q
  refine wpAny_bind (mine.here ?_)
  simp only [if_true]
  refine wpAny_bind (m := numberSlotInPython (.type "int") _) ?_
  unfold numberSlotInPython
  refine wpAny_pure ?_
  simp only [Bool.not_false, if_true]
  refine wpAny_bind ((PySem.W.looks_findIn X h2).here ?_)
  refine wpAny_bind (m := tryMethod (.ref x) _ (.int i t)) ?_
  unfold tryMethod
  refine wpAny_bind (PySem.W.special_fn X I hs (beq_iff_eq.mp hf) (wpAny_mono h (fun v s' hv => ?_) fun _ _ e => e))
  cases v <;> first | exact hv.elim | exact wpAny_pure (wpAny_pure (wpAny_pure hv))
end
section
variable {X : Cx} {CX : CXT} {n : Nat} {C g : Addr} {sp : Sp} {E : XK}
def rBinI (C : Addr) (sp : Sp) (E : XK) : R2 := fun x y H Q => ∃ a dx fs i, x = .ref a ∧ y = .int i ∧ H a = some (.ins C dx fs) ∧ sp [x, y] H Q E
theorem op_binI {op : Operator} {fo ro : Value} (hc : PySem.W.selfFirst X.K C = true) (hs : PySem.W.findIn X.K (.ref C) (PySem.dunder op.info.2) = some (some (.ref g))) (hf : PySem.W.isFn X.K (.ref g) = true) (hr' : PySem.W.findIn X.K (.ref C) (PySem.dunderR op.info.2) = some none)
    (ho : PySem.W.subIn X.K (.type "int") (.ref C) = some false) (h1 : PySem.W.findIn X.K (.type "int") (PySem.dunder op.info.2) = some (some fo)) (h2 : PySem.W.findIn X.K (.type "int") (PySem.dunderR op.info.2) = some (some ro)) (n1 : isSeqSlot (some fo) = false)
    (F : FnR X.prog X.w X.K X.mg X.base CX n g sp) (hr : Room n X.A) (hx : Passes CX X E) : OpR X (binaryOp op) (rBinI C sp E) := by
  intro pins st sl H x y v u Q inv rx ry h
  obtain ⟨a, dx, fs, i, rfl, rfl, ea, h⟩ := h
  obtain rfl : v = Value.ref a := rx
  obtain ⟨t, rfl⟩ := ry
  obtain ⟨_, ja⟩ := insAt inv ea
  exact binop_I inv.kIn ja hc hs hf hr' ho h1 h2 n1 (run2 (y := .int i) F hr hx inv ⟨t, rfl⟩ h)
end
end Own

/-! list(d.values()). -/
namespace LiV
open PySem PySem.Spec PyProof.Rows L2
def tListVals (te : TE) : TE := fun σ H Q => te σ H fun x H1 => ∃ (d : Addr) (kvs : List (Key × V)), x = .ref d ∧ H1 d = some (.dK kvs) ∧ ∀ p, H1 p = none → Q (.ref p) (upd H1 p (.lst (kvs.map (·.2))))
theorem vals_get {kvs : List (Key × V)} {vs : List (Key × Value)} {acc : List Value} (kv : KV kvs vs) (hl : acc.length = vs.length) (h : ∀ (j : Nat) (v : Value), acc[j]? = some v → ∃ k, vs[j]? = some (k, v)) : Vals (kvs.map (·.2)) acc := by
  induction kv generalizing acc with
  | nil => cases acc with
    | nil => exact .nil
    | cons _ _ => cases hl
  | @cons a b l1 l2 r t ih =>
    cases acc with
    | nil => cases hl
    | cons x acc =>
      obtain ⟨k, e⟩ := h 0 x rfl
      have e : b = (k, x) := by simpa using e
      subst e
      refine .cons r.2 (ih (by simpa using hl) fun j v q => ?_)
      obtain ⟨k', e'⟩ := h (j + 1) v (by simpa using q)
      exact ⟨k', by simpa using e'⟩
section
variable {X : Cx} {e : Expr} {te : TE} {p apos cpos pos : Pos}
theorem pe_listVals (hc : X.calm = true) (he : PE X e te) (hg : Gl X "list") (hm : X.mg "list" = none) (hv : bootBuiltins "list" = some (.type "list")) (hbase : attributeBase e "values" X.env (eval e X.env) = eval e X.env := by rfl) (hline : (apos.endLine == cpos.line) = true := by rfl)
    (hs : starEach [.Call (.Attribute e "values" apos) [] [] cpos] X.env = (false, eval (.Call (.Attribute e "values" apos) [] [] cpos) X.env) :: starEach [] X.env := by rfl) :
    PE X (.Call (.Name "list" p) [.Call (.Attribute e "values" apos) [] [] cpos] [] pos) (tListVals te) := by
  refine ⟨fun pins s σ H Q I hq => ?_⟩
  refine wpAny_Call_Name_kw (ld_blt I hg hm hv ?_)
  refine PyProof.Rows.callWith_type1 ?_ hs rfl
  rw [hs]
  show wpAny _ _ (spliced ((false, eval (.Call (.Attribute e "values" apos) [] [] cpos) X.env) :: backTo pos (starEach [] X.env))) _ _ s
  refine Calls.spliced_cons ?_
  refine wpAny_Call_method (T := "dict") (id := "dict.values") hbase rfl hline F.plainAttrs_dict F.slot_dict_values F.type_dict_values (thn (he.run pins s σ H _ I hq) fun u s1 ⟨x, H1, I1, rx, d, kvs, ex, hd, q⟩ => ?_)
  subst ex
  obtain rfl : u = Value.ref d := rx
  obtain ⟨hz, hs0, vs, kv, hdo⟩ := I1.hok d _ hd
  obtain ⟨ep, hat⟩ := hdo.dictAt
  have lk : kvs.length = vs.length := Paired.length kv
  have I2 : Inv X pins σ H1 { s1 with heap := s1.heap.push { cls := .type "dict_values", data := .fields #[.ref d] } } := I1.kept (t' := s1.toks) fun b ob q => Heap.get?_push_of_some _ q
  refine ⟨hdo.typeIs, hdo.mapOf.noDict, ?_⟩
  show wpAny _ _ (callWith cpos (.builtin "dict.values") [.ref d] [] []) _ X.xe s1
  refine method_meetsIn F.slot_dict_values F.entry_dict_values rfl (PySem.evalArgs_none ⟨rfl, hdo.typeIs, F.args_dict_values_1 _, _, meets_dict_values (mixKind X.prog X.w) d hs0, ⟨vs, hdo⟩, ?_⟩)
  refine Calls.spliced_nil ?_
  refine PySem.W.kdl_call (PySem.W.kdl_values (knd := mixKind X.prog X.w) (d := d) (kvs := vs) (ep := ep)) (I1.ok.hd hc) ⟨⟨_, Heap.get?_push_size _ rfl, rfl, rfl⟩, hat.push _⟩ (by omega) fun h' tk acc c' hk hD hacc => ?_
  have hvv : Vals (kvs.map (·.2)) acc.toList := vals_get kv (by rw [Array.length_toList]; exact hacc.1) fun j v e => hacc.2 j v (by rw [← Array.getElem?_toList]; exact e)
  exact ⟨.ref _, upd H1 _ (.lst (kvs.map (·.2))), I2.laid (t' := tk) hk (Nat.le_refl _) (show ObjOk X.prog X.w _ _ _ (.lst (kvs.map (·.2))) from ⟨by rw [List.length_map]; exact hz, acc.toList, c', hvv, by rw [Array.toArray_toList]; exact hD⟩), rfl, q _ (I2.hok.fresh (Nat.le_refl _))⟩
end
end LiV

/-! (v,) * k, k from 0 on. -/
namespace TOne
open PySem PySem.Spec PyProof.Rows L2
open PySem.AutoSeq1 (wpAny_loadPart')
theorem mul_one (l : Addr) (items : Array Value) (n : Nat) (dd : Option Addr) (sl : Array (Option Value)) (u : Tok) :
    Meets (Builtin.«tuple.__mul__» ⟨[.ref l, .int 1 u], []⟩) (fun _ R s => s.heap.get? l = some { cls := .type "tuple", dict := dd, data := .seq items n, slots := sl } ∧ R (.ok (.ret (.ref l))) s) :=
  .of_wp fun prog w A R s h => by
    obtain ⟨hp, g, d, tk, os⟩ := s
    obtain ⟨hl, h⟩ := h
    have f1 := AutoSeq1.idx_int
    have c1 : (items.isEmpty || (1 : Int) == 1) = true := by simp
    wp_walk using wpAny_loadPart' hl
    exact ⟨_, rfl, h⟩
theorem mul_zero (l : Addr) (items : Array Value) (n : Nat) (dd : Option Addr) (sl : Array (Option Value)) (u : Tok) (hi : items.isEmpty = false) :
    Meets (Builtin.«tuple.__mul__» ⟨[.ref l, .int 0 u], []⟩) (fun _ R s => s.heap.get? l = some { cls := .type "tuple", dict := dd, data := .seq items n, slots := sl } ∧
      R (.ok (.ret (Value.ref s.heap.objs.size))) { s with heap := s.heap.push { cls := Value.type "tuple", data := Data.seq #[] }, toks := s.toks }) :=
  .of_wp fun prog w A R s h => by
    obtain ⟨hp, g, d, tk, os⟩ := s
    obtain ⟨hl, h⟩ := h
    have f1 := AutoSeq1.idx_int
    have c1 : (items.isEmpty || (0 : Int) == 1) = false := by rw [hi]; rfl
    have c2 : (decide ((0 : Int) ≤ 0) || items.isEmpty) = true := by simp
    wp_walk using wpAny_loadPart' hl
    repeat (first
      | (refine wpAny_ite_false (decide_eq_false (by rw [c1]; exact Bool.false_ne_true)) ?_; wp_walk using wpAny_loadPart' hl)
      | (refine wpAny_ite_true (decide_eq_true c2) ?_; wp_walk using wpAny_loadPart' hl))
    exact ⟨_, rfl, h⟩
def rRep1 (K : PySem.W.Frag) : R2 := fun x y H Q => ∃ (l : Addr) (k : Nat) (v : V), x = .ref l ∧ y = .int (k : Nat) ∧ SqT K H l [v] ∧ k ≤ 1000 ∧ ∀ p H', Same H H' → SqT K H' p (List.replicate k v) → Q (.ref p) H'
section
variable {X : Cx}
theorem op_rep1 : OpR X (binaryOp .Mult) (rRep1 X.K) := by
  intro pins s σ H x y v u Q I rx ry h
  obtain ⟨l, k, v0, rfl, rfl, hT, hz, q⟩ := h
  by_cases h2 : 2 ≤ k
  · refine op_repT pins s σ H _ _ v u Q I rx ry ⟨l, (k : Nat), [v0], rfl, rfl, hT, (fun z => nomatch z), by omega, by omega, by simp, fun p hp => q p _ (fun b o e => by rw [upd_ne (fun z => by rw [z, hp] at e; cases e)]; exact e) (SqT.of ?_)⟩
    rw [upd_same, Int.toNat_natCast]
    congr 2
    clear h2 q hz ry
    induction k with
    | zero => rfl
    | succ k ih => rw [List.replicate_succ, List.flatten_cons, ih, List.replicate_succ]; rfl
  · cases rx
    obtain ⟨t, rfl⟩ := ry
    obtain ⟨its, r, ⟨⟨cls, dd, data, sl⟩, ho, hc, n, hd⟩, hs⟩ := I.tuple hT
    simp only at hc hd
    subst hc hd
    have hle : its.length = 1 := r.length.symm
    have hi : its.toArray.isEmpty = false := by
      cases its with
      | nil => cases hle
      | cons a b => rfl
    match k, h2, q with
    | 1, _, q =>
      refine wpAny_binaryOp_repeat_ref (T := "tuple") (U := "int") (by decide) ⟨_, ho, rfl⟩ (fun s' => typeIs_int s' 1 t) noFill_tuple_mul F.fills_int_mul F.slot_int_rmul repeat_tuple F.slot_int_index.lookup
        (call_meets F.slot_int_rmul (typeIs_int s 1 t) F.entry_int_rmul (F.args_int_rmul_2 _ _) (int_rmul_tuple 1 t l its.toArray n dd sl)
          ⟨ho, rfl, ⟨_, ho, rfl⟩, call_meets F.slot_tuple_mul ⟨_, ho, rfl⟩ F.entry_tuple_mul (F.args_tuple_mul_2 _ _) (mul_one l its.toArray n dd sl t) ⟨ho, ?_⟩⟩)
      exact ⟨.ref l, _, I, rfl, q l H (fun _ _ e => e) hT⟩
    | 0, _, q =>
      refine wpAny_binaryOp_repeat_ref (T := "tuple") (U := "int") (by decide) ⟨_, ho, rfl⟩ (fun s' => typeIs_int s' 0 t) noFill_tuple_mul F.fills_int_mul F.slot_int_rmul repeat_tuple F.slot_int_index.lookup
        (call_meets F.slot_int_rmul (typeIs_int s 0 t) F.entry_int_rmul (F.args_int_rmul_2 _ _) (int_rmul_tuple 0 t l its.toArray n dd sl)
          ⟨ho, rfl, ⟨_, ho, rfl⟩, call_meets F.slot_tuple_mul ⟨_, ho, rfl⟩ F.entry_tuple_mul (F.args_tuple_mul_2 _ _) (mul_zero l its.toArray n dd sl t hi) ⟨ho, ?_⟩⟩)
      have np : H s.heap.objs.size = none := I.hok.fresh (Nat.le_refl _)
      refine ⟨.ref s.heap.objs.size, _, I.laid (t' := s.toks) (o := .tup []) (fun b ob e => Heap.get?_push_of_some _ e) (Nat.le_refl _) ?_, rfl, q _ _ (fun b o e => by rw [upd_ne (fun z => by rw [z, np] at e; cases e)]; exact e) (SqT.of upd_same)⟩
      exact ⟨by show 0 ≤ sizeLine; decide, _, .nil, IsTup.new _ _⟩
    | k + 2, h2, _ => exact absurd (Nat.le_add_left 2 k) h2
end
end TOne

/-! x in o, x not in o: o an instance whose class has its own __contains__ that gives a bool. -/
namespace Own
open PySem PySem.Spec PyProof.Rows L2
section
variable {M : Model} {A : Around} {E : Value → Shared → Prop} {s : Shared} {K : PySem.W.Frag} {a C g : Addr} {ox : Obj} {od : Option Obj} {v : Value}
theorem contains_own {Q : Bool → Shared → Prop} (X : K.In s.heap) (I : PySem.W.InstAt s.heap a ox C od) (hs : PySem.W.findIn K (.ref C) "__contains__" = some (some (.ref g))) (hf : PySem.W.isFn K (.ref g) = true)
    (h : wpAny M A (call (.ref g) [.ref a, v]) (fun r s' => ∃ b, r = .bool b ∧ Q b s') E s) : wpAny M A (contains (.ref a) v) Q E s := by
  have sp : ∀ {R : Option Value → Shared → Prop}, R (some (.ref g)) s → wpAny M A (specialOf (.ref a) "__contains__") R E s := fun {R} r => wpAny_bind (I.type.here ((PySem.W.looks_findIn X hs).here r))
  unfold contains
  refine wpAny_holding ?_
  refine wpAny_bind (sp ?_)
  rw [if_neg (show ¬ ((some (Value.ref g) == some Value.none) = true) from Bool.false_ne_true)]
  have call' : wpAny M A (callSpecialUnlessNone? (.ref a) "__contains__" [v] (do rule "in.none"; raiseError "TypeError" s!"'{← typeNameOf (.ref a)}' object is not a container")) (fun r s' => ∃ b, r = some (Value.bool b) ∧ Q b s') E s := by
    simp only [callSpecialUnlessNone?]
    refine wpAny_bind (sp ?_)
    refine wpAny_holding ?_
    refine wpAny_bind ((PySem.W.bind_fn X _ (beq_iff_eq.mp hf)).here ?_)
    show wpAny _ _ (if (Value.ref g == Value.none) = true then _ else _) _ _ _
    rw [if_neg (show ¬ ((Value.ref g == Value.none) = true) from Bool.false_ne_true)]
    refine wpAny_bind (wpAny_mono h (fun r s' z => ?_) fun _ _ z => z)
    obtain ⟨b, rfl, q⟩ := z
    exact wpAny_pure ⟨b, rfl, q⟩
  show wpAny M A (callSpecialUnlessNone? (.ref a) "__contains__" [v] _ >>= _) Q E s
  refine wpAny_bind (wpAny_mono call' (fun r s' z => ?_) fun _ _ z => z)
  obtain ⟨b, rfl, q⟩ := z
  exact wpAny_truthy_bool q
end
section
variable {X : Cx} {CX : CXT} {n : Nat} {C g : Addr} {sp : Sp} {E : XK}
def rInO (neg : Bool) (C : Addr) (sp : Sp) (E : XK) : V → V → Hp → VK → Prop := fun x y H Q => ∃ a dx fs, y = .ref a ∧ H a = some (.ins C dx fs) ∧ sp [y, x] H (fun v H' => ∃ b, v = .bl b ∧ Q (.bl (if neg then !b else b)) H') E
theorem in_run (hs : PySem.W.findIn X.K (.ref C) "__contains__" = some (some (.ref g))) (hf : PySem.W.isFn X.K (.ref g) = true) (F : FnR X.prog X.w X.K X.mg X.base CX n g sp) (hr : Room n X.A) (hx : Passes CX X E)
    {pins : List (Addr × Obj)} {st : Shared} {sl : L2.St} {H : Hp} {x : V} {a dx : Addr} {fs : List (Str × V)} {u : Value} {Q : Bool → Hp → Prop} {R : Bool → Shared → Prop} (inv : Inv X pins sl H st) (rx : RelV x u) (ea : H a = some (.ins C dx fs))
    (h : sp [.ref a, x] H (fun v H' => ∃ b, v = .bl b ∧ Q b H') E) (go : ∀ b st' H', Inv X pins sl H' st' → Q b H' → R b st') : wpAny (model X.prog X.w) X.A (contains (.ref a) u) R X.xe st := by
  obtain ⟨_, ja⟩ := insAt inv ea
  refine contains_own inv.kIn ja hs hf (wpAny_mono (wpAny_call (run_fnR (us := [.ref a, u]) (vs := [.ref a, x]) F hr hx inv (.cons rfl (.cons rx .nil)) h)) (fun r st' z => ?_) fun _ _ z => z)
  obtain ⟨y, H', inv', ry, b, rfl, q⟩ := z
  obtain rfl : r = Value.bool b := ry
  exact ⟨b, rfl, go b st' H' inv' q⟩
theorem op_inO (hs : PySem.W.findIn X.K (.ref C) "__contains__" = some (some (.ref g))) (hf : PySem.W.isFn X.K (.ref g) = true) (F : FnR X.prog X.w X.K X.mg X.base CX n g sp) (hr : Room n X.A) (hx : Passes CX X E) : OpR X (compareOp .In) (rInO false C sp E) := by
  intro pins st sl H x y v u Q inv rx ry h
  obtain ⟨a, dx, fs, rfl, ea, h⟩ := h
  obtain rfl : u = Value.ref a := ry
  show wpAny _ _ (contains (.ref a) v >>= fun b => pure (Value.bool b)) _ _ _
  refine wpAny_bind (in_run hs hf F hr hx inv rx ea h fun b st' H' inv' q => wpAny_pure ⟨.bl b, H', inv', rfl, q⟩)
theorem op_notInO (hs : PySem.W.findIn X.K (.ref C) "__contains__" = some (some (.ref g))) (hf : PySem.W.isFn X.K (.ref g) = true) (F : FnR X.prog X.w X.K X.mg X.base CX n g sp) (hr : Room n X.A) (hx : Passes CX X E) : OpR X (compareOp .NotIn) (rInO true C sp E) := by
  intro pins st sl H x y v u Q inv rx ry h
  obtain ⟨a, dx, fs, rfl, ea, h⟩ := h
  obtain rfl : u = Value.ref a := ry
  show wpAny _ _ (contains (.ref a) v >>= fun b => pure (Value.bool (!b))) _ _ _
  refine wpAny_bind (in_run hs hf F hr hx inv rx ea h fun b st' H' inv' q => wpAny_pure ⟨.bl (!b), H', inv', rfl, q⟩)
end
end Own

/-! GenFor: for in a generator def's body. -/
namespace GenW2
open PySem
section
variable {M : Model} {A : Around} {R : GenEnd} {Y : Protocol} {n : Nat} {s₀ : Shared} {c : Code} {fs : List Frame} {s : Shared} {env : Env}
  {K : Flow → Sem Fin} {H : Value → Sem Fin} {gd : Bool → Bool} {lv : List Value → List Value}
theorem seg_For {target iter : Expr} {body : List Stmt} {pos : Pos}
    (h : wpAny M (A.over c fs) (eval iter env) (fun x s₁ => wpAny M (A.over c fs) (pyIter x) (fun it s₂ => ∀ p, Seg M A R Y n s₀ (.forLoop target it body [] env) (M.den (.forLoop target it body [] env))
      (.ret (fun r => ((match r with | .ok f => (.pure f : Sem Flow) | .error e => .raise e).onRaise fun (x : Value) => do
        if (← field x 1) == Value.none then unsupported "frame.own-activation:exception-without-traceback"
        setFlight x env.frame).wrap K H gd lv) none (gd false) (lv []) c p [] :: fs) s₂) (fun e s' => Seg M A R Y n s₀ c (H e) fs s') s₁) (fun e s' => Seg M A R Y n s₀ c (H e) fs s') s)
    (hs : ∀ x, foldedSetIterable iter env x = pure x := by intro _; rfl) :
    Seg M A R Y n s₀ c ((exec (.For target iter body [] pos) env).wrap K H gd lv) fs s := by
  rw [exec_For]
  refine seg_bind_wrap (wpAny_standAt ?_)
  refine seg_bind_wrap (wpAny_mono h (fun x s₁ h₁ => ?_) (fun e s' he => he))
  refine seg_bind_wrap (wpAny_of_eq (hs x) ?_)
  refine seg_bind_wrap (wpAny_standAt ?_)
  refine seg_bind_wrap (wpAny_holding (wpAny_mono h₁ (fun it s₂ h₂ => ?_) fun _ _ z => z))
  exact seg_call h₂
end
section
variable {prog : Program} {w : World} {A : Around} {R : GenEnd} {Y : Protocol} {n : Nat} {s₀ : Shared} {fs : List Frame} {s : Shared} {env : Env}
theorem seg_forLoop {target : Expr} {it : Value} {body : List Stmt}
    (h : wpAny (model prog w) (A.over (.forLoop target it body [] env) fs) (pyNext it) (fun r s' => match r with
        | none => Seg (model prog w) A R Y n s₀ (.block [] env) ((model prog w).den (.block [] env)) fs s'
        | some v => wpAny (model prog w) (A.over (.forLoop target it body [] env) fs) (letOwnedTupleGo target it v) (fun _ s₁ => wpAny (model prog w) (A.over (.forLoop target it body [] env) fs) (assign target env v) (fun _ s₂ =>
          Seg (model prog w) A R Y n s₀ (.forLoop target it body [] env) ((execs body env).wrap (fun f => match f with
            | .next | .cont => .pure (.again (.forLoop target it body [] env))
            | .brk => .pure (.done .next)
            | .ret v => .pure (.done (.ret v))) (fun e => (do noteFrame e env; theTreesLotGoes e : Sem Unit).wrap (fun _ => .raise e) .raise id id) id id) fs s₂)
            (fun x s' => Seg (model prog w) A R Y n s₀ (.forLoop target it body [] env) ((do noteFrame x env; theTreesLotGoes x : Sem Unit).wrap (fun _ => .raise x) .raise id id) fs s') s₁)
            (fun x s' => Seg (model prog w) A R Y n s₀ (.forLoop target it body [] env) ((do noteFrame x env; theTreesLotGoes x : Sem Unit).wrap (fun _ => .raise x) .raise id id) fs s') s')
      (fun x s' => Seg (model prog w) A R Y n s₀ (.forLoop target it body [] env) ((do noteFrame x env; theTreesLotGoes x : Sem Unit).wrap (fun _ => .raise x) .raise id id) fs s') s) :
    Seg (model prog w) A R Y n s₀ (.forLoop target it body [] env) ((model prog w).den (.forLoop target it body [] env)) fs s := by
  show Seg _ A R Y n s₀ _ ((forTurn target it body [] env).onRaise (fun x => do noteFrame x env; theTreesLotGoes x)) fs s
  have ex : ∀ {x s'}, Seg (model prog w) A R Y n s₀ (.forLoop target it body [] env) ((do noteFrame x env; theTreesLotGoes x : Sem Unit).wrap (fun _ => .raise x) .raise id id) fs s' →
      Seg (model prog w) A R Y n s₀ (.forLoop target it body [] env) ((do noteFrame x env; theTreesLotGoes x : Sem Unit).bind fun _ => (.raise x : Sem Fin)) fs s' := fun {x s'} hx => by
    rw [Sem.bind_eq_wrap]; exact hx
  unfold forTurn
  rw [Sem.onRaise_eq_wrap]
  refine seg_bind_wrap (wpAny_standAt ?_)
  refine seg_bind_wrap (wpAny_onRaise (wpAny_mono h (fun r s₁ h₁ => ?_) fun e s' he => wpAny_standAt (ex he)))
  cases r with
  | none => exact seg_again rfl h₁
  | some v =>
    refine seg_bind_wrap (wpAny_mono h₁ (fun _ s₂ h₂ => ?_) fun e s' he => ex he)
    refine seg_bind_wrap (wpAny_mono h₂ (fun _ s₃ h₃ => ?_) fun e s' he => ex he)
    rw [Sem.bind_eq_wrap', Sem.wrap_wrap]
    rw [Sem.wrap_congr (execs body env) _ _ (K' := fun f => match f with
            | .next | .cont => .pure (.again (.forLoop target it body [] env))
            | .brk => .pure (.done .next)
            | .ret v => .pure (.done (.ret v))) (H' := (fun e => (do noteFrame e env; theTreesLotGoes e : Sem Unit).wrap (fun _ => .raise e) .raise id id))
        (fun f => by cases f <;> rfl)
        (fun e => by first | exact Sem.bind_eq_wrap _ _ | (show (do noteFrame e env; theTreesLotGoes e : Sem Unit).bind (fun _ => .raise e) = _; rw [Sem.bind_eq_wrap]))]
    exact h₃
end
end GenW2
namespace L2
open PySem PySem.Spec PyProof.Rows GenW
section
variable {X : Cx}
/-- the reading of a generator's for: W tells what is out too -/
def tGFor (wi : TI) (g : TG) (tb : TGn) : TGn := fun D ys σ H => wi σ H fun J H1 => ∃ W : Nat → Nat → List V → St → Hp → Prop, (∃ m, W 0 m ys σ H1) ∧ ∀ i m ys σ H, W i m ys σ H →
  (J.stop i H ∧ D.nx ys σ H) ∨ (J.go i H ∧ ∃ N : List V → St → Hp → Prop, (∀ ys' σ' H', N ys' σ' H' → ∃ m', m' < m ∧ W (i + 1) m' ys' σ' H') ∧ ∀ x H', J.yld i H x H' → g x σ H' fun σ2 H2 => tb { D with nx := N, ct := N, bk := D.nx } ys σ2 H2)
theorem gs_for {tg iter : Expr} {body : List Stmt} {wi : TI} {g : TG} {tb : TGn} {pos : Pos} (hp : PassesOwn (model X.prog X.w) X.A X.env X.xe) (hc : X.calm = true) (hi : PI X tg iter wi) (hg : PG X tg g) (hb : GSs X body tb)
    (hs : ∀ x, foldedSetIterable iter X.env x = pure x := by intro _; rfl) : GS X (.For tg iter body [] pos) (tGFor wi g tb) := by
  refine ⟨fun A S ip R n ys s₀ c fs K J0 gd lv s σ H D gc hn k hI ht => ?_⟩
  obtain ⟨acc0, cc0, r0, I⟩ := hI
  refine GenW2.seg_For ?_ hs
  rw [gc.over]
  refine wpAny_mono (hi.run _ s σ H _ I ht) (fun v s1 h1 => wpAny_mono h1 (fun itv s2 h2 => ?_) fun x s' hx => k.exc n s₀ x s' hx) fun x s' hx => k.exc n s₀ x s' hx
  obtain ⟨it, fp, tn, J, H2, e, I2, T, st2, f2, W, ⟨m0, w0⟩, turn⟩ := h2
  subst e
  intro p
  have hS : ∀ b ∈ fp, b ≠ S := fun b hb z => (f2 b hb).2.2.2.2.2 (S, lstObj acc0 cc0) (List.mem_append_right _ List.mem_cons_self) z.symm
  have stat : ∀ {H' : Hp} (acc : Array Value) (cc : Nat), (∀ b ∈ fp, H' b = none) → ∀ b ∈ fp, FpOk X ((S, lstObj acc cc) :: ip) H' b := fun acc cc hn b hb => by
    obtain ⟨_, a1, a2, a3, a4, a5⟩ := f2 b hb
    refine ⟨hn b hb, a1, a2, a3, a4, fun q hq => ?_⟩
    rcases List.mem_append.mp hq with hq | hq
    · exact a5 q (List.mem_append_left _ hq)
    · rcases List.mem_cons.mp hq with hq | hq
      · rw [hq]
        exact fun z => hS b hb z.symm
      · exact a5 q (List.mem_append_right _ (List.mem_cons_of_mem _ hq))
  have gl := fun (kk : Result → Sem PySem.Fin) => gc_loop (k := kk) (c' := .forLoop tg (.ref it) body [] X.env) (l := lv []) (kp := []) (p := p) gc rfl rfl
  have gb := fun (kk : Result → Sem PySem.Fin) => gc_loop (k := kk) (c' := .block [] X.env) (l := lv []) (kp := []) (p := p) gc rfl rfl
  have loop : ∀ (m i n : Nat) (ys : List V) (s₀ s : Shared) (σ : St) (H : Hp), n + ys.length = sizeLine → W i m ys σ H → GI X S ip ys σ H s → tn i s.heap → (∀ b ∈ fp, H b = none) →
      Seg (model X.prog X.w) A R (GY X S) n s₀ (.forLoop tg (.ref it) body [] X.env) ((model X.prog X.w).den (.forLoop tg (.ref it) body [] X.env))
        (.ret (fun r => ((match r with | .ok f => (.pure f : Sem Flow) | .error e => .raise e).onRaise (cameBack X.env)).wrap K J0 gd lv) none (gd false) (lv []) c p [] :: fs) s := by
    intro m
    induction m using Nat.strongRecOn with
    | ind m ih =>
      intro i n ys s₀ s3 σ3 H3 hn w3 hI st3 fr3
      have ee : ∀ (n : Nat) (s₀ : Shared) (x : Value) (s' : Shared), X.xe x s' → Seg (model X.prog X.w) A R (GY X S) n s₀ (.forLoop tg (.ref it) body [] X.env)
          ((do noteFrame x X.env; theTreesLotGoes x : Sem Unit).wrap (fun _ => .raise x) .raise id id)
          (.ret (fun r => ((match r with | .ok f => (.pure f : Sem Flow) | .error e => .raise e).onRaise (cameBack X.env)).wrap K J0 gd lv) none (gd false) (lv []) c p [] :: fs) s' := fun n s₀ x s' hx => by
        refine seg_wrap ?_
        rw [(gl _).over]
        refine wpAny_bind (wpAny_mono (hp x s' hx) (fun _ s'' hcb => wpAny_theTreesLotGoes ?_) fun y s'' hcb => ?_)
        · exact seg_leaf (.error x) (seg_cameBack gc k hcb)
        · exact seg_leaf (.error y) (seg_cameBack gc k hcb)
      refine GenW2.seg_forLoop ?_
      rw [(gl _).over]
      obtain ⟨acc, cc, r, I3⟩ := hI
      rcases turn i m ys σ3 H3 w3 with ⟨stop, qn⟩ | ⟨go, N, hN, step⟩
      · refine wpAny_mono (T.done X rfl rfl rfl hc i _ s3 σ3 H3 X.xe I3 (stat acc cc fr3) st3 stop) (fun r0 s4 ⟨hr, I4⟩ => ?_) fun x s' hx => ee n s₀ x s' hx
        subst hr
        exact seg_leaf (.ok .next) (k.ok n ys s₀ s4 .next hn ⟨σ3, H3, ⟨acc, cc, r, I4⟩, qn⟩)
      · refine wpAny_mono (T.item X rfl rfl rfl hc i _ s3 σ3 H3 X.xe I3 (stat acc cc fr3) st3 go) (fun r0 s4 ⟨u, hr, h4⟩ => ?_) fun x s' hx => ee n s₀ x s' hx
        subst hr
        refine wpAny_mono h4 (fun _ s5 ⟨x, H5, I5, r5, y5, st5, fr5⟩ => ?_) fun x s' hx => ee n s₀ x s' hx
        have I5' := I5.pinned (stat acc cc fr5) (T.obj _ _ st5)
        refine wpAny_mono (hg.run _ s5 σ3 H5 x u _ I5' r5 (step x H5 y5)) (fun _ s6 ⟨σ6, H6, I6, q6⟩ => ?_) fun x s' hx => ee n s₀ x s' hx
        have gcb : GC X S (ip ++ pinsAt fp s5.heap) A (.forLoop tg (.ref it) body [] X.env) (.ret (fun r => ((match r with | .ok f => (.pure f : Sem Flow) | .error e => .raise e).onRaise (cameBack X.env)).wrap K J0 gd lv) none (gd false) (lv []) c p [] :: fs) id :=
          { gl _ with ip := fun q hq => (List.mem_append.mp hq).elim (fun z => gc.ip q z) fun z => hS _ (of_pinsAt z).1 }
        have back : ∀ {ys7 : List V} {σ7 : St} {H7 : Hp} {s7 : Shared}, GI X S (ip ++ pinsAt fp s5.heap) ys7 σ7 H7 s7 → GI X S ip ys7 σ7 H7 s7 := fun {ys7 σ7 H7 s7} ⟨a7, c7, r7, I7⟩ => ⟨a7, c7, r7, Inv.unpinned (pins := (S, lstObj a7 c7) :: ip) I7⟩
        have again : ∀ {n' : Nat} {s₀' : Shared} {ys7 : List V} {σ7 : St} {H7 : Hp} {s7 : Shared}, n' + ys7.length = sizeLine → GI X S (ip ++ pinsAt fp s5.heap) ys7 σ7 H7 s7 → N ys7 σ7 H7 →
            Seg (model X.prog X.w) A R (GY X S) n' s₀' (.forLoop tg (.ref it) body [] X.env) ((model X.prog X.w).den (.forLoop tg (.ref it) body [] X.env))
              (.ret (fun r => ((match r with | .ok f => (.pure f : Sem Flow) | .error e => .raise e).onRaise (cameBack X.env)).wrap K J0 gd lv) none (gd false) (lv []) c p [] :: fs) s7 := fun {n' s₀' ys7 σ7 H7 s7} hn7 g7 n7 => by
          obtain ⟨m', hm, w7⟩ := hN ys7 σ7 H7 n7
          obtain ⟨a7, c7, r7, I7⟩ := g7
          refine ih m' hm (i + 1) n' ys7 s₀' s7 σ7 H7 hn7 w7 (back ⟨a7, c7, r7, I7⟩) (T.keep _ _ _ st5 fun b hb o e => (I7.pin (b, o) (List.mem_append_right _ (List.mem_cons_of_mem _ (List.mem_append_right _ (mem_pinsAt hb e))))).1) fun b hb => ?_
          obtain ⟨o, e, d⟩ := T.obj _ _ st5 b hb
          exact (I7.pin (b, o) (List.mem_append_right _ (List.mem_cons_of_mem _ (List.mem_append_right _ (mem_pinsAt hb e))))).2.1
        refine hb.run A S (ip ++ pinsAt fp s5.heap) R n ys s₀ _ _ _ _ id id s6 σ6 H6 { D with nx := N, ct := N, bk := D.nx } gcb hn ⟨fun n' ys' s₀' s7 f hn' hs => ?_, fun n' s₀' x s7 hx => ee n' s₀' x s7 hx⟩ ⟨acc, cc, r, I6⟩ q6
        cases f with
        | next =>
          obtain ⟨σ7, H7, I7, n7⟩ := hs
          exact seg_again rfl (again hn' I7 n7)
        | cont =>
          obtain ⟨σ7, H7, I7, n7⟩ := hs
          exact seg_again rfl (again hn' I7 n7)
        | brk =>
          obtain ⟨σ7, H7, I7, n7⟩ := hs
          exact seg_leaf (.ok .next) (k.ok n' ys' s₀' s7 .next hn' ⟨σ7, H7, back I7, n7⟩)
        | ret v =>
          obtain ⟨v7, σ7, H7, I7, r7, n7⟩ := hs
          exact seg_leaf (.ok (.ret v)) (k.ok n' ys' s₀' s7 (.ret v) hn' ⟨v7, σ7, H7, back I7, r7, n7⟩)
  exact loop m0 0 n ys s₀ s2 σ H2 hn w0 ⟨acc0, cc0, r0, I2⟩ st2 fun b hb => (f2 b hb).1
end
end L2

/-! GenStar: a generator def with a star. -/
namespace GSt
open PySem PySem.Spec PyProof.Rows GenW L2
section
variable {P : Program} {w : World} {K : PySem.W.Frag} {mg : Str → Option Value} {base : Heap} {k : Nat} {f : Addr} {name qual : Str} {params : Arguments} {body : List Stmt} {scope : Scope} {dV kV doc pm cdv ct oc : Value} {an od : Option Addr}
  {osl : Array (Option Value)} {N ps : List Str} {A : Around} {outer : List Env} {s s1 s2 : Shared} {H : Hp} {E : XK} {us : List Value} {vs : List V} {Q : List V → Hp → Prop} {go : Obj} {S : Addr}
abbrev Made (s s1 : Shared) (qual : Str) (scope : Scope) (f : Addr) (cdv : Value) (ps : List Str) (us : List Value) : Prop :=
  InCallC s s.heap.objs.size (bindL (envOfC qual scope s.heap.objs.size f cdv).kindOf (ps.zip us) fun _ => none) (cellsFrom (s.heap.objs.size + 1) scope.names []) (bindC (envOfC qual scope s.heap.objs.size f cdv).kindOf (ps.zip us) fun _ => none) s1
/-- what is laid after the frame is none of the frame's -/
theorem young {pn : List (Addr × Obj)} (I : Inv (gcxOf P w K mg base N qual scope f cdv A outer s H E pn) [] (start N vs) H s1) {b : Addr} (hb : s1.heap.objs.size ≤ b) :
    H b = none ∧ b ≠ s.heap.objs.size ∧ b ∉ frs outer ∧ s.heap.objs.size ≤ b ∧ ∀ y c, (cellsFrom (s.heap.objs.size + 1) scope.names []).lookup y = some c → c ≠ b := by
  have lt : s.heap.objs.size < s1.heap.objs.size := I.lt
  refine ⟨I.hok.fresh hb, Nat.ne_of_gt (Nat.lt_of_lt_of_le lt hb), I.nofs hb, Nat.le_of_lt (Nat.lt_of_lt_of_le lt hb), fun y c e z => ?_⟩
  obtain ⟨v, q⟩ := I.cell y c e
  exact absurd (Nat.lt_of_lt_of_le q.lt (z ▸ hb)) (Nat.lt_irrefl _)
/-- the body begins: the generator's own object is pinned, the consumer's list is empty -/
theorem gi_begin (S0 : GScope N ps scope) (hd : A.handled = none) (e0 : Env0 P w K mg base A outer s H) (hl : vs.length = ps.length) (r : Vals vs us) (x : Made s s1 qual scope f cdv ps us) (hos : s2.os = s.os) (hba : AllBare s2.gens)
    (kp : ∀ b o, s1.heap.get? b = some o → s2.heap.get? b = some o) (hS : s1.heap.objs.size < S) (hSo : ∃ c, s2.heap.get? S = some (lstObj #[] c)) (hg : s2.heap.get? s1.heap.objs.size = some go) (hgd : ∀ v, go.data ≠ .cell v) :
    GI (gcxOf P w K mg base N qual scope f cdv A outer s H E [(s1.heap.objs.size, go)]) S [] [] (start N vs) H s2 ∧ Apart (gcxOf P w K mg base N qual scope f cdv A outer s H E [(s1.heap.objs.size, go)]) S := by
  have I1 := inv_startG (E := E) S0 hd e0 hl r x
  obtain ⟨h1, tk, es1, hk1⟩ := x.done
  have I2 : Inv (gcxOf P w K mg base N qual scope f cdv A outer s H E []) [] (start N vs) H s2 :=
    I1.call' (ch := []) (by rw [hos, es1]) (Un.kept kp) (I1.hok.kept kp) hba fun b z => absurd z (by simp)
  obtain ⟨c, hSo⟩ := hSo
  have yg := young I1 (Nat.le_refl _)
  have yS := young I1 (Nat.le_of_lt hS)
  refine ⟨⟨#[], c, .nil, Inv.pinnedG I2 fun p hp => ?_⟩, yS.2.2.2.1, yS.2.1, yS.2.2.2.2⟩
  have hp : p = (s1.heap.objs.size, go) ∨ p = (S, lstObj #[] c) := by simpa using hp
  rcases hp with rfl | rfl
  · exact ⟨hg, yg.1, yg.2.1, yg.2.2.1, hgd⟩
  · exact ⟨hSo, yS.1, yS.2.1, yS.2.2.1, fun v q => nomatch q⟩
theorem gi_pin {a : Addr} {ip : List (Addr × Obj)} {ys : List V} {σ : L2.St} {H' : Hp} {s' : Shared} (h : GI (gcxOf P w K mg base N qual scope f cdv A outer s H E [(a, go)]) S ip ys σ H' s') : s'.heap.get? a = some go ∧ s'.os = s.os ∧ AllBare s'.gens ∧ s'.heap.NoLimit := by
  obtain ⟨acc, c, _, J⟩ := h
  exact ⟨(J.pin (a, go) (List.mem_append_left _ (List.mem_singleton.mpr rfl))).1, J.os, J.bare, J.nolimit⟩
/-- the body run to its end -/
theorem seg_body {a g : Nat} {t : TGn} (hgen : ∀ h : Heap, h.get? a = some go → h.IsGen a g) (hne : a ≠ S) (hG : GI (gcxOf P w K mg base N qual scope f cdv A outer s H E [(a, go)]) S [] [] (start N vs) H s2)
    (hA : Apart (gcxOf P w K mg base N qual scope f cdv A outer s H E [(a, go)]) S) (ht : GSs (gcxOf P w K mg base N qual scope f cdv A outer s H E [(a, go)]) body t)
    (hq : t { nx := fun ys _ H' => Q ys H', rt := fun ys v H' => v = .non ∧ Q ys H' } [] (start N vs) H) :
    Seg (model P w) A (REnd P w outer H s [] S a g Q E) (YItem s S a g) sizeLine s2 (.func body (envOfC qual scope s.heap.objs.size f cdv)) ((model P w).den (.func body (envOfC qual scope s.heap.objs.size f cdv))) [] s2 := by
  refine seg_func (seg_imp (R := GR (gcxOf P w K mg base N qual scope f cdv A outer s H E [(a, go)]) S (fun ys v H' => v = .non ∧ Q ys H') fun e s' => CX P w outer H s E e s' ∧ s'.heap.get? a = some go)
    (Y := GY (gcxOf P w K mg base N qual scope f cdv A outer s H E [(a, go)]) S) (fun n s₀ r s1' hR => ?_) (fun n s₀ v s1' kap kap' hkk hY => ?_) sizeLine ?_)
  · cases r with
    | error e => exact .inr ⟨e, rfl, hR.1, hgen _ hR.2⟩
    | ok fl =>
      cases fl with
      | next => exact hR.elim
      | brk => exact hR.elim
      | cont => exact hR.elim
      | ret u =>
        obtain ⟨ys, v, ip, σ', H', hn, hI, rv, rfl, hQ⟩ := hR
        obtain rfl : u = Value.none := rv
        obtain ⟨h1, _, _, acc, cc, ra, ea⟩ := hI.at
        have hp := gi_pin hI
        obtain ⟨_, _, _, J⟩ := hI
        exact .inl ⟨.inl rfl, H', ys, acc, cc, hp.2.1, hp.2.2.1, J.base, J.hok, h1, ea, ra, by omega, hQ⟩
  · obtain ⟨ys, xx, ip, σ', H', hn, rx, hI, h3⟩ := hY
    obtain ⟨_, _, _, acc, cc, ra, ea⟩ := hI.at
    have hp := gi_pin hI
    have e1 : ys.length = acc.size := by rw [ra.length]; simp
    exact ⟨hp.2.1, hp.2.2.1, hp.2.2.2, hgen _ hp.1, ⟨acc, cc, ea, by omega⟩, fun s' z => hkk _ _ (h3 s' z)⟩
  · refine ht.run A S [] _ sizeLine [] s2 _ [] _ _ id id s2 (start N vs) H _ ⟨fun p hp => ?_, fun p hp => absurd hp (by simp), hA, over_func, rfl, rfl, rfl⟩ rfl ⟨fun n ys s₀ s' fl hn hs => ?_, fun n s₀ e s' hx => ?_⟩ hG hq
    · rw [List.mem_singleton.mp hp]
      exact hne
    · cases fl with
      | next =>
        obtain ⟨σ', H', hI, hQ⟩ := hs
        exact seg_end (.ok (.ret .none)) ⟨ys, .non, [], σ', H', hn, hI, rfl, rfl, hQ⟩
      | brk => exact hs.choose_spec.choose_spec.2.elim
      | cont => exact hs.choose_spec.choose_spec.2.elim
      | ret u =>
        obtain ⟨v, σ', H', hI, rv, rfl, hQ⟩ := hs
        exact seg_end (.ok (.ret u)) ⟨ys, .non, [], σ', H', hn, hI, rv, rfl, hQ⟩
    · refine seg_wrap ?_
      rw [over_func]
      refine wpAny_mono (show wpAny (model P w) (A.deeper (envOfC qual scope s.heap.objs.size f cdv)) (leaving (envOfC qual scope s.heap.objs.size f cdv) e) (fun _ s'' => CX P w outer H s E e s'' ∧ ∀ p ∈ [(a, go)], s''.heap.get? p.1 = some p.2) (fun _ _ => False) s' from hx) (fun _ s'' q => ?_) fun _ s'' q => q.elim
      exact seg_end (.error e) ⟨q.1, q.2 (a, go) (List.mem_singleton.mpr rfl)⟩
/-- what a call of a generator def gives, once its arguments are bound -/
theorem gmade {t : ∀ (A : Around) (pn : List (Addr × Obj)), TGn} (S0 : GScope N ps scope) (mod : Mod K mg base) (bs : ∀ b o, base.get? b = some o → s.heap.get? b = some o ∧ H b = none) (bsz : base.objs.size ≤ s.heap.objs.size) (funs : s.heap.FunFrames base outer) (frf : ∀ b ∈ frs outer, H b = none) (hok : HOk P w H s.heap) (bare : AllBare s.gens) (lim : s.heap.NoLimit)
    (hl : vs.length = ps.length) (r : Vals vs us) (x : Made s s1 qual scope f cdv ps us) (n0 q0 : Value) (tk2 : Nat) (eg : go = { cls := .type "generator", data := .fields #[.int s1.gens.size 0, n0, q0] })
    (hbody : ∀ (A : Around) (pn : List (Addr × Obj)), Room k (A.deeper (envOfC qual scope s.heap.objs.size f cdv)) → GSs (gcxOf P w K mg base N qual scope f cdv A outer s H E pn) body (t A pn) ∧ t A pn { nx := fun ys _ H' => Q ys H', rt := fun ys v H' => v = .non ∧ Q ys H' } [] (start N vs) H) :
    GMade P w (k + 1) outer H s [] Q E (.ref s1.heap.objs.size) { s1 with gens := s1.gens.push (.fresh (.func body (envOfC qual scope s.heap.objs.size f cdv))), toks := tk2, heap := s1.heap.push go } := by
  have lim1 : s1.heap.NoLimit := lim.keeps x.toInCall.keep
  have lt1 : s.heap.objs.size < s1.heap.objs.size := x.toInCall.ns.lt
  have kp1 : ∀ b o, s.heap.get? b = some o → s1.heap.get? b = some o := x.toInCall.keep
  obtain ⟨h1, tk, es1, hk1⟩ := id x.done
  have hp : (s1.heap.push go).get? s1.heap.objs.size = some go := Heap.get?_push_size _ (by rw [eg]; rfl)
  have hgen : ∀ h : Heap, h.get? s1.heap.objs.size = some go → h.IsGen s1.heap.objs.size s1.gens.size := fun h e => ⟨go, n0, q0, e, by rw [eg], by rw [eg], by rw [eg]⟩
  have hsz : (s1.heap.push go).objs.size = s1.heap.objs.size + 1 := Heap.size_push ..
  refine ⟨s1.heap.objs.size, s1.gens.size, _, rfl, Nat.le_of_lt lt1, by rw [hsz]; exact Nat.lt_succ_self _, hgen _ hp, Array.getElem?_push_size .., by rw [es1], AllBare.push (by rw [es1]; exact bare) rfl, lim1.keeps fun b o e => Heap.get?_push_of_some _ e, fun b o e => Heap.get?_push_of_some _ (kp1 b o e), ?_⟩
  intro Aw Sx s2 hrw hfr hSx hk2 hSo hos hba
  have hS : s1.heap.objs.size < Sx := by
    have hSx : (s1.heap.push go).objs.size ≤ Sx := hSx
    rw [hsz] at hSx
    exact hSx
  have e0 : Env0 P w K mg base Aw outer s H := ⟨hfr, mod, bs, bsz, funs, frf, hok, bare⟩
  obtain ⟨ht, hq⟩ := hbody Aw [(s1.heap.objs.size, go)] (hrw.deeper _)
  obtain ⟨hG, hA⟩ := gi_begin (E := E) S0 hrw.hd e0 hl r x hos hba (fun b o e => hk2 b o (Heap.get?_push_of_some _ e)) hS hSo (hk2 _ _ hp) (fun v q => by rw [eg] at q; cases q)
  exact seg_body hgen (Nat.ne_of_lt hS) hG hA ht hq
end
/-- a generator def's promise by positional values: its own tuple may have been laid -/
def GFnR (P : Program) (w : World) (K : PySem.W.Frag) (mg : Str → Option Value) (base : Heap) (k : Nat) (f : Addr) (sp : SpG) : Prop :=
  ∀ (A : Around) (outer : List Env) (s : Shared) (H : Hp) (us : List Value) (vs : List V) (Q : List V → Hp → Prop) (E : XK), Room k A → Env0 P w K mg base A outer s H → Vals vs us → sp vs H Q E →
    codeAny (model P w) A (.call (.ref f) ⟨us, []⟩) (fun r s' => match r with | .ok (.ret u) => ∃ (H2 : Hp) (s2 : Shared), (∀ (X : Cx) (pins : List (Addr × Obj)) (σ : L2.St), X.prog = P → X.w = w → Inv X pins σ H s → Inv X pins σ H2 s2) ∧ GMade P w k outer H2 s2 [] Q E u s' | _ => False) s
section
variable {P : Program} {w : World} {K : PySem.W.Frag} {mg : Str → Option Value} {base : Heap} {k : Nat} {f : Addr} {name qual : Str} {params : Arguments} {body : List Stmt} {scope : Scope} {dV kV doc pm cdv ct oc : Value} {an od : Option Addr}
  {osl : Array (Option Value)} {N ps : List Str} {sp : SpG}
/-- THE RULE: a generator def with a star, by its body -/
theorem gfn_star {pv : Str} (lk : K.lookup f = some ⟨oc, od, .func (PySem.W.fnOf name qual params body scope dV kV doc pm an cdv ct), osl⟩) (hcd : PySem.W.codeIn K cdv qual = true) (S : GScope N (ps ++ [pv]) scope)
    (hb : ∀ us rest : List Value, us.length = ps.length → bindArgs (PySem.W.fnOf name qual params body scope dV kV doc pm an cdv ct) ⟨us ++ rest, []⟩ = (newTuple rest >>= fun t => pure (ps.zip us ++ [(pv, t)])))
    (hbody : ∀ (A : Around) (outer : List Env) (s : Shared) (H : Hp) (vs : List V) (Q : List V → Hp → Prop) (E : XK) (pn : List (Addr × Obj)), Room k (A.deeper (envOfC qual scope s.heap.objs.size f cdv)) → sp vs H Q E →
      ∃ t, GSs (gcxOf P w K mg base N qual scope f cdv A outer s H E pn) body t ∧ t { nx := fun ys _ H' => Q ys H', rt := fun ys v H' => v = .non ∧ Q ys H' } [] (start N vs) H) :
    GFnR P w K mg base (k + 1) f (fun vs H Q E => ∃ ws rest, vs = ws ++ rest ∧ ws.length = ps.length ∧ rest.length ≤ sizeLine ∧ ∀ p, H p = Option.none → sp (ws ++ [V.ref p]) (upd H p (.tup rest)) Q E) := by
  intro A outer s H us vs Q E hr e0 r hsp
  obtain ⟨ws, rest, ev, hl, hz, hq⟩ := hsp
  subst ev
  obtain ⟨u1, u2, eu, r1, r2⟩ := StX.vals_split r
  subst eu
  have hn : H s.heap.objs.size = Option.none := e0.hok.fresh (Nat.le_refl _)
  have hl1 : u1.length = ps.length := by rw [← r1.length]; exact hl
  have hl2 : u2.length ≤ sizeLine := by rw [← r2.length]; exact hz
  have KX : K.In s.heap := e0.mod.kin.keeps fun b o e => (e0.bs b o e).1
  refine codeAny_call_generator hr.depth (KX _ _ lk) rfl S.co S.gen rfl (PySem.W.codeRec_of KX hcd) ?_
  rw [hb u1 u2 hl1]
  refine wpAny_bind (wpAny_newTuple (wpAny_pure ?_) hl2)
  have new : ObjOk P w (upd H s.heap.objs.size (.tup rest)) (s.heap.push ({ cls := .type "tuple", data := .seq u2.toArray } : Obj)) s.heap.objs.size (.tup rest) := ⟨hz, u2, r2, ⟨_, Heap.get?_push_size _ rfl, rfl, _, rfl⟩⟩
  have e2 := StX.env0_laid e0 new
  have conv : ∀ (X : Cx) (pins : List (Addr × Obj)) (σ : L2.St), X.prog = P → X.w = w → Inv X pins σ H s → Inv X pins σ (upd H s.heap.objs.size (.tup rest)) { s with heap := s.heap.push ({ cls := .type "tuple", data := .seq u2.toArray } : Obj) } := fun X pins σ eP ew I => by
    subst eP ew
    exact I.laid (t' := s.toks) (fun b o q => Heap.get?_push_of_some _ q) (Nat.le_refl _) new
  have hq := hq _ hn
  have rr : Vals (ws ++ [V.ref s.heap.objs.size]) (u1 ++ [Value.ref s.heap.objs.size]) := r1.append (.cons rfl .nil)
  have ll : (ws ++ [V.ref s.heap.objs.size]).length = (ps ++ [pv]).length := by rw [List.length_append, List.length_append, hl] <;> rfl
  have ez : ps.zip u1 ++ [(pv, Value.ref s.heap.objs.size)] = (ps ++ [pv]).zip (u1 ++ [Value.ref s.heap.objs.size]) := by rw [List.zip_append hl1.symm] <;> rfl
  rw [ez]
  generalize hs2 : ({ s with heap := s.heap.push ({ cls := .type "tuple", data := .seq u2.toArray } : Obj) } : Shared) = s2 at e2 conv
  have hkind : ∀ y ∈ (ps ++ [pv]).zip (u1 ++ [Value.ref s.heap.objs.size]), scope.names.lookup y.1 = some .local ∨ (scope.names.lookup y.1 = some .cell ∧ ((cellsFrom (s2.heap.objs.size + 1) scope.names []).lookup y.1).isSome = true) := fun y hy => by
    rcases S.par y.1 (List.of_mem_zip hy).1 with q | q
    · exact .inl q
    · exact .inr ⟨q, PySem.W.cellsFrom_some _ _ _ (.inl q)⟩
  have lim2 : s2.heap.NoLimit := e2.mod.nolimit.keeps fun b o e => (e2.bs b o e).1
  refine wpAny_newFunctionEnv_cells (s := s2) S.kind hkind fun env he s1 x => ?_
  subst he
  refine ⟨lim2.keeps x.toInCall.keep, _, s2, conv, ?_⟩
  classical
  refine gmade (t := fun A' pn => if h : Room k (A'.deeper (envOfC qual scope s2.heap.objs.size f cdv)) then (hbody A' outer s2 _ _ Q E pn h hq).choose else fun _ _ _ _ => True) S e2.mod e2.bs e2.bsz e2.funs e2.frf e2.hok e2.bare lim2 ll rr x _ _ _ rfl fun A' pn h => ?_
  rw [dif_pos h]
  exact (hbody A' outer s2 _ _ Q E pn h hq).choose_spec
end
section
variable {X : Cx} {k : Nat} {f : Addr} {sp : SpG} {E : XK} {e : Expr} {es : List Expr} {t : TA} {x : Str} {p pos' : Pos}
/-- f(e, ..) of a generator def with a star -/
theorem pgen_callR (F : GFnR X.prog X.w X.K X.mg X.base k f sp) (hr : Room k X.A) (hg : Gl X x) (hm : X.mg x = some (.ref f)) (hk : PySem.W.keepIn X.K (.ref f) = true)
    (ha : PA X (e :: es) t) (hdb : (x == ("__debug__" : Str)) = false := by decide) (he : starEach (e :: es) X.env = (false, eval e X.env) :: starEach es X.env := by rfl) (hpl : (backTo pos' (starEach es X.env)).any (·.1) = false := by rfl) :
    PGen X k (.Call (.Name x p) (e :: es) [] pos') (tCallG sp [] E t) E := by
  refine ⟨fun pins s σ H cont I h => ?_⟩
  refine wpAny_Call_Name_kw (ld_glob I hg hm ?_ hdb)
  refine PySem.W.callWith_K (h₀ := X.base) I.ok.mod.kin hk (thn (ha.run pos' pins s σ H _ I h) fun us s1 ⟨vs, H1, I1, r, q⟩ => ⟨I1.kIn, ?_⟩) he hpl
  have q : sp (vs ++ []) H1 cont E := q
  rw [List.append_nil] at q
  refine wpAny_call (codeAny_mono (F X.A X.stack s1 H1 us vs cont E hr I1.env0 r q) fun r s' hq => ?_)
  cases r with
  | error e => exact False.elim hq
  | ok fl =>
    cases fl with
    | ret u =>
      obtain ⟨H2, s2, conv, hG⟩ := hq
      exact ⟨H2, s2, [], conv X pins σ rfl rfl I1, .nil, hG⟩
    | next => exact False.elim hq
    | brk => exact False.elim hq
    | cont => exact False.elim hq
end
/-- a generator's for over what walks: Pv by the turn, what is out, the slots and the heap -/
theorem gfor_it {J : It} {n : Nat} {G : Hp → Prop} {Y : Nat → Hp → V → Hp → Prop} (w : Walk J n G Y) {g : TG} {tb : TGn} {D : GEnds} {ys : List V} {σ : L2.St} {H : Hp} (Pv : Nat → List V → L2.St → Hp → Prop) (h0 : Pv 0 ys σ H) (hG : ∀ i ys σ H, i ≤ n → Pv i ys σ H → G H)
    (hs : ∀ i x ys σ H H', i < n → Pv i ys σ H → Y i H x H' → g x σ H' fun σ2 H2 => tb { D with nx := Pv (i + 1), ct := Pv (i + 1), bk := D.nx } ys σ2 H2) (hd : ∀ ys σ H, Pv n ys σ H → D.nx ys σ H) :
    ∃ W : Nat → Nat → List V → L2.St → Hp → Prop, (∃ m, W 0 m ys σ H) ∧ ∀ i m ys σ H, W i m ys σ H →
      (J.stop i H ∧ D.nx ys σ H) ∨ (J.go i H ∧ ∃ N : List V → L2.St → Hp → Prop, (∀ ys' σ' H', N ys' σ' H' → ∃ m', m' < m ∧ W (i + 1) m' ys' σ' H') ∧ ∀ x H', J.yld i H x H' → g x σ H' fun σ2 H2 => tb { D with nx := N, ct := N, bk := D.nx } ys σ2 H2) := by
  refine ⟨fun i m ys σ H => m = n - i ∧ i ≤ n ∧ Pv i ys σ H, ⟨n, rfl, Nat.zero_le _, h0⟩, ?_⟩
  rintro i m ys σ H ⟨rfl, hi, p⟩
  have q := hG i ys σ H hi p
  rcases Nat.lt_or_ge i n with hlt | hge
  · exact .inr ⟨w.goes i H hlt q, Pv (i + 1), fun ys' σ' H' p' => ⟨n - (i + 1), by omega, rfl, hlt, p'⟩, fun x H' y => hs i x ys σ H H' hlt p (w.yields i H x H' hlt q y)⟩
  · obtain rfl : i = n := by omega
    exact .inl ⟨w.stops H q, hd ys σ H p⟩
end GSt

/-! SupX: a def of an own exception class whose first statement is super().__init__(e). -/
namespace SupX
open PySem PySem.Spec PyProof.Rows L2 NdefX

theorem fs_lt {X : Cx} (ok : X.Ok) {b : Addr} (hb : b ∈ X.fs) : b < X.s_0.heap.objs.size := by
  obtain ⟨_, o, e, _⟩ := ok.funs.mem hb
  exact Heap.lt_size e
/-- a new object is pinned -/
theorem inv_pinNew {X : Cx} {pins : List (Addr × Obj)} {σ : L2.St} {H : Hp} {s : Shared} {h' : Heap} {a : Addr} {o : Obj} {t' : Nat} (I : Inv X pins σ H s) (k : ∀ b u, s.heap.get? b = some u → h'.get? b = some u) (ha : s.heap.objs.size ≤ a) (e : h'.get? a = some o) (hd : ∀ v, o.data ≠ .cell v) :
    Inv X (pins ++ [(a, o)]) σ H { s with heap := h', toks := t' } := by
  have J : Inv X pins σ H { s with heap := h', toks := t' } := I.kept k
  refine J.pins_of fun p hp => (List.mem_append.mp hp).elim (fun z => J.pin p (List.mem_append_right _ z)) fun z => ?_
  obtain rfl : p = (a, o) := by simpa using z
  refine ⟨e, I.hok.fresh ha, fun z => ?_, fun z => ?_, hd⟩
  · have z' : a = X.env.locals := z
    exact absurd I.lt (by rw [← z']; exact Nat.not_lt.mpr ha)
  · exact absurd (show a < X.s_0.heap.objs.size from fs_lt I.ok z) (Nat.not_lt.mpr (Nat.le_trans I.sz ha))
/-- what the written part says of super() in the class D -/
structure SupD (P : Program) (K : PySem.W.Frag) (cc D : Addr) : Prop where
  cell : ∃ cl cld csl, K.lookup cc = some ⟨cl, cld, .cell (some (.ref D)), csl⟩
  is : ∃ cdD, PySem.W.clsIn K D = some cdD
  mro : PySem.W.mroIn K D (.ref D) = some true
  sup : PySem.W.ks_superIn K D D "__init__" = some (some (.builtin "ValueError.__init__"))
  sub : PySem.W.subIn K (.ref D) (.type "ValueError") = some true
  opq : PySem.W.nsIn K cStatics "thirdparty.any" = some none
  top : (P.main.scope.names.lookup ("super" : Str)).isSome = false
/-- the reading of super().__init__(e): nothing of it is told -/
def tSup (K : PySem.W.Frag) (D : Addr) (ta : TA) : TS := fun En σ H => ∃ a : Addr, σ[0]? = some (some (.ref a)) ∧ H a = some (exo a D none) ∧ ta σ H fun vs H1 => vs.length ≤ 1000 ∧ H1 a = some (exo a D none) ∧ OexC K D ∧ En.nx σ H1
section
variable {X : Cx} {cc D : Addr}
open PySem.W in
/-- the call of the wrapper -/
theorem call_mw {pins : List (Addr × Obj)} {σ : L2.St} {H : Hp} {s : Shared} {E : Value → Shared → Prop} {Q : Value → Shared → Prop} {u a : Addr} {us : List Value} (T : OexC X.K D) (I : Inv X pins σ H s) (hu : s.heap.get? u = some (kxs_mw "ValueError.__init__" a)) (e : H a = some (exo a D none)) (hl : us.length ≤ sizeLine)
    (h : ∀ s', Inv X pins σ H s' → Q .none s') : wpAny (model X.prog X.w) X.A (call (.ref u) us) Q E s := by
  obtain ⟨nm, q, N, bs, bm, sn, sub, ab, col, dd, k0, k1, k2, k3, k5, hC, hbm⟩ := T.cls
  obtain ⟨t1, ho⟩ := exo_at I.hok e
  have hC' := I.kIn _ _ hC
  have fin : ∀ (h' : Heap) (t2 : Addr), (∀ b o, b ≠ a → s.heap.get? b = some o → h'.get? b = some o) → h'.get? a = some (excObj D t2 none .none) → Q .none { s with heap := h' } := fun h' t2 k hx => by
    have J := I.write (t' := s.toks) (x := a) (e := a) (o := exo a D none) (by rw [e]; exact True.intro) (.inl rfl) k ⟨_, hx⟩ (exo_ok hx)
    have eu : upd H a (exo a D none) = H := by
      funext b
      by_cases hb : b = a
      · rw [hb, upd_same, e]
      · rw [upd_ne hb]
    rw [eu] at J
    exact h _ J
  obtain ⟨hh, g, d, tk, os⟩ := s
  refine wpAny_call (codeAny_of_tree ?_)
  show wpAny _ X.A.in1 (callAny (.ref u) ⟨us, []⟩) _ _ _
  simp only [callAny]
  refine wpAny_bind (wpAny_load hu ?_)
  simp only [kxs_mw, show (Value.type "method-wrapper" == Value.type "method" || Value.type "method-wrapper" == Value.type "builtin_function_or_method" || Value.type "method-wrapper" == Value.type "method-wrapper") = true by decide, if_true]
  refine KFB.if_so (by decide) ?_
  refine wpAny_bind (check_bound_init PySem.F.excBase_ValueError.toExcCallFacts hC' ho rfl ?_)
  refine wpAny_bind (wpAny_pure (wpAny_pure ?_))
  refine ⟨plainId_quiet PySem.F.excBase_ValueError.init.plain _, codeAny_builtin PySem.F.excBase_ValueError.initEntry ?_⟩
  exact exc_init_tree (cls := .ref D) (t0 := t1) (dv := none) (c2 := .none) (c3 := .none) (b4 := .bool false) ho hl fun h' k hx _ => fin h' _ k hx

/-- super().__init__(e) as the first statement of the def's body -/
theorem at_sup {pins : List (Addr × Obj)} {σ : L2.St} {H : Hp} {s : Shared} {En : Ends} {body : List Stmt} {f cd : Addr} {fo : Obj} {fd : FuncData} {ar : Arg} {e : Expr} {ta : TA} {p0 p1 p2 p3 p4 : Pos} {pl : Sem Bool} {file : Str} {vs : Array Value} {tf : Tok} {lf : Obj} {R : Flow → Shared → Prop}
    (Z : SupD X.prog X.K cc D) (hfu : X.env.func = some f) (lk : X.K.lookup f = some fo) (hfd : fo.data = .func fd) (hp : (fd.params.posonlyargs ++ fd.params.args).head? = some ar) (hco : X.env.code = .ref cd) (lc : X.K.lookup cd = some lf) (hlf : lf.data = .fields vs) (hv2 : vs[2]? = some (.str file tf)) (hfile : ((X.prog.main.file : Str) == file) = true)
    (hcl : X.env.cells.lookup ("__class__" : Str) = some cc) (hks : X.env.kindOf ("super" : Str) = some .globalImplicit) (hkc : X.env.kindOf ("__class__" : Str) = some .free) (hm : X.mg ("super" : Str) = none) (hN : X.N[0]? = some ar.arg) (hka : X.env.scope.names.lookup ar.arg = some .local)
    (ha : PA X [e] ta) (hint : interactive X.env = false) (I : Inv X pins σ H s) (h : tSup X.K D ta En σ H) (hR : ∀ s', SP X pins En .next s' → R .next s')
    (hs : swapsWith (.Call (.Attribute (.Call (.Name "super" p0) [] [] p1) "__init__" p2) [e] [] p3) none p4.line X.env = pure false := by rfl)
    (he : starEach [e] X.env = (false, eval e X.env) :: starEach [] X.env := by rfl)
    (hev : eval (.Call (.Attribute (.Call (.Name "super" p0) [] [] p1) "__init__" p2) [e] [] p3) X.env = (do
      let ov ← attributeBase (.Call (.Name "super" p0) [] [] p1) "__init__" X.env (eval (.Call (.Name "super" p0) [] [] p1) X.env)
      standAt p2.atName
      let (f, first) ← holding [ov] (getMethod ov "__init__" pl)
      callWith p3 f first (backTo p3 (starEach [e] X.env)) []) := by rfl) :
    _root_.PySem.wpAt (model X.prog X.w) X.A (.func body X.env) (exec (.Expr (.Call (.Attribute (.Call (.Name "super" p0) [] [] p1) "__init__" p2) [e] [] p3) p4) X.env) R X.xe s := by
  obtain ⟨a, hσ, h⟩ := h
  obtain ⟨cl, cld, csl, hcell⟩ := Z.cell
  obtain ⟨cdD, hD⟩ := Z.is
  have KI := I.kIn
  obtain ⟨oD, hD1, hD2⟩ : ∃ oD, s.heap.get? D = some oD ∧ oD.data = .cls cdD := by
    unfold PySem.W.clsIn at hD
    split at hD
    · rename_i c d cd' sl ho
      cases hD
      exact ⟨_, KI _ _ ho, rfl⟩
    · cases hD
  obtain ⟨m, hn, hl⟩ := I.loc
  obtain ⟨u, ru, hlook⟩ := hl 0 ar.arg (.ref a) hN hσ (.inl hka)
  obtain rfl : u = Value.ref a := ru
  have hma : m ar.arg = some (.ref a) := by
    rcases hlook with ⟨_, z⟩ | ⟨z, _⟩
    · exact z
    · have z' : X.env.scope.names.lookup ar.arg = some .cell ∨ X.env.scope.names.lookup ar.arg = some .free := z
      rw [hka] at z'
      rcases z' with z' | z' <;> cases z'
  refine ks_wpAt_Expr_any (ks_wpAt_MethodCall (pl := pl) ?_ hev) hint hs
  refine ks_wpAt_super_base (f := f) (cc := cd) hks hkc (by decide) hfu (KI _ _ lk) hfd hp hco (KI _ _ lc) hlf hv2 hfile Z.top ?_
  obtain ⟨mb, h1, h2⟩ := I.mod.blt
  refine PySem.W.ks_loadName_global I.ok.kind hks (Calls.loadGlobal_builtin (by rw [I.ok.glob]; exact I.mod.glob.keeps I.bk) hm (by rw [I.ok.blt]; exact h1.keeps I.bk) ((h2 "super" (by decide)).trans PyProof.Rows.Boot.«super») ⟨rfl, ?_⟩)
  refine wpAny_loadName_free I.ok.kind hkc hcl ⟨_, KI _ _ hcell, rfl⟩ ?_
  refine wpAny_loadName_local I.ok.kind hka hn hma ?_
  refine ks_wpAny_isType_cls hD1 hD2 ⟨rfl, ?_⟩
  obtain ⟨t1, ho⟩ := exo_at I.hok h.1
  have hta := h.2
  have hsup := Z.sup
  unfold PySem.W.ks_superIn at hsup
  rw [hD] at hsup
  obtain ⟨hh, g, d, tk, os⟩ := s
  refine ks_wpAny_call_super hD1 hD2 ho rfl (fun c z => nomatch z) (PySem.W.looks_mroIn KI Z.mro) (fun h' eso k => ?_)
  have I1 : Inv X pins σ H ⟨h', g, d, tk, os⟩ := I.kept (t' := tk) k
  have IA : PySem.W.InstAt h' a { cls := .ref D, dict := none, data := .fields #[.ref t1, .none, .none, .none, .bool false, .none] } D none := ⟨k _ _ ho, rfl, rfl, True.intro⟩
  refine PySem.W.kxs_getMethod PySem.W.kxs_ValueError eso (PySem.W.looks_opaque I1.kIn Z.opq) (l₀ := cdD.mro) (fun A Q E s k q => wpAny_bind ((PySem.W.looks_clsIn I1.kIn hD) A _ E s k (wpAny_pure q))) rfl I1.kIn hsup (IA.type.andThen (PySem.W.looks_subIn I1.kIn Z.sub)) (PySem.W.ks_ne I1.kIn IA hD) (by decide) ?_
  have I2 := inv_pinNew (t' := tk + 1) (o := PySem.W.kxs_mw "ValueError.__init__" a) (a := h'.objs.size) (h' := h'.push (PySem.W.kxs_mw "ValueError.__init__" a)) I1 (fun b o e => Heap.get?_push_of_some _ e) (Nat.le_refl _) (Heap.get?_push_size _ rfl) (fun v z => nomatch z)
  refine PySem.W.kxs_callWith (i := "ValueError.__init__") (x := a) (by rw [he]; rfl) ?_
  have hrun := ha.run p3 _ _ σ H _ I2 hta
  rw [he] at hrun ⊢
  refine Calls.evalArgs_plain (thn hrun fun us s1 ⟨vs1, H1, I3, r1, hlen, ea, T, q⟩ => ?_)
  have hpin := (I3.pin (h'.objs.size, PySem.W.kxs_mw "ValueError.__init__" a) (List.mem_append_right _ (List.mem_append_right _ (List.mem_singleton.mpr rfl)))).1
  refine ⟨hpin, call_mw T I3 hpin ea ?_ fun s' J => hR s' ⟨σ, H1, J.unpinned, q⟩⟩
  rw [List.nil_append, ← Paired.length r1, sizeLine_eq]
  omega
end
open PySem.W in
/-- THE RULE: a def whose first statement is super().__init__(e), by its body -/
theorem fn_sup {CX : CXT} {P : Program} {w : World} {K : PySem.W.Frag} {mg : Str → Option Value} {base : Heap} {k : Nat} {f cc D cd : Addr} {name qual : Str} {params : Arguments} {scope : Scope} {rest : List Stmt} {dV kV doc pm ct oc : Value} {an od : Option Addr}
    {osl : Array (Option Value)} {N ps : List Str} {sp : Sp} {ar : Arg} {lf : Obj} {vs0 : Array Value} {file : Str} {tf : Tok} {e : Expr} {p0 p1 p2 p3 p4 : Pos} {pl : Env → Sem Bool}
    (lk : K.lookup f = some ⟨oc, od, .func (fnX name qual params (.Expr (.Call (.Attribute (.Call (.Name "super" p0) [] [] p1) "__init__" p2) [e] [] p3) p4 :: rest) scope [("__class__", cc)] dV kV doc pm an (.ref cd) ct), osl⟩) (hcd : codeIn K (.ref cd) qual = true)
    (Z : SupD P K cc D) (S : NScope N ps ["__class__"] scope) (hp : (params.posonlyargs ++ params.args).head? = some ar) (lc : K.lookup cd = some lf) (hlf : lf.data = .fields vs0) (hv2 : vs0[2]? = some (.str file tf)) (hfile : ((P.main.file : Str) == file) = true)
    (hks : scope.names.lookup ("super" : Str) = some .globalImplicit) (hm : mg ("super" : Str) = none) (hN : N[0]? = some ar.arg) (hka : scope.names.lookup ar.arg = some .local)
    (len : ∀ vs H Q E, sp vs H Q E → vs.length = ps.length)
        (hev : ∀ env : Env, eval (.Call (.Attribute (.Call (.Name "super" p0) [] [] p1) "__init__" p2) [e] [] p3) env = (do
      let ov ← attributeBase (.Call (.Name "super" p0) [] [] p1) "__init__" env (eval (.Call (.Name "super" p0) [] [] p1) env)
      standAt p2.atName
      let (f, first) ← holding [ov] (getMethod ov "__init__" (pl env))
      callWith p3 f first (backTo p3 (starEach [e] env)) []))
    (hstar : ∀ env : Env, starEach [e] env = (false, eval e env) :: starEach [] env)
    (hbody : ∀ (A : Around) (outer : List Env) (s : Shared) (H : Hp) (vs : List V) (Q : VK) (E : XK), Room k (A.deeper (envF ⟨name, qual, params, .Expr (.Call (.Attribute (.Call (.Name "super" p0) [] [] p1) "__init__" p2) [e] [] p3) p4 :: rest, scope, [("__class__", cc)], cd⟩ f s.heap.objs.size)) → sp vs H Q E →
      ∃ ta t, PA (ncx CX P w K mg base N ⟨name, qual, params, .Expr (.Call (.Attribute (.Call (.Name "super" p0) [] [] p1) "__init__" p2) [e] [] p3) p4 :: rest, scope, [("__class__", cc)], cd⟩ f A outer s H E) [e] ta ∧
        PSs (ncx CX P w K mg base N ⟨name, qual, params, .Expr (.Call (.Attribute (.Call (.Name "super" p0) [] [] p1) "__init__" p2) [e] [] p3) p4 :: rest, scope, [("__class__", cc)], cd⟩ f A outer s H E) rest t ∧
        tSup K D ta { nx := t { nx := fun _ H' => Q .non H', rt := Q }, rt := fun _ _ => False } (startF N vs [none]) H) :
    FnOk P w K mg base CX (k + 1) f (fnX name qual params (.Expr (.Call (.Attribute (.Call (.Name "super" p0) [] [] p1) "__init__" p2) [e] [] p3) p4 :: rest) scope [("__class__", cc)] dV kV doc pm an (.ref cd) ct) ps sp := by
  refine ⟨len, fun A outer s H args us vs Q E hr e0 hb r hsp => ?_⟩
  have hl := len _ _ _ _ hsp
  have KX : K.In s.heap := e0.mod.kin.keeps fun b o e => (e0.bs b o e).1
  have lim : s.heap.NoLimit := e0.mod.nolimit.keeps fun b o e => (e0.bs b o e).1
  obtain ⟨cl, cld, csl, hcell⟩ := Z.cell
  have hbc := e0.bs _ _ (e0.mod.kin _ _ hcell)
  have look1 : ∀ {y : Str} {c : Addr}, List.lookup y [(("__class__" : Str), cc)] = some c → y = "__class__" ∧ c = cc := fun {y c} z => by
    rw [List.lookup_cons] at z
    split at z
    · rename_i q
      exact ⟨by simpa using q, (Option.some.inj z).symm⟩
    · cases z
  have C : CellsAt [(("__class__" : Str), cc)] ["__class__"] [none] s.heap H := ⟨rfl, fun y c z => by
      obtain ⟨_, rfl⟩ := look1 z
      exact ⟨hbc.2, _, _, hbc.1, rfl⟩, fun x y c z1 z2 => (look1 z1).1.trans (look1 z2).1.symm, fun i y z => by
      cases i with
      | zero =>
        cases z
        exact ⟨cc, rfl, fun v z => by cases z⟩
      | succ i => cases z⟩
  refine ks_codeAny_call_defAt (binds := ps.zip us) hr.depth (KX _ _ lk) rfl lim (codeRec_of KX hcd) rfl hb S.nocell (fun ⟨n, _⟩ hy => S.par n (List.of_mem_zip hy).1) (fun h₁ hns kp => ?_) S.co S.gen S.kind
  obtain ⟨ta, t, hta, ht, hq⟩ := hbody A outer s H vs Q E (hr.deeper _) hsp
  have I : Inv (ncx CX P w K mg base N ⟨name, qual, params, .Expr (.Call (.Attribute (.Call (.Name "super" p0) [] [] p1) "__init__" p2) [e] [] p3) p4 :: rest, scope, [("__class__", cc)], cd⟩ f A outer s H E) [] (startF N vs [none]) H { s with heap := h₁, toks := s.toks + (ps.zip us).length } := inv_startN S hr.hd e0 hl r C hns kp
  refine ks_wpAt_execs_cons ?_
  refine at_sup (X := ncx CX P w K mg base N ⟨name, qual, params, .Expr (.Call (.Attribute (.Call (.Name "super" p0) [] [] p1) "__init__" p2) [e] [] p3) p4 :: rest, scope, [("__class__", cc)], cd⟩ f A outer s H E) (En := { nx := t { nx := fun _ H' => Q .non H', rt := Q }, rt := fun _ _ => False }) (cc := cc) Z rfl lk rfl hp rfl lc hlf hv2 hfile rfl hks (S.frk _ (List.mem_singleton.mpr rfl)) hm hN hka hta (by unfold interactive; rw [show (Cx.env (ncx CX P w K mg base N ⟨name, qual, params, .Expr (.Call (.Attribute (.Call (.Name "super" p0) [] [] p1) "__init__" p2) [e] [] p3) p4 :: rest, scope, [("__class__", cc)], cd⟩ f A outer s H E)).scope.kind = .function from S.kind]; rfl) I hq (fun s' hs => ?_) rfl (hstar _) (hev _)
  obtain ⟨σ1, H1, I1, q1⟩ := hs
  refine wpAt_of_wpAny (wpAny_mono (ht.run [] _ σ1 H1 _ I1 q1) (fun fl s' hs => ?_) fun e s' hs => hs)
  have fin : ∀ {σ' : L2.St} {H' : Hp} {v : V} {u : Value}, Inv (ncx CX P w K mg base N ⟨name, qual, params, .Expr (.Call (.Attribute (.Call (.Name "super" p0) [] [] p1) "__init__" p2) [e] [] p3) p4 :: rest, scope, [("__class__", cc)], cd⟩ f A outer s H E) [] σ' H' s' → L2.RelV v u → Q v H' → CE outer P w H s Q u s' :=
    fun {σ' H' v u} J rv q => ⟨v, H', J.os, J.bare, J.base, J.hok, rv, q⟩
  cases fl with
  | ret u =>
    obtain ⟨v, σ', H', J, rv, q⟩ := hs
    exact fin J rv q
  | next =>
    obtain ⟨σ', H', J, q⟩ := hs
    exact fin (v := V.non) (u := Value.none) J rfl q
  | brk =>
    obtain ⟨_, _, _, q⟩ := hs
    exact False.elim q
  | cont =>
    obtain ⟨_, _, _, q⟩ := hs
    exact False.elim q
end SupX

/-! FmtS: {e:>N}, {e:>N,} of ints and texts in an f-string. -/
namespace FmtS
open PySem PySem.Spec PyProof.Rows L2 PySem.Builtin PySem.Builtin.Str PySem.Builtin.Int PySem.Builtin.Float
def spec (w : Nat) (g : Bool) : FormatSpec := { align := 62, width := some w, grouping := if g then some ',' else none }
theorem gives_cut_int {a : Int} {t : Tok} {k : String → Sem PySem.Fin} {m : Made} (g : ∀ n, Gives (k n) m) : Gives (do let n ← typeNameOfCut 200 (.int a t); k n) m := by
  intro prog w A R s hm
  exact wpAny_bind (wpAny_typeNameOfCut_int (g "int" prog w A R s hm))
theorem gives_cut_str {a : PySem.Str} {t : Tok} {k : String → Sem PySem.Fin} {m : Made} (g : ∀ n, Gives (k n) m) : Gives (do let n ← typeNameOfCut 200 (.str a t); k n) m := by
  intro prog w A R s hm
  exact wpAny_bind (W.KXf.cut_str (g "str" prog w A R s hm))
def digs (a : Int) : List Nat := List.map (fun c => c.toNat) (Nat.toDigits 10 a.natAbs)
def sgn (a : Int) : List Nat := if decide (a < 0) = true then [45] else []
def grp := groupsFromRight'
def dsOf (g : Bool) (a : Int) : List Nat :=
  if (digs a).isEmpty = true then [] else if g then grp 3 44 ((digs a).length + 0 + 1) (digs a).reverse 0 [] else digs a
def fldR (w : Nat) (sg ds : List Nat) : PySem.Str := ⟨(List.replicate ((w : Int) - (sg.length : Int) - (ds.length : Int)).toNat 32 ++ sg ++ ds).toArray⟩
theorem grp_of {f : Nat → Nat → Nat → List Nat → Int → List Nat → List Nat} (h0 : ∀ a b d r o, f a b 0 d r o = o)
    (h1 : ∀ size sep turns digits (room : Int) out, f size sep (turns + 1) digits room out =
      if ((List.drop (min size (max (max (digits.length : Int) room) 1).toNat) digits).isEmpty && decide (room - (min size (max (max (digits.length : Int) room) 1).toNat : Nat) ≤ 0)) = true
        then List.replicate ((min size (max (max (digits.length : Int) room) 1).toNat) - digits.length) 48 ++ (List.take (min size (max (max (digits.length : Int) room) 1).toNat) digits).reverse ++ out
        else f size sep turns (List.drop (min size (max (max (digits.length : Int) room) 1).toNat) digits) (room - (min size (max (max (digits.length : Int) room) 1).toNat : Nat) - 1)
          (sep :: (List.replicate ((min size (max (max (digits.length : Int) room) 1).toNat) - digits.length) 48 ++ (List.take (min size (max (max (digits.length : Int) room) 1).toNat) digits).reverse ++ out))) :
    ∀ a b n d r o, f a b n d r o = grp a b n d r o := by
  intro a b n
  induction n with
  | zero => intro d r o; rw [h0]; rfl
  | succ n ih =>
    intro d r o
    rw [h1, ih]
    rfl
theorem gives_of_fld {w : Nat} {g : Bool} {a : Int} {ds : List Nat} {t : Sem PySem.Fin} (e : t = retStr (fldR w (sgn a) ds)) (h : ds = dsOf g a) : Gives t (.str (fldR w (sgn a) (dsOf g a))) := by
  subst h
  exact .of_eq e
theorem fld_eq {w : Nat} {sg ds : List Nat} {l : List Nat} (h : l = List.replicate ((w : Int) - ((sg.length : Int) + 0 + 0) - (ds.length : Int)).toNat 32 ++ sg ++ [] ++ List.replicate 0 32 ++ ds ++ [] ++ List.replicate 0 32) :
    (⟨l.toArray⟩ : PySem.Str) = fldR w sg ds := by
  subst h
  unfold fldR
  simp
theorem gives_int_fmt (sp : PySem.Str) (w : Nat) (g : Bool) (a : Int) (t u : Tok) (h : a.natAbs.log2 < 1920) (hw : w ≤ 1000) (hne : (sp.length == 0) = false)
    (ha : ((sp.cps.toList.drop 1).any (fun c => decide (c ≥ 128)) || (decide (sp.cps.getD 0 0 ≥ 128) && !([60, 62, 61, 94] : List Nat).contains (sp.cps.getD 1 0))) = false) (hb : (sp.cps.back? == some 0) = false)
    (hp : ∀ name, parseFormatSpec sp.cps.toList name 62 = .ok (spec w g)) :
    Gives («int.__format__» ⟨[.int a t, .str sp u], []⟩) (.str (fldR w (sgn a) (dsOf g a))) := by
  show Gives (do let _kind ← typeNameOf (.str sp u); _) _
  refine gives_after_typeNameOf (T := "str") (fun s => typeIs_str s _ _) (by decide) fun _ => ?_
  show Gives (if (sp.length == 0) = true then _ else _) _
  rw [hne]
  show Gives (if ((sp.cps.toList.drop 1).any (fun c => decide (c ≥ 128)) || (decide (sp.cps.getD 0 0 ≥ 128) && !([60, 62, 61, 94] : List Nat).contains (sp.cps.getD 1 0))) = true then _ else _) _
  rw [ha]
  refine gives_cut_int fun name => ?_
  rw [hp name]
  have hb' : (if (sp.cps.back? == some 0) = true then (0 : Nat) else 100) = 100 := by rw [hb]; rfl
  dsimp only
  rw [hb']
  show Gives (do let r ← overDigitLimit? a; _) _
  rw [PySem.overDigitLimit_small h]
  show Gives (if w > 100000 then _ else _) _
  rw [if_neg (show ¬ w > 100000 by omega)]
  cases g
  all_goals
    apply gives_of_fld
    · apply congrArg retStr
      conv => lhs; whnf
      have c1 : ((spec w true).fill == 48 && (spec w true).align == 61) = false := rfl
      have c2 : ((spec w true).type.getD 100 == 88) = ((100 : Nat) == 88) := rfl
      have c3 : ((spec w false).fill == 48 && (spec w false).align == 61) = false := rfl
      have c4 : ((spec w false).type.getD 100 == 88) = ((100 : Nat) == 88) := rfl
      have c5 : ((10 : Nat) == 10) = true := rfl
      simp only [c1, c2, c3, c4, c5]
      dsimp only [spec]
      simp only [Bool.false_eq_true, if_false, if_true]
      exact fld_eq rfl
    · first
        | (show ite _ _ _ = ite _ _ _
           congr 1
           exact grp_of (fun _ _ _ _ _ => rfl) (fun _ _ _ _ _ _ => rfl) 3 44 _ _ _ _)
        | (show ite _ _ _ = ite _ _ _
           congr 1
           simp <;> rfl)

theorem retSame {x : PySem.Str} {t : Tok} : Gives (ret (.str x t)) (.val (.str x t)) := .of_eq rfl
theorem gives_str_fmt (sp : PySem.Str) (w : Nat) (x : PySem.Str) (t u : Tok) (hx : x.length < w) (hw : w ≤ 1000) (hne : (sp.length == 0) = false)
    (ha : ((sp.cps.toList.drop 1).any (fun c => decide (c ≥ 128)) || (decide (sp.cps.getD 0 0 ≥ 128) && !([60, 62, 61, 94] : List Nat).contains (sp.cps.getD 1 0))) = false) (hb : (sp.cps.back? == some 0) = false)
    (hp : ∀ name, parseFormatSpec sp.cps.toList name 60 = .ok (spec w false)) :
    Gives («str.__format__» ⟨[.str x t, .str sp u], []⟩) (.str (padded x (w - x.length) 0 32)) := by
  show Gives (do let _kind ← typeNameOf (.str sp u); _) _
  refine gives_after_typeNameOf (T := "str") (fun s => typeIs_str s _ _) (by decide) fun _ => ?_
  show Gives (if (sp.length == 0) = true then _ else _) _
  rw [hne]
  show Gives (if ((sp.cps.toList.drop 1).any (fun c => decide (c ≥ 128)) || (decide (sp.cps.getD 0 0 ≥ 128) && !([60, 62, 61, 94] : List Nat).contains (sp.cps.getD 1 0))) = true then _ else _) _
  rw [ha]
  refine gives_cut_str fun name => ?_
  rw [hp name]
  have ht : tooLong w = false := by
    unfold tooLong
    have : 1000 ≤ sizeLine := by decide
    exact decide_eq_false (by omega)
  have h0 : strSub x 0 x.length = x := by
    unfold strSub
    show (⟨x.cps.extract 0 x.cps.size⟩ : PySem.Str) = x
    rw [Array.extract_size]
  have hs : strField x (spec w false) name = .ok (some (padded x (w - x.length) 0 32)) := by
    show (if (decide (w ≤ x.length) && true) = true then (pure none : Except String (Option PySem.Str)) else pure (some (padded (strSub x 0 x.length) (w - (strSub x 0 x.length).length) (w - (strSub x 0 x.length).length - (w - (strSub x 0 x.length).length)) 32))) = _
    rw [h0, if_neg (by simp; omega), Nat.sub_self]
    rfl
  have hc : ∀ f : FormatSpec, (if ((spec w false).type.isNone && sp.cps.back? == some 0) = true then f else spec w false) = spec w false := fun f => by rw [hb, Bool.and_false]; rfl
  have e : (do
      let f ← (Except.ok (spec w false) : Except String FormatSpec)
      if tooLong ((if (f.type.isNone && sp.cps.back? == some 0) = true then { f with type := some 0 } else f).width.getD 0) = true then pure none
      else do
        let r ← strField x (if (f.type.isNone && sp.cps.back? == some 0) = true then { f with type := some 0 } else f) name
        pure (some r)) = (Except.ok (some (some (padded x (w - x.length) 0 32))) : Except String (Option (Option PySem.Str))) := by
    show (if tooLong ((if ((spec w false).type.isNone && sp.cps.back? == some 0) = true then { (spec w false) with type := some 0 } else spec w false).width.getD 0) = true then (pure none : Except String (Option (Option PySem.Str))) else do
        let r ← strField x (if ((spec w false).type.isNone && sp.cps.back? == some 0) = true then { (spec w false) with type := some 0 } else spec w false) name
        pure (some r)) = _
    rw [hc]
    show (if tooLong w = true then (pure none : Except String (Option (Option PySem.Str))) else _) = _
    rw [ht, hs]
    rfl
  dsimp only at e ⊢
  rw [e]
  exact .of_eq rfl
def SpecOk (sp : PySem.Str) (w : Nat) (g : Bool) (al : Nat) : Prop :=
  (sp.length == 0) = false ∧ w ≤ 1000 ∧ ((sp.cps.toList.drop 1).any (fun c => decide (c ≥ 128)) || (decide (sp.cps.getD 0 0 ≥ 128) && !([60, 62, 61, 94] : List Nat).contains (sp.cps.getD 1 0))) = false ∧
  (sp.cps.back? == some 0) = false ∧ ∀ name, parseFormatSpec sp.cps.toList name al = .ok (spec w g)
theorem spec2 : SpecOk (Str.ofString ">2") 2 false 62 := ⟨by decide +kernel, by decide, by decide +kernel, by decide +kernel, fun _ => rfl⟩
theorem spec13 : SpecOk (Str.ofString ">13,") 13 true 62 := ⟨by decide +kernel, by decide, by decide +kernel, by decide +kernel, fun _ => rfl⟩
theorem spec3 : SpecOk (Str.ofString ">3") 3 false 62 := ⟨by decide +kernel, by decide, by decide +kernel, by decide +kernel, fun _ => rfl⟩
theorem spec3s : SpecOk (Str.ofString ">3") 3 false 60 := ⟨by decide +kernel, by decide, by decide +kernel, by decide +kernel, fun _ => rfl⟩
def FmtOf (sp : PySem.Str) (v : V) (y : PySem.Str) : Prop :=
  (∃ (a : Int) (w : Nat) (g : Bool), v = .int a ∧ a.natAbs.log2 < 1920 ∧ SpecOk sp w g 62 ∧ y = fldR w (sgn a) (dsOf g a)) ∨
    ∃ (x : PySem.Str) (w : Nat), v = .str x ∧ x.length < w ∧ SpecOk sp w false 60 ∧ y = padded x (w - x.length) 0 32
def tFmtS (sp : PySem.Str) (te : TE) : TE := fun σ H Q => te σ H fun v H1 => ∃ y, FmtOf sp v y ∧ y.length ≤ sizeLine ∧ Q (.str y) H1
theorem pe_fmtS {X : Cx} {e spe : Expr} {te : TE} {sp : PySem.Str} {pos : Pos} (he : PE X e te) (hs : PE X spe (tC (V.str sp))) (hz : sp.length ≤ sizeLine) :
    PE X (.FormattedValue e (-1) (some spe) pos) (tFmtS sp te) := ⟨by
  intro pins s σ H Q I h
  refine wpAny_FormattedValue_spec (thn (he.run pins s σ H _ I h) fun u s1 ⟨x, H1, I1, r1, y, f, hy, q⟩ => thn (hs.run pins s1 σ H1 (fun z H2 => z = .str sp ∧ H2 = H1) I1 ⟨rfl, rfl⟩) fun v s2 ⟨z, H2, I2, r2, e1, e2⟩ => ?_)
  subst e1 e2
  obtain ⟨t, rfl⟩ := r2
  rcases f with ⟨a, w, g, rfl, hl, ⟨h1, h2, h3, h4, h5⟩, rfl⟩ | ⟨x, w, rfl, hl, ⟨h1, h2, h3, h4, h5⟩, rfl⟩
  · obtain ⟨t1, rfl⟩ := r1
    exact ⟨sp, t, rfl, wpAny_formatField_spec (T := "int") h1 (fun s' => typeIs_int s' _ _) F.slot_int_format F.entry_int_format F.args_int_format_2 (fun u => gives_int_fmt sp w g a _ u hl h2 h1 h3 h4 h5)
      ⟨.str _, H2, I2.kept (t' := _) fun _ _ z => z, ⟨_, rfl⟩, q⟩ hz hy⟩
  · obtain ⟨t1, rfl⟩ := r1
    exact ⟨sp, t, rfl, wpAny_formatField_spec (T := "str") h1 (fun s' => typeIs_str s' _ _) F.slot_str_format F.entry_str_format F.args_str_format_2 (fun u => gives_str_fmt sp w x _ u hl h2 h1 h3 h4 h5)
      ⟨.str _, H2, I2.kept (t' := _) fun _ _ z => z, ⟨_, rfl⟩, q⟩ hz hy⟩⟩
def rSMul : R2 := fun x y H Q => ∃ (z : PySem.Str) (i : Int), x = .str z ∧ y = .int i ∧ MulOk z i ∧ Q (.str (Txt.mul z i)) H
theorem op_smul {X : Cx} : OpR X (binaryOp .Mult) rSMul := by
  intro pins s σ H x y v u Q I rx ry h
  obtain ⟨z, i, rfl, rfl, ok, q⟩ := h
  obtain ⟨t1, rfl⟩ := rx
  obtain ⟨t2, rfl⟩ := ry
  exact SB.mul ok fun t' k => ⟨.str _, H, I.kept (t' := k) fun _ _ z => z, ⟨_, rfl⟩, q⟩
end FmtS

/-! TxtG: numbers with commas, fields of a line. -/
namespace TxtG
open PySem PySem.Spec PyProof.Rows L2 FmtS PySem.Builtin.Str
def T (l : List Nat) : PySem.Str := ⟨l.toArray⟩
theorem T_app (a b : List Nat) : T a ++ T b = T (a ++ b) := by
  show (⟨a.toArray ++ b.toArray⟩ : PySem.Str) = ⟨(a ++ b).toArray⟩
  simp
theorem T_len (a : List Nat) : (T a).length = a.length := by
  show a.toArray.size = _
  simp
theorem T_nil : PySem.Str.empty = T [] := rfl
theorem T_of (z : PySem.Str) : z = T z.cps.toList := by
  cases z
  rfl
theorem T_str (m : Nat) : PySem.Str.ofString (toString (m : Int)) = T (digs (m : Int)) := by
  rw [T_of (PySem.Str.ofString (toString (m : Int))), W.KIN.signs_num]
  rfl
theorem digs_ne (a : Int) : digs a ≠ [] := by
  unfold digs
  intro z
  have := List.map_eq_nil_iff.mp z
  have h2 : (Nat.toDigits 10 a.natAbs).length ≠ 0 := by
    have := @Nat.length_toDigits_pos 10 a.natAbs
    omega
  exact h2 (by rw [this]; rfl)
theorem digs_len {a : Int} (h : 0 ≤ a) (h2 : a < 10 ^ 10) : (digs a).length ≤ 10 := by
  unfold digs
  rw [List.length_map]
  exact W.KXf.digits_le h h2
def com : Nat → List Nat → List Nat → List Nat
  | 0, w, o => w ++ o
  | n + 1, w, o => if w.length ≤ 3 then w ++ o else com n (w.take (w.length - 3)) (44 :: (w.drop (w.length - 3) ++ o))
theorem com_len : ∀ n w o, (com n w o).length ≤ w.length + o.length + n
  | 0, w, o => by simp [com]
  | n + 1, w, o => by
    unfold com
    split
    · simp
    · have := com_len n (w.take (w.length - 3)) (44 :: (w.drop (w.length - 3) ++ o))
      simp at this
      omega
theorem grp_succ (n : Nat) (d : List Nat) (room : Int) (o : List Nat) : grp 3 44 (n + 1) d room o =
    if ((List.drop (min 3 (max (max (d.length : Int) room) 1).toNat) d).isEmpty && decide (room - (min 3 (max (max (d.length : Int) room) 1).toNat : Nat) ≤ 0)) = true
      then List.replicate ((min 3 (max (max (d.length : Int) room) 1).toNat) - d.length) 48 ++ (List.take (min 3 (max (max (d.length : Int) room) 1).toNat) d).reverse ++ o
      else grp 3 44 n (List.drop (min 3 (max (max (d.length : Int) room) 1).toNat) d) (room - (min 3 (max (max (d.length : Int) room) 1).toNat : Nat) - 1)
        (44 :: (List.replicate ((min 3 (max (max (d.length : Int) room) 1).toNat) - d.length) 48 ++ (List.take (min 3 (max (max (d.length : Int) room) 1).toNat) d).reverse ++ o)) := rfl
theorem grp_com : ∀ n w (room : Int) o, w ≠ [] → room ≤ 0 → w.length ≤ n → grp 3 44 n w.reverse room o = com n w o
  | 0, w, _, _, h, _, l => absurd (List.length_eq_zero_iff.mp (by omega)) h
  | n + 1, w, room, o, h, hr, l => by
    have h1 : 1 ≤ w.length := List.length_pos_iff.mpr h
    rw [grp_succ]
    have e : min 3 (max (max (w.reverse.length : Int) room) 1).toNat = min 3 w.length := by
      rw [List.length_reverse]
      omega
    rw [e]
    unfold com
    by_cases h3 : w.length ≤ 3
    · rw [if_pos h3]
      have e2 : min 3 w.length = w.length := by omega
      rw [e2, if_pos ?_]
      · rw [List.length_reverse, Nat.sub_self, List.take_of_length_le (by rw [List.length_reverse]; omega), List.reverse_reverse]
        rfl
      · rw [List.drop_eq_nil_of_le (by rw [List.length_reverse]; omega)]
        rw [Bool.and_eq_true]
        exact ⟨rfl, decide_eq_true (by omega)⟩
    · rw [if_neg h3]
      have e2 : min 3 w.length = 3 := by omega
      rw [e2, if_neg ?_]
      · have d1 : List.drop 3 w.reverse = (w.take (w.length - 3)).reverse := by rw [List.drop_reverse]
        have d2 : (List.take 3 w.reverse).reverse = w.drop (w.length - 3) := by rw [List.take_reverse, List.reverse_reverse]
        have d3 : 3 - w.reverse.length = 0 := by rw [List.length_reverse]; omega
        rw [d1, d2, d3, grp_com n _ _ _ ?_ (by omega) ?_]
        · rfl
        · intro z
          have := congrArg List.length z
          rw [List.length_take] at this
          simp at this
          omega
        · rw [List.length_take]
          omega
      · rw [Bool.and_eq_true]
        intro z
        have := List.isEmpty_iff.mp z.1
        have := congrArg List.length this
        rw [List.length_drop, List.length_reverse] at this
        simp at this
        omega
/-- a number with commas -/
def comT (a : Int) : List Nat := com ((digs a).length + 1) (digs a) []
theorem dsOf_com (a : Int) : dsOf true a = comT a := by
  unfold dsOf comT
  rw [if_neg (fun z => digs_ne a (List.isEmpty_iff.mp z)), if_pos rfl]
  exact grp_com _ _ _ _ (digs_ne a) (Int.le_refl 0) (by omega)
theorem dsOf_plain (a : Int) : dsOf false a = digs a := by
  unfold dsOf
  rw [if_neg (fun z => digs_ne a (List.isEmpty_iff.mp z)), if_neg Bool.false_ne_true]
theorem comT_len {a : Int} (h : 0 ≤ a) (h2 : a < 10 ^ 10) : (comT a).length ≤ 21 := by
  have := com_len ((digs a).length + 1) (digs a) []
  have := digs_len h h2
  unfold comT
  simp at *
  omega
def fillL (w : Nat) (l : List Nat) : List Nat := List.replicate ((w : Int) - (l.length : Int)).toNat 32 ++ l
theorem fillL_len (w : Nat) (l : List Nat) : (fillL w l).length ≤ w + l.length := by
  unfold fillL
  simp
theorem fld_fill (w : Nat) {a : Int} (h : 0 ≤ a) (g : Bool) : fldR w (sgn a) (dsOf g a) = T (fillL w (dsOf g a)) := by
  have e : sgn a = [] := by
    unfold sgn
    rw [if_neg]
    simp
    omega
  rw [e]
  unfold fldR fillL T
  simp
theorem padded_fill (w : Nat) (l : List Nat) : padded (T l) (w - (T l).length) 0 32 = T (fillL w l) := by
  rw [T_len]
  unfold padded T fillL
  have : ((w : Int) - (l.length : Int)).toNat = w - l.length := by omega
  rw [this]
  simp
theorem mul_sp (n : Int) : Txt.mul (T [32]) n = T (List.replicate n.toNat 32) := by
  unfold Txt.mul
  split
  · have : n.toNat = 0 := by omega
    rw [this]
    rfl
  · split
    · rename_i h1 h2
      have : n = 1 := by
        have h2 : (n == 1 || (1 : Nat) == 0) = true := h2
        simp at h2
        exact h2
      subst this
      rfl
    · rename_i h1 h2
      generalize n.toNat = m
      have : ∀ (m : Nat) (a : List Nat), (List.foldl (fun x1 x2 => x1 ++ x2) a.toArray (List.replicate m (T [32]).cps)) = (a ++ List.replicate m 32).toArray := by
        intro m
        induction m with
        | zero => intro a; simp
        | succ m ih =>
          intro a
          rw [List.replicate_succ, List.foldl_cons]
          have : a.toArray ++ (T [32]).cps = (a ++ [32]).toArray := by unfold T; simp
          rw [this, ih]
          rw [List.replicate_succ]
          simp
      exact congrArg PySem.Str.mk (this m [])
theorem mul_ok {n : Int} (h : -1000 ≤ n) (h2 : n ≤ 1000) : MulOk (T [32]) n := by
  refine ⟨?_, fun h3 _ => ?_, fun h3 _ => ?_⟩
  · rw [Bool.or_eq_false_iff]
    exact ⟨decide_eq_false (by omega), decide_eq_false (by omega)⟩
  · have e : (((T [32]).length : Nat) : Int) = 1 := rfl
    rw [e]
    have : 1 ≤ (2 ^ 63 - 1) / n := (Int.le_ediv_iff_mul_le (by omega)).mpr (by omega)
    omega
  · have e : (T [32]).length = 1 := rfl
    rw [e]
    unfold tooLong
    have : 1000 ≤ sizeLine := by decide
    exact decide_eq_false (by omega)
theorem cut_tail (l : List Nat) (h : 3 < l.length) : cutS (T l) (some (-3)) none = T (l.drop (l.length - 3)) := by
  have e : HT.sIx l.length 0 (some (-3)) = l.length - 3 := by
    show (if (-3 : Int) < 0 then ((-3 : Int) + (l.length : Int)).toNat else min (-3 : Int).toNat l.length) = _
    rw [if_pos (by decide)]
    omega
  have e2 : HT.sIx l.length l.length none = l.length := rfl
  unfold cutS
  show (⟨_⟩ : PySem.Str) = ⟨_⟩
  rw [T_len, e, e2]
  show (⟨(List.take _ (List.drop _ l)).toArray⟩ : PySem.Str) = _
  rw [List.take_of_length_le (by rw [List.length_drop]; omega)]
theorem cut_head (l : List Nat) (h : 3 < l.length) : cutS (T l) none (some (-3)) = T (l.take (l.length - 3)) := by
  have e : HT.sIx l.length l.length (some (-3)) = l.length - 3 := by
    show (if (-3 : Int) < 0 then ((-3 : Int) + (l.length : Int)).toNat else min (-3 : Int).toNat l.length) = _
    rw [if_pos (by decide)]
    omega
  have e2 : HT.sIx l.length 0 none = 0 := rfl
  unfold cutS
  show (⟨_⟩ : PySem.Str) = ⟨_⟩
  rw [T_len, e, e2]
  rfl
/-- a line of a chart -/
def lineT (k : Nat) (x : Int × Int) (t : List Nat) : PySem.Str := T (fillL 2 (digs (k : Int)) ++ [32] ++ fillL 13 (comT x.1) ++ [32] ++ fillL 13 (comT x.2) ++ [32] ++ fillL 3 t)
theorem lineT_len {k : Nat} {x : Int × Int} {t : List Nat} (hk : k < 1000) (h1 : 0 ≤ x.1) (h2 : x.1 ≤ 1000000000) (h3 : 0 ≤ x.2) (h4 : x.2 ≤ 1000000000) (ht : t.length ≤ 20) : (lineT k x t).length ≤ 200 := by
  unfold lineT
  rw [T_len]
  have a1 := fillL_len 2 (digs (k : Int))
  have a2 := fillL_len 13 (comT x.1)
  have a3 := fillL_len 13 (comT x.2)
  have a4 := fillL_len 3 t
  have b1 := digs_len (a := (k : Int)) (by omega) (by omega)
  have b2 := comT_len h1 (by omega)
  have b3 := comT_len h3 (by omega)
  simp only [List.length_append, List.length_singleton]
  omega
end TxtG

/-! SplS: texts cut at a sign, and put together. -/
namespace SplS
open PySem PySem.Spec PyProof.Rows L2 PySem.Builtin PySem.Builtin.Str
open TxtG (T T_app T_len T_of)
def splitL (c : Nat) : List Nat → List (List Nat)
  | [] => [[]]
  | a :: l => if a = c then [] :: splitL c l else match splitL c l with
    | [] => [[a]]
    | p :: ps => (a :: p) :: ps
def joinL (c : Nat) : List (List Nat) → List Nat
  | [] => []
  | [p] => p
  | p :: q :: ps => p ++ c :: joinL c (q :: ps)
theorem splitL_app (c : Nat) : ∀ (p l : List Nat), c ∉ p → splitL c (p ++ c :: l) = p :: splitL c l
  | [], l, _ => by simp [splitL]
  | a :: p, l, h => by
    have h1 : a ≠ c := fun e => h (by simp [e])
    have ih := splitL_app c p l (fun e => h (by simp [e]))
    show (if a = c then _ else match splitL c (p ++ c :: l) with | [] => [[a]] | p :: ps => (a :: p) :: ps) = _
    rw [if_neg h1, ih]
theorem splitL_one (c : Nat) : ∀ (p : List Nat), c ∉ p → splitL c p = [p]
  | [], _ => rfl
  | a :: p, h => by
    have h1 : a ≠ c := fun e => h (by simp [e])
    have ih := splitL_one c p (fun e => h (by simp [e]))
    show (if a = c then _ else _) = _
    rw [if_neg h1, ih]
theorem splitL_join (c : Nat) : ∀ (ps : List (List Nat)), ps ≠ [] → (∀ p ∈ ps, c ∉ p) → splitL c (joinL c ps) = ps
  | [], h, _ => absurd rfl h
  | [p], _, h => splitL_one c p (h p (by simp))
  | p :: q :: ps, _, h => by
    show splitL c (p ++ c :: joinL c (q :: ps)) = _
    rw [splitL_app c p _ (h p (by simp)), splitL_join c (q :: ps) (by simp) fun x hx => h x (by simp at hx ⊢; exact .inr hx)]
theorem count_join (c : Nat) : ∀ (ps : List (List Nat)), ps ≠ [] → (joinL c ps).count c + 1 = (ps.map (·.count c)).sum + ps.length
  | [], h => absurd rfl h
  | [p], _ => by simp [joinL]
  | p :: q :: ps, _ => by
    have ih := count_join c (q :: ps) (by simp)
    show (p ++ c :: joinL c (q :: ps)).count c + 1 = _
    rw [List.count_append, List.count_cons_self]
    simp only [List.map_cons, List.sum_cons, List.length_cons] at ih ⊢
    omega
theorem strJoin_T (c : Nat) : ∀ (ps : List (List Nat)), PySem.Str.join (T [c]) (ps.map T) = T (joinL c ps)
  | [] => rfl
  | [p] => rfl
  | p :: q :: ps => by
    have ih := strJoin_T c (q :: ps)
    show T p ++ T [c] ++ PySem.Str.join (T [c]) ((q :: ps).map T) = T (p ++ c :: joinL c (q :: ps))
    rw [ih, T_app, T_app]
    simp
theorem txtJoin_T (c : Nat) (ps : List (List Nat)) : Txt.join (T [c]) (ps.map T) = T (joinL c ps) := by
  rw [← strJoin_T]
  exact StrLaws.glued_eq_join _ _
theorem T_inj {a b : List Nat} (h : T a = T b) : a = b := by
  have := congrArg (fun s : PySem.Str => s.cps.toList) h
  simpa [T] using this
theorem T_cps (a : List Nat) : (T a).cps.toList = a := by simp [T]
theorem cnt_count (c : Nat) : ∀ l : List Nat, cnt c l = ((l.count c : Nat) : Int)
  | [] => rfl
  | n :: l => by
    rw [cnt_cons, cnt_count c l, List.count_cons]
    by_cases h : n = c
    · simp [h]
      omega
    · simp [h]
theorem sum_zero : ∀ {l : List Nat}, l.sum = 0 → ∀ n ∈ l, n = 0
  | [], _, _, h => nomatch h
  | a :: l, e, n, h => by
    rw [List.sum_cons] at e
    rcases List.mem_cons.mp h with rfl | h
    · omega
    · exact sum_zero (by omega) n h
theorem split_T (c : Nat) (x : List Nat) : Txt.split (T x) (T [c]) = (splitL c x).map T := by
  have h1 := StrLaws.join_split (T x) (T [c])
  have h2 := split_len (T x) c
  rw [cnt_count, T_cps] at h2
  have e : Txt.split (T x) (T [c]) = ((Txt.split (T x) (T [c])).map fun s => s.cps.toList).map T := by
    rw [List.map_map]
    conv => lhs; rw [← List.map_id (Txt.split (T x) (T [c]))]
    exact List.map_congr_left fun s _ => T_of s
  have h3 : (Txt.split (T x) (T [c])).length = 1 + x.count c := by
    have h2 : ((Txt.split (T x) (T [c])).length : Int) = 1 + ((x.count c : Nat) : Int) := h2
    omega
  rw [e] at h1 h3 ⊢
  generalize (Txt.split (T x) (T [c])).map (fun s => s.cps.toList) = qs at h1 h3 ⊢
  rw [List.length_map] at h3
  rw [strJoin_T] at h1
  have h4 := T_inj h1
  have ne : qs ≠ [] := fun z => by rw [z] at h3; simp at h3; omega
  have h5 := count_join c qs ne
  rw [h4] at h5
  have h6 : (qs.map (·.count c)).sum = 0 := by omega
  have h7 : ∀ p ∈ qs, c ∉ p := fun p hp hc => by
    have := sum_zero h6 _ (List.mem_map.mpr ⟨p, hp, rfl⟩)
    have := List.count_pos_iff.mpr hc
    omega
  rw [← h4, splitL_join c qs ne h7]
theorem split_join {c : Nat} {ps : List (List Nat)} (ne : ps ≠ []) (h : ∀ p ∈ ps, c ∉ p) : Txt.split (T (joinL c ps)) (T [c]) = ps.map T := by rw [split_T, splitL_join c ps ne h]
end SplS

/-! LcX: name = [element for target in iterable], where the element may raise. -/
namespace LcX
open PySem PySem.Spec PyProof.Rows L2

section
variable {Md : Model} {Ar : Around} {Er : Value → Shared → Prop}
/-- noted by this frame, whatever the flight was -/
theorem note_other {Z : Obj → Prop} {G : Heap} {en : Env} {out : List Env} {F x : Addr} {fl : Value} {st : Shared} {K : Unit → Shared → Prop} (zs : PySem.HandSPX.Steady Z) (fs : Ar.frames = some (en :: out)) (fe : en.frame = some F)
    (stays : G.StaysIn st.heap) (new : G.get? x = none) (ff : st.heap.FunFrames G (en :: out)) (tr : PySem.HandSPX.TracedZ st.heap G x Z fl) (ne : fl ≠ rawInt F)
    (k : ∀ h₁, PySem.HandSPX.HeldZ G (en :: out) x Z F h₁ → st.heap.UpToSlots h₁ → K () { st with heap := h₁ }) : wpAny Md Ar (noteFrame (.ref x) en) K Er st := by
  obtain ⟨ox, fx, tb, ot, ft, at_x, zx, dx, x1, nt, tx, at_t, dt, t3⟩ := tr
  have lt3 := (Array.getElem?_eq_some_iff.mp t3).1
  unfold noteFrame
  simp only [fe]
  refine wpAny_bind (wpAny_field at_x dx x1 ?_)
  rw [if_pos (by simp : (Value.ref tb != Value.none) = true)]
  refine wpAny_bind (wpAny_field at_t dt t3 ?_)
  rw [if_neg (fun z => ne (by simpa using z))]
  refine wpAny_bind (wpAny_setField at_t dt lt3 ?_)
  generalize hu : st.heap.update tb (Obj.mapFields (·.setIfInBounds 3 Value.none)) = hu'
  have oth : ∀ b, b ≠ tb → hu'.get? b = st.heap.get? b := fun b q => by rw [← hu]; exact Heap.get?_update_other _ _ (Ne.symm q)
  have plain : ∀ {b : Addr} {o : Obj}, st.heap.get? b = some o → (∀ l, o.data ≠ .fields l) → hu'.get? b = some o := fun {b o} e n => by
    rw [oth b fun q => by subst q; rw [at_t] at e; cases e; exact n _ dt]; exact e
  have ax : hu'.get? x = some ox := by rw [oth x (Ne.symm tx)]; exact at_x
  have st' : G.StaysIn hu' := fun b o e => by
    rw [oth b fun q => by subst q; rw [nt] at e; cases e]; exact stays b o e
  have ff' : hu'.FunFrames G (en :: out) := ff.of_keeps fun b o e n => ⟨o, plain e n, rfl⟩
  exact PySem.HandSPX.wpAny_entryZ (s := { st with heap := hu' }) zs fs ff' fe ax st' new dx (Array.getElem?_eq_some_iff.mp x1).1 zx fun h₁ ⟨w1, w2, w3, w4⟩ => k h₁ ⟨w1, new, w2, w3⟩ fun b o e n => w4 b o (plain e n) n

/-- any sky, noted by the frame; the sky spoke of another place C -/
theorem sky_note {Z : Obj → Prop} {G : Heap} {en : Env} {out : List Env} {F C x : Addr} {st : Shared} {K : Unit → Shared → Prop} (zs : PySem.HandSPX.Steady Z) (fs : Ar.frames = some (en :: out)) (fe : en.frame = some F) (CF : C ≠ F)
    (sk : Sky G (en :: out) x Z C st.heap) (k : ∀ h₁, PySem.HandSPX.HeldZ G (en :: out) x Z F h₁ → st.heap.UpToSlots h₁ → K () { st with heap := h₁ }) : wpAny Md Ar (noteFrame (.ref x) en) K Er st := by
  rcases sk with ⟨b1, b2, b3, ox, fx, ax, zx, dx, x1⟩ | fl | ⟨b1, b2, b3, tr⟩
  · exact PySem.HandSPX.look_newZ zs fs b3 fe ax b1 b2 dx x1 zx k
  · exact PySem.HandSPX.looks_onZ zs fs fe fl k
  · exact note_other zs fs fe b1 b2 b3 tr (fun z => CF (Int.ofNat.inj (by simpa [rawInt] using z))) k

/-- frames stand where their objects do -/
theorem frames_at {G G' a b : Heap} : ∀ {l : List Env}, a.FunFrames G l → (∀ F ∈ frs l, b.get? F = a.get? F ∧ G'.get? F = none) → b.FunFrames G' l
  | [], _, _ => trivial
  | en :: r, ⟨nm, ⟨F, o, fe, _, fo, fd⟩, rest⟩, h =>
    have q := h F (List.mem_filterMap.mpr ⟨en, List.mem_cons_self, fe⟩)
    ⟨nm, ⟨F, o, fe, q.2, q.1.trans fo, fd⟩, frames_at rest fun F' hm => h F' (by
      obtain ⟨e', m', f'⟩ := List.mem_filterMap.mp hm
      exact List.mem_filterMap.mpr ⟨e', List.mem_cons_of_mem _ m', f'⟩)⟩

/-- held, with one object less in the ground -/
theorem held_less {Z : Obj → Prop} {G a b : Heap} {l : List Env} {F C x : Addr} {m : Str → Option Value} (hh : PySem.HandSPX.HeldZ G l x Z F a) (ns : a.Ns C m) (sb : Heap.SameBut C a b) (nC : C ∉ frs l) :
    PySem.HandSPX.HeldZ (PySem.W.hideAll G [C]) l x Z F b := by
  obtain ⟨st, nx, ff, ox, fx, tb, ot, ft, ax, zx, dx, x1, nt, tx, at_t, dt, t3⟩ := hh
  obtain ⟨oc, es, ep, ac, dc, _⟩ := ns
  have less : ∀ y, G.get? y = none → (PySem.W.hideAll G [C]).get? y = none := fun y e => by
    cases q : (PySem.W.hideAll G [C]).get? y with
    | none => rfl
    | some o => rw [PySem.W.of_hideAll _ q] at e; cases e
  have neC : ∀ {y : Addr} {o : Obj} {f : Array Value}, a.get? y = some o → o.data = .fields f → y ≠ C := fun {y o f} e d q => by
    subst q; rw [ac] at e; cases e; rw [dc] at d; cases d
  refine ⟨fun y o e => ?_, less x nx, frames_at ff fun F' hm => ⟨sb.2 F' fun q => nC (q ▸ hm), less F' ((ff.mem hm).1)⟩, ox, fx, tb, ot, ft, (sb.2 x (neC ax dx)).trans ax, zx, dx, x1, less tb nt, tx, (sb.2 tb (neC at_t dt)).trans at_t, dt, t3⟩
  have yC : y ≠ C := fun q => by
    subst q; rw [PySem.W.hideAll_none [y] (by simp)] at e; cases e
  exact (sb.2 y yC).trans (st y o (PySem.W.of_hideAll _ e))
end

/-- what a block's end is to reach; the block's own environment is told -/
def endX (Md : Model) (Ar : Around) (Er : Value → Shared → Prop) (u : Value → Sem Unit) (K : Value → Shared → Prop) (acc : Value) (ce : Env) : Result → Shared → Prop
  | .ok _, st => wpAny Md Ar (u acc) (fun _ s2 => ∃ m, s2.heap.Ns ce.locals m ∧ ∀ h3, Heap.SameBut ce.locals s2.heap h3 → K .none { s2 with heap := h3 }) Er st
  | .error x, st => ∃ m, st.heap.Ns ce.locals m ∧ ∀ h3, Heap.SameBut ce.locals st.heap h3 → wpAny Md Ar (passOn "comprehension.variables-let-go" x ce : Sem Value) (fun _ _ => False) Er { st with heap := h3 }

theorem block_x {Md : Model} {Ar : Around} {Er : Value → Shared → Prop} {st : Shared} {en : Env} {c : Expr} {sc : Scope} {p : Pos} {mk it₀ : Sem Value} {g : Comprehension} {gs : List Comprehension} {clo : List (Str × Addr)} {u : Value → Sem Unit} {K : Value → Shared → Prop}
    (clauses : clausesOf c = g :: gs) (noset : ∀ x, foldedSetIterable g.iter en x = pure x) (closure : closureFor sc en = pure clo) (fn : sc.kind = .function) (one : ∀ y ∈ sc.names, y.2 = .local → sc.names.lookup y.1 = some .local)
    (run : wpAny Md Ar it₀ (fun x s1 => wpAny Md Ar (pyIter x) (fun i s2 => wpAny Md Ar mk (fun acc s3 => wpAny Md Ar (newFunctionEnv sc en.globals clo [] en.qual none .none (some en)) (fun b s4 =>
      codeAny Md Ar (.compStart c 0 i acc { b with scope := relabel sc en }) (endX Md Ar Er u K acc { b with scope := relabel sc en }) s4) Er s3) Er s2) Er s1) Er st) :
    wpAny Md Ar (comprehension c sc en p mk false it₀ (some u)) K Er st := by
  have id' : ∀ (e : Value) (s : Shared), Er e s → Er e s := fun _ _ z => z
  unfold comprehension
  rw [closure, clauses]
  refine wpAny_bind (wpAny_mono run (fun x s1 r1 => ?_) id')
  refine wpAny_bind (wpAny_standAt (wpAny_bind (wpAny_of_eq (noset x) ?_)))
  refine wpAny_bind (wpAny_holding (wpAny_mono r1 (fun i s2 r2 => ?_) id'))
  refine wpAny_standIf (wpAny_bind (wpAny_mono r2 (fun acc s3 r3 => ?_) id'))
  refine wpAny_bind (wpAny_pure (wpAny_bind (wpAny_mono r3 (fun b s4 r4 => ?_) id')))
  dsimp only
  have kinds : ∀ y ∈ (sc.names.filter fun x => (x.2 == .local || x.2 == .cell) && x.1 != (".0" : Str)).reverse, y.2 = .local → Env.kindOf { b with scope := relabel sc en } y.1 = some .local := by
    intro y hy l
    exact lookup_relabel_local (one y (List.mem_filter.mp (List.mem_reverse.mp hy)).1 l)
  have kinds' : ∀ y ∈ (sc.names.filter fun x => (x.2 == .local || x.2 == .cell) && x.1 != (".0" : Str)).reverse.drop 1 ++ (sc.names.filter fun x => (x.2 == .local || x.2 == .cell) && x.1 != (".0" : Str)).reverse.take 1,
      y.2 = .local → Env.kindOf { b with scope := relabel sc en } y.1 = some .local := by
    intro y hy l
    exact (List.mem_append.mp hy).elim (fun z => kinds y (List.mem_of_mem_drop z) l) (fun z => kinds y (List.mem_of_mem_take z) l)
  refine wpAny_holding (wpAny_bind (wpAny_attempt (wpAny_holding (wpAny_run (codeAny_mono r4 fun r s5 hr => ?_)))))
  cases r with
  | ok f =>
    refine wpAny_bind (wpAny_rule (wpAny_bind (wpAny_holding (wpAny_mono hr (fun _ s6 ⟨m, ns, fin⟩ => ?_) id'))))
    exact wpAny_bind (wpAny_comp_letGo (cenv := { b with scope := relabel sc en }) fn _ s6 m kinds' ns fun h3 _ _ sb => wpAny_pure (fin h3 sb))
  | error x =>
    obtain ⟨m, ns, fin⟩ := hr
    exact wpAny_bind (wpAny_holding (wpAny_comp_letGo (cenv := { b with scope := relabel sc en }) fn _ s5 m kinds ns fun h3 _ _ sb => wpAny_mono (fin h3 sb) (fun _ _ z => z.elim) id'))

section
variable {X : Cx}
/-- what the block lets out, the def takes -/
theorem takes_block {pins : List (Addr × Obj)} {σ : L2.St} {H : Hp} {st : Shared} {scope : Scope} {cl : List (Str × Addr)} {fp : List Addr} {u : Value → Sem Unit} {K : Value → Shared → Prop} {acc : Value} {Wd : XK}
    (hs : X.stack = X.env :: X.outer) (hf : X.env.frame = some X.env.locals) (tk : Takes X fun cls d _ H => Wd cls d H) (I : Inv X pins σ H st) (f : ∀ b ∈ fp, FpOk X pins H b) :
    Takes ((X.blk st H scope (compEnvC scope cl st.heap.objs.size X.env) fp).wish (notedBy (model X.prog X.w) X.A (compEnvC scope cl st.heap.objs.size X.env) fun e s' =>
      endX (model X.prog X.w) X.A X.xe u K acc (compEnvC scope cl st.heap.objs.size X.env) (.error e) s')) fun cls d _ H => Wd cls d H := by
  rintro v s' ⟨a, B, sI, pins', σ', H', cls, d, rfl, J, nb, up, sky, na, os, ag, w⟩
  have J := J.unwish
  have fs : X.A.frames = some (X.env :: X.outer) := by rw [I.ok.frames, hs]
  have CF : st.heap.objs.size ≠ X.env.locals := Nat.ne_of_gt I.lt
  have nC : H' st.heap.objs.size = none := J.free
  have fC : FpOk X pins H' st.heap.objs.size := I.fpOk (Nat.le_refl _) nC
  have I7 : Inv X pins σ H' sI := I.call' (ch := fp) J.os J.base J.hok J.bare fun b hb => ⟨(f b hb).2.2.2.1, (f b hb).2.1, (f b hb).2.2.2.2.1, (f b hb).2.2.2.2.2⟩
  have notFr : st.heap.objs.size ∉ frs (X.env :: X.outer) := fun hm => by
    rw [← hs] at hm
    exact (List.mem_cons.mp (I.stkSub _ hm)).elim CF fun z => fC.2.2.1 z
  have sky' : Sky B (X.env :: X.outer) a (Zc cls d) st.heap.objs.size s'.heap := by rw [← hs]; exact sky
  show wpAny _ _ (noteFrame (.ref a) X.env) _ _ _
  refine sky_note Zc.steady fs hf CF sky' fun h1 held up1 => ?_
  obtain ⟨m, ns, _⟩ := J.loc
  have ns1 : h1.Ns st.heap.objs.size m := up1.ns (up.ns ns)
  refine ⟨m, ns1, fun h2 sb => ?_⟩
  have held2 := held_less held ns1 sb notFr
  obtain ⟨_, _, _, ox, fx, tb, _, _, ax, _, dx, x1, _⟩ := id held2
  unfold PySem.passOn
  refine wpAny_bind (wpAny_field ax dx x1 ?_)
  rw [if_neg (by simp : ¬ (Value.ref tb == Value.none) = true)]
  rw [show (compEnvC scope cl st.heap.objs.size X.env).frame = some X.env.locals from hf]
  refine wpAny_bind (PySem.HandSPX.setFlight_onZ held2 fun h3 held3 up3 => wpAny_throw ?_)
  have hid : ∀ {b : Addr} {o : Obj}, (PySem.W.hideAll sI.heap [st.heap.objs.size]).get? b = some o → sI.heap.get? b = some o ∧ b ≠ st.heap.objs.size := fun {b o} e => ⟨PySem.W.of_hideAll _ e, fun q => by
    subst q; rw [PySem.W.hideAll_none [_] (by simp)] at e; cases e⟩
  obtain ⟨f0, f1, f2, f3, f4, f5⟩ := fC
  refine tk _ _ ⟨a, PySem.W.hideAll B [st.heap.objs.size], { sI with heap := PySem.W.hideAll sI.heap [st.heap.objs.size] }, pins, σ, H', cls, d, rfl, I7.turned (t' := sI.toks) (fun b o hb e => PySem.W.hideAll_get _ e (by simpa using hb)) f0 f1 f3 f4 f5,
    fun b o e hb => PySem.W.hideAll_get _ (nb b o (hid e).1 hb) (by simpa using (hid e).2), fun b o e n => ?_, .inr (.inr (by rw [hs]; exact held3)), na, os, ag, w⟩
  obtain ⟨s1, e1⟩ := up b o (hid e).1 n
  obtain ⟨s2, e2⟩ := up1 b _ e1 n
  obtain ⟨s3, e3⟩ := up3 b _ ((sb.2 b (hid e).2).trans e2) n
  exact ⟨s3, e3⟩

/-- the block: the iterable is walked, a new list grows; what its end is to reach is told by fin -/
theorem core_x {pins : List (Addr × Obj)} {s : Shared} {σ : L2.St} {H : Hp} {Q : VK} {elt tg iter : Expr} {scope : Scope} {own : List (Str × Nat)} {pos pos' : Pos} {wi : TI} {g : TG} {te : TE} {u : Value → Sem Unit} {K : Value → Shared → Prop} {Wd : XK}
    (hs : X.stack = X.env :: X.outer) (hf : X.env.frame = some X.env.locals) (tk : Takes X fun cls d _ H => Wd cls d H) (hc : X.calm = true) (hN : X.N.Nodup) (I : Inv X pins σ H s) (hi : PI X tg iter wi) (ok : BlkOk X.N X.env.scope scope own)
    (hg : ∀ (s : Shared) (H : Hp) (C : Addr) (cl : List (Str × Addr)) (fp : List Addr), PG (X.blk s H scope (compEnvC scope cl C X.env) fp) tg g)
    (he : ∀ (s : Shared) (H : Hp) (C : Addr) (cl : List (Str × Addr)) (fp : List Addr) (E : Value → Shared → Prop), Takes ((X.blk s H scope (compEnvC scope cl C X.env) fp).wish E) (fun cls d _ H => Wd cls d H) → PE ((X.blk s H scope (compEnvC scope cl C X.env) fp).wish E) elt te)
    (nos : ∀ x, foldedSetIterable iter X.env x = pure x) (h : tLc wi g tYes te (own.map (·.2)) σ H Q)
    (fin : ∀ D (ce : Env) st m H', Inv X pins σ H' st → Q (.ref D) H' → st.heap.Ns ce.locals m → FpOk X pins H' ce.locals → endX (model X.prog X.w) X.A X.xe u K (.ref D) ce (.ok .next) st) :
    wpAny (model X.prog X.w) X.A (comprehension (.ListComp elt [⟨tg, iter, [], 0⟩] scope pos) scope X.env pos' (newList []) false (eval iter X.env) (some u)) K X.xe s := by
  have fre : ∀ y ∈ scope.names, y.2 = .free → ∃ c, X.env.cells.lookup y.1 = some c := by
    intro y hy q
    exact (ok.free y hy q).elim (fun k => I.ok.has _ (.inl k)) (fun k => I.ok.has _ (.inr k))
  refine block_x rfl nos (closure_ok fre) ok.kind (fun y hy q => by rw [ok.uniq y hy, q]) ?_
  refine thn (hi.run pins s σ H _ I h) fun xv s1 hx => thn hx fun iv s2 ⟨it, fp, tn, J, H2, q0, I2, T, t2, f2, rest⟩ => ?_
  subst q0
  refine wpAny_newObj_type (newEnv_comp ?_) (by show 0 ≤ sizeLine; decide)
  generalize eD : s2.heap.objs.size = D
  have dn : H2 D = none := I2.hok.fresh (Nat.le_of_eq eD)
  obtain ⟨W, ⟨m0, w0⟩, turn⟩ := rest D dn
  generalize e3 : ({ s2 with heap := s2.heap.push { cls := .type "list", data := .seq ([] : List Value).toArray } } : Shared) = s3
  have he3 : s3.heap = s2.heap.push { cls := .type "list", data := .seq ([] : List Value).toArray } := by rw [← e3]
  have I3 : Inv X pins σ (upd H2 D (.lst [])) s3 := by
    subst e3
    exact I2.laid (t' := s2.toks) (fun b o e => Heap.get?_push_of_some _ e) (Nat.le_of_eq eD) ⟨Nat.zero_le _, [], 0, .nil, by subst eD; exact Heap.get?_push_size _ rfl⟩
  have old : ∀ b ∈ fp, b < s2.heap.objs.size := fun b hb => let ⟨_, e, _⟩ := T.obj _ _ t2 b hb; Heap.lt_size e
  have f3 : ∀ b ∈ fp, FpOk X pins (upd H2 D (.lst [])) b := fun b hb =>
    ⟨by rw [upd_ne (by rw [← eD]; exact Nat.ne_of_lt (old b hb))]; exact (f2 b hb).1, (f2 b hb).2⟩
  have I4 := block_start I3 ok hN fun b hb => ⟨f3 b hb, by rw [he3, Heap.size_push]; exact Nat.lt_succ_of_lt (old b hb)⟩
  generalize ecl : cellsFrom (s3.heap.objs.size + 1) scope.names (cloFrom X.env.cells scope.names []) = cl at I4
  have pg := hg s3 (upd H2 D (.lst [])) s3.heap.objs.size cl fp
  have tkb := takes_block (scope := scope) (cl := cl) (u := u) (K := K) (acc := .ref D) hs hf tk I3 f3
  have pe := he s3 (upd H2 D (.lst [])) s3.heap.objs.size cl fp _ tkb
  show codeAny _ _ (.compStart (.ListComp elt [⟨tg, iter, [], 0⟩] scope pos) 0 (.ref it) (.ref D) (compEnvC scope cl s3.heap.objs.size X.env))
    (endX (model X.prog X.w) X.A X.xe u K (.ref D) (compEnvC scope cl s3.heap.objs.size X.env)) { s3 with heap := pushCells (s3.heap.push { cls := .type "dict", data := .dict #[] }) scope.names }
  have nfp : ∀ b ∈ fp, (upd H2 D (.lst [])) b = none := fun b hb => (f3 b hb).1
  have cL : (compEnvC scope cl s3.heap.objs.size X.env).locals = s3.heap.objs.size := rfl
  have t4 : tn 0 (pushCells (s3.heap.push { cls := .type "dict", data := .dict #[] }) scope.names) := T.keep _ _ _ t2 fun b _ o e =>
    pushCells_keeps _ _ _ _ (Heap.get?_push_of_some _ (by rw [he3]; exact Heap.get?_push_of_some _ e))
  generalize ece : compEnvC scope cl s3.heap.objs.size X.env = ce at *
  generalize eH : upd H2 D (.lst []) = H3 at *
  generalize e4 : ({ s3 with heap := pushCells (s3.heap.push { cls := .type "dict", data := .dict #[] }) scope.names } : Shared) = s4 at *
  have t4' : tn 0 s4.heap := by rw [← e4]; exact t4
  have still : ∀ {σ' : L2.St} {H' : Hp} {s' : Shared}, Inv (X.blk s3 H3 scope ce fp) [] σ' H' s' → (∀ b ∈ fp, H' b = none) → ∀ b ∈ fp, FpOk (X.blk s3 H3 scope ce fp) [] H' b := fun {σ' H' s'} J n b hb =>
    ⟨n b hb, (J.ok.exf b hb).1, J.ok.exfs b hb, .inl hb, (J.ok.exf b hb).2, fun p hp => by cases hp⟩
  have loop : codeAny (model X.prog X.w) X.A (.compLoop (.ListComp elt [⟨tg, iter, [], 0⟩] scope pos) 0 (.ref it) (.ref D) ce) (endX (model X.prog X.w) X.A X.xe u K (.ref D) ce) s4 := by
    refine compLoop_any (fun n s' => ∃ i H', Inv (X.blk s3 H3 scope ce fp) [] (wipe σ (own.map (·.2))) H' s' ∧ tn i s'.heap ∧ (∀ b ∈ fp, H' b = none) ∧ W i n H') ?_ m0 ⟨0, H3, I4, t4', nfp, w0⟩
    intro n s5 ⟨i, H5, I5, t5, n5, w5⟩
    rcases turn i n H5 w5 with ⟨stop, qq⟩ | ⟨go, Nx, toNx, step⟩
    · refine thnF (T.done (X.blk s3 H3 scope ce fp) rfl rfl rfl hc i [] s5 _ H5 (fun _ _ => False) I5 (still I5 n5) t5 stop) fun r s6 ⟨hr, I6⟩ => ?_
      subst hr
      obtain ⟨m, ns, _⟩ := I6.loc
      have nC : H5 s3.heap.objs.size = none := by rw [← cL]; exact I6.free
      exact fin D ce s6 m H5 (I3.call' (ch := fp) I6.os I6.base I6.hok I6.bare fun b hb => ⟨(f3 b hb).2.2.2.1, (f3 b hb).2.1, (f3 b hb).2.2.2.2.1, (f3 b hb).2.2.2.2.2⟩) qq ns (by rw [cL]; exact I3.fpOk (Nat.le_refl _) nC)
    · refine thnF (T.item (X.blk s3 H3 scope ce fp) rfl rfl rfl hc i [] s5 _ H5 (fun _ _ => False) I5 (still I5 n5) t5 go) fun r s6 ⟨xu, hr, h6⟩ => ?_
      subst hr
      refine thnF h6 fun _ s7 ⟨x, H7, I7, r7, y7, t7, n7⟩ => ?_
      have I7' := I7.pinned (still I7 n7) (T.obj _ _ t7)
      refine thnF (pg.run _ s7 _ H7 x xu _ I7' r7 (step x H7 y7)) fun _ s8 ⟨σ8, H8, I8, hw8, q8⟩ => ?_
      refine wpAny_tests_nil ?_
      rw [if_pos rfl]
      have q9 := q8
      simp only [tYes, if_true] at q9
      refine wpAny_mono (pe.run _ s8 σ8 H8 _ (I8.wish _) q9) (fun z s10 ⟨yv, H10, I10, r10, acc, hD10, hz10, nx⟩ => ?_) fun _ _ z => z
      refine app_ok (X := X.blk s3 H3 scope ce fp) I10.unwish hD10 hz10 r10 fun s11 I11 => ?_
      obtain ⟨m', hm, w'⟩ := toNx _ nx
      have pin' : ∀ b ∈ fp, ∀ o, s7.heap.get? b = some o → s11.heap.get? b = some o ∧ (upd H10 D (.lst (acc ++ [yv]))) b = none := fun b hb o e =>
        let z := I11.pin (b, o) (List.mem_append_right _ (List.mem_append_right _ (mem_pinsAt hb e)))
        ⟨z.1, z.2.1⟩
      refine ⟨m', hm, i + 1, _, (I11.unpinned (pins := [])).weak (by rw [← hw8, wipe_length]) (fun j v e => ?_), T.keep _ _ _ t7 fun b hb o e => (pin' b hb o e).1, fun b hb => ?_, w'⟩
      · rw [← hw8] at e
        exact (wipe_some e).1
      · obtain ⟨o, e, _⟩ := T.obj _ _ t7 b hb
        exact (pin' b hb o e).2
  exact codeAny_compStart_list loop (T.self X.A 0 _ _ _ t4' loop)

/-- name = [element for target in iterable], the element may raise; what it raises the def takes -/
theorem ps_setLcX {i : Nat} {y : Str} {py : Pos} {elt tg iter : Expr} {scope : Scope} {own : List (Str × Nat)} {pos spos : Pos} {wi : TI} {g : TG} {te : TE} {Wd : XK}
    (hs : X.stack = X.env :: X.outer) (hf : X.env.frame = some X.env.locals) (tk : Takes X fun cls d _ H => Wd cls d H) (hc : X.calm = true) (hN : X.N.Nodup) (hy : X.N[i]? = some y) (hyl : X.env.scope.names.lookup y = some .local)
    (hsw : swapsWith (.ListComp elt [⟨tg, iter, [], 0⟩] scope pos) (some (.Name y py)) spos.line X.env = pure true) (hi : PI X tg iter wi) (ok : BlkOk X.N X.env.scope scope own)
    (hg : ∀ (s : Shared) (H : Hp) (C : Addr) (cl : List (Str × Addr)) (fp : List Addr), PG (X.blk s H scope (compEnvC scope cl C X.env) fp) tg g)
    (he : ∀ (s : Shared) (H : Hp) (C : Addr) (cl : List (Str × Addr)) (fp : List Addr) (E : Value → Shared → Prop), Takes ((X.blk s H scope (compEnvC scope cl C X.env) fp).wish E) (fun cls d _ H => Wd cls d H) → PE ((X.blk s H scope (compEnvC scope cl C X.env) fp).wish E) elt te)
    (nos : ∀ x, foldedSetIterable iter X.env x = pure x := by intro _; rfl) :
    PS X (.Assign [.Name y py] (.ListComp elt [⟨tg, iter, [], 0⟩] scope pos) spos) (tAsg (tLc wi g tYes te (own.map (·.2))) (gName i)) := by
  refine ⟨fun pins s σ H D I h => ?_⟩
  rw [exec_Assign_Name_used _ _ _ _ hsw]
  refine wpAny_bind (wpAny_standAt (wpAny_bind ?_))
  show wpAny _ X.A (do let _ ← comprehension (.ListComp elt [⟨tg, iter, [], 0⟩] scope pos) scope X.env (firstIterPos [⟨tg, iter, [], 0⟩] pos) (newList []) false (eval iter X.env) (some (assign (.Name y py) X.env))) _ _ s
  have h : tLc wi g tYes te (own.map (·.2)) σ H (fun x H1 => gName i x σ H1 D.nx) := h
  refine wpAny_bind (wpAny_mono (core_x (K := fun _ s' => SP X pins D .next s') hs hf tk hc hN I hi ok hg he nos h fun L ce st m H' J q ns f => ?_) (fun _ s' q => wpAny_pure (wpAny_pure q)) fun _ _ z => z)
  show wpAny _ _ (assign (.Name y py) X.env (.ref L)) _ _ _
  obtain ⟨f0, f1, f2, f3, f4, f5⟩ := f
  refine wpAny_assign_Name (store_ok2 (v := V.ref L) J hN hy (.inl hyl) rfl (fun s2 J2 ⟨a, sb, ha⟩ => ?_) (.inr hyl))
  have apart : ce.locals ≠ a := fun q => ha.elim (fun z => f1 (q.trans z)) fun z => f4 y a z q.symm
  exact ⟨m, ns.sameBut sb apart, fun h3 sb3 => ⟨_, H', J2.turned (t' := s2.toks) (fun b o hb e => (sb3.2 b hb).trans e) f0 f1 f3 f4 f5, q⟩⟩
end

section
variable {X : Cx}
/-- x in a tuple of data -/
def rInT (K : PySem.W.Frag) : R2 := fun x y H Q => ∃ d ds, Dp K H x d ∧ Dp K H y (.tuple ds) ∧ SeqAt.shaped d = true ∧ SeqAt.shaped (.list ds) = true ∧ Q (.bl (ds.any fun z => PyData.eqv z d)) H
theorem op_inT (hu : X.A.units + 65 < cLine) : OpR X (compareOp .In) (rInT X.K) := by
  rintro pins s σ H x y v u Q I rx ry ⟨d, ds, hd, he, sd, se, q⟩
  obtain ⟨_, r1⟩ := Dp.reads I d x v hd rx
  obtain ⟨_, r2⟩ := Dp.reads I (.tuple ds) y u he ry
  exact SeqAt.in_tuple_reads r2 r1 (SeqAt.canLay_of_shaped se) (SeqAt.canLay_of_shaped sd) (room_in_shaped sd hu) ⟨.bl _, H, I, rfl, q⟩
end
end LcX

namespace RD
open PySem PySem.Spec PyProof.Rows L2
def top (i : Nat) : Stmt := PySem.Challenge.pw_rowdominoes_k46_notation.main.body.getD i (.Pass ⟨0, 0, 0, 0⟩)
abbrev s_InvalidRow_init : Stmt := inClass (top 3) 0
abbrev s_NotStanding_init : Stmt := inClass (top 7) 0
abbrev s_NotLying_init : Stmt := inClass (top 8) 0
abbrev s_InvalidOperation_init : Stmt := inClass (top 9) 0
abbrev s_NotationError_init : Stmt := inClass (top 11) 0
abbrev s_DecodeError_init : Stmt := inClass (top 13) 0
abbrev s_is_number : Stmt := top 16
abbrev s_check_number : Stmt := top 17
abbrev s_check_stone : Stmt := top 18
abbrev s_check_side : Stmt := top 19
abbrev s_stones_beside : Stmt := top 23
abbrev s_felled_by : Stmt := top 24
abbrev s_is_stone : Stmt := top 25
abbrev s_Row_init : Stmt := inClass (top 26) 1
abbrev s_Row_stones : Stmt := inClass (top 26) 3
abbrev s_Row_places : Stmt := inClass (top 26) 4
abbrev s_Row_len : Stmt := inClass (top 26) 5
abbrev s_Row_getitem : Stmt := inClass (top 26) 6
abbrev s_Row_iter : Stmt := inClass (top 26) 7
abbrev s_Row_contains : Stmt := inClass (top 26) 8
abbrev s_Row_add : Stmt := inClass (top 26) 9
abbrev s_Row_rshift : Stmt := inClass (top 26) 10
abbrev s_Row_invert : Stmt := inClass (top 26) 11
abbrev s_Row_eq : Stmt := inClass (top 26) 12
abbrev s_Row_call : Stmt := inClass (top 26) 13
abbrev s_Row_without : Stmt := inClass (top 26) 14
abbrev s_format_row : Stmt := top 31
abbrev s_parse_row : Stmt := top 32
abbrev s_parsed_stone : Stmt := top 33
abbrev s_is_right_word : Stmt := top 34
abbrev s_is_notation_of_number : Stmt := top 35
abbrev s_law_dice : Stmt := top 37
abbrev s_law_next : Stmt := top 38
abbrev s_law_pick : Stmt := top 39
abbrev s_law_told : Stmt := top 40
abbrev s_law_stones : Stmt := top 41
abbrev s_law_made : Stmt := top 42
abbrev s_law_figures : Stmt := top 43
abbrev s_law_parsed : Stmt := top 44
abbrev s_law : Stmt := top 45
abbrev n_is_number : List Str := ["value", "least", "greatest"]
theorem sc_is_number : FnScope ["value", "least", "greatest"] ["value", "least", "greatest"] (defScope s_is_number) := ⟨rfl, rfl, rfl, by decide +kernel, rfl, by decide +kernel, by decide +kernel⟩
abbrev n_check_number : List Str := ["value", "least", "greatest"]
theorem sc_check_number : FnScope ["value", "least", "greatest"] ["value", "least", "greatest"] (defScope s_check_number) := ⟨rfl, rfl, rfl, by decide +kernel, rfl, by decide +kernel, by decide +kernel⟩
abbrev n_check_stone : List Str := ["stone", "count"]
theorem sc_check_stone : FnScope ["stone", "count"] ["stone", "count"] (defScope s_check_stone) := ⟨rfl, rfl, rfl, by decide +kernel, rfl, by decide +kernel, by decide +kernel⟩
abbrev n_check_side : List Str := ["side"]
theorem sc_check_side : FnScope ["side"] ["side"] (defScope s_check_side) := ⟨rfl, rfl, rfl, by decide +kernel, rfl, by decide +kernel, by decide +kernel⟩
abbrev n_stones_beside : List Str := ["stone", "side", "count"]
theorem sc_stones_beside : FnScope ["stone", "side", "count"] ["stone", "side", "count"] (defScope s_stones_beside) := ⟨rfl, rfl, rfl, by decide +kernel, rfl, by decide +kernel, by decide +kernel⟩
abbrev n_felled_by : List Str := ["stones", "standing", "stone", "side", "start", "reach", "felled", "other", "place", "height", "distance"]
theorem sc_felled_by : FnScope ["stones", "standing", "stone", "side", "start", "reach", "felled", "other", "place", "height", "distance"] ["stones", "standing", "stone", "side"] (defScope s_felled_by) := ⟨rfl, rfl, rfl, by decide +kernel, rfl, by decide +kernel, by decide +kernel⟩
abbrev n_is_stone : List Str := ["stone", "least_place", "place", "height"]
theorem sc_is_stone : FnScope ["stone", "least_place", "place", "height"] ["stone", "least_place"] (defScope s_is_stone) := ⟨rfl, rfl, rfl, by decide +kernel, rfl, by decide +kernel, by decide +kernel⟩
abbrev n_Row_init : List Str := ["self", "stones", "least_place", "index", "stone"]
theorem sc_Row_init : FnScope ["self", "stones", "least_place", "index", "stone"] ["self", "stones"] (defScope s_Row_init) := ⟨rfl, rfl, rfl, by decide +kernel, rfl, by decide +kernel, by decide +kernel⟩
abbrev n_Row_stones : List Str := ["self"]
theorem sc_Row_stones : FnScope ["self"] ["self"] (defScope s_Row_stones) := ⟨rfl, rfl, rfl, by decide +kernel, rfl, by decide +kernel, by decide +kernel⟩
abbrev n_Row_places : List Str := ["self", "place", "_"]
theorem sc_Row_places : FnScope ["self", "place", "_"] ["self"] (defScope s_Row_places) := ⟨rfl, rfl, rfl, by decide +kernel, rfl, by decide +kernel, by decide +kernel⟩
abbrev n_Row_len : List Str := ["self"]
theorem sc_Row_len : FnScope ["self"] ["self"] (defScope s_Row_len) := ⟨rfl, rfl, rfl, by decide +kernel, rfl, by decide +kernel, by decide +kernel⟩
abbrev n_Row_getitem : List Str := ["self", "stone"]
theorem sc_Row_getitem : FnScope ["self", "stone"] ["self", "stone"] (defScope s_Row_getitem) := ⟨rfl, rfl, rfl, by decide +kernel, rfl, by decide +kernel, by decide +kernel⟩
abbrev n_Row_iter : List Str := ["self"]
theorem sc_Row_iter : FnScope ["self"] ["self"] (defScope s_Row_iter) := ⟨rfl, rfl, rfl, by decide +kernel, rfl, by decide +kernel, by decide +kernel⟩
abbrev n_Row_contains : List Str := ["self", "place"]
theorem sc_Row_contains : FnScope ["self", "place"] ["self", "place"] (defScope s_Row_contains) := ⟨rfl, rfl, rfl, by decide +kernel, rfl, by decide +kernel, by decide +kernel⟩
abbrev n_Row_add : List Str := ["self", "other", "stones"]
theorem sc_Row_add : FnScope ["self", "other", "stones"] ["self", "other"] (defScope s_Row_add) := ⟨rfl, rfl, rfl, by decide +kernel, rfl, by decide +kernel, by decide +kernel⟩
abbrev n_Row_rshift : List Str := ["self", "distance", "stones", "place", "height"]
theorem sc_Row_rshift : FnScope ["self", "distance", "stones", "place", "height"] ["self", "distance"] (defScope s_Row_rshift) := ⟨rfl, rfl, rfl, by decide +kernel, rfl, by decide +kernel, by decide +kernel⟩
abbrev n_Row_invert : List Str := ["self", "places", "stones", "place", "height"]
theorem sc_Row_invert : FnScope ["self", "places", "stones", "place", "height"] ["self"] (defScope s_Row_invert) := ⟨rfl, rfl, rfl, by decide +kernel, rfl, by decide +kernel, by decide +kernel⟩
abbrev n_Row_eq : List Str := ["self", "other"]
theorem sc_Row_eq : FnScope ["self", "other"] ["self", "other"] (defScope s_Row_eq) := ⟨rfl, rfl, rfl, by decide +kernel, rfl, by decide +kernel, by decide +kernel⟩
abbrev n_Row_call : List Str := ["self", "stone", "side", "standing", "felled"]
theorem sc_Row_call : FnScope ["self", "stone", "side", "standing", "felled"] ["self", "stone", "side"] (defScope s_Row_call) := ⟨rfl, rfl, rfl, by decide +kernel, rfl, by decide +kernel, by decide +kernel⟩
abbrev n_Row_without : List Str := ["self", "stones", "count", "stone", "kept"]
theorem sc_Row_without : FnScope ["self", "stones", "count", "stone", "kept"] ["self", "stones"] (defScope s_Row_without) := ⟨rfl, rfl, rfl, by decide +kernel, rfl, by decide +kernel, by decide +kernel⟩
abbrev n_format_row : List Str := ["row", "place", "height"]
theorem sc_format_row : FnScope ["row", "place", "height"] ["row"] (defScope s_format_row) := ⟨rfl, rfl, rfl, by decide +kernel, rfl, by decide +kernel, by decide +kernel⟩
abbrev n_parse_row : List Str := ["text", "stones", "number", "line"]
theorem sc_parse_row : FnScope ["text", "stones", "number", "line"] ["text"] (defScope s_parse_row) := ⟨rfl, rfl, rfl, by decide +kernel, rfl, by decide +kernel, by decide +kernel⟩
abbrev n_parsed_stone : List Str := ["line", "number", "words", "index", "word"]
theorem sc_parsed_stone : FnScope ["line", "number", "words", "index", "word"] ["line", "number"] (defScope s_parsed_stone) := ⟨rfl, rfl, rfl, by decide +kernel, rfl, by decide +kernel, by decide +kernel⟩
abbrev n_is_right_word : List Str := ["word", "index"]
theorem sc_is_right_word : FnScope ["word", "index"] ["word", "index"] (defScope s_is_right_word) := ⟨rfl, rfl, rfl, by decide +kernel, rfl, by decide +kernel, by decide +kernel⟩
abbrev n_is_notation_of_number : List Str := ["word"]
theorem sc_is_notation_of_number : FnScope ["word"] ["word"] (defScope s_is_notation_of_number) := ⟨rfl, rfl, rfl, by decide +kernel, rfl, by decide +kernel, by decide +kernel⟩
abbrev n_law_dice : List Str := ["_law_script", "_law_mixed", "_law_cell"]
theorem sc_law_dice : FnScope ["_law_script", "_law_mixed", "_law_cell"] ["_law_script"] (defScope s_law_dice) := ⟨rfl, rfl, rfl, by decide +kernel, rfl, by decide +kernel, by decide +kernel⟩
abbrev n_law_next : List Str := ["_law_dice_here", "_law_many", "_law_found", "_law_cell"]
theorem sc_law_next : FnScope ["_law_dice_here", "_law_many", "_law_found", "_law_cell"] ["_law_dice_here", "_law_many"] (defScope s_law_next) := ⟨rfl, rfl, rfl, by decide +kernel, rfl, by decide +kernel, by decide +kernel⟩
abbrev n_law_pick : List Str := ["_law_d", "_law_some"]
theorem sc_law_pick : FnScope ["_law_d", "_law_some"] ["_law_d", "_law_some"] (defScope s_law_pick) := ⟨rfl, rfl, rfl, by decide +kernel, rfl, by decide +kernel, by decide +kernel⟩
abbrev n_law_told : List Str := ["_law_work", "e", "_law_some", "_law_terms", "_law_k"]
theorem sc_law_told : FnScope ["_law_work", "e", "_law_some", "_law_terms", "_law_k"] ["_law_work"] (defScope s_law_told) := ⟨rfl, rfl, rfl, by decide +kernel, rfl, by decide +kernel, by decide +kernel⟩
abbrev n_law_stones : List Str := ["_law_d", "_law_most", "_law_found", "_law_place", "_law_k"]
theorem sc_law_stones : FnScope ["_law_d", "_law_most", "_law_found", "_law_place", "_law_k"] ["_law_d", "_law_most"] (defScope s_law_stones) := ⟨rfl, rfl, rfl, by decide +kernel, rfl, by decide +kernel, by decide +kernel⟩
abbrev n_law_made : List Str := ["_law_stones_here", "_law_row", "_law_stone"]
theorem sc_law_made : FnScope ["_law_stones_here", "_law_row", "_law_stone"] ["_law_stones_here"] (defScope s_law_made) := ⟨rfl, rfl, rfl, by decide +kernel, rfl, by decide +kernel, by decide +kernel⟩
abbrev n_law_figures : List Str := ["_law_word", "_law_c"]
theorem sc_law_figures : FnScope ["_law_word", "_law_c"] ["_law_word"] (defScope s_law_figures) := ⟨rfl, rfl, rfl, by decide +kernel, rfl, by decide +kernel, by decide +kernel⟩
abbrev n_law_parsed : List Str := ["_law_lines", "_law_k", "_law_j", "_law_word", "_law_good", "_law_least", "_law_found", "_law_place", "_law_height"]
theorem sc_law_parsed : FnScope ["_law_lines", "_law_k", "_law_j", "_law_word", "_law_good", "_law_least", "_law_found", "_law_place", "_law_height"] ["_law_lines"] (defScope s_law_parsed) := ⟨rfl, rfl, rfl, by decide +kernel, rfl, by decide +kernel, by decide +kernel⟩
abbrev n_law : List Str := ["_law_script", "_law_d", "_law_turn", "_law_stones_here", "_law_lines", "_law_place", "_law_height", "_law_text", "_law_line", "_law_k", "_law_j", "_law_pick_here", "_law_odd", "_law_due", "_law_many", "_law_found"]
theorem sc_law : FnScope ["_law_script", "_law_d", "_law_turn", "_law_stones_here", "_law_lines", "_law_place", "_law_height", "_law_text", "_law_line", "_law_k", "_law_j", "_law_pick_here", "_law_odd", "_law_due", "_law_many", "_law_found"] ["_law_script"] (defScope s_law) := ⟨rfl, rfl, rfl, by decide +kernel, rfl, by decide +kernel, by decide +kernel⟩
/-! ### the built-in names that the program leaves as they are -/
structure Blt (mg : Str → Option Value) : Prop where
  isinstance : mg "isinstance" = none
  int : mg "int" = none
  bool : mg "bool" = none
  len : mg "len" = none
  tuple : mg "tuple" = none
  list : mg "list" = none
  range : mg "range" = none
  enumerate : mg "enumerate" = none
  abs : mg "abs" = none
  max : mg "max" = none
  min : mg "min" = none
  sorted : mg "sorted" = none
/-! ### numbers and checks -/
/-- values whose kind is known -/
def Known (K : PySem.W.Frag) (H : Hp) : V → Prop
  | .int _ => True
  | .bl _ => True
  | .non => True
  | .str _ => True
  | .ref a => TyX K H (.ref a) (.type "tuple") ∨ TyX K H (.ref a) (.type "list")
  | _ => False
def numB : V → Int → Int → Bool
  | .int i, lo, hi => decide (lo ≤ i) && decide (i ≤ hi)
  | _, _, _ => false
def spNum (K : PySem.W.Frag) : Sp := fun vs H Q _ => ∃ v lo hi, vs = [v, .int lo, .int hi] ∧ Known K H v ∧ Q (.bl (numB v lo hi)) H
theorem known_ty {K : PySem.W.Frag} {H : Hp} {v : V} (h : Known K H v) : ∃ (t : String) (b c : Bool), TyX K H v (.type t) ∧ PySem.W.kitOne K (.type t) (.type "int") = some b ∧ PySem.W.kitOne K (.type t) (.type "bool") = some c ∧
    ((b = true ∧ c = false ∧ ∃ i, v = .int i) ∨ ((b = false ∨ c = true) ∧ ∀ i, v ≠ .int i)) := by
  cases v with
  | int i => exact ⟨"int", true, false, .base (.int i), kit_ty (by decide +kernel), kit_ty (by decide +kernel), .inl ⟨rfl, rfl, i, rfl⟩⟩
  | bl i => exact ⟨"bool", true, true, .base (.bl i), kit_ty (by decide +kernel), kit_ty (by decide +kernel), .inr ⟨.inr rfl, fun i z => nomatch z⟩⟩
  | non => exact ⟨"NoneType", false, false, .base .non, kit_ty (by decide +kernel), kit_ty (by decide +kernel), .inr ⟨.inl rfl, fun i z => nomatch z⟩⟩
  | str i => exact ⟨"str", false, false, .base (.str i), kit_ty (by decide +kernel), kit_ty (by decide +kernel), .inr ⟨.inl rfl, fun i z => nomatch z⟩⟩
  | ref a =>
    rcases h with h | h
    · exact ⟨"tuple", false, false, h, kit_ty (by decide +kernel), kit_ty (by decide +kernel), .inr ⟨.inl rfl, fun i z => nomatch z⟩⟩
    · exact ⟨"list", false, false, h, kit_ty (by decide +kernel), kit_ty (by decide +kernel), .inr ⟨.inl rfl, fun i z => nomatch z⟩⟩
  | byt _ => exact h.elim
  | flt _ => exact h.elim
  | ty _ => exact h.elim
theorem numB_no {v : V} {lo hi : Int} (h : ∀ i, v ≠ .int i) : numB v lo hi = false := by
  cases v with
  | int i => exact absurd rfl (h i)
  | _ => rfl
section
variable {P : Program} {w : World} {K : PySem.W.Frag} {mg : Str → Option Value} {base : Heap}
theorem ok_num {f : Addr} {fd : FuncData} (F : Fun K "is_number" "is_number" s_is_number f fd) (B : Blt mg) : FnOk P w K mg base CX0 1 f fd ["value", "least", "greatest"] (spNum K) := by
  refine F.ok sc_is_number (fun vs H Q E h => ?_) (fun cdv A outer s H vs Q E hr h => ?_)
  · obtain ⟨v, lo, hi, rfl, _⟩ := h
    rfl
  · obtain ⟨v, lo, hi, rfl, kn, h⟩ := h
    refine ⟨_, pss_one (ps_ret (pe_and (pe_callB call_isi (by rfl) B.isinstance boot_isinstance (pa_cons (pv 0) (pa_cons (pe_bltn (v := .ty "int") (by rfl) B.int boot_int rfl) pa_nil)))
      (pe_and (pe_not (pe_callB call_isi (by rfl) B.isinstance boot_isinstance (pa_cons (pv 0) (pa_cons (pe_bltn (v := .ty "bool") (by rfl) B.bool boot_bool rfl) pa_nil))))
      (pe_one (pe_chain op_le op_le (pv 1) (pv 0) (pv 2)))))), ?_⟩
    obtain ⟨t, b, c, ty, k1, k2, alt⟩ := known_ty kn
    refine ⟨_, rfl, _, _, _, _, b, rfl, .ty "int", ty, k1, b, rfl, ?_⟩
    rcases alt with ⟨rfl, rfl, i, rfl⟩ | ⟨alt, no⟩
    · refine iteT ⟨_, rfl, _, _, _, _, false, rfl, .ty "bool", ty, k2, false, rfl, true, rfl, ?_⟩
      refine iteT ⟨_, rfl, _, rfl, lo, i, rfl, rfl, _, rfl, ?_⟩
      refine ite2 (fun q => ?_) (fun q => ?_)
      · refine ⟨_, rfl, i, hi, rfl, rfl, ?_⟩
        have e : numB (.int i) lo hi = decide (i ≤ hi) := by
          show (decide (lo ≤ i) && decide (i ≤ hi)) = _
          rw [q, Bool.true_and]
        rw [e] at h
        exact h
      · have e : numB (.int i) lo hi = false := by
          show (decide (lo ≤ i) && decide (i ≤ hi)) = _
          rw [Bool.eq_false_iff.mpr q, Bool.false_and]
        rw [e] at h
        exact h
    · rw [numB_no no] at h
      cases b with
      | false => exact iteF h
      | true =>
        rcases alt with z | rfl
        · cases z
        · refine iteT ⟨_, rfl, _, _, _, _, true, rfl, .ty "bool", ty, k2, true, rfl, false, rfl, ?_⟩
          exact iteF h
end
/-! ### defs as they stand, and how they are called -/
structure DefAt (K : PySem.W.Frag) (mg : Str → Option Value) (x : Str) (st : Stmt) (ps : List Str) (f : Addr) (fd : FuncData) : Prop where
  fn : Fun K x x st f fd
  m : mg x = some (.ref f)
  b : Binds K fd ps []
structure At (P : Program) (w : World) (K : PySem.W.Frag) (mg : Str → Option Value) (base : Heap) (CX : CXT) (k : Nat) (x : Str) (ps : List Str) (sp : Sp) (f : Addr) (fd : FuncData) : Prop where
  ok : FnOk P w K mg base CX k f fd ps sp
  m : mg x = some (.ref f)
  kp : PySem.W.keepIn K (.ref f) = true
  b : Binds K fd ps []
theorem DefAt.at {P : Program} {w : World} {K : PySem.W.Frag} {mg : Str → Option Value} {base : Heap} {CX : CXT} {k : Nat} {x : Str} {st : Stmt} {ps : List Str} {sp : Sp} {f : Addr} {fd : FuncData} (D : DefAt K mg x st ps f fd)
    (ok : FnOk P w K mg base CX k f fd ps sp) : At P w K mg base CX k x ps sp f fd := ⟨ok, D.m, D.fn.kp, D.b⟩
section
variable {X : Cx} {k : Nat} {x : Str} {ps : List Str} {sp : Sp} {f : Addr} {fd : FuncData} {p pos : Pos} {e : Expr} {es : List Expr} {t : TA}
theorem pe_at (G : At X.prog X.w X.K X.mg X.base CX0 k x ps sp f fd) (hr : Room k X.A) (ha : PA X (e :: es) t) (hg : Gl X x := by rfl) (hdb : (x == ("__debug__" : Str)) = false := by decide)
    (he : starEach (e :: es) X.env = (false, eval e X.env) :: starEach es X.env := by rfl) (hpl : (backTo pos (starEach es X.env)).any (·.1) = false := by rfl) :
    PE X (.Call (.Name x p) (e :: es) [] pos) (tCall sp [] E0 t) := pe_call G.ok hr hg G.m G.kp G.b .nil pass0 ha hdb he hpl
end
/-! ### heaps that only grow -/
theorem sqT_same {K : PySem.W.Frag} {H H' : Hp} {a : Addr} {xs : List V} (h : SqT K H a xs) (e : Same H H') : SqT K H' a xs := SqT.ext h e
theorem same_new {H : Hp} {p : Addr} {o : HO} (h : H p = none) : Same H (upd H p o) := fun b u e => by rw [upd_ne (ne_of_none e h)]; exact e
/-- all but what stands at l is as it was -/
def But (l : Addr) (H H' : Hp) : Prop := ∀ b o, b ≠ l → H b = some o → H' b = some o
theorem Same.but {H H' : Hp} (e : Same H H') (l : Addr) : But l H H' := fun b o _ h => e b o h
theorem But.trans {l : Addr} {H H1 H2 : Hp} (a : But l H H1) (b : But l H1 H2) : But l H H2 := fun c o n h => b c o n (a c o n h)
theorem but_upd {H : Hp} {l : Addr} {o : HO} : But l H (upd H l o) := fun b u n e => by rw [upd_ne n]; exact e
theorem But.new {H H1 : Hp} {l p : Addr} {o : HO} (a : But l H H1) (h : H1 p = none) : But l H (upd H1 p o) := a.trans (Same.but (same_new h) l)
/-- laid ahead of which the heap was as H -/
theorem But.same {H H1 : Hp} {l : Addr} (a : But l H H1) (h : H l = none) : Same H H1 := fun b o e => a b o (ne_of_none e h) e

/-! ### stones: pairs of a place and a height -/
def StonesAt (K : PySem.W.Frag) (H : Hp) (vs : List V) (xs : List (Int × Int)) : Prop :=
  vs.length = xs.length ∧ ∀ (k : Nat) (x : Int × Int), xs[k]? = some x → ∃ a : Addr, vs[k]? = some (V.ref a) ∧ SqT K H a [.int x.1, .int x.2]
theorem StonesAt.same {K : PySem.W.Frag} {H H' : Hp} {vs : List V} {xs : List (Int × Int)} (h : StonesAt K H vs xs) (e : Same H H') : StonesAt K H' vs xs :=
  ⟨h.1, fun k x q => let ⟨a, q1, q2⟩ := h.2 k x q; ⟨a, q1, sqT_same q2 e⟩⟩
theorem StonesAt.nil {K : PySem.W.Frag} {H : Hp} : StonesAt K H [] [] := ⟨rfl, fun k x q => by simp at q⟩
theorem StonesAt.append {K : PySem.W.Frag} {H : Hp} {vs us : List V} {xs ys : List (Int × Int)} (h : StonesAt K H vs xs) (g : StonesAt K H us ys) : StonesAt K H (vs ++ us) (xs ++ ys) := by
  refine ⟨by rw [List.length_append, List.length_append, h.1, g.1], fun k x q => ?_⟩
  by_cases hk : k < xs.length
  · rw [List.getElem?_append_left hk] at q
    rw [List.getElem?_append_left (by rw [h.1]; exact hk)]
    exact h.2 k x q
  · rw [List.getElem?_append_right (by omega)] at q
    rw [List.getElem?_append_right (by rw [h.1]; omega), h.1]
    exact g.2 _ x q
theorem StonesAt.one {K : PySem.W.Frag} {H : Hp} {a : Addr} {x : Int × Int} (h : SqT K H a [.int x.1, .int x.2]) : StonesAt K H [.ref a] [x] := by
  refine ⟨rfl, fun k y q => ?_⟩
  cases k with
  | zero => simp at q; subst q; exact ⟨a, rfl, h⟩
  | succ k => simp at q
/-! ### sides -/
def sideS : Bool → Str
  | true => "right"
  | false => "left"
/-- the numbers beside a stone, the nearest one first -/
def beside (r : Bool) (i n : Nat) : List Nat := if r then (List.range (n - (i + 1))).map (fun k => i + 1 + k) else (List.range i).map (fun k => i - 1 - k)
def ivs (ns : List Nat) : List V := ns.map fun (k : Nat) => V.int (k : Int)
def spBeside : Sp := fun vs H Q _ => ∃ (i n : Nat) (r : Bool), vs = [.int i, .str (sideS r), .int n] ∧ i < n ∧ n ≤ 100 ∧ ∀ q, H q = none → Q (.ref q) (upd H q (.lst (ivs (beside r i n))))
def spCheckStone : Sp := fun vs H Q _ => ∃ (i n : Nat), vs = [.int i, .int n] ∧ i < n ∧ Q .non H
def spCheckSide : Sp := fun vs H Q _ => ∃ r : Bool, vs = [.str (sideS r)] ∧ Q .non H
section
variable {P : Program} {w : World} {K : PySem.W.Frag} {mg : Str → Option Value} {base : Heap}
theorem ok_checkStone {f g : Addr} {fd gd : FuncData} (F : Fun K "check_stone" "check_stone" s_check_stone f fd) (N : At P w K mg base CX0 1 "is_number" ["value", "least", "greatest"] (spNum K) g gd) :
    FnOk P w K mg base CX0 2 f fd ["stone", "count"] spCheckStone := by
  refine F.ok sc_check_stone (fun vs H Q E h => ?_) (fun cdv A outer s H vs Q E hr h => ?_)
  · obtain ⟨i, n, rfl, _⟩ := h
    rfl
  · obtain ⟨i, n, rfl, hi, h⟩ := h
    refine ⟨_, pss_one (ps_if (pt_not (pt_val (pe_at N hr (pa_cons (pv 0) (pa_cons (pe_int) (pa_cons (pe_op op_sub (pv 1) (pe_int)) pa_nil)))))) (pss_one ps_never) pss_nil), ?_⟩
    refine ⟨_, rfl, _, rfl, _, _, rfl, rfl, _, _, _, rfl, True.intro, _, rfl, ?_⟩
    have e : numB (.int (i : Int)) 0 ((n : Int) - 1) = true := by
      show (decide (0 ≤ (i : Int)) && decide ((i : Int) ≤ (n : Int) - 1)) = true
      simp; omega
    rw [e]
    exact iteF h
theorem sides_in {r : Bool} {ys : List V} (h : ys = [V.str "left", V.str "right"]) : inV (.str (sideS r)) ys = true := by
  subst h
  cases r <;> decide +kernel
theorem ok_checkSide {f S : Addr} {fd : FuncData} (F : Fun K "check_side" "check_side" s_check_side f fd) (mS : mg "SIDES" = some (.ref S)) (hS : ∀ H, SqT K H S [.str "left", .str "right"]) : FnOk P w K mg base CX0 1 f fd ["side"] spCheckSide := by
  refine F.ok sc_check_side (fun vs H Q E h => ?_) (fun cdv A outer s H vs Q E hr h => ?_)
  · obtain ⟨r, rfl, _⟩ := h
    rfl
  · obtain ⟨r, rfl, h⟩ := h
    refine ⟨_, pss_one (ps_if (pt_cmpR (op_notIn_seq) (pv 0) (pe_glob (v := .ref S) (by rfl) mS rfl) (by rfl)) (pss_one ps_never) pss_nil), ?_⟩
    refine ⟨_, rfl, S, _, rfl, .inr (hS H), rfl, rfl, _, rfl, ?_⟩
    rw [if_pos rfl, sides_in rfl]
    exact iteF h
theorem right_eq {r : Bool} : decide (V.str (sideS r) = V.str "right") = r := by cases r <;> decide +kernel
theorem beside_right {i n : Nat} (h : i < n) : Own.dnV 0 0 = [] ∧ rgV ((i : Int) + 1) (n : Int) = ivs (beside true i n) := by
  refine ⟨rfl, ?_⟩
  unfold rgV ivs beside
  rw [if_pos rfl, List.map_map]
  have e : ((n : Int) - ((i : Int) + 1)).toNat = n - (i + 1) := by omega
  rw [e]
  exact List.map_congr_left fun k _ => congrArg V.int (show (i : Int) + 1 + (k : Int) = ((i + 1 + k : Nat) : Int) by omega)
theorem beside_left {i n : Nat} : Own.dnV ((i : Int) - 1) (-1) = ivs (beside false i n) := by
  unfold Own.dnV ivs beside
  rw [if_neg (by decide), List.map_map]
  have e : ((i : Int) - 1 - (-1)).toNat = i := by omega
  rw [e]
  exact List.map_congr_left fun k hk => by have := List.mem_range.mp hk; exact congrArg V.int (show (i : Int) - 1 - (k : Int) = ((i - 1 - k : Nat) : Int) by omega)
theorem ok_beside {f : Addr} {fd : FuncData} (F : Fun K "stones_beside" "stones_beside" s_stones_beside f fd) (B : Blt mg) : FnOk P w K mg base CX0 1 f fd ["stone", "side", "count"] spBeside := by
  refine F.ok sc_stones_beside (fun vs H Q E h => ?_) (fun cdv A outer s H vs Q E hr h => ?_)
  · obtain ⟨i, n, r, rfl, _⟩ := h
    rfl
  · obtain ⟨i, n, r, rfl, hi, hn, h⟩ := h
    refine ⟨_, pss_cons (ps_if (pt_cmpR (op_eq) (pv 1) (pe_str) (nomark _)) (pss_one (ps_ret (pe_listRg rfl (by rfl) B.list (prg_2 (by rfl) B.range (pe_op op_add (pv 0) (pe_int)) (pv 2))))) pss_nil)
      (pss_one (ps_ret (Own.pe_listDown rfl (by rfl) B.list (by rfl) B.range (pa_cons (pe_op op_sub (pv 0) (pe_int)) (pa_cons (pe_un un_neg pe_int) (pa_cons (pe_un un_neg pe_int) pa_nil)))))), ?_⟩
    refine ⟨_, rfl, rfl, _, rfl, ?_⟩
    rw [right_eq]
    cases r with
    | true =>
      refine iteT ⟨_, rfl, _, _, rfl, rfl, _, rfl, _, _, rfl, rfl, ⟨by omega, by omega, by omega, by omega, by omega⟩, fun q hq => ?_⟩
      rw [(beside_right hi).2]
      exact h q hq
    | false =>
      refine iteF ⟨_, rfl, _, _, rfl, rfl, _, rfl, _, rfl, (i : Int) - 1, -1, rfl, by omega, by omega, by omega, by omega, fun q hq => ?_⟩
      rw [beside_left (n := n)]
      exact h q hq
end
/-! ### which stones a push fells -/
def ab (z : Int) : Int := if z < 0 then -z else z
def mx (i j : Int) : Int := if j > i then j else i
/-- one stone after another, as far as the reach goes -/
def scan (xs : List (Int × Int)) (sd : List Bool) (p0 : Int) : Int → List Nat → List Nat
  | _, [] => []
  | r, o :: os => match xs[o]? with
    | none => []
    | some x => if ab (x.1 - p0) > r then [] else if sd[o]? = some true then o :: scan xs sd p0 (mx r (ab (x.1 - p0) + x.2)) os else scan xs sd p0 r os
def felled (xs : List (Int × Int)) (sd : List Bool) (i : Nat) (r : Bool) : List Nat := match xs[i]? with
  | none => []
  | some x => i :: scan xs sd x.1 x.2 (beside r i xs.length)
theorem beside_lt {r : Bool} {i n : Nat} (hi : i < n) : ∀ k ∈ beside r i n, k < n := by
  intro k hk
  cases r with
  | true =>
    simp [beside] at hk
    obtain ⟨j, h1, h2⟩ := hk
    omega
  | false =>
    simp [beside] at hk
    obtain ⟨j, h1, h2⟩ := hk
    omega
theorem beside_len {r : Bool} {i n : Nat} (hi : i < n) : (beside r i n).length ≤ n := by
  cases r <;> simp [beside] <;> omega
theorem scan_len (xs : List (Int × Int)) (sd : List Bool) (p0 : Int) : ∀ (os : List Nat) (r : Int), (scan xs sd p0 r os).length ≤ os.length
  | [], r => by simp [scan]
  | o :: os, r => by
    unfold scan
    split
    · simp
    · rename_i x hx
      split
      · simp
      · split
        · have := scan_len xs sd p0 os (mx r (ab (x.1 - p0) + x.2)); simp; exact this
        · have := scan_len xs sd p0 os r; simp; omega
def spFelled (K : PySem.W.Frag) : Sp := fun vs H Q _ => ∃ (t b : Addr) (us : List V) (xs : List (Int × Int)) (sd : List Bool) (i : Nat) (r : Bool), vs = [.ref t, .ref b, .int i, .str (sideS r)] ∧ SqT K H t us ∧ StonesAt K H us xs ∧ SqL K H b (sd.map V.bl) ∧ sd.length = xs.length ∧ i < xs.length ∧ xs.length ≤ 40 ∧
  ∀ (ns : List Int) (p : Addr) (H' : Hp), ns.Perm ((felled xs sd i r).map fun (k : Nat) => (k : Int)) → ns.Pairwise (· ≤ ·) → Same H H' → H p = none → H' p = some (.lst (ns.map V.int)) → Q (.ref p) H'
theorem sqL_same {K : PySem.W.Frag} {H H' : Hp} {a : Addr} {xs : List V} (e : Same H H') (h : SqL K H a xs) : SqL K H' a xs := e.seq h
theorem ivs_get {ns : List Nat} {k : Nat} {v : V} (h : (ivs ns)[k]? = some v) : ∃ o, ns[k]? = some o ∧ v = V.int (o : Int) := by
  unfold ivs at h
  rw [List.getElem?_map] at h
  cases e : ns[k]? with
  | none => rw [e] at h; cases h
  | some o => rw [e] at h; exact ⟨o, rfl, (Option.some.inj h).symm⟩
theorem drop_get {α : Type} {l : List α} {k : Nat} {o : α} (h : l[k]? = some o) : l.drop k = o :: l.drop (k + 1) := by
  obtain ⟨h1, h2⟩ := List.getElem?_eq_some_iff.mp h
  rw [List.drop_eq_getElem_cons h1, h2]
section
variable {P : Program} {w : World} {K : PySem.W.Frag} {mg : Str → Option Value} {base : Heap}
theorem ok_felled {f g : Addr} {fd gd : FuncData} (F : Fun K "felled_by" "felled_by" s_felled_by f fd) (B : Blt mg) (N : At P w K mg base CX0 1 "stones_beside" ["stone", "side", "count"] spBeside g gd) :
    FnOk P w K mg base CX0 2 f fd ["stones", "standing", "stone", "side"] (spFelled K) := by
  refine F.ok sc_felled_by (fun vs H Q E h => ?_) (fun cdv A outer s H vs Q E hr h => ?_)
  · obtain ⟨t, b, us, xs, sd, i, r, rfl, _⟩ := h
    rfl
  · obtain ⟨t, b, us, xs, sd, i, r, rfl, hT, hS, hB, hl, hi, hn, k⟩ := h
    refine ⟨_, pss_cons (ps_asg (pe_ix ix_tup (pv 0) (pv 2) (fun _ _ => rfl)) (pg_tup rfl (pgs_cons (pg_name (i := 4) sc_felled_by.nd rfl (Or.inl rfl)) (pgs_cons (pg_name (i := 5) sc_felled_by.nd rfl (Or.inl rfl)) pgs_nil))))
      (pss_cons (ps_set (i := 6) sc_felled_by.nd rfl (Or.inl rfl) (pe_lst (pa_cons (pv 2) pa_nil)))
      (pss_cons (ps_for PassesOwn.never rfl (pi_list (pe_at N hr (pa_cons (pv 2) (pa_cons (pv 3) (pa_cons (pe_callB call_len_seq (by rfl) B.len PySem.boot_len (pa_cons (pv 0) pa_nil)) pa_nil))))) (pg_name (i := 7) sc_felled_by.nd rfl (Or.inl rfl))
        (pss_cons (ps_asg (pe_ix ix_tup (pv 0) (pv 7) (fun _ _ => rfl)) (pg_tup rfl (pgs_cons (pg_name (i := 8) sc_felled_by.nd rfl (Or.inl rfl)) (pgs_cons (pg_name (i := 9) sc_felled_by.nd rfl (Or.inl rfl)) pgs_nil))))
        (pss_cons (ps_set (i := 10) sc_felled_by.nd rfl (Or.inl rfl) (pe_callB (call_abs) (by rfl) B.abs boot_abs (pa_cons (pe_op op_sub (pv 8) (pv 4)) pa_nil)))
        (pss_cons (ps_if (pt_cmpR (op_gt) (pv 10) (pv 5) (nomark _)) (pss_one ps_break) pss_nil)
        (pss_one (ps_if (pt_val (pe_ix ix_list (pv 1) (pv 7) (fun _ _ => rfl))) (pss_cons (ps_expr (pe_bm PySem.F.plainAttrs_list PySem.F.slot_list_append PySem.F.type_list_append mt_append (pv 6) (pa_cons (pv 7) pa_nil))) (pss_one (ps_set (i := 5) sc_felled_by.nd rfl (Or.inl rfl) (pe_callB ((call_max2 rfl)) (by rfl) B.max boot_max (pa_cons (pv 5) (pa_cons (pe_op op_add (pv 10) (pv 9)) pa_nil)))))) pss_nil))))))
      (pss_one (ps_ret (pe_callB (cr_sortedI) (by rfl) B.sorted boot_sorted (pa_cons (pv 6) pa_nil)))))), ?_⟩
    obtain ⟨x, hx⟩ : ∃ x, xs[i]? = some x := ⟨xs[i], by simp [hi]⟩
    obtain ⟨a, ha, hsa⟩ := hS.2 i x hx
    -- start, reach = stones[stone]
    refine ⟨_, rfl, _, rfl, t, us, _, _, rfl, rfl, hT, atI_nat ha, a, _, rfl, hsa, rfl, _, _, rfl, _, _, rfl, rfl, ?_⟩
    -- felled = [stone]
    refine ⟨_, rfl, (by show 1 ≤ sizeLine; decide), fun pf nf => ?_⟩
    have s1 := same_new (o := .lst [V.int (i : Int)]) nf
    -- the stones beside
    refine ⟨_, rfl, _, rfl, _, rfl, t, us, rfl, .inr (sqT_same hT s1), ?_⟩
    refine ⟨i, xs.length, r, by rw [hS.1]; rfl, hi, by omega, fun q nq => ?_⟩
    have s2 := same_new (o := .lst (ivs (beside r i xs.length))) nq
    have hpq : pf ≠ q := ne_of_none upd_same nq
    have nf2 : H q = none := Same.free s1 nq
    have fin : ∀ (acc : List Nat) (H3 : Hp), felled xs sd i r = i :: acc → But pf H H3 → H3 pf = some (.lst (ivs (i :: acc))) → ∀ (s7 s8 s9 s10 : Option V) (rr : V),
        tRet (tCB (rSortedI K) (tCons (tVar 6) tNil)) { nx := fun _ H' => Q .non H', rt := Q } [some (.ref t), some (.ref b), some (.int i), some (.str (sideS r)), some (.int x.1), some rr, some (.ref pf), s7, s8, s9, s10] H3 := by
      intro acc H3 e1 e2 e3 s7 s8 s9 s10 rr
      refine ⟨_, rfl, pf, (i :: acc).map fun (k : Nat) => (k : Int), rfl, SqL.of (by rw [e3]; unfold ivs; rw [List.map_map]; rfl), fun ns' p pm rs np => ?_⟩
      have sm : Same H H3 := But.same e2 nf
      exact k ns' p _ (by rw [e1]; exact pm) rs (sm.trans (same_new np)) (Same.free sm np) upd_same
    refine ⟨q, rfl, ⟨_, SqL.of upd_same⟩, for_list (K := K) (a := q) (xs := ivs (beside r i xs.length)) (fun j σ H3 => ∃ (acc : List Nat) (rr : Int) (s7 s8 s9 s10 : Option V),
        σ = [some (.ref t), some (.ref b), some (.int i), some (.str (sideS r)), some (.int x.1), some (.int rr), some (.ref pf), s7, s8, s9, s10] ∧
        felled xs sd i r = i :: acc ++ scan xs sd x.1 rr ((beside r i xs.length).drop j) ∧ But pf H H3 ∧ H3 pf = some (.lst (ivs (i :: acc))) ∧ H3 q = some (.lst (ivs (beside r i xs.length))) ∧ acc.length ≤ j) ?_ ?_ ?_ ?_⟩
    · refine ⟨[], x.2, none, none, none, none, rfl, ?_, (Same.but s1 pf).trans (Same.but s2 pf), ?_, upd_same, Nat.le_refl _⟩
      · unfold felled
        rw [hx]
        rfl
      · rw [upd_ne hpq]
        exact upd_same
    · rintro j σ H3 _ ⟨_, _, _, _, _, _, _, _, _, _, e, _⟩
      exact SqL.of e
    · rintro j y σ H3 hy ⟨acc, rr, s7, s8, s9, s10, rfl, ef, bt, e1, e2, hacc⟩
      obtain ⟨o, ho, rfl⟩ := ivs_get hy
      have hj : j < (beside r i xs.length).length := (List.getElem?_eq_some_iff.mp ho).1
      have holt : o < xs.length := beside_lt hi o (List.mem_of_getElem? ho)
      obtain ⟨z, hz⟩ : ∃ z, xs[o]? = some z := ⟨xs[o], by simp [holt]⟩
      obtain ⟨c, hc, hsc⟩ := hS.2 o z hz
      have sm : Same H H3 := But.same bt nf
      -- place, height = stones[other]
      refine ⟨_, rfl, _, rfl, t, us, _, _, rfl, rfl, sqT_same hT sm, atI_nat hc, c, _, rfl, sqT_same hsc sm, rfl, _, _, rfl, _, _, rfl, rfl, ?_⟩
      -- distance = abs(place - start)
      refine ⟨_, rfl, _, rfl, _, _, rfl, rfl, _, rfl, ?_⟩
      -- if distance > reach: break
      refine ⟨_, rfl, _, rfl, _, _, rfl, rfl, _, rfl, ?_⟩
      rw [drop_get ho] at ef
      refine ite2 (fun hgt => ?_) (fun hgt => ?_)
      · have hgt' : ab (z.1 - x.1) > rr := of_decide_eq_true hgt
        have e0 : felled xs sd i r = i :: acc := by
          rw [ef]
          unfold scan
          rw [hz]
          simp only [hgt', if_true, List.append_nil]
        exact fin acc H3 e0 bt e1 _ _ _ _ _
      · have hgt' : ¬ ab (z.1 - x.1) > rr := fun z => hgt (decide_eq_true z)
        obtain ⟨d, hd⟩ : ∃ d, sd[o]? = some d := ⟨sd[o]'(by omega), by simp⟩
        have hd2 : (sd.map V.bl)[o]? = some (.bl d) := by rw [List.getElem?_map, hd]; rfl
        refine ⟨_, rfl, _, rfl, b, _, _, _, rfl, rfl, sqL_same sm hB, atI_nat hd2, d, rfl, ?_⟩
        cases d with
        | true =>
          refine iteT ⟨_, rfl, .inl ⟨rfl, _, SqL.of e1⟩, _, rfl, pf, _, _, rfl, rfl, e1, ?_, ?_⟩
          · unfold ivs
            rw [List.length_map, List.length_cons, sizeLine_eq]
            have := beside_len (r := r) hi
            omega
          refine ⟨_, rfl, _, rfl, _, rfl, _, _, rfl, rfl, _, _, rfl, ?_⟩
          refine ⟨acc ++ [o], mx rr (ab (z.1 - x.1) + z.2), _, _, _, _, rfl, ?_, bt.trans but_upd, ?_, ?_, ?_⟩
          · rw [ef]
            conv => lhs; unfold scan
            rw [hz]
            simp only [hgt', if_false, hd, if_true, List.cons_append, List.append_assoc, List.nil_append]
          · rw [upd_same]
            unfold ivs
            simp
          · rw [upd_ne hpq.symm]
            exact e2
          · simp; omega
        | false =>
          refine iteF ⟨acc, rr, _, _, _, _, rfl, ?_, bt, e1, e2, by omega⟩
          rw [ef]
          conv => lhs; unfold scan
          rw [hz]
          simp only [hgt', if_false, hd, Option.some.injEq, Bool.false_eq_true]
    · rintro σ H3 ⟨acc, rr, s7, s8, s9, s10, rfl, ef, bt, e1, e2, hacc⟩
      have e0 : felled xs sd i r = i :: acc := by
        rw [ef, List.drop_of_length_le (by unfold ivs; simp)]
        simp [scan]
      exact fin acc H3 e0 bt e1 _ _ _ _ _
end
/-! ### a stone of a row -/
theorem tyT {K : PySem.W.Frag} {H : Hp} {a : Addr} {xs : List V} (h : SqT K H a xs) : TyX K H (.ref a) (.type "tuple") := by
  rcases h with (h | ⟨o, h⟩) | ⟨o, its, n, h, c, _⟩
  · exact .base (.tup h)
  · exact .fTuple h
  · exact .kTuple h c
theorem tyL {K : PySem.W.Frag} {H : Hp} {a : Addr} {xs : List V} (h : SqL K H a xs) : TyX K H (.ref a) (.type "list") := by
  rcases h with (h | ⟨o, h⟩) | ⟨o, its, n, h, c, _⟩
  · exact .base (.lst h)
  · exact .base (.frz h)
  · exact .kList h c
/-- what a value is as a stone of a place from lo on -/
inductive StoneV (K : PySem.W.Frag) (H : Hp) (lo : Int) : V → Bool → Prop where
  | no {v : V} (k : Known K H v) (n : ∀ a, v = .ref a → TyX K H (.ref a) (.type "list")) : StoneV K H lo v false
  | len {a : Addr} {xs : List V} (h : SqT K H a xs) (n : xs.length ≠ 2) : StoneV K H lo (.ref a) false
  | two {a : Addr} {p h : V} (q : SqT K H a [p, h]) (kp : Known K H p) (kh : Known K H h) : StoneV K H lo (.ref a) (numB p lo 1000000000 && numB h 1 1000000000)
def spIsStone (K : PySem.W.Frag) : Sp := fun vs H Q _ => ∃ v lo b, vs = [v, .int lo] ∧ StoneV K H lo v b ∧ Q (.bl b) H
structure Lims (mg : Str → Option Value) : Prop where
  place : ∃ t, mg "GREATEST_PLACE" = some (.int 1000000000 t)
  height : ∃ t, mg "GREATEST_HEIGHT" = some (.int 1000000000 t)
/-- the class Row as the top has made it -/
structure RowC (K : PySem.W.Frag) (mg : Str → Option Value) (C : Addr) : Prop where
  cl : Cls K C
  nS : NoAttr K C "_stones"
  max : ∃ u, Con K C "MAX_STONES" (.int 40) u
  mgC : mg "Row" = some (.ref C)
  first : PySem.W.selfFirst K C = true
  ca : PySem.W.findIn K (.ref C) "__class__" = some (some (.builtin "object.__class__"))
  cn : PySem.W.specialIn K (.builtin "object.__class__") "__get__" = some (some (.builtin "getset_descriptor.__get__"))
  ct : PySem.W.takesIn K (.builtin "object.__class__") = some true
  cm : PySem.W.mroIn K C (.type "object") = some true
theorem RowC.ty {K : PySem.W.Frag} {mg : Str → Option Value} {C : Addr} (R : RowC K mg C) {H : Hp} {a dx : Addr} {fs : List (Str × V)} (h : H a = some (.ins C dx fs)) : TyX K H (.ref a) (.ref C) := .base (.ins h R.cl R.ca R.cn R.ct R.cm)
theorem kit_self {K : PySem.W.Frag} {C : Addr} : PySem.W.kitOne K (.ref C) (.ref C) = some true := by
  unfold PySem.W.kitOne
  rw [if_pos (by simp)]
/-- places that rise from lo on, heights that stones can have -/
def Wf : Int → List (Int × Int) → Prop
  | _, [] => True
  | lo, x :: xs => lo ≤ x.1 ∧ x.1 ≤ 1000000000 ∧ 1 ≤ x.2 ∧ x.2 ≤ 1000000000 ∧ Wf (x.1 + 1) xs
theorem Wf.get : ∀ {xs : List (Int × Int)} {lo : Int} {k : Nat} {x : Int × Int}, Wf lo xs → xs[k]? = some x → (k = 0 → lo ≤ x.1) ∧ (∀ y, 0 < k → xs[k - 1]? = some y → y.1 + 1 ≤ x.1) ∧ x.1 ≤ 1000000000 ∧ 1 ≤ x.2 ∧ x.2 ≤ 1000000000
  | [], _, _, _, _, e => by simp at e
  | z :: xs, lo, 0, x, w, e => by
    simp at e
    subst e
    exact ⟨fun _ => w.1, fun y h => absurd h (by decide), w.2.1, w.2.2.1, w.2.2.2.1⟩
  | z :: xs, lo, k + 1, x, w, e => by
    simp at e
    have ih := Wf.get w.2.2.2.2 e
    refine ⟨fun h => by omega, fun y _ hy => ?_, ih.2.2⟩
    cases k with
    | zero => simp at hy; subst hy; exact ih.1 rfl
    | succ k => simp at hy; exact ih.2.1 y (Nat.succ_pos _) (by simpa using hy)
def rowF (t : Addr) : List (Str × V) := [("_stones", .ref t)]
def RowAt (K : PySem.W.Frag) (C : Addr) (H : Hp) (p : Addr) (xs : List (Int × Int)) : Prop := ∃ dx t us, H p = some (.ins C dx (rowF t)) ∧ SqT K H t us ∧ StonesAt K H us xs
theorem RowAt.same {K : PySem.W.Frag} {C : Addr} {H H' : Hp} {p : Addr} {xs : List (Int × Int)} (h : RowAt K C H p xs) (e : Same H H') : RowAt K C H' p xs :=
  let ⟨dx, t, us, h1, h2, h3⟩ := h; ⟨dx, t, us, e _ _ h1, sqT_same h2 e, h3.same e⟩
def spInitB (K : PySem.W.Frag) (C : Addr) : Sp := fun vs H Q _ => ∃ (p dx t : Addr) (us : List V) (xs : List (Int × Int)), vs = [.ref p, .ref t] ∧ H p = some (.ins C dx []) ∧ SqT K H t us ∧ StonesAt K H us xs ∧ Wf 0 xs ∧ xs.length ≤ 40 ∧
  ∀ H', But p H H' → H' p = some (.ins C dx (rowF t)) → Q .non H'
section
variable {P : Program} {w : World} {K : PySem.W.Frag} {mg : Str → Option Value} {base : Heap}
/-- a def with one parameter and a star -/
theorem star1 {x qual p1 pv' : Str} {st : Stmt} {f : Addr} {fd : FuncData} {N : List Str} {k : Nat} {sp : Sp} (F : Fun K x qual st f fd) (S : FnScope N ([p1] ++ [pv']) (defScope st))
    (h0 : ∀ (kV doc pm : Value) (an : Option Addr) (cdv ct a : Value), bindArgs (PySem.W.fnOf x qual (defArgs st) (defBody st) (defScope st) .none kV doc pm an cdv ct) ⟨[a], []⟩ = (newTuple [] >>= fun t => pure [(p1, a), (pv', t)]))
    (h1 : ∀ (kV doc pm : Value) (an : Option Addr) (cdv ct a r : Value) (rs : List Value), bindArgs (PySem.W.fnOf x qual (defArgs st) (defBody st) (defScope st) .none kV doc pm an cdv ct) ⟨a :: r :: rs, []⟩ = (newTuple (r :: rs) >>= fun t => pure [(p1, a), (pv', t)]))
    (hbody : ∀ (cdv : Value) (A : Around) (outer : List Env) (s : Shared) (H : Hp) (vs : List V) (Q : VK) (E : XK), Room k (A.deeper (envOfC qual (defScope st) s.heap.objs.size f cdv)) → sp vs H Q E →
      ∃ t, PSs (cxOf CX0 P w K mg base N qual (defScope st) f cdv A outer s H E).nox (defBody st) t ∧ t { nx := fun _ H' => Q .non H', rt := Q } (start N vs) H) :
    FnR P w K mg base CX0 (k + 1) f (fun vs H Q E => ∃ w0 rest, vs = w0 :: rest ∧ rest.length ≤ 1000 ∧ ∀ p, H p = none → sp [w0, V.ref p] (upd H p (.tup rest)) Q E) := by
  obtain ⟨oc, od, kV, doc, pm, an, cdv, ct, osl, rfl, lk, hcd⟩ := F.ex
  have base := StX.fn_star (CX := CX0) (P := P) (w := w) (mg := mg) (base := base) (k := k) (ps := [p1]) (sp := sp) lk hcd S (fun _ _ _ _ _ _ _ _ _ _ _ z => z)
    (StX.bind_star1 (B := fun us => bindArgs (PySem.W.fnOf x qual (defArgs st) (defBody st) (defScope st) .none kV doc pm an cdv ct) ⟨us, []⟩) (fun a => h0 kV doc pm an cdv ct a) (fun a r rs => h1 kV doc pm an cdv ct a r rs))
    (fun A outer s H vs Q E hr hsp => by
      obtain ⟨t, h, q⟩ := hbody cdv A outer s H vs Q E hr hsp
      exact ⟨t, h.nox, q⟩)
  refine base.imp fun vs H Q E h => ?_
  obtain ⟨w0, rest, rfl, hz, h⟩ := h
  exact ⟨[w0], rest, rfl, rfl, by rw [sizeLine_eq]; omega, fun p hp => h p hp⟩
theorem ok_isStone {f g : Addr} {fd gd : FuncData} (F : Fun K "_is_stone" "_is_stone" s_is_stone f fd) (B : Blt mg) (L : Lims mg) (N : At P w K mg base CX0 1 "is_number" ["value", "least", "greatest"] (spNum K) g gd) :
    FnOk P w K mg base CX0 2 f fd ["stone", "least_place"] (spIsStone K) := by
  obtain ⟨⟨tp, mp⟩, ⟨th, mh⟩⟩ := id L
  refine F.ok sc_is_stone (fun vs H Q E h => ?_) (fun cdv A outer s H vs Q E hr h => ?_)
  · obtain ⟨v, lo, b, rfl, _⟩ := h
    rfl
  · obtain ⟨v, lo, b, rfl, sv, k⟩ := h
    refine ⟨_, pss_cons (ps_if (PW.pt (pw_or (pt_not (pt_val (pe_callB (call_isi) (by rfl) B.isinstance boot_isinstance (pa_cons (pv 0) (pa_cons (pe_bltn (v := .ty "tuple") (by rfl) B.tuple boot_tuple rfl) pa_nil))))) (pw_or1 (pt_cmpR (op_ne) (pe_callB call_len_seq (by rfl) B.len PySem.boot_len (pa_cons (pv 0) pa_nil)) (pe_int) (nomark _))))) (pss_one (ps_ret pe_bl)) pss_nil)
      (pss_cons (ps_asg (pv 0) (pg_tup rfl (pgs_cons (pg_name (i := 2) sc_is_stone.nd rfl (Or.inl rfl)) (pgs_cons (pg_name (i := 3) sc_is_stone.nd rfl (Or.inl rfl)) pgs_nil))))
      (pss_one (ps_ret (pe_and (pe_at N hr (pa_cons (pv 2) (pa_cons (pv 1) (pa_cons (pe_glob (v := .int 1000000000) (by rfl) mp ⟨_, rfl⟩) pa_nil)))) (pe_one (pe_at N hr (pa_cons (pv 3) (pa_cons (pe_int) (pa_cons (pe_glob (v := .int 1000000000) (by rfl) mh ⟨_, rfl⟩) pa_nil))))))))), ?_⟩
    cases sv with
    | no kn n =>
      have ty : ∃ t : String, TyX K H v (.type t) ∧ PySem.W.kitOne K (.type t) (.type "tuple") = some false := by
        cases v with
        | int i => exact ⟨_, .base (.int i), kit_ty (by decide +kernel)⟩
        | bl i => exact ⟨_, .base (.bl i), kit_ty (by decide +kernel)⟩
        | non => exact ⟨_, .base .non, kit_ty (by decide +kernel)⟩
        | str i => exact ⟨_, .base (.str i), kit_ty (by decide +kernel)⟩
        | ref a => exact ⟨_, n a rfl, kit_ty (by decide +kernel)⟩
        | byt _ => exact kn.elim
        | flt _ => exact kn.elim
        | ty _ => exact kn.elim
      obtain ⟨t, ty, kt⟩ := ty
      refine ⟨_, rfl, v, .ty "tuple", _, _, false, rfl, .ty _, ty, kt, false, rfl, ?_⟩
      refine iteT ?_
      exact iteT k
    | @len a xs hx n =>
      refine ⟨_, rfl, _, .ty "tuple", _, _, true, rfl, .ty _, tyT hx, kit_ty (by decide +kernel), true, rfl, ?_⟩
      refine iteF ?_
      refine ⟨_, rfl, a, xs, rfl, .inr hx, rfl, _, rfl, ?_⟩
      have e : (!decide (V.int (xs.length : Int) = V.int 2)) = true := by
        rw [dec_int]; simp; omega
      rw [e]
      exact iteT k
    | @two a p h q kp kh =>
      refine ⟨_, rfl, _, .ty "tuple", _, _, true, rfl, .ty _, tyT q, kit_ty (by decide +kernel), true, rfl, ?_⟩
      refine iteF ?_
      refine ⟨_, rfl, a, [p, h], rfl, .inr q, rfl, _, rfl, ?_⟩
      refine iteF ?_
      refine ⟨_, rfl, a, [p, h], rfl, q, rfl, _, _, rfl, _, _, rfl, rfl, ?_⟩
      refine ⟨_, rfl, _, rfl, _, _, _, rfl, kp, _, rfl, ?_⟩
      cases e : numB p lo 1000000000 with
      | true =>
        refine iteT ⟨_, rfl, _, _, _, rfl, kh, ?_⟩
        rw [e, Bool.true_and] at k
        exact k
      | false =>
        rw [e, Bool.false_and] at k
        exact iteF k
theorem numB_int {i lo hi : Int} (h1 : lo ≤ i) (h2 : i ≤ hi) : numB (.int i) lo hi = true := by
  show (decide (lo ≤ i) && decide (i ≤ hi)) = true
  rw [decide_eq_true h1, decide_eq_true h2]; rfl
theorem ok_init {f g C : Addr} {fd gd : FuncData} (F : Fun K "__init__" "Row.__init__" s_Row_init f fd) (B : Blt mg) (R : RowC K mg C) (N : At P w K mg base CX0 2 "_is_stone" ["stone", "least_place"] (spIsStone K) g gd) :
    FnR P w K mg base CX0 3 f (fun vs H Q E => ∃ w0 rest, vs = w0 :: rest ∧ rest.length ≤ 1000 ∧ ∀ p, H p = none → spInitB K C [w0, V.ref p] (upd H p (.tup rest)) Q E) := by
  refine star1 F sc_Row_init (fun _ _ _ _ _ _ _ => rfl) (fun _ _ _ _ _ _ _ _ _ => rfl) (fun cdv A outer s H vs Q E hr h => ?_)
  obtain ⟨p, dx, t, us, xs, rfl, hp, hT, hS, hw, hz, k⟩ := h
  obtain ⟨um, cm⟩ := R.max
  refine ⟨_, pss_cons (ps_set (i := 2) sc_Row_init.nd rfl (Or.inl rfl) (pe_int)) (pss_cons (ps_for PassesOwn.never rfl (Own.pi_enumT (by rfl) B.enumerate (pa_cons (pv 1) pa_nil)) (pg_tup rfl (pgs_cons (pg_name (i := 3) sc_Row_init.nd rfl (Or.inl rfl)) (pgs_cons (pg_name (i := 4) sc_Row_init.nd rfl (Or.inl rfl)) pgs_nil)))
      (pss_cons (ps_if (PW.pt (pw_or (pt_cmpR (op_eq) (pv 3) (pe_con (pv 0) rfl) (nomark _)) (pw_or1 (pt_not (pt_val (pe_at N hr (pa_cons (pv 4) (pa_cons (pv 2) pa_nil)))))))) (pss_one ps_never) pss_nil)
      (pss_one (ps_set (i := 2) sc_Row_init.nd rfl (Or.inl rfl) (pe_op op_add (pe_ix ix_tup (pv 4) (pe_int) (fun _ _ => rfl)) (pe_int))))))
    (pss_one (ps_fld (pv 0) (pv 1) rfl))), ?_⟩
  refine ⟨_, rfl, t, us, rfl, hT, for_it (Own.walk_item (K := K) (a := t) (xs := us)) (fun j σ H1 => ∃ (lo : Int) (s3 s4 : Option V), σ = [some (.ref p), some (.ref t), some (.int lo), s3, s4] ∧ Same H H1 ∧ (∀ x, xs[j]? = some x → lo ≤ x.1) ∧ 0 ≤ lo) ?_ ?_ ?_ ?_⟩
  · exact ⟨0, none, none, rfl, Same.refl _, fun x hx => (hw.get hx).1 rfl, Int.le_refl _⟩
  · rintro j σ H1 _ ⟨_, _, _, _, sm, _⟩
    exact sqT_same hT sm
  · rintro j v σ H1 H2 hj ⟨lo, s3, s4, rfl, sm, hlo, h0⟩ ⟨T, y, z, rfl, nT, rfl, e1, e2⟩
    obtain rfl : y = V.int (j : Int) := (Option.some.inj e1).symm
    have hjx : j < xs.length := by rw [← hS.1]; exact hj
    obtain ⟨x, hx⟩ : ∃ x, xs[j]? = some x := ⟨xs[j], by simp [hjx]⟩
    obtain ⟨c, hc, hsc⟩ := hS.2 j x hx
    obtain rfl : z = V.ref c := Option.some.inj (e2.symm.trans hc)
    have sm2 : Same H (upd H1 T (.tup [.int (j : Int), .ref c])) := sm.trans (same_new nT)
    obtain ⟨_, g2, g3, g4, g5⟩ := hw.get hx
    -- index, stone = the pair
    refine ⟨T, _, rfl, SqT.of upd_same, rfl, _, _, rfl, _, _, rfl, rfl, ?_⟩
    -- index == self.MAX_STONES
    refine ⟨_, rfl, _, rfl, p, C, dx, [], _, _, rfl, sm2 _ _ hp, R.cl, cm, rfl, rfl, _, rfl, ?_⟩
    have e40 : decide (V.int (j : Int) = V.int 40) = false := by rw [dec_int]; simp; omega
    rw [e40]
    refine iteF ?_
    -- not _is_stone(stone, least_place)
    refine ⟨_, rfl, _, rfl, _, _, _, rfl, StoneV.two (sqT_same hsc sm2) True.intro True.intro, _, rfl, ?_⟩
    rw [numB_int (hlo x hx) g3, numB_int g4 g5]
    refine iteF ?_
    -- least_place = stone[0] + 1
    refine ⟨_, rfl, c, _, (0 : Nat), _, rfl, rfl, sqT_same hsc sm2, atI_nat (j := 0) rfl, _, _, rfl, rfl, ?_⟩
    refine ⟨x.1 + 1, _, _, rfl, sm2, fun y hy => (hw.get hy).2.1 x (Nat.succ_pos _) (by simpa using hx), ?_⟩
    have := hlo x hx
    omega
  · rintro σ H1 ⟨lo, s3, s4, rfl, sm, _, _⟩
    refine ⟨_, rfl, _, rfl, p, C, dx, [], rfl, sm _ _ hp, R.cl, R.nS, (by show 0 < 1000; decide), ?_⟩
    exact k _ ((Same.but sm p).trans but_upd) upd_same
end
/-! ### a run: what a push fells while all stand -/
def allUp (n : Nat) : List Bool := List.replicate n true
def reachN (xs : List (Int × Int)) (i : Nat) (r : Bool) : Nat := (felled xs (allUp xs.length) i r).length - 1
def run (xs : List (Int × Int)) (i : Nat) (r : Bool) : Nat × Nat := if r then (i, i + reachN xs i r) else (i - reachN xs i r, i)
theorem scan_take {xs : List (Int × Int)} {sd : List Bool} {p0 : Int} (up : ∀ o, o < xs.length → sd[o]? = some true) : ∀ (os : List Nat) (r : Int), (∀ o ∈ os, o < xs.length) → scan xs sd p0 r os = os.take (scan xs sd p0 r os).length
  | [], r, _ => by simp [scan]
  | o :: os, r, h => by
    have ho := h o (by simp)
    unfold scan
    split
    · simp
    · rename_i x hx
      split
      · simp
      · rw [if_pos (up o ho)]
        rw [List.length_cons, List.take_succ_cons, ← scan_take up os _ fun z hz => h z (by simp [hz])]
theorem allUp_get {n o : Nat} (h : o < n) : (allUp n)[o]? = some true := by
  unfold allUp
  rw [List.getElem?_replicate, if_pos h]
theorem felled_take {xs : List (Int × Int)} {i : Nat} {r : Bool} (hi : i < xs.length) : felled xs (allUp xs.length) i r = i :: (beside r i xs.length).take (reachN xs i r) := by
  have hx : xs[i]? = some xs[i] := by simp [hi]
  have e : felled xs (allUp xs.length) i r = i :: scan xs (allUp xs.length) (xs[i]).1 (xs[i]).2 (beside r i xs.length) := by
    unfold felled
    rw [hx]
  have st := scan_take (xs := xs) (sd := allUp xs.length) (p0 := (xs[i]).1) (fun o ho => allUp_get ho) (beside r i xs.length) (xs[i]).2 (beside_lt hi)
  unfold reachN
  rw [e, List.length_cons, Nat.add_sub_cancel]
  exact congrArg (List.cons i) st
theorem reach_le {xs : List (Int × Int)} {i : Nat} {r : Bool} (hi : i < xs.length) : reachN xs i r ≤ (beside r i xs.length).length := by
  have hx : xs[i]? = some xs[i] := by simp [hi]
  unfold reachN felled
  rw [hx, List.length_cons, Nat.add_sub_cancel]
  exact scan_len _ _ _ _ _
theorem besideR_len {i n : Nat} : (beside true i n).length = n - (i + 1) := by simp [beside]
theorem besideL_len {i n : Nat} : (beside false i n).length = i := by simp [beside]
/-- first, first + 1, .. (c + 1 of them) -/
def rise (a c : Nat) : List Int := (List.range (c + 1)).map fun k => ((a + k : Nat) : Int)
theorem rise_le (a c : Nat) : (rise a c).Pairwise (· ≤ ·) := by
  unfold rise
  refine List.Pairwise.map _ (fun x y h => ?_) (List.pairwise_lt_range (n := c + 1))
  show ((a + x : Nat) : Int) ≤ ((a + y : Nat) : Int)
  have : x < y := h
  omega
theorem felled_perm {xs : List (Int × Int)} {i : Nat} {r : Bool} (hi : i < xs.length) : ((felled xs (allUp xs.length) i r).map fun (k : Nat) => (k : Int)).Perm (rise (run xs i r).1 (reachN xs i r)) := by
  rw [felled_take hi]
  have hle := reach_le (r := r) hi
  cases r with
  | true =>
    rw [besideR_len] at hle
    show (List.map _ _).Perm (rise i (reachN xs i true))
    generalize reachN xs i true = c at hle
    refine .of_eq ?_
    unfold rise beside
    rw [if_pos rfl, List.range_succ_eq_map, List.map_cons, List.map_cons, List.map_map, ← List.map_take, List.map_map, List.take_range]
    have e : min c (xs.length - (i + 1)) = c := by omega
    rw [e]
    refine congr (congrArg _ (by simp)) (List.map_congr_left fun k _ => ?_)
    show ((i + 1 + k : Nat) : Int) = ((i + (k + 1) : Nat) : Int)
    omega
  | false =>
    rw [besideL_len] at hle
    show (List.map _ _).Perm (rise (i - reachN xs i false) (reachN xs i false))
    generalize reachN xs i false = c at hle
    have e : List.map (fun (k : Nat) => (k : Int)) (i :: (beside false i xs.length).take c) = (rise (i - c) c).reverse := by
      unfold rise beside
      rw [if_neg (by decide), ← List.map_take, List.take_range]
      have e : min c i = c := by omega
      rw [e]
      apply List.ext_getElem
      · simp
      · intro j h1 h2
        have hj : j < c + 1 := by simpa using h1
        rw [List.getElem_reverse]
        cases j with
        | zero => simp; omega
        | succ j => simp; omega
    rw [e]
    exact List.reverse_perm _
theorem felled_sorted {xs : List (Int × Int)} {i : Nat} {r : Bool} {ns : List Int} (hi : i < xs.length) (p : ns.Perm ((felled xs (allUp xs.length) i r).map fun (k : Nat) => (k : Int))) (s : ns.Pairwise (· ≤ ·)) :
    ns = rise (run xs i r).1 (reachN xs i r) :=
  (p.trans (felled_perm hi)).eq_of_pairwise (fun x y _ _ h1 h2 => Int.le_antisymm h1 h2) s (rise_le _ _)
theorem run_last {xs : List (Int × Int)} {i : Nat} {r : Bool} (hi : i < xs.length) : (run xs i r).1 + reachN xs i r = (run xs i r).2 := by
  have hle := reach_le (r := r) hi
  unfold run
  cases r with
  | true => rfl
  | false =>
    rw [besideL_len] at hle
    show i - reachN xs i false + reachN xs i false = i
    omega
/-! ### Row's methods -/
def spLen (K : PySem.W.Frag) (C : Addr) : Sp := fun vs H Q _ => ∃ p xs, vs = [.ref p] ∧ RowAt K C H p xs ∧ Q (.int (xs.length : Int)) H
def spAdd (K : PySem.W.Frag) (C : Addr) : Sp := fun vs H Q _ => ∃ p q xs ys, vs = [.ref p, .ref q] ∧ RowAt K C H p xs ∧ RowAt K C H q ys ∧ Wf 0 (xs ++ ys) ∧ (xs ++ ys).length ≤ 40 ∧
  ∀ z H', Same H H' → H z = none → RowAt K C H' z (xs ++ ys) → Q (.ref z) H'
def spCall (K : PySem.W.Frag) (C : Addr) : Sp := fun vs H Q _ => ∃ p xs i r, vs = [.ref p, .int (i : Nat), .str (sideS r)] ∧ RowAt K C H p xs ∧ i < xs.length ∧ xs.length ≤ 40 ∧
  ∀ z H', Same H H' → H z = none → H' z = some (.tup [.int ((run xs i r).1 : Nat), .int ((run xs i r).2 : Nat)]) → Q (.ref z) H'
def spMake (K : PySem.W.Frag) (C : Addr) : Sp := fun vs H Q E => ∃ w0 rest, vs = w0 :: rest ∧ rest.length ≤ 1000 ∧ ∀ p, H p = none → spInitB K C [w0, V.ref p] (upd H p (.tup rest)) Q E
section
variable {P : Program} {w : World} {K : PySem.W.Frag} {mg : Str → Option Value} {base : Heap}
/-- what a new row's reading asks, once and for all -/
theorem make_row {C : Addr} {H : Hp} {us : List V} {xs : List (Int × Int)} {Q : VK} {E : XK} (hS : StonesAt K H us xs) (hw : Wf 0 xs) (hz : xs.length ≤ 40) (k : ∀ z H', Same H H' → H z = none → RowAt K C H' z xs → Q (.ref z) H') :
    ∀ z dz, H z = Option.none → H dz = Option.none → dz ≠ z → spMake K C (V.ref z :: us) (upd (upd H dz (.own z)) z (.ins C dz [])) (fun v H2 => v = .non ∧ Q (.ref z) H2) E := by
  intro z dz nz ndz ne
  have s0 : Same H (upd (upd H dz (.own z)) z (.ins C dz [])) := (same_new ndz).trans (same_new (by rw [upd_ne (Ne.symm ne)]; exact nz))
  refine ⟨_, us, rfl, by rw [hS.1]; omega, fun t nt => ?_⟩
  have s1 : Same H (upd (upd (upd H dz (.own z)) z (.ins C dz [])) t (.tup us)) := s0.trans (same_new nt)
  have ntz : z ≠ t := ne_of_none upd_same nt
  refine ⟨z, dz, t, us, xs, rfl, by rw [upd_ne ntz]; exact upd_same, SqT.of upd_same, hS.same s1, hw, hz, fun H' b e => ⟨rfl, ?_⟩⟩
  have sm : Same H H' := But.same ((Same.but s1 z).trans b) nz
  exact k z H' sm nz ⟨dz, t, us, e, SqT.of (b t _ (Ne.symm ntz) upd_same), hS.same sm⟩
theorem ok_len {f C : Addr} {fd : FuncData} (F : Fun K "__len__" "Row.__len__" s_Row_len f fd) (B : Blt mg) (R : RowC K mg C) : FnOk P w K mg base CX0 1 f fd ["self"] (spLen K C) := by
  refine F.ok sc_Row_len (fun vs H Q E h => ?_) (fun cdv A outer s H vs Q E hr h => ?_)
  · obtain ⟨p, xs, rfl, _⟩ := h
    rfl
  · obtain ⟨p, xs, rfl, ⟨dx, t, us, hp, hT, hS⟩, k⟩ := h
    refine ⟨_, pss_one (ps_ret (pe_callB call_len_seq (by rfl) B.len PySem.boot_len (pa_cons (pe_fld (pv 0) rfl) pa_nil))), ?_⟩
    refine ⟨_, rfl, p, C, dx, _, _, rfl, hp, R.cl, R.nS, rfl, t, us, rfl, .inr hT, ?_⟩
    rw [hS.1]
    exact k
theorem ok_add {f g C : Addr} {fd : FuncData} (F : Fun K "__add__" "Row.__add__" s_Row_add f fd) (B : Blt mg) (R : RowC K mg C) (M : Mk K C g)
    (G : FnR P w K mg base CX0 3 g (spMake K C)) : FnOk P w K mg base CX0 5 f fd ["self", "other"] (spAdd K C) := by
  refine F.ok sc_Row_add (fun vs H Q E h => ?_) (fun cdv A outer s H vs Q E hr h => ?_)
  · obtain ⟨p, q, xs, ys, rfl, _⟩ := h
    rfl
  · obtain ⟨p, q, xs, ys, rfl, hp, hq, hw, hz, k⟩ := h
    obtain ⟨dx, t, us, ep, hT, hS⟩ := id hp
    obtain ⟨dy, t', us', eq', hT', hS'⟩ := id hq
    refine ⟨_, pss_cons (ps_if (pt_not (pt_val (pe_callB (call_isi) (by rfl) B.isinstance boot_isinstance (pa_cons (pv 1) (pa_cons (pe_glob (v := .ref C) (by rfl) R.mgC rfl) pa_nil))))) (pss_one ps_never) pss_nil)
      (pss_cons (ps_set (i := 2) sc_Row_add.nd rfl (Or.inl rfl) (pe_op op_catA (pe_fld (pv 0) rfl) (pe_fld (pv 1) rfl)))
      (pss_one (ps_ret (Own.pe_makeS M G hr (by rfl) R.mgC pass0 (pv 2))))), ?_⟩
    refine ⟨_, rfl, _, .ref C, _, _, true, rfl, .own C, R.ty eq', kit_self, true, rfl, ?_⟩
    refine iteF ?_
    refine ⟨_, rfl, p, C, dx, _, _, rfl, ep, R.cl, R.nS, rfl, _, rfl, q, C, dy, _, _, rfl, eq', R.cl, R.nS, rfl, t, t', us, us', rfl, rfl, hT, hT', ?_, fun e => ?_, fun n e => ?_, fun n n' y ny => ?_⟩
    · rw [hS.1, hS'.1, ← List.length_append, sizeLine_eq]; omega
    · refine ⟨_, rfl, t', us', rfl, .inl hT', make_row (xs := xs ++ ys) ?_ hw hz k⟩
      have := hS.append hS'
      rw [e] at this
      exact this
    · refine ⟨_, rfl, t, us, rfl, .inl hT, make_row (xs := xs ++ ys) ?_ hw hz k⟩
      have := hS.append hS'
      rw [e, List.append_nil] at this
      exact this
    · have s1 := same_new (o := .tup (us ++ us')) ny
      refine ⟨_, rfl, y, _, rfl, .inl (SqT.of upd_same), make_row ((hS.append hS').same s1) hw hz fun z H' sm nz ra => k z H' (s1.trans sm) (Same.free s1 nz) ra⟩
theorem ok_call {f C g1 g2 g3 : Addr} {fd d1 d2 d3 : FuncData} (F : Fun K "__call__" "Row.__call__" s_Row_call f fd) (B : Blt mg) (R : RowC K mg C) (N1 : At P w K mg base CX0 2 "check_stone" ["stone", "count"] spCheckStone g1 d1)
    (N2 : At P w K mg base CX0 1 "check_side" ["side"] spCheckSide g2 d2) (N3 : At P w K mg base CX0 2 "felled_by" ["stones", "standing", "stone", "side"] (spFelled K) g3 d3) :
    FnOk P w K mg base CX0 3 f fd ["self", "stone", "side"] (spCall K C) := by
  refine F.ok sc_Row_call (fun vs H Q E h => ?_) (fun cdv A outer s H vs Q E hr h => ?_)
  · obtain ⟨p, xs, i, r, rfl, _⟩ := h
    rfl
  · obtain ⟨p, xs, i, r, rfl, ⟨dx, t, us, ep, hT, hS⟩, hi, hz, k⟩ := h
    refine ⟨_, pss_cons (ps_expr (pe_at N1 hr (pa_cons (pv 1) (pa_cons (pe_callB call_len_seq (by rfl) B.len PySem.boot_len (pa_cons (pe_fld (pv 0) rfl) pa_nil)) pa_nil))))
      (pss_cons (ps_expr (pe_at N2 (hr.mono (by decide)) (pa_cons (pv 2) pa_nil)))
      (pss_cons (ps_set (i := 3) sc_Row_call.nd rfl (Or.inl rfl) (pe_op op_rep (pe_lst (pa_cons (pe_bl) pa_nil)) (pe_callB call_len_seq (by rfl) B.len PySem.boot_len (pa_cons (pe_fld (pv 0) rfl) pa_nil))))
      (pss_cons (ps_set (i := 4) sc_Row_call.nd rfl (Or.inl rfl) (pe_at N3 hr (pa_cons (pe_fld (pv 0) rfl) (pa_cons (pv 3) (pa_cons (pv 1) (pa_cons (pv 2) pa_nil))))))
      (pss_one (ps_ret (pe_tup (pa_cons (pe_ix ix_list (pv 4) (pe_int) (fun _ _ => rfl)) (pa_cons (pe_ix ix_list (pv 4) (pe_un un_neg pe_int) (fun _ _ => rfl)) pa_nil)))))))), ?_⟩
    refine ⟨_, rfl, _, rfl, p, C, dx, _, _, rfl, ep, R.cl, R.nS, rfl, t, us, rfl, .inr hT, ?_⟩
    refine ⟨i, xs.length, by rw [hS.1]; rfl, hi, ?_⟩
    refine ⟨_, rfl, r, rfl, ?_⟩
    -- standing
    refine ⟨by show 1 ≤ sizeLine; decide, fun a na => ?_⟩
    have s1 := same_new (o := .lst [V.bl true]) na
    refine ⟨_, rfl, p, C, dx, _, _, rfl, s1 _ _ ep, R.cl, R.nS, rfl, t, us, rfl, .inr (sqT_same hT s1), ?_⟩
    refine ⟨a, _, _, rfl, rfl, upd_same, by omega, by rw [hS.1]; omega, by rw [hS.1, sizeLine_eq]; simp; omega, fun b nb => ?_⟩
    have s2 : Same H _ := s1.trans (same_new (o := .lst (List.replicate ((us.length : Int)).toNat [V.bl true]).flatten) nb)
    -- felled
    refine ⟨_, rfl, p, C, dx, _, _, rfl, s2 _ _ ep, R.cl, R.nS, rfl, _, rfl, _, rfl, _, rfl, ?_⟩
    have eb : (List.replicate ((us.length : Int)).toNat [V.bl true]).flatten = (allUp xs.length).map V.bl := by
      rw [hS.1]
      unfold allUp
      simp
    refine ⟨t, b, us, xs, allUp xs.length, i, r, rfl, sqT_same hT s2, hS.same s2, SqL.of (by rw [upd_same, eb]), by unfold allUp; simp, hi, hz, fun ns q H3 pm so sm nq e3 => ?_⟩
    rw [felled_sorted hi pm so] at e3
    have s3 := s2.trans sm
    have g0 : atI ((rise (run xs i r).1 (reachN xs i r)).map V.int) ((0 : Nat) : Int) = some (.int ((run xs i r).1 : Nat)) := by
      refine atI_nat ?_
      unfold rise
      simp
    have g1 : atI ((rise (run xs i r).1 (reachN xs i r)).map V.int) (-1) = some (.int ((run xs i r).2 : Nat)) := by
      unfold rise
      rw [List.range_succ, List.map_append, List.map_append]
      refine Eq.trans (atI_last _ (V.int (((run xs i r).1 + reachN xs i r : Nat) : Int))) ?_
      rw [run_last hi]
    refine ⟨_, rfl, q, _, _, _, rfl, rfl, SqL.of e3, g0, _, rfl, 1, rfl, q, _, (-1), _, rfl, rfl, SqL.of e3, g1, by show 2 ≤ sizeLine; decide, fun z nz => ?_⟩
    exact k z _ (s3.trans (same_new nz)) (Same.free s3 nz) upd_same
end
/-! ### checks that raise -/
/-- an own class of exceptions, below ValueError, without an own __init__ -/
structure RaiseC (K : PySem.W.Frag) (mg : Str → Option Value) (x : Str) (C : Addr) : Prop where
  ex : PySem.W.excIn K C [.type "ValueError", .type "Exception", .type "BaseException", .type "object"] "ValueError.__new__" = true
  m : mg x = some (.ref C)
  kp : PySem.W.keepIn K (.ref C) = true
  sub : PySem.W.subIn K (.ref C) (.type "BaseException") = some true
  ty : PySem.W.typeIn K (.ref C) = some (.type "type")
/-- numbers whose texts are short -/
def shortI (i : Int) : Prop := i.natAbs.log2 < 1920
theorem short_nat {n : Nat} (h : n ≤ 1000) : shortI (n : Int) := by
  unfold shortI
  rw [Int.natAbs_natCast]
  exact Nat.lt_of_le_of_lt (Nat.log2_le_self n) (by omega)
theorem lenJ {a b : Str} {n m : Nat} (ha : a.length ≤ n) (hb : b.length ≤ m) : (a ++ b).length ≤ n + m := by
  rw [Str.length_append]
  omega
theorem lenI {i : Int} (h : shortI i) : (Str.ofString (toString i)).length ≤ 1921 := PyProof.Rows.int_text_len_1921 h
theorem lenS {a : Str} {n : Nat} (h : a.length ≤ n) (hn : n ≤ 10000) : a.length ≤ sizeLine := Nat.le_trans h (Nat.le_trans hn (by decide))
def spCheckNumX (K : PySem.W.Frag) (C : Addr) : Sp := fun vs H Q E => ∃ (v : V) (lo hi : Int), vs = [v, .int lo, .int hi] ∧ Known K H v ∧ shortI lo ∧ shortI hi ∧ (numB v lo hi = true → Q .non H) ∧ (numB v lo hi = false → E (.ref C) none H)
def spCheckStoneX (K : PySem.W.Frag) (C : Addr) : Sp := fun vs H Q E => ∃ (v : V) (n : Nat), vs = [v, .int n] ∧ Known K H v ∧ n ≤ 1000 ∧ (numB v 0 ((n : Int) - 1) = true → Q .non H) ∧ (numB v 0 ((n : Int) - 1) = false → E (.ref C) none H)
section
variable {P : Program} {w : World} {K : PySem.W.Frag} {mg : Str → Option Value} {base : Heap}
theorem ok_checkNumX {f g C : Addr} {fd gd : FuncData} (F : Fun K "check_number" "check_number" s_check_number f fd) (R : RaiseC K mg "InvalidNumber" C) (N : At P w K mg base CX0 1 "is_number" ["value", "least", "greatest"] (spNum K) g gd) :
    FnOk P w K mg base (L2.CX P w) 2 f fd ["value", "least", "greatest"] (spCheckNumX K C) := by
  refine F.okX sc_check_number (fun vs H Q E h => ?_) (fun cdv A outer s H vs Q E hr h => ?_)
  · obtain ⟨v, lo, hi, rfl, _⟩ := h
    rfl
  · obtain ⟨v, lo, hi, rfl, kn, sl, sh, h1, h2⟩ := h
    refine ⟨_, pss_one (ps_if (pt_not (pt_val (pe_at N hr (pa_cons (pv 0) (pa_cons (pv 1) (pa_cons (pv 2) pa_nil)))))) (pss_one (ps_raise rfl (takes_of rfl rfl rfl rfl)
      (SkE.pmk_own1 PySem.F.excBase_ValueError R.ex R.m R.kp (raises_own R.sub R.ty) (by rfl) (pe_joined (.cons pe_str (.cons (pe_fmt (pv 1)) (.cons pe_str (.cons (pe_fmt (pv 2)) .nil)))))))) pss_nil), ?_⟩
    refine ⟨_, rfl, _, rfl, _, rfl, _, _, _, rfl, kn, _, rfl, ?_⟩
    cases e : numB v lo hi with
    | true => exact iteF (h1 e)
    | false =>
      refine iteT ?_
      have l1 : (Str.empty ++ ("no number from " : Str)).length ≤ 15 := by decide
      have l2 := lenJ l1 (lenI sl)
      have l3 := lenJ (b := " to ") (m := 4) l2 (by decide)
      have l4 := lenJ l3 (lenI sh)
      exact ⟨_, rfl, lenS l1 (by decide), _, rfl, .inr ⟨lo, rfl, sl, _, rfl, lenS l2 (by decide), _, rfl, lenS l3 (by decide), _, rfl, .inr ⟨hi, rfl, sh, _, rfl, lenS l4 (by decide), h2 e⟩⟩⟩
theorem ok_checkStoneX {f g C : Addr} {fd gd : FuncData} (F : Fun K "check_stone" "check_stone" s_check_stone f fd) (R : RaiseC K mg "UnknownStone" C) (N : At P w K mg base CX0 1 "is_number" ["value", "least", "greatest"] (spNum K) g gd) :
    FnOk P w K mg base (L2.CX P w) 2 f fd ["stone", "count"] (spCheckStoneX K C) := by
  refine F.okX sc_check_stone (fun vs H Q E h => ?_) (fun cdv A outer s H vs Q E hr h => ?_)
  · obtain ⟨v, n, rfl, _⟩ := h
    rfl
  · obtain ⟨v, n, rfl, kn, hn, h1, h2⟩ := h
    refine ⟨_, pss_one (ps_if (pt_not (pt_val (pe_at N hr (pa_cons (pv 0) (pa_cons (pe_int) (pa_cons (pe_op op_sub (pv 1) (pe_int)) pa_nil)))))) (pss_one (ps_raise rfl (takes_of rfl rfl rfl rfl)
      (SkE.pmk_own1 PySem.F.excBase_ValueError R.ex R.m R.kp (raises_own R.sub R.ty) (by rfl) (pe_joined (.cons pe_str (.cons (pe_fmt (pv 1)) (.cons pe_str .nil))))))) pss_nil), ?_⟩
    refine ⟨_, rfl, _, rfl, _, _, rfl, rfl, _, _, _, rfl, kn, _, rfl, ?_⟩
    cases e : numB v 0 ((n : Int) - 1) with
    | true => exact iteF (h1 e)
    | false =>
      refine iteT ?_
      have sn := short_nat hn
      have l1 : (Str.empty ++ ("no number of one of " : Str)).length ≤ 20 := by decide
      have l2 := lenJ l1 (lenI sn)
      have l3 := lenJ (b := " stones") (m := 7) l2 (by decide)
      exact ⟨_, rfl, lenS l1 (by decide), _, rfl, .inr ⟨n, rfl, sn, _, rfl, lenS l2 (by decide), _, rfl, lenS l3 (by decide), h2 e⟩⟩
end
/-! ### own exceptions that say super().__init__ -/
def spExI (K : PySem.W.Frag) (D : Addr) (fld : Str) : Sp := fun vs H Q _ => ∃ (a : Addr) (i : Int), vs = [.ref a, .int i] ∧ shortI i ∧ H a = some (exo a D none) ∧ OexC K D ∧ ∀ dx, H dx = none → dx ≠ a → Q .non (upd (upd H dx (exd dx [(fld, .int i)])) a (exo a D (some dx)))
section
variable {P : Program} {w : World} {K : PySem.W.Frag} {mg : Str → Option Value} {base : Heap}
theorem ok_deInit {f cc D cd : Addr} {kV doc pm ct oc : Value} {an od : Option Addr} {osl : Array (Option Value)} {lf : Obj} {vs0 : Array Value} {file : Str} {tf : Tok}
    (lk : K.lookup f = some ⟨oc, od, .func (PySem.W.fnX "__init__" "DecodeError.__init__" (defArgs s_DecodeError_init) (defBody s_DecodeError_init) (defScope s_DecodeError_init) [("__class__", cc)] .none kV doc pm an (.ref cd) ct), osl⟩) (hcd : PySem.W.codeIn K (.ref cd) "DecodeError.__init__" = true)
    (Z : SupX.SupD P K cc D) (lc : K.lookup cd = some lf) (hlf : lf.data = .fields vs0) (hv2 : vs0[2]? = some (.str file tf)) (hfile : ((P.main.file : Str) == file) = true) (hm : mg ("super" : Str) = none) (nF : PySem.W.findIn K (.ref D) "offset" = some none) :
    FnOk P w K mg base CX0 1 f (PySem.W.fnX "__init__" "DecodeError.__init__" (defArgs s_DecodeError_init) (defBody s_DecodeError_init) (defScope s_DecodeError_init) [("__class__", cc)] .none kV doc pm an (.ref cd) ct) ["self", "offset"] (spExI K D "offset") := by
  refine SupX.fn_sup (P := P) (w := w) (mg := mg) (base := base) (k := 0) (D := D) (N := ["self", "offset", "__class__"]) lk hcd Z (NdefX.nscope_by (by decide +kernel)) rfl lc hlf hv2 hfile rfl hm rfl rfl (fun vs H Q E h => ?_) (fun _ => rfl) (fun _ => rfl) (fun A outer s H vs Q E hr h => ?_)
  · obtain ⟨a, i, rfl, _⟩ := h
    rfl
  · obtain ⟨a, i, rfl, si, ha, T, k⟩ := h
    refine ⟨_, _, (pa_cons (pe_joined (.cons pe_str (.cons (pe_fmt (pv 1)) .nil))) pa_nil), pss_one (ps_ost (pv 0) (pv 1)), ?_⟩
    have l1 : (Str.empty ++ ("invalid byte: offset " : Str)).length ≤ 21 := by decide
    have l2 := lenJ l1 (lenI si)
    refine ⟨a, rfl, ha, ?_⟩
    exact ⟨_, rfl, lenS l1 (by decide), _, rfl, .inr ⟨i, rfl, si, _, rfl, lenS l2 (by decide), by show 1 ≤ 1000; decide, ha, T, _, rfl, _, rfl, a, D, rfl, T, nF, .inl ⟨ha, fun dx n ne => k dx n ne⟩⟩⟩
end
/-! ### own exceptions made -/
structure ExI (P : Program) (w : World) (K : PySem.W.Frag) (mg : Str → Option Value) (base : Heap) (x fld : Str) (D : Addr) : Prop where
  T : OexC K D
  m : mg x = some (.ref D)
  ini : ∃ (f : Addr) (fd : FuncData), PySem.W.findIn K (.ref D) "__init__" = some (some (.ref f)) ∧ PySem.W.typeIn K (.ref f) = some (.type "function") ∧ FnOk P w K mg base CX0 1 f fd ["self", fld] (spExI K D fld) ∧ L2.Binds K fd ["self", fld] []
section
variable {X : Cx} {x fld : Str} {D : Addr} {e : Expr} {es : List Expr} {ta : TA} {p pos : Pos}
theorem pmk_exI (Z : ExI X.prog X.w X.K X.mg X.base x fld D) (hr : Room 2 X.A) (ha : PA X (e :: es) ta) (hg : Gl X x := by rfl)
    (hdb : (x == ("__debug__" : Str)) = false := by decide) (he : starEach (e :: es) X.env = (false, eval e X.env) :: starEach es X.env := by rfl) (hpl : (backTo pos (starEach es X.env)).any (·.1) = false := by rfl) :
    PMk X (.Call (.Name x p) (e :: es) [] pos) (tMkO D (spExI X.K D fld) [] ta) := by
  obtain ⟨f, fd, h1, h2, h3, h4⟩ := Z.ini
  exact pmk_oex Z.T h1 h2 h3 hr h4 .nil pass0 hg Z.m ha hdb he hpl
end
theorem mko_of {K : PySem.W.Frag} {D : Addr} {fld : Str} {j : Nat} {i : Int} {σ : L2.St} {H : Hp} {Q : XK} (T : OexC K D) (h : σ[j]? = some (some (.int i))) (si : shortI i)
    (k : ∀ dx H', Same H H' → H dx = none → H' dx = some (.xd [(fld, .int i)]) → Q (.ref D) (some dx) H') : tMkO D (spExI K D fld) [] (tCons (tVar j) tNil) σ H Q := by
  refine ⟨_, h, by show 1 ≤ 1000; decide, fun a na => ⟨a, i, rfl, si, upd_same, T, fun dx n ne => ⟨rfl, dx, _, upd_same, by rw [upd_ne ne]; exact upd_same, ?_, ?_⟩⟩⟩
  · rw [upd_ne ne] at n
    exact n
  · rw [upd_ne ne] at n
    refine k dx _ (fun b o e => ?_) n upd_same
    have hba : b ≠ a := ne_of_none e na
    have hbd : b ≠ dx := ne_of_none e n
    rw [upd_ne hbd, del_ne hba, upd_ne hba, upd_ne hbd, upd_ne hba]
    exact e
section
variable {X : Cx} {k : Nat} {x : Str} {ps : List Str} {sp : Sp} {f : Addr} {fd : FuncData} {p pos : Pos} {e : Expr} {es : List Expr} {t : TA} {W : WX}
theorem pe_atE (G : At X.prog X.w X.K X.mg X.base (L2.CX X.prog X.w) k x ps sp f fd) (hr : Room k X.A) (tk : Takes X W) (ha : PA X (e :: es) t) (hg : Gl X x := by rfl) (hdb : (x == ("__debug__" : Str)) = false := by decide)
    (he : starEach (e :: es) X.env = (false, eval e X.env) :: starEach es X.env := by rfl) (hpl : (backTo pos (starEach es X.env)).any (·.1) = false := by rfl) :
    PE X (.Call (.Name x p) (e :: es) [] pos) (tCallS sp (WE W) t) := pe_callS G.ok hr hg G.m G.kp G.b (fun s => passAt tk s) ha hdb he hpl
end
/-! ### check_side, and a call of a row, that raise -/
def sideD (d : PyData) : Bool := PyData.eqv (.str "left") d || PyData.eqv (.str "right") d
theorem side_some {K : PySem.W.Frag} {H : Hp} {v : V} {d : PyData} (h : Dp K H v d) (e : sideD d = true) : ∃ r, v = .str (sideS r) := by
  cases h with
  | str x =>
    unfold sideD at e
    simp only [PyData.eqv, Bool.or_eq_true, beq_iff_eq] at e
    rcases e with rfl | rfl
    · exact ⟨false, rfl⟩
    · exact ⟨true, rfl⟩
  | non => cases e
  | bl b => cases e
  | int i => cases e
  | lst _ _ => cases e
  | tup _ _ => cases e
theorem side_ok (r : Bool) : sideD (.str (sideS r)) = true := by cases r <;> decide +kernel
theorem side_shaped (r : Bool) : SeqAt.shaped (.str (sideS r)) = true := by cases r <;> decide +kernel
def spCheckSideX (K : PySem.W.Frag) (C : Addr) : Sp := fun vs H Q E => ∃ (v : V) (d : PyData), vs = [v] ∧ Dp K H v d ∧ SeqAt.shaped d = true ∧ (sideD d = true → Q .non H) ∧ (sideD d = false → E (.ref C) none H)
/-- what a push's check finds: an unknown stone, no side, or a push -/
def spCallX (K : PySem.W.Frag) (C C2 C3 : Addr) : Sp := fun vs H Q E => ∃ (p : Addr) (xs : List (Int × Int)) (v sv : V) (d : PyData), vs = [.ref p, v, sv] ∧ RowAt K C H p xs ∧ xs.length ≤ 40 ∧ Known K H v ∧ Dp K H sv d ∧ SeqAt.shaped d = true ∧
  (numB v 0 ((xs.length : Int) - 1) = false → E (.ref C2) none H) ∧ (numB v 0 ((xs.length : Int) - 1) = true → sideD d = false → E (.ref C3) none H) ∧
  ∀ (i : Nat) (r : Bool), v = .int (i : Int) → sv = .str (sideS r) → i < xs.length → ∀ z H', Same H H' → H z = none → H' z = some (.tup [.int ((run xs i r).1 : Nat), .int ((run xs i r).2 : Nat)]) → Q (.ref z) H'
section
variable {P : Program} {w : World} {K : PySem.W.Frag} {mg : Str → Option Value} {base : Heap}
theorem ok_checkSideX {f S C : Addr} {fd : FuncData} (F : Fun K "check_side" "check_side" s_check_side f fd) (R : RaiseC K mg "InvalidSide" C) (mS : mg "SIDES" = some (.ref S)) (hS : ∀ H, SqT K H S [.str "left", .str "right"]) :
    FnOk P w K mg base (L2.CX P w) 1 f fd ["side"] (spCheckSideX K C) := by
  refine F.okX sc_check_side (fun vs H Q E h => ?_) (fun cdv A outer s H vs Q E hr h => ?_)
  · obtain ⟨v, d, rfl, _⟩ := h
    rfl
  · obtain ⟨v, d, rfl, hv, sd, h1, h2⟩ := h
    have hu65 : (A.deeper (envOfC "check_side" (defScope s_check_side) s.heap.objs.size f cdv)).units + 65 < cLine := by have := hr.un; omega
    refine ⟨_, pss_one (ps_if (pt_cmpR (DictI.op_notInT hu65) (pv 0) (pe_glob (v := .ref S) (by rfl) mS rfl) (by rfl)) (pss_one (ps_raise rfl (takes_of rfl rfl rfl rfl)
      (pmk_own PySem.F.excBase_ValueError R.ex R.m R.kp (raises_own R.sub R.ty) (by exact rfl)))) pss_nil), ?_⟩
    refine ⟨_, rfl, d, [.str "left", .str "right"], hv, .tup (hS H) (.cons (.str _) (.cons (.str _) .nil)), sd, by decide +kernel, _, rfl, ?_⟩
    have e : ([PyData.str "left", .str "right"].any fun z => PyData.eqv z d) = sideD d := by simp [sideD]
    rw [e]
    cases q : sideD d with
    | true => exact iteF (h1 q)
    | false => exact iteT (h2 q)
end
/-! ### objects that stay while a list changes -/
theorem sqT_but {K : PySem.W.Frag} {H H' : Hp} {a l : Addr} {xs ys : List V} (h : SqT K H a xs) (hl : H l = some (.lst ys)) (b : But l H H') : SqT K H' a xs := by
  rcases h with (h | ⟨o, h⟩) | h
  · exact .inl (.inl (b _ _ (ne_of h hl (by intro z; cases z)) h))
  · exact .inl (.inr ⟨o, b _ _ (ne_of h hl (by intro z; cases z)) h⟩)
  · exact .inr h
theorem StonesAt.but {K : PySem.W.Frag} {H H' : Hp} {l : Addr} {ys vs : List V} {xs : List (Int × Int)} (h : StonesAt K H vs xs) (hl : H l = some (.lst ys)) (b : But l H H') : StonesAt K H' vs xs :=
  ⟨h.1, fun k x q => let ⟨a, q1, q2⟩ := h.2 k x q; ⟨a, q1, sqT_but q2 hl b⟩⟩
theorem RowAt.but {K : PySem.W.Frag} {C : Addr} {H H' : Hp} {p l : Addr} {ys : List V} {xs : List (Int × Int)} (h : RowAt K C H p xs) (hl : H l = some (.lst ys)) (b : But l H H') : RowAt K C H' p xs :=
  let ⟨dx, t, us, h1, h2, h3⟩ := h; ⟨dx, t, us, b _ _ (ne_of h1 hl (by intro z; cases z)) h1, sqT_but h2 hl b, h3.but hl b⟩
/-- the law's own list: the script, a place in it, a seed, a rest -/
theorem But.two {H H1 H2 : Hp} {p L : Addr} (a : But L H H1) (hp : H p = none) (b : But p H1 H2) : But L H H2 := fun c o n e => b c o (ne_of_none e hp) (a c o n e)
/-! ### the law's row, put together one by one -/
theorem toR {P : Program} {w : World} {K : PySem.W.Frag} {mg : Str → Option Value} {base : Heap} {CX : CXT} {k : Nat} {f : Addr} {fd : FuncData} {ps : List Str} {sp : Sp} (F : FnOk P w K mg base CX k f fd ps sp) (b : Binds K fd ps []) : FnR P w K mg base CX k f sp :=
  (F.raw b .nil).imp fun vs H Q E h => by rw [List.append_nil]; exact h
theorem Wf.take : ∀ {xs : List (Int × Int)} {lo : Int} (n : Nat), Wf lo xs → Wf lo (xs.take n)
  | [], _, n, _ => by cases n <;> exact True.intro
  | _ :: _, _, 0, _ => True.intro
  | x :: xs, _, n + 1, w => ⟨w.1, w.2.1, w.2.2.1, w.2.2.2.1, Wf.take n w.2.2.2.2⟩
theorem Wf.low : ∀ {xs : List (Int × Int)} {lo : Int} {k : Nat} {x : Int × Int}, Wf lo xs → xs[k]? = some x → lo ≤ x.1
  | [], _, _, _, _, e => by simp at e
  | z :: xs, lo, 0, x, w, e => by simp at e; subst e; exact w.1
  | z :: xs, lo, k + 1, x, w, e => by
    simp at e
    have h1 := w.1
    have h2 := Wf.low w.2.2.2.2 e
    omega
theorem Wf.sub {xs : List (Int × Int)} {lo : Int} {k : Nat} {x : Int × Int} (h0 : 0 ≤ lo) (w : Wf lo xs) (e : xs[k]? = some x) : Wf 0 [x] := by
  obtain ⟨_, _, h3, h4, h5⟩ := w.get e
  exact ⟨Int.le_trans h0 (w.low e), h3, h4, h5, True.intro⟩
def spRow (K : PySem.W.Frag) (C : Addr) : Sp := fun vs H Q _ => ∃ (q : Addr) (us : List V) (xs : List (Int × Int)), vs = [.ref q] ∧ SqL K H q us ∧ StonesAt K H us xs ∧ Wf 0 xs ∧ xs.length ≤ 40 ∧
  ∀ z H', Same H H' → H z = none → RowAt K C H' z xs → Q (.ref z) H'
theorem seq_of {t u : TS} {D : Ends} {σ : L2.St} {H : Hp} (h : t { D with nx := u D } σ H) : tSeq t u D σ H := h
theorem asg_of {te : TE} {g : TG} {D : Ends} {σ : L2.St} {H : Hp} (h : te σ H fun x H1 => g x σ H1 D.nx) : tAsg te g D σ H := h
theorem mk0 {K : PySem.W.Frag} {C : Addr} {E : XK} {σ : L2.St} {H : Hp} {Q : VK} (h : ∀ z H', Same H H' → H z = none → RowAt K C H' z [] → Q (.ref z) H') : StX.tMakeR C (spMake K C) E tNil σ H Q :=
  fun n1 n2 n3 n4 n5 => make_row (Q := Q) (xs := []) StonesAt.nil True.intro (by decide) h n1 n2 n3 n4 n5
theorem mk1 {K : PySem.W.Frag} {C : Addr} {E : XK} {σ : L2.St} {H : Hp} {Q : VK} {i : Nat} {c : Addr} {x : Int × Int} (e : σ[i]? = some (some (.ref c))) (hx : SqT K H c [.int x.1, .int x.2]) (w : Wf 0 [x]) (h : ∀ z H', Same H H' → H z = none → RowAt K C H' z [x] → Q (.ref z) H') :
    StX.tMakeR C (spMake K C) E (tCons (tVar i) tNil) σ H Q :=
  ⟨_, e, fun n1 n2 n3 n4 n5 => make_row (Q := Q) (xs := [x]) (StonesAt.one hx) w (by simp) h n1 n2 n3 n4 n5⟩
/-- how a sign's def stands in the class -/
structure Sign (K : PySem.W.Frag) (C : Addr) (x : Str) (f : Addr) : Prop where
  at_ : PySem.W.findIn K (.ref C) x = some (some (.ref f))
  fn : PySem.W.isFn K (.ref f) = true
/-! ### the stones of a row, and rows that are equal -/
def stD (x : Int × Int) : PyData := .tuple [.int x.1, .int x.2]
def stonesD (xs : List (Int × Int)) : PyData := .tuple (xs.map stD)
theorem canLay_stones : ∀ xs : List (Int × Int), PyData.canLayAll0 (xs.map stD) = true
  | [] => rfl
  | x :: xs => by
    show PyData.canLayAll0 (stD x :: xs.map stD) = true
    rw [PyData.canLayAll0, canLay_stones xs]
    simp [stD, PyData.canLay0, PyData.canLayAll0]
theorem depth_stones : ∀ xs : List (Int × Int), PyData.depthAll (xs.map stD) ≤ 2
  | [] => by simp [PyData.depthAll]
  | x :: xs => by
    have := depth_stones xs
    rw [List.map_cons]
    simp only [stD, PyData.depthAll, PyData.depth]
    omega
theorem stones_shaped (xs : List (Int × Int)) : SeqAt.shaped (stonesD xs) = true := by
  unfold SeqAt.shaped stonesD
  rw [Bool.and_eq_true]
  refine ⟨by rw [PyData.canLay0, canLay_stones xs], decide_eq_true ?_⟩
  have := depth_stones xs
  rw [PyData.depth]
  omega
theorem eqv_stones (xs : List (Int × Int)) : PyData.eqv (stonesD xs) (stonesD xs) = true := SeqAt.eqv_refl _ (SeqAt.canLay_of_shaped (stones_shaped xs))
theorem stones_all {K : PySem.W.Frag} {H : Hp} : ∀ {us : List V} {xs : List (Int × Int)}, StonesAt K H us xs → DpAll K H us (xs.map stD)
  | [], [], _ => .nil
  | [], _ :: _, h => by have := h.1; simp at this
  | _ :: _, [], h => by have := h.1; simp at this
  | u :: us, x :: xs, h => by
    obtain ⟨a, ha, sa⟩ := h.2 0 x rfl
    have e : u = .ref a := by simpa using ha
    subst e
    refine .cons (.tup sa (.cons (.int _) (.cons (.int _) .nil))) (stones_all ⟨by have := h.1; simpa using this, fun k y q => ?_⟩)
    obtain ⟨b, hb, sb⟩ := h.2 (k + 1) y (by simpa using q)
    exact ⟨b, by simpa using hb, sb⟩
theorem stones_dp {K : PySem.W.Frag} {H : Hp} {t : Addr} {us : List V} {xs : List (Int × Int)} (hT : SqT K H t us) (hS : StonesAt K H us xs) : Dp K H (.ref t) (stonesD xs) := .tup hT (stones_all hS)
def spGet (K : PySem.W.Frag) (C : Addr) : Sp := fun vs H Q _ => ∃ p xs, vs = [.ref p] ∧ RowAt K C H p xs ∧ ∀ t us, SqT K H t us → StonesAt K H us xs → Q (.ref t) H
/-- of two rows of the same stones -/
def spSame (K : PySem.W.Frag) (C : Addr) : Sp := fun vs H Q _ => ∃ p q xs, vs = [.ref p, .ref q] ∧ RowAt K C H p xs ∧ RowAt K C H q xs ∧ Q (.bl true) H
section
variable {P : Program} {w : World} {K : PySem.W.Frag} {mg : Str → Option Value} {base : Heap}
theorem ok_get {f C : Addr} {fd : FuncData} (F : Fun K "stones" "Row.stones" s_Row_stones f fd) (R : RowC K mg C) : FnOk P w K mg base CX0 1 f fd ["self"] (spGet K C) := by
  refine F.ok sc_Row_stones (fun vs H Q E h => ?_) (fun cdv A outer s H vs Q E hr h => ?_)
  · obtain ⟨p, xs, rfl, _⟩ := h
    rfl
  · obtain ⟨p, xs, rfl, ⟨dx, t, us, hp, hT, hS⟩, k⟩ := h
    refine ⟨_, pss_one (ps_ret (pe_fld (pv 0) rfl)), ?_⟩
    exact ⟨_, rfl, p, C, dx, _, _, rfl, hp, R.cl, R.nS, rfl, k t us hT hS⟩
theorem ok_same {f C : Addr} {fd : FuncData} (F : Fun K "__eq__" "Row.__eq__" s_Row_eq f fd) (B : Blt mg) (R : RowC K mg C) : FnOk P w K mg base CX0 1 f fd ["self", "other"] (spSame K C) := by
  refine F.ok sc_Row_eq (fun vs H Q E h => ?_) (fun cdv A outer s H vs Q E hr h => ?_)
  · obtain ⟨p, q, xs, rfl, _⟩ := h
    rfl
  · obtain ⟨p, q, xs, rfl, ⟨dx, t, us, hp, hT, hS⟩, ⟨dy, t', us', hq, hT', hS'⟩, k⟩ := h
    refine ⟨_, pss_one (ps_ret (pe_and (pe_callB (call_isi) (by rfl) B.isinstance boot_isinstance (pa_cons (pv 1) (pa_cons (pe_glob (v := .ref C) (by rfl) R.mgC rfl) pa_nil))) (pe_one (pe_cmpR (op_eqD hr.units) (pe_fld (pv 0) rfl) (pe_fld (pv 1) rfl) (nomark _))))), ?_⟩
    refine ⟨_, rfl, _, .ref C, _, _, true, rfl, .own C, R.ty hq, kit_self, true, rfl, ?_⟩
    refine iteT ⟨_, rfl, p, C, dx, _, _, rfl, hp, R.cl, R.nS, rfl, _, rfl, q, C, dy, _, _, rfl, hq, R.cl, R.nS, rfl, stonesD xs, stonesD xs, stones_dp hT hS, stones_dp hT' hS', stones_shaped xs, stones_shaped xs, ?_⟩
    rw [eqv_stones]
    exact k
end
/-! ### comprehensions that filter and map -/
theorem paired_snoc {α β : Type} {F : α → β → Prop} : ∀ {xs : List α} {ys : List β} {x : α} {y : β}, Paired F xs ys → F x y → Paired F (xs ++ [x]) (ys ++ [y])
  | _, _, _, _, .nil, h => .cons h .nil
  | _, _, _, _, .cons a t, h => .cons a (paired_snoc t h)
theorem paired_imp {α β : Type} {F G : α → β → Prop} (i : ∀ x y, F x y → G x y) : ∀ {xs : List α} {ys : List β}, Paired F xs ys → Paired G xs ys
  | _, _, .nil => .nil
  | _, _, .cons a t => .cons (i _ _ a) (paired_imp i t)
theorem paired_at {α β : Type} {F : α → β → Prop} : ∀ {xs : List α} {ys : List β} {i : Nat} {y : β}, Paired F xs ys → ys[i]? = some y → ∃ x, xs[i]? = some x ∧ F x y
  | _, _, _, _, .nil, h => by simp at h
  | _, _, 0, _, .cons a _, h => by simp at h; subst h; exact ⟨_, rfl, a⟩
  | _, _, i + 1, _, .cons _ t, h => by
    obtain ⟨x, h1, h2⟩ := paired_at (i := i) t (by simpa using h)
    exact ⟨x, by simpa using h1, h2⟩
theorem paired_len {α β : Type} {F : α → β → Prop} : ∀ {xs : List α} {ys : List β}, Paired F xs ys → xs.length = ys.length
  | _, _, .nil => rfl
  | _, _, .cons _ t => congrArg (· + 1) (paired_len t)
theorem paired_eq {α β : Type} (f : β → α) : ∀ {xs : List α} {ys : List β}, Paired (fun x y => x = f y) xs ys → xs = ys.map f
  | _, _, .nil => rfl
  | _, _, .cons a t => by rw [List.map_cons, ← paired_eq f t, a]
theorem lc_fm {J : It} {n : Nat} {Gd : Hp → Prop} {Y : Nat → Hp → V → Hp → Prop} (w : Walk J n Gd Y) {g : TG} {tt : TT} {te : TE} {vs : List Nat} {σ : L2.St} {H1 : Hp} {D : Addr} {Qd : Hp → Prop} {α β : Type} (as : List α) (p : α → Bool) (f : α → β) (Rel : Hp → V → β → Prop)
    (hn : as.length = n) (hz : n < 1000000) (nD : H1 D = none) (stab : ∀ H H' v b acc, H D = some (.lst acc) → But D H H' → Rel H v b → Rel H' v b) (hG : ∀ G, Same H1 G → Gd G)
    (step : ∀ (i : Nat) (a : α) (x : V) (G G' : Hp) (N : Hp → Prop) (M : V → Hp → Prop), as[i]? = some a → Same H1 G → G D ≠ none → Y i G x G' → (∀ H3, p a = false → Same G H3 → N H3) → (∀ y H4, p a = true → Same G H4 → Rel H4 y (f a) → M y H4) →
      g x (wipe σ vs) G' fun σ2 H2 => wipe σ2 vs = wipe σ vs ∧ tt σ2 H2 fun b H3 => if b = true then te σ2 H3 M else N H3)
    (hd : ∀ G ys, Same H1 G → G D = some (.lst ys) → Paired (Rel G) ys ((as.filter p).map f) → Qd G) :
    ∃ W : Nat → Nat → Hp → Prop, (∃ m, W 0 m (upd H1 D (.lst []))) ∧ ∀ i m H, W i m H →
      (J.stop i H ∧ Qd H) ∨ (J.go i H ∧ ∃ Nx : Hp → Prop, (∀ H', Nx H' → ∃ m', m' < m ∧ W (i + 1) m' H') ∧ ∀ x H', J.yld i H x H' → g x (wipe σ vs) H' fun σ2 H2 => wipe σ2 vs = wipe σ vs ∧ tt σ2 H2 fun b H3 =>
        if b = true then te σ2 H3 fun y H4 => ∃ acc, H4 D = some (.lst acc) ∧ acc.length < sizeLine ∧ Nx (upd H4 D (.lst (acc ++ [y]))) else Nx H3) := by
  refine lc_it w (fun i G => But D H1 G ∧ ∃ ys, G D = some (.lst ys) ∧ ys.length ≤ i ∧ Paired (Rel G) ys (((as.take i).filter p).map f)) ⟨but_upd, [], upd_same, Nat.le_refl _, .nil⟩ (fun i G _ h => hG G (But.same h.1 nD)) (fun i x G G' hi h y => ?_) fun G h => ?_
  · obtain ⟨b, ys, e, hl, rel⟩ := h
    obtain ⟨a, ha⟩ : ∃ a, as[i]? = some a := ⟨as[i]'(by omega), by simp⟩
    refine step i a x G G' _ _ ha (But.same b nD) (by rw [e]; exact fun z => nomatch z) y (fun H3 hp s => ?_) fun y H4 hp s r => ?_
    · have e3 := s _ _ e
      refine ⟨b.trans (Same.but s D), ys, e3, by omega, ?_⟩
      rw [List.take_add_one, ha, List.filter_append, List.map_append, show (some a).toList = [a] from rfl, List.filter_cons, hp]
      simp only [Bool.false_eq_true, if_false, List.filter_nil, List.map_nil, List.append_nil]
      exact paired_imp (fun v c => stab G H3 v c ys e (Same.but s D)) rel
    · have e4 := s _ _ e
      refine ⟨ys, e4, by rw [sizeLine_eq]; omega, (b.trans (Same.but s D)).trans but_upd, ys ++ [y], upd_same, by rw [List.length_append]; show ys.length + 1 ≤ i + 1; omega, ?_⟩
      rw [List.take_add_one, ha, List.filter_append, List.map_append, show (some a).toList = [a] from rfl, List.filter_cons, hp]
      simp only [if_true, List.filter_nil, List.map_cons, List.map_nil]
      exact paired_snoc (paired_imp (fun v c q => stab H4 _ v c ys e4 but_upd (stab G H4 v c ys e (Same.but s D) q)) rel) (stab H4 _ y (f a) ys e4 but_upd r)
  · obtain ⟨b, ys, e, _, rel⟩ := h
    rw [← hn, List.take_length] at rel
    exact hd G ys (But.same b nD) e rel
/-! pairs of numbers, as tuples in a list -/
def PairV (K : PySem.W.Frag) (H : Hp) (v : V) (p : Nat × Nat) : Prop := ∃ a : Addr, v = .ref a ∧ SqT K H a [.int (p.1 : Nat), .int (p.2 : Nat)]
def PairsAt (K : PySem.W.Frag) (H : Hp) (vs : List V) (ps : List (Nat × Nat)) : Prop := Paired (PairV K H) vs ps
theorem PairV.same {K : PySem.W.Frag} {H H' : Hp} {v : V} {p : Nat × Nat} (e : Same H H') (h : PairV K H v p) : PairV K H' v p := let ⟨a, h1, h2⟩ := h; ⟨a, h1, sqT_same h2 e⟩
theorem PairV.but {K : PySem.W.Frag} {H H' : Hp} {v : V} {p : Nat × Nat} {D : Addr} {acc : List V} (hD : H D = some (.lst acc)) (b : But D H H') (h : PairV K H v p) : PairV K H' v p := let ⟨a, h1, h2⟩ := h; ⟨a, h1, sqT_but h2 hD b⟩
theorem PairsAt.same {K : PySem.W.Frag} {H H' : Hp} {vs : List V} {ps : List (Nat × Nat)} (h : PairsAt K H vs ps) (e : Same H H') : PairsAt K H' vs ps := paired_imp (fun _ _ q => q.same e) h
def prD (p : Nat × Nat) : PyData := .tuple [.int (p.1 : Nat), .int (p.2 : Nat)]
theorem prD_dp {K : PySem.W.Frag} {H : Hp} {v : V} {p : Nat × Nat} (h : PairV K H v p) : Dp K H v (prD p) := by
  obtain ⟨a, rfl, h⟩ := h
  exact .tup h (.cons (.int _) (.cons (.int _) .nil))
theorem prD_shaped (p : Nat × Nat) : SeqAt.shaped (prD p) = true := by simp [prD, SeqAt.shaped, PyData.canLay0, PyData.canLayAll0, PyData.depth, PyData.depthAll]
theorem prD_eqv (p o : Nat × Nat) : PyData.eqv (prD p) (prD o) = decide (p = o) := by
  obtain ⟨a, b⟩ := p
  obtain ⟨c, d⟩ := o
  show ((a : Int) == (c : Int) && ((b : Int) == (d : Int) && true)) = decide ((a, b) = (c, d))
  rw [Bool.and_true]
  by_cases h1 : a = c
  · by_cases h2 : b = d
    · subst h1 h2
      simp
    · have : ¬ (b : Int) = (d : Int) := by omega
      simp [h1, h2, this]
  · have : ¬ (a : Int) = (c : Int) := by omega
    simp [h1, this]
theorem pairs_all {K : PySem.W.Frag} {H : Hp} : ∀ {vs : List V} {ps : List (Nat × Nat)}, PairsAt K H vs ps → DpAll K H vs (ps.map prD)
  | _, _, .nil => .nil
  | _, _, .cons h t => .cons (prD_dp h) (pairs_all t)
theorem nm_of {i : Nat} {v : V} {σ : L2.St} {H : Hp} {Q : L2.St → Hp → Prop} (h : Q (σ.set i (some v)) H) : gName i v σ H Q := h
theorem Wf.mono : ∀ {xs : List (Int × Int)} {lo lo' : Int}, lo ≤ lo' → Wf lo' xs → Wf lo xs
  | [], _, _, _, _ => True.intro
  | _ :: _, _, _, h, w => ⟨Int.le_trans h w.1, w.2⟩
theorem Wf.sublist {l xs : List (Int × Int)} (s : l.Sublist xs) : ∀ {lo : Int}, Wf lo xs → Wf lo l := by
  induction s with
  | slnil => exact fun _ => True.intro
  | cons a _ ih => exact fun w => ih (Wf.mono (by have := w.1; omega) w.2.2.2.2)
  | cons_cons a _ ih => exact fun w => ⟨w.1, w.2.1, w.2.2.1, w.2.2.2.1, ih w.2.2.2.2⟩
/-! ### the law's draws -/
def Drw (K : PySem.W.Frag) (H : Hp) (L a : Addr) (ns : List Int) : Prop := ∃ i s r : Int, H L = some (.lst [.ref a, .int i, .int s, .int r]) ∧ 0 ≤ i ∧ 0 ≤ s ∧ s < 2147483647 ∧ SqL K H a (ns.map V.int)
theorem Drw.up {K : PySem.W.Frag} {H H' : Hp} {L a : Addr} {ns : List Int} (h : Drw K H L a ns) (e : Same H H') : Drw K H' L a ns :=
  let ⟨i, s, r, h1, h2, h3, h4, h5⟩ := h; ⟨i, s, r, e _ _ h1, h2, h3, h4, e.seq h5⟩
theorem script_stays {K : PySem.W.Frag} {H : Hp} {L a : Addr} {ns : List Int} {o : HO} {vs : List V} (h : H L = some (.lst (.ref a :: vs))) (hs : SqL K H a (ns.map V.int)) : SqL K (upd H L o) a (ns.map V.int) := by
  have ne : ∀ u, H a = some u → (u = .lst (ns.map V.int) ∨ ∃ ob, u = .frz ob (.lst (ns.map V.int))) → a ≠ L := by
    intro u hu hk z
    subst z
    rw [h] at hu
    rcases hk with rfl | ⟨ob, rfl⟩
    · injection hu with e
      injection e with e
      cases ns <;> cases e
    · cases hu
  rcases hs with (hs | ⟨ob, hs⟩) | hs
  · exact .inl (.inl (by rw [upd_ne (ne _ hs (.inl rfl))]; exact hs))
  · exact .inl (.inr ⟨ob, by rw [upd_ne (ne _ hs (.inr ⟨ob, rfl⟩))]; exact hs⟩)
  · exact .inr hs
/-- the law's own list: the script, a place in it, a seed, a rest -/
def Cell (H : Hp) (L a : Addr) : Prop := ∃ i s r : Int, H L = some (.lst [.ref a, .int i, .int s, .int r]) ∧ 0 ≤ i ∧ 0 ≤ s ∧ s < 2147483647
theorem Drw.cell {K : PySem.W.Frag} {H : Hp} {L a : Addr} {ns : List Int} (h : Drw K H L a ns) : Cell H L a := let ⟨i, s, r, h1, h2, h3, h4, _⟩ := h; ⟨i, s, r, h1, h2, h3, h4⟩
theorem Cell.list {H : Hp} {L a : Addr} (h : Cell H L a) : ∃ ys, H L = some (.lst ys) := let ⟨_, _, _, h, _⟩ := h; ⟨_, h⟩
theorem Cell.but {H H' : Hp} {L a p : Addr} (h : Cell H L a) (b : But p H H') (ne : L ≠ p) : Cell H' L a := let ⟨i, s, r, h1, h2⟩ := h; ⟨i, s, r, b _ _ ne h1, h2⟩
theorem Cell.same {H H' : Hp} {L a : Addr} (h : Cell H L a) (b : Same H H') : Cell H' L a := let ⟨i, s, r, h1, h2⟩ := h; ⟨i, s, r, b _ _ h1, h2⟩
theorem Drw.next {K : PySem.W.Frag} {H H' : Hp} {L a : Addr} {ns : List Int} (h : Drw K H L a ns) (b : But L H H') (c : Cell H' L a) : Drw K H' L a ns := by
  obtain ⟨i, s, r, h1, h2, h3, h4, hs⟩ := h
  obtain ⟨i', s', r', g1, g2, g3, g4⟩ := c
  refine ⟨i', s', r', g1, g2, g3, g4, ?_⟩
  have ne : ∀ u, H a = some u → (u = .lst (ns.map V.int) ∨ ∃ ob, u = .frz ob (.lst (ns.map V.int))) → a ≠ L := by
    intro u hu hk z
    subst z
    rw [h1] at hu
    rcases hk with rfl | ⟨ob, rfl⟩
    · injection hu with e
      injection e with e
      cases ns <;> cases e
    · cases hu
  rcases hs with (hs | ⟨ob, hs⟩) | hs
  · exact .inl (.inl (b _ _ (ne _ hs (.inl rfl)) hs))
  · exact .inl (.inr ⟨ob, b _ _ (ne _ hs (.inr ⟨ob, rfl⟩)) hs⟩)
  · exact .inr hs
theorem But.sub {H H' : Hp} {p L : Addr} (b : But p H H') (hp : H p = none) : But L H H' := fun c o _ e => b c o (ne_of_none e hp) e
/-! ### the second family's draws -/
def spNext (K : PySem.W.Frag) : Sp := fun vs H Q _ => ∃ (L a : Addr) (ns : List Int) (m : Int), vs = [.ref L, .int m] ∧ 0 < m ∧ m < 1073741824 ∧ Drw K H L a ns ∧
  ∀ (n : Int) (H' : Hp), 0 ≤ n → n < m → Drw K H' L a ns → But L H H' → Q (.int n) H'
def spDice (K : PySem.W.Frag) : Sp := fun vs H Q _ => ∃ (a : Addr) (ns : List Int), vs = [.ref a] ∧ SqL K H a (ns.map V.int) ∧ ns.length ≤ 63 ∧ ∀ L H', Same H H' → H L = none → Drw K H' L a ns → Q (.ref L) H'
section
variable {P : Program} {w : World} {K : PySem.W.Frag} {mg : Str → Option Value} {base : Heap}
theorem ok_next {f : Addr} {fd : FuncData} (F : Fun K "_law_next" "_law_next" s_law_next f fd) (B : Blt mg) : FnOk P w K mg base CX0 1 f fd ["_law_dice_here", "_law_many"] (spNext K) := by
  refine F.ok sc_law_next (fun vs H Q E h => ?_) (fun cdv A outer s H vs Q E hr h => ?_)
  · obtain ⟨L, a, ns, m, rfl, _⟩ := h
    rfl
  · obtain ⟨L, a, ns, m, rfl, m0, m1, ⟨i, sd, r, hL, i0, sd0, sd1, hs⟩, k⟩ := h
    refine ⟨_, pss_cons (ps_if (pt_cmpR (op_gt) (pe_ix ix_list (pv 0) (pe_int) (fun _ _ => rfl)) (pe_int) (nomark _))
        (pss_cons (ps_set (i := 2) sc_law_next.nd rfl (Or.inl rfl) (pe_op op_mod (pe_callTy (call_int1) (by rfl) B.int boot_int (pa_cons (pe_ix ix_list (pv 0) (pe_int) (fun _ _ => rfl)) pa_nil)) (pv 1)))
        (pss_cons (ps_asg (pe_op op_fdiv (pe_ix ix_list (pv 0) (pe_int) (fun _ _ => rfl)) (pv 1)) (pg_sub (pv 0) pe_int set_list))
        (pss_one (ps_ret (pv 2))))) pss_nil)
      (pss_cons (ps_asg (pe_op op_add (pe_ix ix_list (pv 0) (pe_int) (fun _ _ => rfl)) (pe_int)) (pg_sub (pv 0) pe_int set_list))
      (pss_cons (ps_if (pt_cmpR (op_le) (pe_ix ix_list (pv 0) (pe_int) (fun _ _ => rfl)) (pe_callB call_len_seq (by rfl) B.len PySem.boot_len (pa_cons (pe_ix ix_list (pv 0) (pe_int) (fun _ _ => rfl)) pa_nil)) (nomark _))
        (pss_cons (ps_set (i := 3) sc_law_next.nd rfl (Or.inl rfl) (pe_ix ix_list (pe_ix ix_list (pv 0) (pe_int) (fun _ _ => rfl)) (pe_op op_sub (pe_ix ix_list (pv 0) (pe_int) (fun _ _ => rfl)) (pe_int)) (fun _ _ => rfl)))
        (pss_cons (ps_asg (pe_ifExp (pt_cmpR (op_ge) (pv 3) (pe_op op_pow pe_int pe_int) (nomark _)) (pe_op op_fdiv (pv 3) (pv 1)) pe_int) (pg_sub (pv 0) pe_int set_list))
        (pss_one (ps_ret (pe_op op_mod (pe_callTy (call_int1) (by rfl) B.int boot_int (pa_cons (pv 3) pa_nil)) (pv 1)))))) pss_nil)
      (pss_cons (ps_asg (pe_op op_mod (pe_callTy (call_int1) (by rfl) B.int boot_int (pa_cons (pe_op op_mul (pe_ix ix_list (pv 0) (pe_int) (fun _ _ => rfl)) pe_int) pa_nil)) pe_int) (pg_sub (pv 0) pe_int set_list))
      (pss_one (ps_ret (pe_op op_mod (pe_callTy (call_int1) (by rfl) B.int boot_int (pa_cons (pe_op op_fdiv (pe_ix ix_list (pv 0) (pe_int) (fun _ _ => rfl)) pe_int) pa_nil)) (pv 1))))))), ?_⟩
    refine ⟨_, rfl, ⟨L, _, ((3 : Nat) : Int), _, rfl, rfl, SqL.of hL, atI_nat (j := 3) rfl, _, _, rfl, rfl, _, rfl, ?_⟩⟩
    refine ite2 (fun hr3 => ?_) (fun hr3 => ?_)
    · refine ⟨_, rfl, ⟨L, _, ((3 : Nat) : Int), _, rfl, rfl, SqL.of hL, atI_nat (j := 3) rfl, .inl ⟨_, rfl, _, rfl, _, _, rfl, rfl, m0, ?_⟩⟩⟩
      refine ⟨_, rfl, ⟨L, _, ((3 : Nat) : Int), _, rfl, rfl, SqL.of hL, atI_nat (j := 3) rfl, _, rfl, _, _, rfl, rfl, ⟨m0, m1⟩, _, rfl, L, _, _, 3, rfl, rfl, hL, rfl, _, rfl, ?_⟩⟩
      exact k _ _ (Int.emod_nonneg _ (by omega)) (Int.emod_lt_of_pos _ m0) ⟨i, sd, _, upd_same, i0, sd0, sd1, script_stays hL hs⟩ but_upd
    · refine ⟨_, rfl, ⟨L, _, ((1 : Nat) : Int), _, rfl, rfl, SqL.of hL, atI_nat (j := 1) rfl, _, _, rfl, rfl, _, rfl, L, _, _, 1, rfl, rfl, hL, rfl, ?_⟩⟩
      have hs1 : SqL K (upd H L (.lst [.ref a, .int (i + 1), .int sd, .int r])) a (ns.map V.int) := script_stays hL hs
      have b1 : But L H (upd H L (.lst [.ref a, .int (i + 1), .int sd, .int r])) := but_upd
      have h1 : (upd H L (.lst [.ref a, .int (i + 1), .int sd, .int r])) L = some (.lst [.ref a, .int (i + 1), .int sd, .int r]) := upd_same
      generalize hH1 : upd H L (.lst [.ref a, .int (i + 1), .int sd, .int r]) = H1 at hs1 b1 h1
      rw [show upd H L (.lst ([V.ref a, V.int i, V.int sd, V.int r].set 1 (V.int (i + 1)))) = H1 from hH1]
      have h2 : ∀ z : Int, (upd H1 L (.lst [.ref a, .int (i + 1), .int z, .int r])) L = some (.lst [.ref a, .int (i + 1), .int z, .int r]) := fun z => upd_same
      refine ⟨_, rfl, ⟨L, _, ((1 : Nat) : Int), _, rfl, rfl, SqL.of h1, atI_nat (j := 1) rfl, _, rfl, ⟨L, _, ((0 : Nat) : Int), _, rfl, rfl, SqL.of h1, atI_nat (j := 0) rfl, a, _, rfl, .inl hs1, _, _, rfl, rfl, _, rfl, ?_⟩⟩⟩
      refine ite2 (fun hle => ?_) (fun hgt => ?_)
      · have hle : i + 1 ≤ (ns.length : Int) := by
          have := of_decide_eq_true hle
          rw [List.length_map] at this
          exact this
        obtain ⟨c, hc⟩ : ∃ c, ns[i.toNat]? = some c := ⟨ns[i.toNat]'(by omega), by simp⟩
        have hc2 : atI (ns.map V.int) (i + 1 - 1) = some (.int c) := at_of (j := i.toNat) (by omega) (by rw [List.getElem?_map, hc]; rfl)
        refine ⟨_, rfl, ⟨L, _, ((0 : Nat) : Int), _, rfl, rfl, SqL.of h1, atI_nat (j := 0) rfl, _, rfl, ⟨L, _, ((1 : Nat) : Int), _, rfl, rfl, SqL.of h1, atI_nat (j := 1) rfl, _, _, rfl, rfl, a, _, _, _, rfl, rfl, hs1, hc2, ?_⟩⟩⟩
        refine ⟨_, rfl, 10, 18, rfl, rfl, ⟨by decide, by decide, by decide⟩, _, _, rfl, rfl, _, rfl, ?_⟩
        refine ite2 (fun hbig => ?_) (fun hbig => ?_)
        · refine ⟨_, rfl, _, rfl, _, _, rfl, rfl, ⟨m0, m1⟩, _, rfl, L, _, _, 3, rfl, rfl, h1, rfl, ?_⟩
          refine ⟨_, rfl, .inl ⟨_, rfl, _, rfl, _, _, rfl, rfl, m0, ?_⟩⟩
          exact k _ _ (Int.emod_nonneg _ (by omega)) (Int.emod_lt_of_pos _ m0) ⟨i + 1, sd, _, upd_same, by omega, sd0, sd1, script_stays h1 hs1⟩ (b1.trans but_upd)
        · refine ⟨_, rfl, L, _, _, 3, rfl, rfl, h1, rfl, ?_⟩
          refine ⟨_, rfl, .inl ⟨_, rfl, _, rfl, _, _, rfl, rfl, m0, ?_⟩⟩
          exact k _ _ (Int.emod_nonneg _ (by omega)) (Int.emod_lt_of_pos _ m0) ⟨i + 1, sd, _, upd_same, by omega, sd0, sd1, script_stays h1 hs1⟩ (b1.trans but_upd)
      · refine ⟨_, rfl, ⟨L, _, ((2 : Nat) : Int), _, rfl, rfl, SqL.of h1, atI_nat (j := 2) rfl, _, _, rfl, rfl, .inl ⟨by omega, by omega⟩, .inl ⟨_, rfl, _, _, rfl, rfl, (show (0 : Int) < 2147483647 by decide), _, rfl, L, _, _, 2, rfl, rfl, h1, rfl, ?_⟩⟩⟩
        refine ⟨_, rfl, ⟨L, _, ((2 : Nat) : Int), _, rfl, rfl, SqL.of (h2 _), atI_nat (j := 2) rfl, _, _, rfl, rfl, ⟨by decide, by decide⟩, .inl ⟨_, rfl, _, rfl, _, _, rfl, rfl, m0, ?_⟩⟩⟩
        exact k _ _ (Int.emod_nonneg _ (by omega)) (Int.emod_lt_of_pos _ m0) ⟨i + 1, _, r, upd_same, by omega, Int.emod_nonneg _ (by decide), Int.emod_lt_of_pos _ (by decide), script_stays h1 hs1⟩ (b1.trans but_upd)
theorem ok_dice {f : Addr} {fd : FuncData} (F : Fun K "_law_dice" "_law_dice" s_law_dice f fd) (B : Blt mg) : FnOk P w K mg base CX0 1 f fd ["_law_script"] (spDice K) := by
  refine F.ok sc_law_dice (fun vs H Q E h => ?_) (fun cdv A outer s H vs Q E hr h => ?_)
  · obtain ⟨a, ns, rfl, _⟩ := h
    rfl
  · obtain ⟨a, ns, rfl, hs, hl, k⟩ := h
    refine ⟨_, pss_cons (ps_set (i := 1) sc_law_dice.nd rfl (Or.inl rfl) (pe_int))
      (pss_cons (ps_for PassesOwn.never rfl (pi_list (pv 0)) (pg_name (i := 2) sc_law_dice.nd rfl (Or.inl rfl))
        (pss_one (ps_set (i := 1) sc_law_dice.nd rfl (Or.inl rfl) (pe_op op_mod (pe_callTy (call_int1) (by rfl) B.int boot_int (pa_cons (pe_op op_add (pe_op op_add (pe_op op_mul (pv 1) pe_int) (pe_op op_mul (pe_op op_mod (pe_callTy (call_int1) (by rfl) B.int boot_int (pa_cons (pv 2) pa_nil)) pe_int) pe_int)) (pe_int)) pa_nil)) pe_int))))
      (pss_one (ps_ret (pe_lst (pa_cons (pv 0) (pa_cons (pe_int) (pa_cons (pe_op op_mul (pv 1) (pe_callTy (call_int1) (by rfl) B.int boot_int (pa_cons (pe_cmpR (op_gt) (pe_callB call_len_seq (by rfl) B.len PySem.boot_len (pa_cons (pv 0) pa_nil)) (pe_int) (nomark _)) pa_nil))) (pa_cons (pe_int) pa_nil)))))))), ?_⟩
    refine ⟨_, rfl, a, rfl, ⟨_, hs⟩, for_it (walk_list (K := K) (a := a) (xs := ns.map V.int)) (fun (j : Nat) (σ : L2.St) (G : Hp) => ∃ (m : Int) (s2 : Option V), σ = [some (.ref a), some (.int m), s2] ∧ 0 ≤ m ∧ m < 2147483647 ∧ G = H) ?_ ?_ ?_ ?_⟩
    · exact ⟨0, none, rfl, by decide, by decide, rfl⟩
    · rintro j σ G _ ⟨_, _, _, _, _, rfl⟩
      exact hs
    · rintro j x σ G G' hj ⟨m, s2, rfl, m0, m1, rfl⟩ ⟨rfl, hx⟩
      obtain ⟨c, hc, rfl⟩ : ∃ c, ns[j]? = some c ∧ x = V.int c := by
        rw [List.getElem?_map] at hx
        cases e : ns[j]? with
        | none => rw [e] at hx; cases hx
        | some c => rw [e] at hx; exact ⟨c, rfl, (Option.some.inj hx).symm⟩
      have n1 := Int.emod_nonneg c (b := 2147483647) (by decide)
      have n2 := Int.emod_lt_of_pos c (b := 2147483647) (by decide)
      refine nm_of ?_
      refine ⟨_, rfl, _, _, rfl, rfl, .inl ⟨by omega, by omega⟩, _, rfl, .inl ⟨_, rfl, _, _, rfl, rfl, (show (0 : Int) < 2147483647 by decide), _, _, rfl, rfl, .inl ⟨by omega, by omega⟩, _, _, rfl, rfl, _, _, rfl, rfl, .inl ⟨_, rfl, _, _, rfl, rfl, (show (0 : Int) < 2147483647 by decide), ?_⟩⟩⟩
      exact ⟨_, _, rfl, Int.emod_nonneg _ (by decide), Int.emod_lt_of_pos _ (by decide), rfl⟩
    · rintro σ G ⟨m, s2, rfl, m0, m1, rfl⟩
      refine ⟨_, rfl, _, rfl, _, rfl, a, _, rfl, .inl hs, _, _, rfl, rfl, .inr ⟨_, rfl, _, _, rfl, rfl, .inl ⟨by omega, by omega⟩, by show 4 ≤ sizeLine; decide, fun L nL => k L _ (same_new nL) nL ⟨0, _, 0, upd_same, by decide, ?_, ?_, (same_new nL).seq hs⟩⟩⟩
      · split <;> omega
      · split <;> omega
end
/-! ### the law's stones -/
/-- stones as the law draws them -/
def Drawn (xs : List (Int × Int)) : Prop := ∀ x ∈ xs, 0 ≤ x.1 ∧ x.1 ≤ 3 + 6 * (xs.length : Int) ∧ 1 ≤ x.2 ∧ x.2 ≤ 40
theorem Wf.snoc : ∀ {xs : List (Int × Int)} {lo : Int} {y : Int × Int}, Wf lo xs → lo ≤ y.1 → (∀ x ∈ xs, x.1 + 1 ≤ y.1) → y.1 ≤ 1000000000 → 1 ≤ y.2 → y.2 ≤ 1000000000 → Wf lo (xs ++ [y])
  | [], lo, y, _, h1, _, h2, h3, h4 => ⟨h1, h2, h3, h4, True.intro⟩
  | x :: xs, lo, y, w, _, h, h2, h3, h4 => ⟨w.1, w.2.1, w.2.2.1, w.2.2.2.1, Wf.snoc w.2.2.2.2 (h x (by simp)) (fun z hz => h z (by simp [hz])) h2 h3 h4⟩
theorem pick {m k : Int} {vs : List Int} (hm : m = (vs.length : Int)) (h0 : 0 ≤ k) (h1 : k < m) : ∃ z ∈ vs, atI (vs.map V.int) k = some (.int z) := by
  have hk : k.toNat < vs.length := by omega
  exact ⟨vs[k.toNat], by simp, at_of (j := k.toNat) (by omega) (by simp [hk])⟩
def spStones (K : PySem.W.Frag) : Sp := fun vs H Q _ => ∃ (L a : Addr) (ns : List Int) (m : Int), vs = [.ref L, .int m] ∧ 0 ≤ m ∧ m ≤ 30 ∧ Drw K H L a ns ∧
  ∀ (p : Addr) (us : List V) (xs : List (Int × Int)) (H' : Hp), Drw K H' L a ns → But L H H' → H p = none → H' p = some (.lst us) → StonesAt K H' us xs → Wf 0 xs → Drawn xs → (xs.length : Int) ≤ m → Q (.ref p) H'
section
variable {P : Program} {w : World} {K : PySem.W.Frag} {mg : Str → Option Value} {base : Heap}
theorem ok_stones {f g : Addr} {fd gd : FuncData} (F : Fun K "_law_stones" "_law_stones" s_law_stones f fd) (B : Blt mg) (N : At P w K mg base CX0 1 "_law_next" ["_law_dice_here", "_law_many"] (spNext K) g gd) :
    FnOk P w K mg base CX0 2 f fd ["_law_d", "_law_most"] (spStones K) := by
  refine F.ok sc_law_stones (fun vs H Q E h => ?_) (fun cdv A outer s H vs Q E hr h => ?_)
  · obtain ⟨L, a, ns, m, rfl, _⟩ := h
    rfl
  · obtain ⟨L, a, ns, m, rfl, m0, m1, D, k⟩ := h
    refine ⟨_, pss_cons (ps_par rfl sc_law_stones.nd (i := 2) (j := 3) rfl rfl (by decide) rfl rfl (pa_cons (pe_lst pa_nil) (pa_cons (pe_at N hr (pa_cons (pv 0) (pa_cons (pe_int) pa_nil))) pa_nil)) (by rfl))
      (pss_cons (ps_for PassesOwn.never rfl (pi_range1 (by rfl) B.range (pa_cons (pe_at N hr (pa_cons (pv 0) (pa_cons (pe_op op_add (pv 1) (pe_int)) pa_nil))) pa_nil)) (pg_name (i := 4) sc_law_stones.nd rfl (Or.inl rfl))
        (pss_cons (ps_expr (pe_bm PySem.F.plainAttrs_list PySem.F.slot_list_append PySem.F.type_list_append mt_append (pv 2) (pa_cons (pe_tup (pa_cons (pv 3) (pa_cons (pe_op op_add (pe_int) (pe_at N hr (pa_cons (pv 0) (pa_cons (pe_ix ix_list (pe_lst (pa_cons (pe_int) (pa_cons (pe_int) pa_nil))) (pe_at N hr (pa_cons (pv 0) (pa_cons (pe_int) pa_nil))) (fun _ _ => rfl)) pa_nil)))) pa_nil))) pa_nil)))
        (pss_one (ps_set (i := 3) sc_law_stones.nd rfl (Or.inl rfl) (pe_op op_add (pe_op op_add (pv 3) (pe_int)) (pe_at N hr (pa_cons (pv 0) (pa_cons (pe_ix ix_list (pe_lst (pa_cons (pe_int) (pa_cons (pe_int) pa_nil))) (pe_at N hr (pa_cons (pv 0) (pa_cons (pe_int) pa_nil))) (fun _ _ => rfl)) pa_nil))))))))
      (pss_one (ps_ret (pv 2)))), ?_⟩
    refine ⟨by show 0 ≤ sizeLine; decide, fun p np => ?_⟩
    have c0 := D.cell
    have nLp : L ≠ p := let ⟨ys, e⟩ := c0.list; ne_of_none e np
    -- place
    refine ⟨_, rfl, L, a, ns, 4, rfl, by decide, by decide, D.up (same_new np), fun pl H1 p0 p1 D1 b1 => ?_⟩
    have e1 : H1 p = some (.lst []) := b1 _ _ (Ne.symm nLp) upd_same
    have b1' : But L H H1 := (Same.but (same_new np) L).trans b1
    refine ⟨_, _, rfl, ?_⟩
    -- how many
    refine ⟨_, rfl, _, rfl, _, _, rfl, rfl, L, a, ns, m + 1, rfl, by omega, by omega, D1, fun n H2 n0 n1 D2 b2 => ?_⟩
    refine ⟨n, rfl, by omega, by omega, for_range (lo := 0) (n := n.toNat) (fun j σ H3 => ∃ (us : List V) (xs : List (Int × Int)) (pl : Int) (s4 : Option V), σ = [some (.ref L), some (.int m), some (.ref p), some (.int pl), s4] ∧
      Cell H3 L a ∧ But L H H3 ∧ H3 p = some (.lst us) ∧ StonesAt K H3 us xs ∧ Wf 0 xs ∧ xs.length = j ∧ 0 ≤ pl ∧ pl ≤ 3 + 6 * (j : Int) ∧ Drawn xs ∧ (∀ x ∈ xs, x.1 + 1 ≤ pl)) ?_ ?_ ?_⟩
    · exact ⟨[], [], pl, none, rfl, D2.cell, b1'.trans b2, b2 _ _ (Ne.symm nLp) e1, StonesAt.nil, True.intro, rfl, p0, by omega, fun x h => (nomatch h), fun x h => (nomatch h)⟩
    · rintro j σ H3 hj ⟨us, xs, pl, s4, rfl, cl, b3, ep, hS, hw, hl, q0, q1, hd, hlt⟩
      have hj' : (j : Int) < 30 := by omega
      -- the tuple: place, 1 + ..
      refine ⟨_, rfl, .inl ⟨rfl, _, SqL.of ep⟩, ?_⟩
      refine ⟨_, rfl, _, rfl, ?_⟩
      refine ⟨by show 2 ≤ sizeLine; decide, fun l1 nl1 => ?_⟩
      have s4' := same_new (o := .lst [V.int 3, V.int 9]) nl1
      refine ⟨_, rfl, L, a, ns, 2, rfl, by decide, by decide, (D.next b3 cl).up s4', fun k1 H4 k10 k11 D4 b4 => ?_⟩
      obtain ⟨z1, hz1, ez1⟩ := pick (vs := [3, 9]) rfl k10 k11
      have nl1L : l1 ≠ L := fun e => by obtain ⟨ys, q⟩ := cl.list; rw [← e, nl1] at q; cases q
      refine ⟨l1, _, k1, _, rfl, rfl, SqL.of (b4 _ _ nl1L upd_same), ez1, ?_⟩
      have z1b : 1 ≤ z1 ∧ z1 ≤ 9 := by simp at hz1; omega
      refine ⟨L, a, ns, z1, rfl, by omega, by omega, D4, fun h1 H5 h10 h11 D5 b5 => ?_⟩
      refine ⟨_, _, rfl, rfl, by show 2 ≤ sizeLine; decide, fun T nT => ?_⟩
      have b35 : But L H3 H5 := ((Same.but s4' L).trans b4).trans b5
      have ep5 : H5 p = some (.lst us) := b35 _ _ (Ne.symm nLp) ep
      have epT : (upd H5 T (.tup [V.int pl, V.int (1 + h1)])) p = some (.lst us) := same_new nT _ _ ep5
      obtain ⟨ysL, eL⟩ := cl.list
      have hS5 : StonesAt K (upd H5 T (.tup [V.int pl, V.int (1 + h1)])) us xs := (hS.but eL b35).same (same_new nT)
      refine ⟨p, us, _, rfl, rfl, epT, ?_, ?_⟩
      · rw [hS.1, hl, sizeLine_eq]; omega
      have epN : (upd (upd H5 T (.tup [V.int pl, V.int (1 + h1)])) p (.lst (us ++ [.ref T]))) p = some (.lst (us ++ [.ref T])) := upd_same
      have hT : SqT K (upd (upd H5 T (.tup [V.int pl, V.int (1 + h1)])) p (.lst (us ++ [.ref T]))) T [V.int pl, V.int (1 + h1)] := sqT_but (SqT.of upd_same) epT but_upd
      have hSN : StonesAt K (upd (upd H5 T (.tup [V.int pl, V.int (1 + h1)])) p (.lst (us ++ [.ref T]))) (us ++ [.ref T]) (xs ++ [(pl, 1 + h1)]) := (hS5.but epT but_upd).append (StonesAt.one hT)
      have clN : Cell (upd (upd H5 T (.tup [V.int pl, V.int (1 + h1)])) p (.lst (us ++ [.ref T]))) L a := (D5.cell.same (same_new nT)).but but_upd nLp
      have bN : But L H (upd (upd H5 T (.tup [V.int pl, V.int (1 + h1)])) p (.lst (us ++ [.ref T]))) := ((b3.trans b35).new nT).two np but_upd
      generalize hHN : upd (upd H5 T (.tup [V.int pl, V.int (1 + h1)])) p (.lst (us ++ [.ref T])) = HN at epN hSN clN bN
      -- place = place + 1 + ..
      refine ⟨_, rfl, _, _, rfl, rfl, _, rfl, ?_⟩
      refine ⟨by show 2 ≤ sizeLine; decide, fun l2 nl2 => ?_⟩
      have s6 := same_new (o := .lst [V.int 2, V.int 5]) nl2
      refine ⟨_, rfl, L, a, ns, 2, rfl, by decide, by decide, (D.next bN clN).up s6, fun k2 H6 k20 k21 D6 b6 => ?_⟩
      obtain ⟨z2, hz2, ez2⟩ := pick (vs := [2, 5]) rfl k20 k21
      have nl2L : l2 ≠ L := fun e => by obtain ⟨ys, q⟩ := clN.list; rw [← e, nl2] at q; cases q
      refine ⟨l2, _, k2, _, rfl, rfl, SqL.of (b6 _ _ nl2L upd_same), ez2, ?_⟩
      have z2b : 1 ≤ z2 ∧ z2 ≤ 5 := by simp at hz2; omega
      refine ⟨L, a, ns, z2, rfl, by omega, by omega, D6, fun h2 H7 h20 h21 D7 b7 => ?_⟩
      have bN7 : But L HN H7 := ((Same.but s6 L).trans b6).trans b7
      obtain ⟨ysN, eN⟩ := clN.list
      refine ⟨_, _, rfl, rfl, us ++ [.ref T], xs ++ [(pl, 1 + h1)], pl + 1 + h2, _, rfl, D7.cell, bN.trans bN7, bN7 _ _ (Ne.symm nLp) epN, hSN.but eN bN7, ?_, by simp [hl], by omega, by omega, ?_, ?_⟩
      · exact hw.snoc q0 hlt (by show pl ≤ _; omega) (by show 1 ≤ 1 + h1; omega) (by show 1 + h1 ≤ _; omega)
      · intro x hx
        rcases List.mem_append.mp hx with hx | hx
        · obtain ⟨w1, w2, w3⟩ := hd x hx; exact ⟨w1, by rw [List.length_append]; simp; omega, w3⟩
        · simp at hx; subst hx; exact ⟨q0, by rw [List.length_append]; simp; omega, by show 1 ≤ 1 + h1; omega, by show 1 + h1 ≤ 40; omega⟩
      · intro x hx
        rcases List.mem_append.mp hx with hx | hx
        · have := hlt x hx; omega
        · simp at hx; subst hx; show pl + 1 ≤ _; omega
    · rintro σ H3 ⟨us, xs, pl, s4, rfl, cl, b3, ep, hS, hw, hl, q0, q1, hd, hlt⟩
      exact ⟨_, rfl, k p us xs H3 (D.next b3 cl) b3 np ep hS hw hd (by omega)⟩
end
def spRow2 : Unit := ()
section
variable {P : Program} {w : World} {K : PySem.W.Frag} {mg : Str → Option Value} {base : Heap}
theorem ok_made {f g a C : Addr} {fd : FuncData} (F : Fun K "_law_made" "_law_made" s_law_made f fd) (B : Blt mg) (R : RowC K mg C) (M : Mk K C g) (G : FnR P w K mg base CX0 3 g (spMake K C)) (A1 : FnR P w K mg base CX0 5 a (spAdd K C)) (SA : Sign K C "__add__" a) :
    FnOk P w K mg base CX0 6 f fd ["_law_stones_here"] (spRow K C) := by
  refine F.ok sc_law_made (fun vs H Q E h => ?_) (fun cdv A outer s H vs Q E hr h => ?_)
  · obtain ⟨q, us, xs, rfl, _⟩ := h
    rfl
  · obtain ⟨q, us, xs, rfl, hq, hS, hw, hz, k⟩ := h
    refine ⟨_, pss_cons (ps_set (i := 1) sc_law_made.nd rfl (Or.inl rfl) (Own.pe_makeR0 M G (hr.mono (by decide)) (by rfl) R.mgC pass0))
      (pss_cons (ps_for PassesOwn.never rfl (pi_list (pv 0)) (pg_name (i := 2) sc_law_made.nd rfl (Or.inl rfl))
        (pss_one (ps_set (i := 1) sc_law_made.nd rfl (Or.inl rfl) (pe_op (Own.op_bin (op := .Add) (C := C) (g := a) R.first SA.at_ SA.fn A1 hr pass0) (pv 1) (StX.pe_makeR M G (hr.mono (by decide)) (by rfl) R.mgC pass0 (pa_cons (pv 2) pa_nil))))))
      (pss_one (ps_ret (pv 1)))), ?_⟩
    refine seq_of (asg_of (mk0 fun z0 H1 s1 nz0 r0 => ?_))
    refine ⟨_, rfl, q, rfl, ⟨_, s1.seq hq⟩, for_list (K := K) (a := q) (xs := us) (fun j σ H2 => ∃ (z : Addr) (s2 : Option V), σ = [some (.ref q), some (.ref z), s2] ∧ Same H H2 ∧ H z = none ∧ RowAt K C H2 z (xs.take j)) ?_ ?_ ?_ ?_⟩
    · exact ⟨z0, none, rfl, s1, nz0, by rw [List.take_zero]; exact r0⟩
    · rintro j σ H2 _ ⟨_, _, _, sm, _⟩
      exact sm.seq hq
    · rintro j y σ H2 hy ⟨z, s2, rfl, sm, nz, rz⟩
      have hj : j < xs.length := by rw [← hS.1]; exact (List.getElem?_eq_some_iff.mp hy).1
      obtain ⟨x, hx⟩ : ∃ x, xs[j]? = some x := ⟨xs[j], by simp [hj]⟩
      obtain ⟨c, hc, hsc⟩ := hS.2 j x hx
      obtain rfl : y = V.ref c := Option.some.inj (hy.symm.trans hc)
      refine ⟨_, rfl, mk1 (i := 2) (x := x) rfl (sqT_same hsc sm) (hw.sub (Int.le_refl _) hx) fun z2 H3 s3 nz2 r2 => ?_⟩
      obtain ⟨dx, t, ws, e1, g1, g2⟩ := id (rz.same s3)
      obtain ⟨dy, t', ws', e2, g3, g4⟩ := id r2
      have et : xs.take j ++ [x] = xs.take (j + 1) := by rw [List.take_add_one, hx]; rfl
      refine ⟨z, dx, _, z2, dy, _, rfl, rfl, e1, e2, z, z2, _, _, rfl, rz.same s3, r2, by rw [et]; exact hw.take _, by rw [et]; simp; omega, fun z4 H4 s4 nz4 r4 => ?_⟩
      rw [et] at r4
      exact ⟨z4, _, rfl, (sm.trans s3).trans s4, Same.free (sm.trans s3) nz4, r4⟩
    · rintro σ H2 ⟨z, s2, rfl, sm, nz, rz⟩
      rw [show us.length = xs.length from hS.1, List.take_length] at rz
      exact ⟨_, rfl, k z H2 sm nz rz⟩
end
def spPick : PySem.W.Frag → Sp := fun K vs H Q _ => ∃ (L a p : Addr) (ns : List Int) (us : List V), vs = [.ref L, .ref p] ∧ Drw K H L a ns ∧ H p = some (.lst us) ∧ p ≠ L ∧ 0 < us.length ∧ us.length ≤ 1000 ∧ ∀ v (i : Nat) H', us[i]? = some v → Drw K H' L a ns → But L H H' → Q v H'
section
variable {P : Program} {w : World} {K : PySem.W.Frag} {mg : Str → Option Value} {base : Heap}
theorem ok_pick {f g : Addr} {fd gd : FuncData} (F : Fun K "_law_pick" "_law_pick" s_law_pick f fd) (B : Blt mg) (N : At P w K mg base CX0 1 "_law_next" ["_law_dice_here", "_law_many"] (spNext K) g gd) : FnOk P w K mg base CX0 2 f fd ["_law_d", "_law_some"] (spPick K) := by
  refine F.ok sc_law_pick (fun vs H Q E h => ?_) (fun cdv A outer s H vs Q E hr h => ?_)
  · obtain ⟨L, a, p, ns, us, rfl, _⟩ := h
    rfl
  · obtain ⟨L, a, p, ns, us, rfl, D, hp, ne, h0, hz, k⟩ := h
    refine ⟨_, pss_one (ps_ret (pe_ix ix_list (pv 1) (pe_at N hr (pa_cons (pv 0) (pa_cons (pe_callB call_len_seq (by rfl) B.len PySem.boot_len (pa_cons (pv 1) pa_nil)) pa_nil))) (fun _ _ => rfl))), ?_⟩
    refine ⟨_, rfl, _, rfl, _, rfl, p, us, rfl, .inl (SqL.of hp), L, a, ns, (us.length : Int), rfl, by omega, by omega, D, fun m H1 m0 m1 D1 b1 => ?_⟩
    have hm : m.toNat < us.length := by omega
    have e : us[m.toNat]? = some us[m.toNat] := by simp [hm]
    exact ⟨p, us, m, _, rfl, rfl, SqL.of (b1 _ _ ne hp), at_of (j := m.toNat) (by omega) e, k _ m.toNat H1 e D1 b1⟩
end
/-! ### _law_told: the result of a call, or its exception in words -/
structure Exc11 where
  e : Addr
  c0 : Addr
  c1 : Addr
  c2 : Addr
  c3 : Addr
  c4 : Addr
  c5 : Addr
  c6 : Addr
  c7 : Addr
  c8 : Addr
  c9 : Addr
  c10 : Addr
/-- the fields that tell of the place p -/
def fldsW (p : Nat) : List Str := if p == 2 then ["line", "word"] else if p == 3 || p == 4 then ["stone"] else if p == 1 then ["offset"] else ["index"]
theorem one_of {a : Option V} {vs : List V} (h : [a] = vs.map some) : ∃ v, vs = [v] ∧ a = some v := by
  cases vs with
  | nil => cases h
  | cons v vs =>
    cases vs with
    | nil => exact ⟨v, rfl, by injection h⟩
    | cons w ws => simp at h
theorem two_of {a b : Option V} {vs : List V} (h : [a, b] = vs.map some) : ∃ v w, vs = [v, w] ∧ a = some v ∧ b = some w := by
  cases vs with
  | nil => cases h
  | cons v vs =>
    obtain ⟨w, rfl, e⟩ := one_of (a := b) (vs := vs) (by injection h)
    exact ⟨v, w, rfl, by injection h, e⟩
theorem fldsW_stone {p : Nat} (h2 : p ≠ 2) (h : (p == 3 || p == 4) = true) : fldsW p = [("stone" : Str)] := by
  unfold fldsW
  rw [if_neg (by simpa using h2), if_pos h]
theorem fldsW_offset {p : Nat} (h : p = 1) : fldsW p = [("offset" : Str)] := by
  subst h
  rfl
theorem fldsW_index {p : Nat} (h2 : p ≠ 2) (h : (p == 3 || p == 4) = false) (h1 : p ≠ 1) : fldsW p = [("index" : Str)] := by
  unfold fldsW
  rw [if_neg (by simpa using h2), if_neg (by rw [h]; exact Bool.false_ne_true), if_neg (by simpa using h1)]
/-- D is the class of the place p -/
structure ExcOfW (K : PySem.W.Frag) (Z : Exc11) (D : Addr) (p : Nat) : Prop where
  ex : ExcC K D
  ix : PySem.W.findIn K (.ref D) "index" = some none
  sx : PySem.W.findIn K (.ref D) "stone" = some none
  ox : PySem.W.findIn K (.ref D) "offset" = some none
  lx : PySem.W.findIn K (.ref D) "line" = some none
  wx : PySem.W.findIn K (.ref D) "word" = some none
  se : PySem.W.exmOne K (.ref D) (.ref Z.e) = some true
  k0 : PySem.W.kitOne K (.ref D) (.ref Z.c0) = some (p == 0)
  k1 : PySem.W.kitOne K (.ref D) (.ref Z.c1) = some (p == 1)
  k2 : PySem.W.kitOne K (.ref D) (.ref Z.c2) = some (p == 2)
  k3 : PySem.W.kitOne K (.ref D) (.ref Z.c3) = some (p == 3)
  k4 : PySem.W.kitOne K (.ref D) (.ref Z.c4) = some (p == 4)
  k5 : PySem.W.kitOne K (.ref D) (.ref Z.c5) = some (p == 5)
  k6 : PySem.W.kitOne K (.ref D) (.ref Z.c6) = some (p == 6)
  k7 : PySem.W.kitOne K (.ref D) (.ref Z.c7) = some (p == 7)
  k8 : PySem.W.kitOne K (.ref D) (.ref Z.c8) = some (p == 8)
  k9 : PySem.W.kitOne K (.ref D) (.ref Z.c9) = some (p == 9)
  k10 : PySem.W.kitOne K (.ref D) (.ref Z.c10) = some (p == 10)
  ve : PySem.W.kitOne K (.ref D) (.type "ValueError") = some true
def ExcOfW.xf {K : PySem.W.Frag} {Z : Exc11} {D : Addr} {p : Nat} (o : ExcOfW K Z D p) : XfC K D := ⟨o.ex.hg, o.ex.hk, o.ex.hs, o.ex.hd⟩
/-- the names of the classes in the law -/
structure ExcMW (mg : Str → Option Value) (Z : Exc11) : Prop where
  e : mg "StoneError" = some (.ref Z.e)
  c0 : mg "InvalidOperation" = some (.ref Z.c0)
  c1 : mg "DecodeError" = some (.ref Z.c1)
  c2 : mg "NotationError" = some (.ref Z.c2)
  c3 : mg "NotStanding" = some (.ref Z.c3)
  c4 : mg "NotLying" = some (.ref Z.c4)
  c5 : mg "InvalidRow" = some (.ref Z.c5)
  c6 : mg "UnknownStone" = some (.ref Z.c6)
  c7 : mg "InvalidSide" = some (.ref Z.c7)
  c8 : mg "InvalidNumber" = some (.ref Z.c8)
  c9 : mg "Contradiction" = some (.ref Z.c9)
  c10 : mg "InvalidCount" = some (.ref Z.c10)
  ve : mg "ValueError" = none
def wordsW : List Str := ["InvalidOperation", "DecodeError", "NotationError", "NotStanding", "NotLying", "InvalidRow", "UnknownStone", "InvalidSide", "InvalidNumber", "Contradiction", "InvalidCount", "other"]
def wordW (p : Nat) : Str := wordsW.getD p ""
def bitsW (p : Nat) : List Bool := [p == 0, p == 1, p == 2, p == 3, p == 4, p == 5, p == 6, p == 7, p == 8, p == 9, p == 10]
theorem bitsW_one {p : Nat} (h : p < 11) : (((bitsW p).map PyData.bool).countP fun z => PyData.eqv z (.bool true)) = 1 := by
  have key : ∀ p, p < 11 → (((bitsW p).map PyData.bool).countP fun z => PyData.eqv z (.bool true)) = 1 := by
    intro p h
    match p, h with
    | 0, _ => rfl
    | 1, _ => rfl
    | 2, _ => rfl
    | 3, _ => rfl
    | 4, _ => rfl
    | 5, _ => rfl
    | 6, _ => rfl
    | 7, _ => rfl
    | 8, _ => rfl
    | 9, _ => rfl
    | 10, _ => rfl
  exact key p h
theorem bitsW_at {p : Nat} (h : p < 11) : (((bitsW p).map V.bl).all flatV = true) ∧ ((bitsW p).map V.bl)[p]? = some (V.bl true) ∧ ∀ (m : Nat) (z : V), m < p → ((bitsW p).map V.bl)[m]? = some z → eqV z (.bl true) = false := by
  have key : ∀ p, p < 11 → (((bitsW p).map V.bl).all flatV = true) ∧ (bitsW p)[p]? = some true ∧ ∀ m, m < p → (bitsW p)[m]? = some false := by decide
  obtain ⟨a, b, c⟩ := key p h
  refine ⟨a, by rw [List.getElem?_map, b]; rfl, fun m z hm e => ?_⟩
  rw [List.getElem?_map, c m hm] at e
  cases e
  rfl
theorem wordW_at {p : Nat} (h : p < 11) : atI (wordsW.map V.str) (p : Int) = some (.str (wordW p)) := by
  match p, h with
  | 0, _ => rfl
  | 1, _ => rfl
  | 2, _ => rfl
  | 3, _ => rfl
  | 4, _ => rfl
  | 5, _ => rfl
  | 6, _ => rfl
  | 7, _ => rfl
  | 8, _ => rfl
  | 9, _ => rfl
  | 10, _ => rfl
theorem bitsW_dp {K : PySem.W.Frag} {H : Hp} : ∀ bs : List Bool, DpAll K H (bs.map V.bl) (bs.map PyData.bool)
  | [] => .nil
  | b :: bs => .cons (.bl b) (bitsW_dp bs)
theorem bitsW_shaped (p : Nat) : SeqAt.shaped (.list ((bitsW p).map PyData.bool)) = true := by
  have h1 : ∀ bs : List Bool, PyData.canLayAll0 (bs.map PyData.bool) = true := fun bs => by
    induction bs with
    | nil => simp [PyData.canLayAll0]
    | cons b bs ih => simp [PyData.canLayAll0, PyData.canLay0, ih]
  have h2 : ∀ bs : List Bool, PyData.depthAll (bs.map PyData.bool) ≤ 1 := fun bs => by
    induction bs with
    | nil => simp [PyData.depthAll]
    | cons b bs ih => simp only [List.map_cons, PyData.depthAll, PyData.depth]; omega
  have h3 : PyData.depth (.list ((bitsW p).map PyData.bool)) ≤ 64 := by have := h2 (bitsW p); simp only [PyData.depth]; omega
  show (PyData.canLay0 (.list ((bitsW p).map PyData.bool)) && decide (PyData.depth (.list ((bitsW p).map PyData.bool)) ≤ 64)) = true
  rw [Bool.and_eq_true]
  exact ⟨by simp only [PyData.canLay0]; exact h1 _, decide_eq_true h3⟩
theorem refW_one {c : Addr} : ∀ u, L2.RelV (.ref c) u → u = .ref c := fun _ r => r
theorem tyW_one {c : String} : ∀ u, L2.RelV (.ty c) u → u = .type c := fun _ r => r
theorem lenW_five {l : L2.St} (h : l.length = 5) : ∃ a b c d e, l = [a, b, c, d, e] := by
  match l, h with
  | [a, b, c, d, e], _ => exact ⟨a, b, c, d, e, rfl⟩
/-- an exception is told so: its words and the list of its field, if it has one -/
def ToldW (K : PySem.W.Frag) (Z : Exc11) (Q : VK) : XK := fun cls d H => ∃ (D : Addr) (p : Nat) (vs : List V), cls = .ref D ∧ p < 11 ∧ ExcOfW K Z D p ∧ (∀ dd, d = some dd → ∃ fs, H dd = some (.xd fs)) ∧ (p < 6 → ∃ dd fs, d = some dd ∧ H dd = some (.xd fs) ∧ (fldsW p).map (fun x => fs.lookup x) = vs.map some) ∧
  (p < 6 → ∀ t l H', Same H H' → H' l = some (.lst vs) → H' t = some (.tup [.str "error", .str (wordW p), .ref l]) → Q (.ref t) H') ∧ (¬ p < 6 → ∀ t H', Same H H' → H' t = some (.tup [.str "error", .str (wordW p)]) → Q (.ref t) H')
def TToldW (K : PySem.W.Frag) (Z : Exc11) : (XK → Hp → VK → Prop) → Hp → VK → Prop := fun tl H Q => tl (ToldW K Z Q) H Q
/-- the handler's reading -/
def tHandW (K : PySem.W.Frag) (Z : Exc11) (a : Addr) (cls : Value) (d : Option Addr) : TS := fun D sl H => (∃ s0 : L2.St, sl = s0.set 1 (some (.ref a))) ∧ H a = none ∧ ToldW K Z D.rt cls d H
def tNoE : TE := fun _ _ _ => False
theorem pe_noE {X : Cx} {e : Expr} : PE X e tNoE := ⟨fun _ _ _ _ _ _ h => h.elim⟩
section
variable {Y : Cx} {Z : Exc11} {a : Addr} {oe : Obj} {d : Option Addr} {cls : Value} {pn : List (Addr × Obj)}
theorem handW_ok (eN : Y.N = n_law_told) {body : List Stmt}
    (hb : ∀ (D : Addr) (p : Nat), ExcOfW Y.K Z D p → cls = .ref D → p < 11 → ∃ t, PSs (Y.suite a ((a, oe) :: pn)) body t ∧ ∀ (De : Ends) (x0 x2 x3 x4 : Option V) (H : Hp), H a = none → ToldW Y.K Z De.rt cls d H → t De [x0, some (.ref a), x2, x3, x4] H) :
    PSs (Y.suite a ((a, oe) :: pn)) body (tHandW Y.K Z a cls d) := by
  refine ⟨fun pins s sl H De inv h => ?_⟩
  obtain ⟨⟨s0, rfl⟩, na, told⟩ := h
  obtain ⟨D, p, v, ec, hp, o, _⟩ := id told
  obtain ⟨t, ht, go⟩ := hb D p o ec hp
  have len : (s0.set 1 (some (V.ref a))).length = 5 := by rw [inv.len, show (Y.suite a ((a, oe) :: pn)).N = n_law_told from eN]; rfl
  rw [List.length_set] at len
  obtain ⟨x0, x1, x2, x3, x4, rfl⟩ := lenW_five len
  exact ht.run pins s _ H De inv (go De x0 x2 x3 x4 H na told)
end
theorem in34 : ∀ p : Nat, p < 11 → inV (.int (p : Int)) [V.int 3, V.int 4] = (p == 3 || p == 4) := by
  intro p h
  match p, h with
  | 0, _ => rfl
  | 1, _ => rfl
  | 2, _ => rfl
  | 3, _ => rfl
  | 4, _ => rfl
  | 5, _ => rfl
  | 6, _ => rfl
  | 7, _ => rfl
  | 8, _ => rfl
  | 9, _ => rfl
  | 10, _ => rfl
section
variable {X : Cx} {Z : Exc11}
theorem told_givesW {g : Addr} {cdg : Value} (M : ExcMW X.mg Z) (B : Blt X.mg) (hu : X.A.units + 130 < cLine) : LamV.Gives X n_law_told "_law_told" (defScope s_law_told) g cdg (defBody s_law_told) "_law_work" (TToldW X.K Z) := by
  intro f is s H Q tl act hi go
  have hsu : ∀ (a : Addr) (oe : Obj) (cls : Value) (d : Option Addr) (pn : List (Addr × Obj)), Zc cls d oe → (∃ vs, oe.data = .fields vs) →
      PSs ((cxOf CX0 X.prog X.w X.K X.mg X.base n_law_told "_law_told" (defScope s_law_told) g cdg X.A X.stack s H E0).nox.suite a ((a, oe) :: pn)) (match defBody s_law_told with | .Try _ [.ExceptHandler _ _ b _] _ _ _ :: _ => b | _ => []) (tHandW X.K Z a cls d) := fun a oe cls d pn hz hf => by
    refine handW_ok (Y := (cxOf CX0 X.prog X.w X.K X.mg X.base n_law_told "_law_told" (defScope s_law_told) g cdg X.A X.stack s H E0).nox) rfl fun D p o ec hp => ?_
    subst ec
    refine ⟨_, pss_cons (ps_set (i := 2) sc_law_told.nd rfl (Or.inl rfl) (pe_lst (pa_cons (pe_callB (LamV.call_isD o.ex hz hf) (by rfl) B.isinstance boot_isinstance (pa_cons (pv 1) (pa_cons (pe_glob (v := .ref Z.c0) (by rfl) M.c0 rfl) pa_nil))) (pa_cons (pe_callB (LamV.call_isD o.ex hz hf) (by rfl) B.isinstance boot_isinstance (pa_cons (pv 1) (pa_cons (pe_glob (v := .ref Z.c1) (by rfl) M.c1 rfl) pa_nil))) (pa_cons (pe_callB (LamV.call_isD o.ex hz hf) (by rfl) B.isinstance boot_isinstance (pa_cons (pv 1) (pa_cons (pe_glob (v := .ref Z.c2) (by rfl) M.c2 rfl) pa_nil))) pa_nil)))))
      (pss_cons (ps_set (i := 2) sc_law_told.nd rfl (Or.inl rfl) (pe_op op_cat (pv 2) (pe_lst (pa_cons (pe_callB (LamV.call_isD o.ex hz hf) (by rfl) B.isinstance boot_isinstance (pa_cons (pv 1) (pa_cons (pe_glob (v := .ref Z.c3) (by rfl) M.c3 rfl) pa_nil))) (pa_cons (pe_callB (LamV.call_isD o.ex hz hf) (by rfl) B.isinstance boot_isinstance (pa_cons (pv 1) (pa_cons (pe_glob (v := .ref Z.c4) (by rfl) M.c4 rfl) pa_nil))) (pa_cons (pe_callB (LamV.call_isD o.ex hz hf) (by rfl) B.isinstance boot_isinstance (pa_cons (pv 1) (pa_cons (pe_glob (v := .ref Z.c5) (by rfl) M.c5 rfl) pa_nil))) pa_nil))))))
      (pss_cons (ps_set (i := 2) sc_law_told.nd rfl (Or.inl rfl) (pe_op op_cat (pv 2) (pe_lst (pa_cons (pe_callB (LamV.call_isD o.ex hz hf) (by rfl) B.isinstance boot_isinstance (pa_cons (pv 1) (pa_cons (pe_glob (v := .ref Z.c6) (by rfl) M.c6 rfl) pa_nil))) (pa_cons (pe_callB (LamV.call_isD o.ex hz hf) (by rfl) B.isinstance boot_isinstance (pa_cons (pv 1) (pa_cons (pe_glob (v := .ref Z.c7) (by rfl) M.c7 rfl) pa_nil))) (pa_cons (pe_callB (LamV.call_isD o.ex hz hf) (by rfl) B.isinstance boot_isinstance (pa_cons (pv 1) (pa_cons (pe_glob (v := .ref Z.c8) (by rfl) M.c8 rfl) pa_nil))) pa_nil))))))
      (pss_cons (ps_set (i := 2) sc_law_told.nd rfl (Or.inl rfl) (pe_op op_cat (pv 2) (pe_lst (pa_cons (pe_callB (LamV.call_isD o.ex hz hf) (by rfl) B.isinstance boot_isinstance (pa_cons (pv 1) (pa_cons (pe_glob (v := .ref Z.c9) (by rfl) M.c9 rfl) pa_nil))) (pa_cons (pe_callB (LamV.call_isD o.ex hz hf) (by rfl) B.isinstance boot_isinstance (pa_cons (pv 1) (pa_cons (pe_glob (v := .ref Z.c10) (by rfl) M.c10 rfl) pa_nil))) pa_nil)))))
      (pss_cons (ps_set (i := 3) sc_law_told.nd rfl (Or.inl rfl) (pe_lst (pa_cons pe_str (pa_cons pe_str (pa_cons (pe_str) (pa_cons (pe_str) (pa_cons (pe_str) (pa_cons (pe_str) pa_nil))))))))
      (pss_cons (ps_set (i := 3) sc_law_told.nd rfl (Or.inl rfl) (pe_op op_cat (pv 3) (pe_lst (pa_cons pe_str (pa_cons pe_str (pa_cons (pe_str) (pa_cons (pe_str) (pa_cons (pe_str) (pa_cons (pe_str) pa_nil)))))))))
      (pss_cons (ps_set (i := 4) sc_law_told.nd rfl (Or.inl rfl) (pe_ifExp (PW.pt (pw_and (pt_cmpR (op_eq) (pe_bm PySem.F.plainAttrs_list PySem.F.slot_list_count PySem.F.type_list_count (LamV.mt_countD (X := (cxOf CX0 X.prog X.w X.K X.mg X.base n_law_told "_law_told" (defScope s_law_told) g cdg X.A X.stack s H E0).nox.suite a ((a, oe) :: pn)) ?hcnt) (pv 2) (pa_cons (pe_bl) pa_nil)) (pe_int) (nomark _))
          (pw_and1 (pt_val (pe_callB (LamV.call_isD o.ex hz hf) (by rfl) B.isinstance boot_isinstance (pa_cons (pv 1) (pa_cons (pe_bltn (v := .ty "ValueError") (by rfl) M.ve (by rfl) rfl) pa_nil)))))))
          (pe_bm PySem.F.plainAttrs_list PySem.F.slot_list_index PySem.F.type_list_index mt_index (pv 2) (pa_cons (pe_bl) pa_nil)) pe_int))
      (pss_cons (ps_if (pt_cmpR (op_eq) (pv 4) (pe_int) (nomark _)) (pss_one (ps_ret (pe_tup (pa_cons (pe_str) (pa_cons (pe_ix ix_list (pv 3) (pv 4) (fun _ _ => rfl)) (pa_cons (pe_lst (pa_cons (pe_xf o.xf o.lx hz hf (pv 1)) (pa_cons (pe_xf o.xf o.wx hz hf (pv 1)) pa_nil))) pa_nil)))))) pss_nil)
      (pss_cons (ps_if (pt_cmpR (op_in_seq) (pv 4) (pe_tup (pa_cons (pe_int) (pa_cons (pe_int) pa_nil))) (by rfl)) (pss_one (ps_ret (pe_tup (pa_cons (pe_str) (pa_cons (pe_ix ix_list (pv 3) (pv 4) (fun _ _ => rfl)) (pa_cons (pe_lst (pa_cons (pe_xf o.xf o.sx hz hf (pv 1)) pa_nil)) pa_nil)))))) pss_nil)
      (pss_one (ps_ret (pe_ifExp (pt_cmpR (op_lt) (pv 4) (pe_int) (nomark _)) (pe_tup (pa_cons (pe_str) (pa_cons (pe_ix ix_list (pv 3) (pv 4) (fun _ _ => rfl)) (pa_cons (pe_ifExp (pt_cmpR (op_eq) (pv 4) (pe_int) (nomark _)) (pe_lst (pa_cons (pe_xf o.xf o.ox hz hf (pv 1)) pa_nil)) (pe_lst (pa_cons (pe_xf o.xf o.ix hz hf (pv 1)) pa_nil))) pa_nil)))) (pe_tup (pa_cons (pe_str) (pa_cons (pe_ix ix_list (pv 3) (pv 4) (fun _ _ => rfl)) pa_nil))))))))))))))
      , fun De x0 x2 x3 x4 H1 na told => ?_⟩
    case hcnt => exact (show X.A.units + 3 + 65 < cLine by omega)
    obtain ⟨D', p', vs, eD, hp', o', dict, fld, k3, k2⟩ := told
    cases eD
    refine ⟨_, rfl, _, _, _, rfl, refW_one, o'.k0, dict, ⟨_, rfl, _, _, _, rfl, refW_one, o'.k1, dict, ⟨_, rfl, _, _, _, rfl, refW_one, o'.k2, dict, by show 3 ≤ sizeLine; decide, fun l1 n1 => ?_⟩⟩⟩
    have s1 := same_new (o := .lst [V.bl (p' == 0), V.bl (p' == 1), V.bl (p' == 2)]) n1
    have e1 : (upd H1 l1 (.lst [V.bl (p' == 0), V.bl (p' == 1), V.bl (p' == 2)])) l1 = some (.lst [V.bl (p' == 0), V.bl (p' == 1), V.bl (p' == 2)]) := upd_same
    change gName 2 (V.ref l1) _ (upd H1 l1 (.lst [V.bl (p' == 0), V.bl (p' == 1), V.bl (p' == 2)])) _
    generalize upd H1 l1 (.lst [V.bl (p' == 0), V.bl (p' == 1), V.bl (p' == 2)]) = h1 at s1 e1 ⊢
    have dict2 : ∀ dd, d = some dd → ∃ fs, h1 dd = some (.xd fs) := fun dd e => (dict dd e).imp fun fs z => s1 _ _ z
    refine ⟨_, rfl, ⟨_, rfl, _, _, _, rfl, refW_one, o'.k3, dict2, ⟨_, rfl, _, _, _, rfl, refW_one, o'.k4, dict2, ⟨_, rfl, _, _, _, rfl, refW_one, o'.k5, dict2, by show 3 ≤ sizeLine; decide, fun m2 nm2 => ?_⟩⟩⟩⟩
    have t2 := same_new (o := .lst [V.bl (p' == 3), V.bl (p' == 4), V.bl (p' == 5)]) nm2
    refine ⟨l1, m2, _, _, rfl, rfl, t2 _ _ e1, upd_same, by show 3 + 3 ≤ sizeLine; decide, fun l2 n2 => ?_⟩
    have s2 := (s1.trans t2).trans (same_new (o := .lst [V.bl (p' == 0), V.bl (p' == 1), V.bl (p' == 2), V.bl (p' == 3), V.bl (p' == 4), V.bl (p' == 5)]) n2)
    have e2 : (upd (upd h1 m2 (.lst [V.bl (p' == 3), V.bl (p' == 4), V.bl (p' == 5)])) l2 (.lst [V.bl (p' == 0), V.bl (p' == 1), V.bl (p' == 2), V.bl (p' == 3), V.bl (p' == 4), V.bl (p' == 5)])) l2 = some (.lst [V.bl (p' == 0), V.bl (p' == 1), V.bl (p' == 2), V.bl (p' == 3), V.bl (p' == 4), V.bl (p' == 5)]) := upd_same
    change gName 2 (V.ref l2) _ (upd (upd h1 m2 (.lst [V.bl (p' == 3), V.bl (p' == 4), V.bl (p' == 5)])) l2 (.lst [V.bl (p' == 0), V.bl (p' == 1), V.bl (p' == 2), V.bl (p' == 3), V.bl (p' == 4), V.bl (p' == 5)])) _
    generalize upd (upd h1 m2 (.lst [V.bl (p' == 3), V.bl (p' == 4), V.bl (p' == 5)])) l2 (.lst [V.bl (p' == 0), V.bl (p' == 1), V.bl (p' == 2), V.bl (p' == 3), V.bl (p' == 4), V.bl (p' == 5)]) = h2 at s2 e2 ⊢
    have dict3 : ∀ dd, d = some dd → ∃ fs, h2 dd = some (.xd fs) := fun dd e => (dict dd e).imp fun fs z => s2 _ _ z
    refine ⟨_, rfl, ⟨_, rfl, _, _, _, rfl, refW_one, o'.k6, dict3, ⟨_, rfl, _, _, _, rfl, refW_one, o'.k7, dict3, ⟨_, rfl, _, _, _, rfl, refW_one, o'.k8, dict3, by show 3 ≤ sizeLine; decide, fun m3 nm3 => ?_⟩⟩⟩⟩
    have t3 := same_new (o := .lst [V.bl (p' == 6), V.bl (p' == 7), V.bl (p' == 8)]) nm3
    refine ⟨l2, m3, _, _, rfl, rfl, t3 _ _ e2, upd_same, by show 6 + 3 ≤ sizeLine; decide, fun l3 n3 => ?_⟩
    have s3 := (s2.trans t3).trans (same_new (o := .lst [V.bl (p' == 0), V.bl (p' == 1), V.bl (p' == 2), V.bl (p' == 3), V.bl (p' == 4), V.bl (p' == 5), V.bl (p' == 6), V.bl (p' == 7), V.bl (p' == 8)]) n3)
    have e3 : (upd (upd h2 m3 (.lst [V.bl (p' == 6), V.bl (p' == 7), V.bl (p' == 8)])) l3 (.lst [V.bl (p' == 0), V.bl (p' == 1), V.bl (p' == 2), V.bl (p' == 3), V.bl (p' == 4), V.bl (p' == 5), V.bl (p' == 6), V.bl (p' == 7), V.bl (p' == 8)])) l3 = some (.lst [V.bl (p' == 0), V.bl (p' == 1), V.bl (p' == 2), V.bl (p' == 3), V.bl (p' == 4), V.bl (p' == 5), V.bl (p' == 6), V.bl (p' == 7), V.bl (p' == 8)]) := upd_same
    change gName 2 (V.ref l3) _ (upd (upd h2 m3 (.lst [V.bl (p' == 6), V.bl (p' == 7), V.bl (p' == 8)])) l3 (.lst [V.bl (p' == 0), V.bl (p' == 1), V.bl (p' == 2), V.bl (p' == 3), V.bl (p' == 4), V.bl (p' == 5), V.bl (p' == 6), V.bl (p' == 7), V.bl (p' == 8)])) _
    generalize upd (upd h2 m3 (.lst [V.bl (p' == 6), V.bl (p' == 7), V.bl (p' == 8)])) l3 (.lst [V.bl (p' == 0), V.bl (p' == 1), V.bl (p' == 2), V.bl (p' == 3), V.bl (p' == 4), V.bl (p' == 5), V.bl (p' == 6), V.bl (p' == 7), V.bl (p' == 8)]) = h3 at s3 e3 ⊢
    have dict4 : ∀ dd, d = some dd → ∃ fs, h3 dd = some (.xd fs) := fun dd e => (dict dd e).imp fun fs z => s3 _ _ z
    refine ⟨_, rfl, ⟨_, rfl, _, _, _, rfl, refW_one, o'.k9, dict4, ⟨_, rfl, _, _, _, rfl, refW_one, o'.k10, dict4, by show 2 ≤ sizeLine; decide, fun m4 nm4 => ?_⟩⟩⟩
    have t4 := same_new (o := .lst [V.bl (p' == 9), V.bl (p' == 10)]) nm4
    refine ⟨l3, m4, _, _, rfl, rfl, t4 _ _ e3, upd_same, by show 9 + 2 ≤ sizeLine; decide, fun l4 n4 => ?_⟩
    have s4 := (s3.trans t4).trans (same_new (o := .lst [V.bl (p' == 0), V.bl (p' == 1), V.bl (p' == 2), V.bl (p' == 3), V.bl (p' == 4), V.bl (p' == 5), V.bl (p' == 6), V.bl (p' == 7), V.bl (p' == 8), V.bl (p' == 9), V.bl (p' == 10)]) n4)
    have e4 : (upd (upd h3 m4 (.lst [V.bl (p' == 9), V.bl (p' == 10)])) l4 (.lst [V.bl (p' == 0), V.bl (p' == 1), V.bl (p' == 2), V.bl (p' == 3), V.bl (p' == 4), V.bl (p' == 5), V.bl (p' == 6), V.bl (p' == 7), V.bl (p' == 8), V.bl (p' == 9), V.bl (p' == 10)])) l4 = some (.lst [V.bl (p' == 0), V.bl (p' == 1), V.bl (p' == 2), V.bl (p' == 3), V.bl (p' == 4), V.bl (p' == 5), V.bl (p' == 6), V.bl (p' == 7), V.bl (p' == 8), V.bl (p' == 9), V.bl (p' == 10)]) := upd_same
    change gName 2 (V.ref l4) _ (upd (upd h3 m4 (.lst [V.bl (p' == 9), V.bl (p' == 10)])) l4 (.lst [V.bl (p' == 0), V.bl (p' == 1), V.bl (p' == 2), V.bl (p' == 3), V.bl (p' == 4), V.bl (p' == 5), V.bl (p' == 6), V.bl (p' == 7), V.bl (p' == 8), V.bl (p' == 9), V.bl (p' == 10)])) _
    generalize upd (upd h3 m4 (.lst [V.bl (p' == 9), V.bl (p' == 10)])) l4 (.lst [V.bl (p' == 0), V.bl (p' == 1), V.bl (p' == 2), V.bl (p' == 3), V.bl (p' == 4), V.bl (p' == 5), V.bl (p' == 6), V.bl (p' == 7), V.bl (p' == 8), V.bl (p' == 9), V.bl (p' == 10)]) = h4 at s4 e4 ⊢
    have sq : SqL X.K h4 l4 ((bitsW p').map V.bl) := SqL.of e4
    refine ⟨by show 6 ≤ sizeLine; decide, fun w1 nw1 => ?_⟩
    refine ⟨_, rfl, by show 6 ≤ sizeLine; decide, fun w2 nw2 => ?_⟩
    have ew1 : (upd (upd h4 w1 (.lst [V.str "InvalidOperation", V.str "DecodeError", V.str "NotationError", V.str "NotStanding", V.str "NotLying", V.str "InvalidRow"])) w2 (.lst [V.str "UnknownStone", V.str "InvalidSide", V.str "InvalidNumber", V.str "Contradiction", V.str "InvalidCount", V.str "other"])) w1 = some (.lst [V.str "InvalidOperation", V.str "DecodeError", V.str "NotationError", V.str "NotStanding", V.str "NotLying", V.str "InvalidRow"]) := same_new nw2 _ _ upd_same
    refine ⟨w1, w2, _, _, rfl, rfl, ew1, upd_same, by show 6 + 6 ≤ sizeLine; decide, fun w3 nw3 => ?_⟩
    have s5 := ((s4.trans (same_new (o := .lst [V.str "InvalidOperation", V.str "DecodeError", V.str "NotationError", V.str "NotStanding", V.str "NotLying", V.str "InvalidRow"]) nw1)).trans (same_new (o := .lst [V.str "UnknownStone", V.str "InvalidSide", V.str "InvalidNumber", V.str "Contradiction", V.str "InvalidCount", V.str "other"]) nw2)).trans (same_new (o := .lst (wordsW.map V.str)) nw3)
    have sq := ((((same_new (o := .lst [V.str "InvalidOperation", V.str "DecodeError", V.str "NotationError", V.str "NotStanding", V.str "NotLying", V.str "InvalidRow"]) nw1).trans (same_new (o := .lst [V.str "UnknownStone", V.str "InvalidSide", V.str "InvalidNumber", V.str "Contradiction", V.str "InvalidCount", V.str "other"]) nw2)).trans (same_new (o := .lst (wordsW.map V.str)) nw3))).seq sq
    have e5 : (upd (upd (upd h4 w1 (.lst [V.str "InvalidOperation", V.str "DecodeError", V.str "NotationError", V.str "NotStanding", V.str "NotLying", V.str "InvalidRow"])) w2 (.lst [V.str "UnknownStone", V.str "InvalidSide", V.str "InvalidNumber", V.str "Contradiction", V.str "InvalidCount", V.str "other"])) w3 (.lst (wordsW.map V.str))) w3 = some (.lst (wordsW.map V.str)) := upd_same
    change gName 3 (V.ref w3) _ (upd (upd (upd h4 w1 (.lst [V.str "InvalidOperation", V.str "DecodeError", V.str "NotationError", V.str "NotStanding", V.str "NotLying", V.str "InvalidRow"])) w2 (.lst [V.str "UnknownStone", V.str "InvalidSide", V.str "InvalidNumber", V.str "Contradiction", V.str "InvalidCount", V.str "other"])) w3 (.lst (wordsW.map V.str))) _
    generalize upd (upd (upd h4 w1 (.lst [V.str "InvalidOperation", V.str "DecodeError", V.str "NotationError", V.str "NotStanding", V.str "NotLying", V.str "InvalidRow"])) w2 (.lst [V.str "UnknownStone", V.str "InvalidSide", V.str "InvalidNumber", V.str "Contradiction", V.str "InvalidCount", V.str "other"])) w3 (.lst (wordsW.map V.str)) = h5 at s5 e5 sq ⊢
    have dict5 : ∀ dd, d = some dd → ∃ fs, h5 dd = some (.xd fs) := fun dd e => (dict dd e).imp fun fs z => s5 _ _ z
    refine ⟨_, rfl, .inl ⟨rfl, _, sq⟩, l4, _, _, _, rfl, rfl, .lst sq (bitsW_dp _), .bl true, bitsW_shaped p', rfl, rfl, _, rfl, ?_⟩
    have ec1 : decide (V.int ((((bitsW p').map PyData.bool).countP fun z => PyData.eqv z (.bool true) : Nat) : Int) = V.int 1) = true := by
      rw [bitsW_one hp']
      rfl
    rw [ec1]
    refine iteT ⟨_, rfl, _, _, _, rfl, tyW_one, o'.ve, dict5, _, rfl, iteT ?_⟩
    obtain ⟨y1, y2, y3⟩ := bitsW_at hp'
    refine ⟨_, rfl, .inl ⟨rfl, _, sq⟩, l4, _, _, p', _, rfl, rfl, sq, rfl, y1, y2, rfl, y3, ?_⟩
    refine ⟨_, rfl, rfl, _, rfl, ?_⟩
    by_cases hp2 : p' = 2
    · subst hp2
      rw [show decide (V.int ((2 : Nat) : Int) = V.int 2) = true from decide_eq_true rfl]
      obtain ⟨dd, fs, ed, hd, lk⟩ := fld (by decide)
      obtain ⟨v1, v2, rfl, lk1, lk2⟩ := two_of (a := fs.lookup ("line" : Str)) (b := fs.lookup ("word" : Str)) lk
      refine iteT ⟨_, rfl, _, rfl, w3, _, _, _, rfl, rfl, SqL.of e5, wordW_at hp', _, rfl, rfl, rfl, dd, fs, v1, ed, s5 _ _ hd, lk1, _, rfl, rfl, rfl, dd, fs, v2, ed, s5 _ _ hd, lk2, by show 2 ≤ sizeLine; decide, fun l nl => ⟨by show 3 ≤ sizeLine; decide, fun T nT => ?_⟩⟩
      exact k3 (by decide) T l _ ((s5.trans (same_new nl)).trans (same_new nT)) (same_new nT _ _ upd_same) upd_same
    rw [show decide (V.int (p' : Int) = V.int 2) = false from decide_eq_false fun z => hp2 (by injection z with z; omega)]
    refine iteF ?_
    have at5 : ∀ {H : Hp}, Same h5 H → ∀ {Q : VK}, Q (.str (wordW p')) H → rIxL X.K (.ref w3) (.int (p' : Int)) H Q := fun sm Q q => ⟨w3, _, _, _, rfl, rfl, SqL.of (sm _ _ e5), wordW_at hp', q⟩
    refine ⟨_, rfl, by show 2 ≤ sizeLine; decide, fun t nt => ⟨t, _, rfl, .inr (SqT.of upd_same), rfl, rfl, _, rfl, ?_⟩⟩
    have s6 := same_new (o := .tup [V.int 3, V.int 4]) nt
    generalize upd h5 t (.tup [V.int 3, V.int 4]) = h6 at s6 ⊢
    rw [if_neg Bool.false_ne_true]
    have ei : inV (.int (p' : Int)) [V.int 3, V.int 4] = (p' == 3 || p' == 4) := in34 p' hp'
    rw [ei]
    have s56 := s5.trans s6
    cases q : (p' == 3 || p' == 4) with
    | true =>
      have hlt : p' < 6 := by
        rw [Bool.or_eq_true, beq_iff_eq, beq_iff_eq] at q
        omega
      obtain ⟨dd, fs, ed, hd, lk⟩ := fld hlt
      rw [fldsW_stone hp2 q] at lk
      obtain ⟨v, rfl, lk0⟩ := one_of (a := fs.lookup ("stone" : Str)) lk
      refine iteT ⟨_, rfl, _, rfl, w3, _, _, _, rfl, rfl, SqL.of (s6 _ _ e5), wordW_at hp', _, rfl, rfl, rfl, dd, fs, v, ed, s56 _ _ hd, lk0, by show 1 ≤ sizeLine; decide, fun l nl => ⟨by show 3 ≤ sizeLine; decide, fun T nT => ?_⟩⟩
      exact k3 hlt T l _ ((s56.trans (same_new nl)).trans (same_new nT)) (same_new nT _ _ upd_same) upd_same
    | false =>
      refine iteF ?_
      refine ⟨_, rfl, _, _, rfl, rfl, _, rfl, ?_⟩
      refine ite2 (fun c => ?_) (fun c => ?_)
      · have hlt : p' < 6 := by have := of_decide_eq_true c; omega
        obtain ⟨dd, fs, ed, hd, lk⟩ := fld hlt
        refine ⟨_, rfl, _, rfl, w3, _, _, _, rfl, rfl, SqL.of (s6 _ _ e5), wordW_at hp', _, rfl, rfl, _, rfl, ?_⟩
        by_cases hp1 : p' = 1
        · rw [fldsW_offset hp1] at lk
          obtain ⟨v, rfl, lk0⟩ := one_of (a := fs.lookup ("offset" : Str)) lk
          rw [show decide (V.int (p' : Int) = V.int 1) = true from decide_eq_true (by rw [hp1]; rfl)]
          refine iteT ⟨_, rfl, rfl, rfl, dd, fs, v, ed, s56 _ _ hd, lk0, by show 1 ≤ sizeLine; decide, fun l nl => ⟨by show 3 ≤ sizeLine; decide, fun T nT => ?_⟩⟩
          exact k3 hlt T l _ ((s56.trans (same_new nl)).trans (same_new nT)) (same_new nT _ _ upd_same) upd_same
        rw [fldsW_index hp2 q hp1] at lk
        obtain ⟨v, rfl, lk0⟩ := one_of (a := fs.lookup ("index" : Str)) lk
        rw [show decide (V.int (p' : Int) = V.int 1) = false from decide_eq_false fun z => hp1 (by injection z with z; omega)]
        refine iteF ⟨_, rfl, rfl, rfl, dd, fs, v, ed, s56 _ _ hd, lk0, by show 1 ≤ sizeLine; decide, fun l nl => ⟨by show 3 ≤ sizeLine; decide, fun T nT => ?_⟩⟩
        exact k3 hlt T l _ ((s56.trans (same_new nl)).trans (same_new nT)) (same_new nT _ _ upd_same) upd_same
      · have hlt : ¬ p' < 6 := fun z => c (decide_eq_true (by omega))
        refine ⟨_, rfl, _, rfl, w3, _, _, _, rfl, rfl, SqL.of (s6 _ _ e5), wordW_at hp', by show 2 ≤ sizeLine; decide, fun T nT => ?_⟩
        exact k2 hlt T _ (s56.trans (same_new nT)) upd_same
  refine ⟨_, pss_one (ps_try_as (X := (cxOf CX0 X.prog X.w X.K X.mg X.base n_law_told "_law_told" (defScope s_law_told) g cdg X.A X.stack s H E0).nox) (c := .ref Z.e) (i := 1) (ts := tHandW X.K Z)
      (tb := fun W D sl H => ∃ E : XK, (∀ cls d sl' H', E cls d H' → W cls d sl' H') ∧ sl[0]? = some (some (.ref f)) ∧ is H ∧ tl E H fun v H' => D.rt v H')
      rfl rfl sc_law_told.nd rfl rfl ⟨by rfl, by decide, .inl M.e⟩ L2.takes0 (fun W pn xe tk _ => ⟨fun pins s' sl H' D inv h => ?_⟩) hsu), ?_⟩
  · obtain ⟨E, hE, h0, h1, h2⟩ := h
    exact (pss_one (ps_ret (act W pn xe E _ _ tk hE))).run pins s' sl H' D inv ⟨h0, h1, h2⟩
  · refine ⟨ToldW X.K Z Q, fun cls d sl' H' told => ?_, rfl, hi, go⟩
    obtain ⟨D, p, v, ec, hp, o, more⟩ := id told
    subst ec
    exact ⟨true, o.se, fun _ a na => ⟨⟨sl', rfl⟩, na, told⟩, fun z => nomatch z⟩
end
/-! ### the text of a row -/
abbrev stoneL : List Nat := [115, 116, 111, 110, 101]
def wordsL (x : Int × Int) : List (List Nat) := [stoneL, FmtS.digs x.1, FmtS.digs x.2]
def lineL (x : Int × Int) : List Nat := SplS.joinL 32 (wordsL x)
def rowL (xs : List (Int × Int)) : List Nat := SplS.joinL 10 (xs.map lineL)
theorem lit_stone : ("stone" : Str) = TxtG.T stoneL := by decide +kernel
theorem lit_nl : ("\n" : Str) = TxtG.T [10] := by decide +kernel
theorem lit_spc : (" " : Str) = TxtG.T [32] := by decide +kernel
theorem lit_zero : ("0" : Str) = TxtG.T [48] := by decide +kernel
/-- a number's figures -/
theorem digs_all {a : Int} : ∀ c ∈ FmtS.digs a, 48 ≤ c ∧ c ≤ 57 := by
  intro c hc
  unfold FmtS.digs at hc
  obtain ⟨d, hd, rfl⟩ := List.mem_map.mp hc
  exact digit_range (Nat.isDigit_of_mem_toDigits (by decide) (by decide) hd)
def isNumL (l : List Nat) : Bool := decide (l ≠ []) && l.all (fun c => decide (48 ≤ c ∧ c ≤ 57)) && decide (l.length ≤ 10) && (decide (l = [48]) || !decide (l.head? = some 48))
def rightL (l : List Nat) (i : Nat) : Bool := if i = 0 then decide (l = stoneL) else decide (i < 3) && isNumL l
structure TxtM (mg : Str → Option Value) : Prop where
  fw : ∃ t, mg "FIRST_WORD" = some (.str "stone" t)
  ws : ∃ t, mg "WORDS" = some (.int 3 t)
  mf : ∃ t, mg "MOST_FIGURES" = some (.int 10 t)
def spNotN : Sp := fun vs H Q _ => ∃ l : List Nat, vs = [.str (TxtG.T l)] ∧ l.length ≤ 1000000 ∧ Q (.bl (isNumL l)) H
def spRight : Sp := fun vs H Q _ => ∃ (l : List Nat) (i : Nat), vs = [.str (TxtG.T l), .int (i : Int)] ∧ l.length ≤ 1000000 ∧ Q (.bl (rightL l i)) H
theorem dig_ascii : ∀ c, c < 128 → PySem.Unicode.isDigit c = decide (48 ≤ c ∧ c ≤ 57) := by decide +kernel
theorem all_T (l : List Nat) (f : Nat → Bool) : (TxtG.T l).cps.all f = l.all f := by
  show (l.toArray).all f = _
  simp
theorem isNum_of (l : List Nat) : ((!(!Txt.isascii (TxtG.T l))) && (!(!Txt.isdigit (TxtG.T l))) && decide (l.length ≤ 10)) = (decide (l ≠ []) && l.all (fun c => decide (48 ≤ c ∧ c ≤ 57)) && decide (l.length ≤ 10)) := by
  rw [Bool.not_not, Bool.not_not]
  congr 1
  unfold Txt.isascii Txt.isdigit
  rw [all_T, all_T, TxtG.T_len]
  by_cases h : l.all (· < 128) = true
  · have e : l.all PySem.Unicode.isDigit = l.all (fun c => decide (48 ≤ c ∧ c ≤ 57)) := by
      rw [Bool.eq_iff_iff, List.all_eq_true, List.all_eq_true]
      exact ⟨fun k c hc => by rw [← dig_ascii c (by have := List.all_eq_true.mp h c hc; simpa using this)]; exact k c hc, fun k c hc => by rw [dig_ascii c (by have := List.all_eq_true.mp h c hc; simpa using this)]; exact k c hc⟩
    rw [h, e, Bool.true_and]
    congr 1
    cases l <;> simp
  · rw [Bool.not_eq_true] at h
    rw [h, Bool.false_and]
    have : l.all (fun c => decide (48 ≤ c ∧ c ≤ 57)) = false := by
      rw [← Bool.not_eq_true]
      intro k
      rw [← Bool.not_eq_true] at h
      refine h (List.all_eq_true.mpr fun c hc => ?_)
      have := List.all_eq_true.mp k c hc
      simp at this ⊢
      omega
    rw [this, Bool.and_false]
theorem starts0 (l : List Nat) : Txt.startswith (TxtG.T l) (TxtG.T [48]) = decide (l.head? = some 48) := by
  unfold Txt.startswith
  cases l with
  | nil => decide +kernel
  | cons a l =>
    rw [StrLaws.subAt_eq, TxtG.T_len, TxtG.T_len, SplS.T_cps, SplS.T_cps]
    show (decide (0 + 1 ≤ l.length + 1) && ((a :: l).take 1 == [48])) = decide ((a :: l).head? = some 48)
    rw [decide_eq_true (by omega), Bool.true_and]
    show ([a] == [48]) = decide (some a = some 48)
    by_cases h : a = 48
    · subst h; rfl
    · rw [decide_eq_false (fun z => h (by injection z))]
      simp [h]
section
variable {P : Program} {w : World} {K : PySem.W.Frag} {mg : Str → Option Value} {base : Heap}
theorem ok_notN {f : Addr} {fd : FuncData} (F : Fun K "_is_notation_of_number" "_is_notation_of_number" s_is_notation_of_number f fd) (B : Blt mg) (M : TxtM mg) : FnOk P w K mg base CX0 1 f fd ["word"] spNotN := by
  obtain ⟨tm, mm⟩ := M.mf
  refine F.ok sc_is_notation_of_number (fun vs H Q E h => ?_) (fun cdv A outer s H vs Q E hr h => ?_)
  · obtain ⟨l, rfl, _⟩ := h
    rfl
  · obtain ⟨l, rfl, hz, k⟩ := h
    have hu := hu_of hr
    refine ⟨_, pss_cons (ps_if (PW.pt (pw_or (pt_not (pt_val (pe_m0 PySem.F.slot_str_isascii PySem.F.type_str_isascii mt_isascii (pv 0)))) (pw_or (pt_not (pt_val (pe_m0 PySem.F.slot_str_isdigit PySem.F.type_str_isdigit mt_isdigit (pv 0)))) (pw_or1 (pt_cmpR (op_gt) (pe_callB call_len (by rfl) B.len PySem.boot_len (pa_cons (pv 0) pa_nil)) (pe_glob (v := .int 10) (by rfl) mm ⟨tm, rfl⟩) (nomark _)))))) (pss_one (ps_ret pe_bl)) pss_nil)
      (pss_one (ps_ret (pe_or (pe_cmpR (op_eq) (pv 0) (pe_str) (nomark _)) (pe_one (pe_not (pe_m1 PySem.F.slot_str_startswith PySem.F.type_str_startswith mt_startswith (pv 0) pe_str)))))), ?_⟩
    have hT : (TxtG.T l).length = l.length := TxtG.T_len l
    have hs : (TxtG.T l).length ≤ sizeLine := by rw [hT, sizeLine_eq]; omega
    have e1 := isNum_of l
    refine ⟨_, rfl, ⟨_, rfl⟩, _, rfl, rfl, True.intro, _, rfl, ?_⟩
    cases ca : Txt.isascii (TxtG.T l) with
    | false =>
      refine iteT ?_
      rw [ca] at e1
      have : isNumL l = false := by unfold isNumL; rw [← e1]; rfl
      rw [this] at k
      exact k
    | true =>
      rw [ca] at e1
      refine iteF ⟨_, rfl, ⟨_, rfl⟩, _, rfl, rfl, True.intro, _, rfl, ?_⟩
      cases cd : Txt.isdigit (TxtG.T l) with
      | false =>
        refine iteT ?_
        rw [cd] at e1
        have : isNumL l = false := by unfold isNumL; rw [← e1]; rfl
        rw [this] at k
        exact k
      | true =>
        rw [cd] at e1
        refine iteF ⟨_, rfl, _, l.length, rfl, ⟨hs, hT.symm⟩, _, _, rfl, rfl, _, rfl, ?_⟩
        by_cases cl : 10 < l.length
        · rw [decide_eq_true (show (10 : Int) < (l.length : Int) by omega)]
          refine iteT ?_
          rw [decide_eq_false (show ¬ l.length ≤ 10 by omega)] at e1
          have : isNumL l = false := by unfold isNumL; rw [decide_eq_false (show ¬ l.length ≤ 10 by omega), ← e1]; rfl
          rw [this] at k
          exact k
        · rw [decide_eq_false (show ¬ (10 : Int) < (l.length : Int) by omega)]
          refine iteF ?_
          rw [decide_eq_true (show l.length ≤ 10 by omega)] at e1
          have e2 : isNumL l = (decide (l = [48]) || !decide (l.head? = some 48)) := by unfold isNumL; rw [decide_eq_true (show l.length ≤ 10 by omega), ← e1]; rfl
          rw [e2] at k
          refine ⟨_, rfl, rfl, _, rfl, ?_⟩
          rw [lit_zero]
          by_cases cz : l = [48]
          · rw [decide_eq_true (show V.str (TxtG.T l) = V.str (TxtG.T [48]) by rw [cz])]
            rw [decide_eq_true cz] at k
            exact iteT k
          · rw [decide_eq_false (show ¬ V.str (TxtG.T l) = V.str (TxtG.T [48]) from fun z => cz (SplS.T_inj (by injection z)))]
            rw [decide_eq_false cz, Bool.false_or] at k
            refine iteF ⟨_, rfl, ⟨_, rfl⟩, _, _, rfl, rfl, _, rfl, ?_⟩
            rw [starts0]
            exact k
theorem ok_right {f g : Addr} {fd gd : FuncData} (F : Fun K "_is_right_word" "_is_right_word" s_is_right_word f fd) (B : Blt mg) (M : TxtM mg) (N : At P w K mg base CX0 1 "_is_notation_of_number" ["word"] spNotN g gd) : FnOk P w K mg base CX0 2 f fd ["word", "index"] spRight := by
  obtain ⟨tf, mf⟩ := M.fw
  obtain ⟨tw, mw⟩ := M.ws
  refine F.ok sc_is_right_word (fun vs H Q E h => ?_) (fun cdv A outer s H vs Q E hr h => ?_)
  · obtain ⟨l, i, rfl, _⟩ := h
    rfl
  · obtain ⟨l, i, rfl, hz, k⟩ := h
    refine ⟨_, pss_cons (ps_if (pt_cmpR (op_eq) (pv 1) (pe_int) (nomark _)) (pss_one (ps_ret (pe_cmpR (op_eq) (pv 0) (pe_glob (v := .str "stone") (by rfl) mf ⟨tf, rfl⟩) (nomark _)))) pss_nil)
      (pss_one (ps_ret (pe_and (pe_cmpR (op_lt) (pv 1) (pe_glob (v := .int 3) (by rfl) mw ⟨tw, rfl⟩) (nomark _)) (pe_one (pe_at N hr (pa_cons (pv 0) pa_nil)))))), ?_⟩
    refine ⟨_, rfl, rfl, _, rfl, ?_⟩
    by_cases c : i = 0
    · subst c
      rw [decide_eq_true (show V.int ((0 : Nat) : Int) = V.int 0 from rfl)]
      refine iteT ⟨_, rfl, rfl, ?_⟩
      rw [lit_stone]
      have : decide (V.str (TxtG.T l) = V.str (TxtG.T stoneL)) = rightL l 0 := by
        unfold rightL
        rw [if_pos rfl]
        by_cases e : l = stoneL
        · rw [decide_eq_true e, e]; exact decide_eq_true rfl
        · rw [decide_eq_false e]; exact decide_eq_false fun z => e (SplS.T_inj (by injection z))
      rw [this]
      exact k
    · rw [decide_eq_false (fun z : V.int (i : Int) = V.int 0 => c (by injection z with z; omega))]
      refine iteF ?_
      unfold rightL at k
      rw [if_neg c] at k
      refine ⟨_, rfl, _, _, rfl, rfl, _, rfl, ?_⟩
      by_cases c3 : i < 3
      · rw [decide_eq_true (show (i : Int) < 3 by omega)]
        rw [decide_eq_true c3, Bool.true_and] at k
        exact iteT ⟨_, rfl, l, rfl, hz, k⟩
      · rw [decide_eq_false (show ¬ (i : Int) < 3 by omega)]
        rw [decide_eq_false c3, Bool.false_and] at k
        exact iteF k
end
theorem next_of {D : Ends} {σ : L2.St} {H : Hp} (h : D.nx σ H) : tNext D σ H := h
/-! ### format_row, parse_row of such a text -/
def spFmt (K : PySem.W.Frag) (C : Addr) : Sp := fun vs H Q _ => ∃ (z : Addr) (xs : List (Int × Int)), vs = [.ref z] ∧ RowAt K C H z xs ∧ Wf 0 xs ∧ xs.length ≤ 40 ∧ ∀ H', Same H H' → Q (.str (TxtG.T (rowL xs))) H'
def spStoneT : Sp := fun vs H Q _ => ∃ (x : Int × Int) (n : Int), vs = [.str (TxtG.T (lineL x)), .int n] ∧ 0 ≤ x.1 ∧ x.1 ≤ 1000000000 ∧ 1 ≤ x.2 ∧ x.2 ≤ 1000000000 ∧ ∀ t H', Same H H' → H' t = some (.tup [.int x.1, .int x.2]) → Q (.ref t) H'
def spParse (K : PySem.W.Frag) (C : Addr) : Sp := fun vs H Q _ => ∃ (xs : List (Int × Int)), vs = [.str (TxtG.T (rowL xs))] ∧ Wf 0 xs ∧ xs.length ≤ 40 ∧ ∀ z H', Same H H' → H z = none → RowAt K C H' z xs → Q (.ref z) H'
theorem digit0 : ∀ d : Nat, d < 10 → d ≠ 0 → (Nat.digitChar d).toNat ≠ 48 := by decide
theorem head_digs : ∀ (m : Nat), m ≠ 0 → ((Nat.toDigits 10 m).map Char.toNat).head? ≠ some 48 := by
  intro m
  induction m using Nat.strongRecOn with
  | _ m ih =>
    intro h0
    by_cases h : m < 10
    · rw [Nat.toDigits_of_lt_base h]
      show some (Nat.digitChar m).toNat ≠ some 48
      intro z
      exact digit0 m h h0 (by injection z)
    · have hm : m % 10 < 10 := Nat.mod_lt m (by decide)
      have t : Nat.toDigits 10 (m / 10) ++ Nat.toDigits 10 (m % 10) = Nat.toDigits 10 (10 * (m / 10) + m % 10) := Nat.toDigits_append_toDigits (by decide) (by omega) hm
      rw [Nat.div_add_mod] at t
      have ih := ih (m / 10) (by omega) (by omega)
      rw [← t, List.map_append]
      cases e : (Nat.toDigits 10 (m / 10)).map Char.toNat with
      | nil =>
        have := @Nat.length_toDigits_pos 10 (m / 10)
        have e2 := congrArg List.length e
        rw [List.length_map, List.length_nil] at e2
        omega
      | cons c l =>
        rw [e] at ih
        exact ih
theorem isNum_digs {a : Int} (h0 : 0 ≤ a) (h1 : a ≤ 1000000000) : isNumL (FmtS.digs a) = true := by
  have hl := TxtG.digs_len h0 (by omega)
  unfold isNumL
  rw [decide_eq_true (TxtG.digs_ne a), decide_eq_true hl, Bool.true_and, List.all_eq_true.mpr fun c hc => decide_eq_true (digs_all c hc), Bool.true_and, Bool.true_and]
  by_cases z : a = 0
  · subst z
    rfl
  · have h := head_digs a.natAbs (by omega)
    have : decide ((FmtS.digs a).head? = some 48) = false := decide_eq_false h
    rw [this]
    simp
theorem lineL_len {x : Int × Int} (h0 : 0 ≤ x.1) (h1 : x.1 ≤ 1000000000) (h2 : 1 ≤ x.2) (h3 : x.2 ≤ 1000000000) : (lineL x).length ≤ 27 := by
  have a1 := TxtG.digs_len h0 (by omega)
  have a2 := TxtG.digs_len (a := x.2) (by omega) (by omega)
  show (stoneL ++ 32 :: (FmtS.digs x.1 ++ 32 :: FmtS.digs x.2)).length ≤ 27
  simp
  omega
theorem lineL_eq (x : Int × Int) : lineL x = stoneL ++ 32 :: (FmtS.digs x.1 ++ 32 :: FmtS.digs x.2) := rfl
theorem no_32 {a : Int} : 32 ∉ FmtS.digs a := fun h => by have := digs_all _ h; omega
theorem no_10 {a : Int} : 10 ∉ FmtS.digs a := fun h => by have := digs_all _ h; omega
theorem words_line (x : Int × Int) : Txt.split (TxtG.T (lineL x)) (TxtG.T [32]) = (wordsL x).map TxtG.T := by
  refine SplS.split_join (ps := wordsL x) (by simp [wordsL]) fun p hp => ?_
  simp only [wordsL, List.mem_cons, List.not_mem_nil, or_false] at hp
  rcases hp with rfl | rfl | rfl
  · decide
  · exact no_32
  · exact no_32
theorem lines_row {xs : List (Int × Int)} (h : xs ≠ []) : Txt.split (TxtG.T (rowL xs)) (TxtG.T [10]) = (xs.map lineL).map TxtG.T := by
  refine SplS.split_join (by simpa using h) fun p hp => ?_
  obtain ⟨x, _, rfl⟩ := List.mem_map.mp hp
  rw [lineL_eq]
  intro k
  simp only [List.mem_append, List.mem_cons] at k
  rcases k with k | k | k | k | k
  · revert k; decide
  · cases k
  · exact no_10 k
  · cases k
  · exact no_10 k
theorem rowL_ne : ∀ {xs : List (Int × Int)}, xs ≠ [] → rowL xs ≠ []
  | [], h => absurd rfl h
  | [x], _ => by show lineL x ≠ []; rw [lineL_eq]; simp
  | x :: y :: xs, _ => by
    show lineL x ++ 10 :: _ ≠ []
    simp
theorem joinL_len {c : Nat} {b : Nat} : ∀ {ps : List (List Nat)}, (∀ p ∈ ps, p.length ≤ b) → (SplS.joinL c ps).length ≤ (b + 1) * ps.length
  | [], _ => by simp [SplS.joinL]
  | [p], h => by
    have := h p (by simp)
    simp [SplS.joinL]
    omega
  | p :: q :: ps, h => by
    have h1 := h p (by simp)
    have ih := joinL_len (c := c) (b := b) (ps := q :: ps) fun x hx => h x (by simp at hx ⊢; exact .inr hx)
    show (p ++ c :: SplS.joinL c (q :: ps)).length ≤ _
    rw [List.length_append, List.length_cons]
    have e : (b + 1) * (p :: q :: ps).length = (b + 1) * (q :: ps).length + (b + 1) := by rw [List.length_cons (a := p), Nat.mul_add, Nat.mul_one]
    omega
theorem read_digs {a : Int} (h0 : 0 ≤ a) (h1 : a ≤ 1000000000) : PySem.intText? (TxtG.T (FmtS.digs a)) = some a := by
  obtain ⟨m, rfl⟩ : ∃ m : Nat, a = (m : Int) := ⟨a.toNat, by omega⟩
  rw [← TxtG.T_str]
  exact W.KIN.num_reads (by omega) (by omega)
section
variable {P : Program} {w : World} {K : PySem.W.Frag} {mg : Str → Option Value} {base : Heap}
theorem ok_stoneT {f g : Addr} {fd gd : FuncData} (F : Fun K "_parsed_stone" "_parsed_stone" s_parsed_stone f fd) (B : Blt mg) (M : TxtM mg) (N : At P w K mg base CX0 2 "_is_right_word" ["word", "index"] spRight g gd) : FnOk P w K mg base CX0 3 f fd ["line", "number"] spStoneT := by
  obtain ⟨tw, mw⟩ := M.ws
  refine F.ok sc_parsed_stone (fun vs H Q E h => ?_) (fun cdv A outer s H vs Q E hr h => ?_)
  · obtain ⟨x, n, rfl, _⟩ := h
    rfl
  · obtain ⟨x, n, rfl, x0, x1, h0, h1, k⟩ := h
    refine ⟨_, pss_cons (ps_set (i := 2) sc_parsed_stone.nd rfl (Or.inl rfl) (pe_split (pv 0) pe_str))
      (pss_cons (ps_for PassesOwn.never rfl (pi_enum (by rfl) B.enumerate (pa_cons (pv 2) pa_nil)) (pg_tup rfl (pgs_cons (pg_name (i := 3) sc_parsed_stone.nd rfl (Or.inl rfl)) (pgs_cons (pg_name (i := 4) sc_parsed_stone.nd rfl (Or.inl rfl)) pgs_nil)))
        (pss_one (ps_if (pt_not (pt_val (pe_at N hr (pa_cons (pv 4) (pa_cons (pv 3) pa_nil))))) (pss_one ps_never) pss_nil)))
      (pss_cons (ps_if (pt_cmpR (op_lt) (pe_callB call_len_seq (by rfl) B.len PySem.boot_len (pa_cons (pv 2) pa_nil)) (pe_glob (v := .int 3) (by rfl) mw ⟨tw, rfl⟩) (nomark _)) (pss_one ps_never) pss_nil)
      (pss_one (ps_ret (pe_tup (pa_cons (pe_callTy (call_int_str) (by rfl) B.int boot_int (pa_cons (pe_ix ix_list (pv 2) (pe_int) (fun _ _ => rfl)) pa_nil)) (pa_cons (pe_callTy (call_int_str) (by rfl) B.int boot_int (pa_cons (pe_ix ix_list (pv 2) (pe_int) (fun _ _ => rfl)) pa_nil)) pa_nil))))))), ?_⟩
    have ll := lineL_len x0 x1 h0 h1
    have r0 : isNumL (FmtS.digs x.1) = true := isNum_digs x0 x1
    have r1 : isNumL (FmtS.digs x.2) = true := isNum_digs (by omega) h1
    have l1 := TxtG.digs_len x0 (by omega)
    have l2 := TxtG.digs_len (a := x.2) (by omega) (by omega)
    refine ⟨_, rfl, ⟨_, rfl⟩, _, _, rfl, rfl, by decide +kernel, by rw [TxtG.T_len, sizeLine_eq]; omega, fun q nq => ?_⟩
    rw [lit_spc, words_line]
    have sq := same_new (o := .lst (((wordsL x).map TxtG.T).map V.str)) nq
    have eq0 : (upd H q (.lst (((wordsL x).map TxtG.T).map V.str))) q = some (.lst [V.str (TxtG.T stoneL), V.str (TxtG.T (FmtS.digs x.1)), V.str (TxtG.T (FmtS.digs x.2))]) := upd_same
    generalize upd H q (.lst (((wordsL x).map TxtG.T).map V.str)) = H1 at sq eq0 ⊢
    refine nm_of ?_
    refine ⟨_, rfl, q, _, rfl, SqL.of eq0, for_it (walk_enum (K := K) (a := q) (xs := [V.str (TxtG.T stoneL), V.str (TxtG.T (FmtS.digs x.1)), V.str (TxtG.T (FmtS.digs x.2))])) (fun i σ G => ∃ (s3 s4 : Option V), σ = [some (.str (TxtG.T (lineL x))), some (.int n), some (.ref q), s3, s4] ∧ Same H1 G) ?_ ?_ ?_ ?_⟩
    · exact ⟨none, none, rfl, Same.refl _⟩
    · rintro i σ G _ ⟨_, _, _, sm⟩
      exact SqL.of (sm _ _ eq0)
    · rintro i v σ G G2 hi ⟨s3, s4, rfl, sm⟩ ⟨T, y, z, rfl, nT, rfl, e1, e2⟩
      obtain rfl : y = V.int (i : Int) := (Option.some.inj e1).symm
      refine ⟨T, _, rfl, SqT.of upd_same, rfl, _, _, rfl, _, _, rfl, rfl, ?_⟩
      obtain ⟨l, rfl, hl, hr⟩ : ∃ l, z = V.str (TxtG.T l) ∧ l.length ≤ 1000000 ∧ rightL l i = true := by
        match i, hi, e2 with
        | 0, _, e2 => exact ⟨stoneL, (Option.some.inj e2).symm, by decide, by decide⟩
        | 1, _, e2 => exact ⟨_, (Option.some.inj e2).symm, by omega, by unfold rightL; rw [if_neg (by decide), r0]; rfl⟩
        | 2, _, e2 => exact ⟨_, (Option.some.inj e2).symm, by omega, by unfold rightL; rw [if_neg (by decide), r1]; rfl⟩
        | i + 3, hi, _ => exact absurd hi (by show ¬ i + 3 < 3; omega)
      refine ⟨_, rfl, _, rfl, l, i, rfl, hl, _, rfl, ?_⟩
      rw [hr]
      refine iteF (next_of ?_)
      exact ⟨_, _, rfl, sm.trans (same_new nT)⟩
    · rintro σ G ⟨s3, s4, rfl, sm⟩
      have eG := sm _ _ eq0
      refine ⟨_, rfl, q, _, rfl, .inl (SqL.of eG), _, _, rfl, rfl, _, rfl, ?_⟩
      refine iteF (next_of ?_)
      refine ⟨_, rfl, q, _, ((1 : Nat) : Int), _, rfl, rfl, SqL.of eG, atI_nat (j := 1) rfl, _, _, rfl, read_digs x0 x1, by rw [TxtG.T_len]; omega, _, rfl, q, _, ((2 : Nat) : Int), _, rfl, rfl, SqL.of eG, atI_nat (j := 2) rfl, _, _, rfl, read_digs (by omega) h1, by rw [TxtG.T_len]; omega, by show 2 ≤ sizeLine; decide, fun t nt => ?_⟩
      exact k t _ ((sq.trans sm).trans (same_new nt)) upd_same
theorem T_int {a : Int} (h : 0 ≤ a) : PySem.Str.ofString (toString a) = TxtG.T (FmtS.digs a) := by
  obtain ⟨m, rfl⟩ : ∃ m : Nat, a = (m : Int) := ⟨a.toNat, by omega⟩
  exact TxtG.T_str m
theorem log_sm {n : Int} (h : 0 ≤ n) (h2 : n ≤ 2000000000) : n.natAbs.log2 < 1920 := by
  by_cases h0 : n.natAbs = 0
  · rw [h0]; decide
  · have : n.natAbs < 2 ^ 31 := by omega
    have := (Nat.log2_lt h0).mpr this
    omega
def tLineE : TE := fun σ H Q => tJs [tFmt (tC (V.str (Str.ofString "stone"))), tC (V.str (Str.ofString " ")), tFmt (tVar 1), tC (V.str (Str.ofString " ")), tFmt (tVar 2)] Str.empty σ H fun out H1 => Q (V.str out) H1
theorem ok_fmt {f C pP gP : Addr} {fd dP : FuncData} (F : Fun K "format_row" "format_row" s_format_row f fd) (B : Blt mg) (M : TxtM mg) (R : RowC K mg C)
    (pr : PropOf K C "stones" pP gP) (P1 : FnOk P w K mg base CX0 1 gP dP ["self"] (spGet K C)) (bP : Binds K dP ["self"] []) : FnOk P w K mg base CX0 3 f fd ["row"] (spFmt K C) := by
  obtain ⟨tf, mf⟩ := M.fw
  refine F.ok sc_format_row (fun vs H Q E h => ?_) (fun cdv A outer s H vs Q E hr h => ?_)
  · obtain ⟨z, xs, rfl, _⟩ := h
    rfl
  · obtain ⟨z, xs, rfl, hR, hw, hz, k⟩ := h
    obtain ⟨dx, t, us, ep, hT, hS⟩ := id hR
    refine ⟨_, pss_one (ps_ret (pe_join pe_str (pe_lc (own := [("place", 1), ("height", 2)]) (g := gTup K 2 (gCons (gName 1) (gCons (gName 2) gNil))) (tt := tYes) rfl sc_format_row.nd (pi_tup (pe_prop (pv 0) R.cl pr P1 hr bP .nil pass0 rfl)) (blkOk_by (N := n_format_row) (sc := defScope s_format_row) (by decide +kernel))
        (fun _ _ _ _ _ => (show PG _ _ (gTup K 2 (gCons (gName 1) (gCons (gName 2) gNil))) from pg_tup rfl (pgs_cons (pg_name (i := 1) sc_format_row.nd rfl (Or.inl rfl)) (pgs_cons (pg_name (i := 2) sc_format_row.nd rfl (Or.inl rfl)) pgs_nil)))) (fun _ _ _ _ _ => pts_nil)
        (fun _ _ _ _ _ => (show PE _ _ tLineE from pe_joined (.cons (pe_fmt (pe_glob (v := .str "stone") (by rfl) mf ⟨tf, rfl⟩)) (.cons pe_str (.cons (pe_fmt (pv 1)) (.cons pe_str (.cons (pe_fmt (pv 2)) .nil)))))))))), ?_⟩
    refine ⟨⟨_, rfl⟩, _, rfl, z, dx, _, rfl, ep, z, xs, rfl, hR, fun t us hT hS => ?_⟩
    refine ⟨t, rfl, ⟨_, hT⟩, fun D nD => ?_⟩
    refine lc_fm (walk_tup (K := K) (a := t) (xs := us)) xs (fun _ => true) (fun x => lineL x) (fun _ v (l : List Nat) => v = V.str (TxtG.T l)) hS.1.symm (by rw [hS.1]; omega) nD (fun _ _ _ _ _ _ _ q => q) (fun _ e => sqT_same hT e) ?_ ?_
    · rintro n x v G G' N M' hp sm _ ⟨rfl, hx⟩ _ go
      obtain ⟨a, ha, sa⟩ := hS.2 n x hp
      obtain rfl : v = .ref a := Option.some.inj (hx.symm.trans ha)
      obtain ⟨_, _, w1, w2, w3⟩ := hw.get hp
      have w0 : 0 ≤ x.1 := hw.low hp
      have l1 := TxtG.digs_len w0 (by omega)
      have l2 := TxtG.digs_len (a := x.2) (by omega) (by omega)
      refine ⟨a, _, rfl, sqT_same sa sm, rfl, _, _, rfl, _, _, rfl, rfl, rfl, ?_⟩
      have w02 : 0 ≤ x.2 := by omega
      have bnd : ∀ n : Nat, n ≤ 200 → n ≤ sizeLine := fun n h => Nat.le_trans h (by decide)
      refine .inl ⟨_, rfl, by simp only [TxtG.T_nil, lit_stone, lit_spc, T_int w0, T_int w02, TxtG.T_app, TxtG.T_len, List.length_append, List.length_nil, List.length_cons]; exact bnd _ (by omega), _, rfl, by simp only [TxtG.T_nil, lit_stone, lit_spc, T_int w0, T_int w02, TxtG.T_app, TxtG.T_len, List.length_append, List.length_nil, List.length_cons]; exact bnd _ (by omega), _, rfl, by simp only [TxtG.T_nil, lit_stone, lit_spc, T_int w0, T_int w02, TxtG.T_app, TxtG.T_len, List.length_append, List.length_nil, List.length_cons]; exact bnd _ (by omega), _, rfl, .inr ⟨_, rfl, log_sm w0 (by omega), _, rfl, by simp only [TxtG.T_nil, lit_stone, lit_spc, T_int w0, T_int w02, TxtG.T_app, TxtG.T_len, List.length_append, List.length_nil, List.length_cons]; exact bnd _ (by omega), _, rfl, by simp only [TxtG.T_nil, lit_stone, lit_spc, T_int w0, T_int w02, TxtG.T_app, TxtG.T_len, List.length_append, List.length_nil, List.length_cons]; exact bnd _ (by omega), _, rfl, .inr ⟨_, rfl, log_sm w02 (by omega), _, rfl, by simp only [TxtG.T_nil, lit_stone, lit_spc, T_int w0, T_int w02, TxtG.T_app, TxtG.T_len, List.length_append, List.length_nil, List.length_cons]; exact bnd _ (by omega), ?_⟩⟩⟩
      refine go _ _ rfl (Same.refl _) ?_
      rw [lineL_eq]
      simp only [TxtG.T_nil, lit_stone, lit_spc, T_int w0, T_int w02, TxtG.T_app]
      simp
    · intro G ys sm eD rel
      rw [List.filter_eq_self.mpr (fun _ _ => rfl)] at rel
      have e := paired_eq (fun l : List Nat => V.str (TxtG.T l)) rel
      have eys : ys = ((xs.map lineL).map TxtG.T).map V.str := by
        rw [e, List.map_map, List.map_map, List.map_map]
        rfl
      refine ⟨_, D, (xs.map lineL).map TxtG.T, rfl, rfl, .inl (SqL.of (by rw [eD, eys])), ?_, ?_⟩
      · have sl : ∀ (ys : List (Int × Int)), (∀ x ∈ ys, (lineL x).length ≤ 27) → (((ys.map lineL).map TxtG.T).map (·.length)).sum ≤ 27 * ys.length := by
          intro ys
          induction ys with
          | nil => intro _; simp
          | cons y ys ih =>
            intro h
            have h1 := h y (by simp)
            have h2 := ih fun z hz => h z (by simp [hz])
            simp [TxtG.T_len] at h2 ⊢
            omega
        have := sl xs fun x hx => by
          obtain ⟨n, hn⟩ := List.getElem?_of_mem hx
          obtain ⟨_, _, w1, w2, w3⟩ := hw.get hn
          exact lineL_len (hw.low hn) w1 w2 w3
        have l1 : (Str.ofString "\n").length = 1 := by decide +kernel
        rw [l1, List.length_map, List.length_map]
        omega
      · rw [lit_nl, SplS.txtJoin_T]
        exact k _ sm
end
/-! ### the other exceptions that say super().__init__ -/
section
variable {P : Program} {w : World} {K : PySem.W.Frag} {mg : Str → Option Value} {base : Heap}
theorem ok_irInit {f cc D cd : Addr} {kV doc pm ct oc : Value} {an od : Option Addr} {osl : Array (Option Value)} {lf : Obj} {vs0 : Array Value} {file : Str} {tf : Tok}
    (lk : K.lookup f = some ⟨oc, od, .func (PySem.W.fnX "__init__" "InvalidRow.__init__" (defArgs s_InvalidRow_init) (defBody s_InvalidRow_init) (defScope s_InvalidRow_init) [("__class__", cc)] .none kV doc pm an (.ref cd) ct), osl⟩) (hcd : PySem.W.codeIn K (.ref cd) "InvalidRow.__init__" = true)
    (Z : SupX.SupD P K cc D) (lc : K.lookup cd = some lf) (hlf : lf.data = .fields vs0) (hv2 : vs0[2]? = some (.str file tf)) (hfile : ((P.main.file : Str) == file) = true) (hm : mg ("super" : Str) = none) (nF : PySem.W.findIn K (.ref D) "index" = some none) :
    FnOk P w K mg base CX0 1 f (PySem.W.fnX "__init__" "InvalidRow.__init__" (defArgs s_InvalidRow_init) (defBody s_InvalidRow_init) (defScope s_InvalidRow_init) [("__class__", cc)] .none kV doc pm an (.ref cd) ct) ["self", "index"] (spExI K D "index") := by
  refine SupX.fn_sup (P := P) (w := w) (mg := mg) (base := base) (k := 0) (D := D) (N := ["self", "index", "__class__"]) lk hcd Z (NdefX.nscope_by (by decide +kernel)) rfl lc hlf hv2 hfile rfl hm rfl rfl (fun vs H Q E h => ?_) (fun _ => rfl) (fun _ => rfl) (fun A outer s H vs Q E hr h => ?_)
  · obtain ⟨a, i, rfl, _⟩ := h
    rfl
  · obtain ⟨a, i, rfl, si, ha, T, k⟩ := h
    refine ⟨_, _, (pa_cons (pe_joined (.cons pe_str (.cons (pe_fmt (pv 1)) .nil))) pa_nil), pss_one (ps_ost (pv 0) (pv 1)), ?_⟩
    have l1 : (Str.empty ++ ("no stone for this place of a row: argument " : Str)).length ≤ 43 := by decide
    have l2 := lenJ l1 (lenI si)
    refine ⟨a, rfl, ha, ?_⟩
    exact ⟨_, rfl, lenS l1 (by decide), _, rfl, .inr ⟨i, rfl, si, _, rfl, lenS l2 (by decide), by show 1 ≤ 1000; decide, ha, T, _, rfl, _, rfl, a, D, rfl, T, nF, .inl ⟨ha, fun dx n ne => k dx n ne⟩⟩⟩
end
/-! ### NotationError's two fields -/
def spExN (K : PySem.W.Frag) (D : Addr) : Sp := fun vs H Q _ => ∃ (a : Addr) (i j : Int), vs = [.ref a, .int i, .int j] ∧ shortI i ∧ shortI j ∧ H a = some (exo a D none) ∧ OexC K D ∧
  ∀ dx, H dx = none → dx ≠ a → Q .non (upd (upd (upd H dx (exd dx [("line", .int i)])) a (exo a D (some dx))) dx (exd dx [("word", .int j), ("line", .int i)]))
section
variable {P : Program} {w : World} {K : PySem.W.Frag} {mg : Str → Option Value} {base : Heap}
theorem ok_neInit {f cc D cd : Addr} {kV doc pm ct oc : Value} {an od : Option Addr} {osl : Array (Option Value)} {lf : Obj} {vs0 : Array Value} {file : Str} {tf : Tok}
    (lk : K.lookup f = some ⟨oc, od, .func (PySem.W.fnX "__init__" "NotationError.__init__" (defArgs s_NotationError_init) (defBody s_NotationError_init) (defScope s_NotationError_init) [("__class__", cc)] .none kV doc pm an (.ref cd) ct), osl⟩) (hcd : PySem.W.codeIn K (.ref cd) "NotationError.__init__" = true)
    (Z : SupX.SupD P K cc D) (lc : K.lookup cd = some lf) (hlf : lf.data = .fields vs0) (hv2 : vs0[2]? = some (.str file tf)) (hfile : ((P.main.file : Str) == file) = true) (hm : mg ("super" : Str) = none)
    (n1 : PySem.W.findIn K (.ref D) "line" = some none) (n2 : PySem.W.findIn K (.ref D) "word" = some none) :
    FnOk P w K mg base CX0 1 f (PySem.W.fnX "__init__" "NotationError.__init__" (defArgs s_NotationError_init) (defBody s_NotationError_init) (defScope s_NotationError_init) [("__class__", cc)] .none kV doc pm an (.ref cd) ct) ["self", "line", "word"] (spExN K D) := by
  refine SupX.fn_sup (P := P) (w := w) (mg := mg) (base := base) (k := 0) (D := D) (N := ["self", "line", "word", "__class__"]) lk hcd Z (NdefX.nscope_by (by decide +kernel)) rfl lc hlf hv2 hfile rfl hm rfl rfl (fun vs H Q E h => ?_) (fun _ => rfl) (fun _ => rfl) (fun A outer s H vs Q E hr h => ?_)
  · obtain ⟨a, i, j, rfl, _⟩ := h
    rfl
  · obtain ⟨a, i, j, rfl, si, sj, ha, T, k⟩ := h
    refine ⟨_, _, (pa_cons (pe_joined (.cons pe_str (.cons (pe_fmt (pv 1)) (.cons pe_str (.cons (pe_fmt (pv 2)) .nil))))) pa_nil), pss_cons (ps_ost (pv 0) (pv 1)) (pss_one (ps_ost (pv 0) (pv 2))), ?_⟩
    have l1 : (Str.empty ++ ("wrong notation: line " : Str)).length ≤ 21 := by decide
    have l2 := lenJ l1 (lenI si)
    have l3 := lenJ (b := ", word ") (m := 7) l2 (by decide)
    have l4 := lenJ l3 (lenI sj)
    refine ⟨a, rfl, ha, ?_⟩
    refine ⟨_, rfl, lenS l1 (by decide), _, rfl, .inr ⟨i, rfl, si, _, rfl, lenS l2 (by decide), _, rfl, lenS l3 (by decide), _, rfl, .inr ⟨j, rfl, sj, _, rfl, lenS l4 (by decide), by show 1 ≤ 1000; decide, ha, T, ?_⟩⟩⟩
    refine ⟨_, rfl, _, rfl, a, D, rfl, T, n1, .inl ⟨ha, fun dx n ne => ?_⟩⟩
    refine ⟨_, rfl, _, rfl, a, D, rfl, T, n2, .inr ⟨dx, _, upd_same, by rw [upd_ne ne]; exact upd_same, by show 1 ≤ 900; decide, k dx n ne⟩⟩
structure ExN (P : Program) (w : World) (K : PySem.W.Frag) (mg : Str → Option Value) (base : Heap) (D : Addr) : Prop where
  T : OexC K D
  m : mg "NotationError" = some (.ref D)
  ini : ∃ (f : Addr) (fd : FuncData), PySem.W.findIn K (.ref D) "__init__" = some (some (.ref f)) ∧ PySem.W.typeIn K (.ref f) = some (.type "function") ∧ FnOk P w K mg base CX0 1 f fd ["self", "line", "word"] (spExN K D) ∧ L2.Binds K fd ["self", "line", "word"] []
end
section
variable {X : Cx} {D : Addr} {e : Expr} {es : List Expr} {ta : TA} {p pos : Pos}
theorem pmk_exN (Z : ExN X.prog X.w X.K X.mg X.base D) (hr : Room 2 X.A) (ha : PA X (e :: es) ta) (hg : Gl X "NotationError" := by rfl)
    (he : starEach (e :: es) X.env = (false, eval e X.env) :: starEach es X.env := by rfl) (hpl : (backTo pos (starEach es X.env)).any (·.1) = false := by rfl) :
    PMk X (.Call (.Name "NotationError" p) (e :: es) [] pos) (tMkO D (spExN X.K D) [] ta) := by
  obtain ⟨f, fd, h1, h2, h3, h4⟩ := Z.ini
  exact pmk_oex Z.T h1 h2 h3 hr h4 .nil pass0 hg Z.m ha (by decide) he hpl
end
theorem mkoN {K : PySem.W.Frag} {D : Addr} {i j : Int} {ta : TA} {σ : L2.St} {H : Hp} {Q : XK} (T : OexC K D) (ht : ∀ Qb : List V → Hp → Prop, Qb [.int i, .int j] H → ta σ H Qb) (si : shortI i) (sj : shortI j)
    (k : ∀ dx H', Same H H' → H dx = none → H' dx = some (.xd [("word", .int j), ("line", .int i)]) → Q (.ref D) (some dx) H') : tMkO D (spExN K D) [] ta σ H Q := by
  refine ht _ ⟨by show 2 ≤ 1000; decide, fun a na => ⟨a, i, j, rfl, si, sj, upd_same, T, fun dx n ne => ⟨rfl, dx, _, by rw [upd_ne (Ne.symm ne)]; exact upd_same, upd_same, ?_, ?_⟩⟩⟩
  · rw [upd_ne ne] at n
    exact n
  · rw [upd_ne ne] at n
    refine k dx _ (fun b o e => ?_) n upd_same
    have hba : b ≠ a := ne_of_none e na
    have hbd : b ≠ dx := ne_of_none e n
    rw [upd_ne hbd, del_ne hba, upd_ne hbd, upd_ne hba, upd_ne hbd, upd_ne hba]
    exact e
section
variable {P : Program} {w : World} {K : PySem.W.Frag} {mg : Str → Option Value} {base : Heap}
theorem star1X {x qual p1 pv' : Str} {st : Stmt} {f : Addr} {fd : FuncData} {N : List Str} {k : Nat} {sp : Sp} (F : Fun K x qual st f fd) (S : FnScope N ([p1] ++ [pv']) (defScope st))
    (h0 : ∀ (kV doc pm : Value) (an : Option Addr) (cdv ct a : Value), bindArgs (PySem.W.fnOf x qual (defArgs st) (defBody st) (defScope st) .none kV doc pm an cdv ct) ⟨[a], []⟩ = (newTuple [] >>= fun t => pure [(p1, a), (pv', t)]))
    (h1 : ∀ (kV doc pm : Value) (an : Option Addr) (cdv ct a r : Value) (rs : List Value), bindArgs (PySem.W.fnOf x qual (defArgs st) (defBody st) (defScope st) .none kV doc pm an cdv ct) ⟨a :: r :: rs, []⟩ = (newTuple (r :: rs) >>= fun t => pure [(p1, a), (pv', t)]))
    (hbody : ∀ (cdv : Value) (A : Around) (outer : List Env) (s : Shared) (H : Hp) (vs : List V) (Q : VK) (E : XK), Room k (A.deeper (envOfC qual (defScope st) s.heap.objs.size f cdv)) → sp vs H Q E →
      ∃ t, PSs (cxOf (L2.CX P w) P w K mg base N qual (defScope st) f cdv A outer s H E) (defBody st) t ∧ t { nx := fun _ H' => Q .non H', rt := Q } (start N vs) H) :
    FnR P w K mg base (L2.CX P w) (k + 1) f (fun vs H Q E => ∃ w0 rest, vs = w0 :: rest ∧ rest.length ≤ 1000 ∧ ∀ p, H p = none → sp [w0, V.ref p] (upd H p (.tup rest)) Q E) := by
  obtain ⟨oc, od, kV, doc, pm, an, cdv, ct, osl, rfl, lk, hcd⟩ := F.ex
  have go := StX.fn_star (CX := L2.CX P w) (P := P) (w := w) (mg := mg) (base := base) (k := k) (ps := [p1]) (sp := sp) lk hcd S StX.cxUp
    (StX.bind_star1 (B := fun us => bindArgs (PySem.W.fnOf x qual (defArgs st) (defBody st) (defScope st) .none kV doc pm an cdv ct) ⟨us, []⟩) (fun a => h0 kV doc pm an cdv ct a) (fun a r rs => h1 kV doc pm an cdv ct a r rs))
    (fun A outer s H vs Q E hr hsp => hbody cdv A outer s H vs Q E hr hsp)
  exact go.imp fun vs H Q E ⟨w0, rest, e, hz, h⟩ => ⟨[w0], rest, e, rfl, by rw [sizeLine_eq]; omega, fun p hp => h p hp⟩
end
/-! ### a row of any stones -/
/-- the first stone that cannot stand there -/
def rowE : Nat → Int → List (Int × Int) → Option Nat
  | _, _, [] => none
  | j, lo, x :: xs => if j = 40 ∨ ¬ (lo ≤ x.1 ∧ x.1 ≤ 1000000000 ∧ 1 ≤ x.2 ∧ x.2 ≤ 1000000000) then some j else rowE (j + 1) (x.1 + 1) xs
theorem rowE_cons (j : Nat) (lo : Int) (x : Int × Int) (xs : List (Int × Int)) : rowE j lo (x :: xs) = if j = 40 ∨ ¬ (lo ≤ x.1 ∧ x.1 ≤ 1000000000 ∧ 1 ≤ x.2 ∧ x.2 ≤ 1000000000) then some j else rowE (j + 1) (x.1 + 1) xs := rfl
theorem rowE_wf : ∀ {xs : List (Int × Int)} {j : Nat} {lo : Int}, rowE j lo xs = none → Wf lo xs ∧ (j ≤ 40 → j + xs.length ≤ 40)
  | [], _, _, _ => ⟨trivial, fun h => h⟩
  | x :: xs, j, lo, h => by
    unfold rowE at h
    by_cases c : j = 40 ∨ ¬ (lo ≤ x.1 ∧ x.1 ≤ 1000000000 ∧ 1 ≤ x.2 ∧ x.2 ≤ 1000000000)
    · rw [if_pos c] at h; cases h
    · rw [if_neg c] at h
      obtain ⟨w, l⟩ := rowE_wf h
      have c1 : j ≠ 40 := fun z => c (.inl z)
      have c2 := Classical.not_not.mp fun z => c (.inr z)
      refine ⟨⟨c2.1, c2.2.1, c2.2.2.1, c2.2.2.2, w⟩, fun hj => ?_⟩
      have := l (by omega)
      simp only [List.length_cons]
      omega
theorem rowE_none : ∀ {xs : List (Int × Int)} {j : Nat} {lo : Int}, Wf lo xs → j + xs.length ≤ 40 → rowE j lo xs = none
  | [], _, _, _, _ => rfl
  | x :: xs, j, lo, w, h => by
    simp only [List.length_cons] at h
    unfold rowE
    rw [if_neg (fun z => z.elim (fun e => by omega) fun e => e ⟨w.1, w.2.1, w.2.2.1, w.2.2.2.1⟩)]
    exact rowE_none w.2.2.2.2 (by omega)
theorem rowE_lt : ∀ {xs : List (Int × Int)} {j : Nat} {lo : Int} {e : Nat}, rowE j lo xs = some e → e < j + xs.length
  | [], _, _, _, h => by cases h
  | x :: xs, j, lo, e, h => by
    unfold rowE at h
    split at h
    · obtain rfl : j = e := by injection h
      simp
    · have := rowE_lt h
      simp only [List.length_cons]
      omega
def spInitE (K : PySem.W.Frag) (C D : Addr) : Sp := fun vs H Q E => ∃ (p dx t : Addr) (us : List V) (xs : List (Int × Int)), vs = [.ref p, .ref t] ∧ H p = some (.ins C dx []) ∧ SqT K H t us ∧ StonesAt K H us xs ∧ xs.length ≤ 1000 ∧
  (∀ e, rowE 0 0 xs = some e → ∀ d H', Same H H' → H d = none → H' d = some (.xd [("index", .int (e : Nat))]) → E (.ref D) (some d) H') ∧ (rowE 0 0 xs = none → ∀ H', But p H H' → H' p = some (.ins C dx (rowF t)) → Q .non H')
def spMakeE (K : PySem.W.Frag) (C D : Addr) : Sp := fun vs H Q E => ∃ w0 rest, vs = w0 :: rest ∧ rest.length ≤ 1000 ∧ ∀ p, H p = none → spInitE K C D [w0, V.ref p] (upd H p (.tup rest)) Q E
section
variable {P : Program} {w : World} {K : PySem.W.Frag} {mg : Str → Option Value} {base : Heap}
theorem ok_initE {f g C D : Addr} {fd gd : FuncData} (F : Fun K "__init__" "Row.__init__" s_Row_init f fd) (B : Blt mg) (R : RowC K mg C) (Z : ExI P w K mg base "InvalidRow" "index" D) (N : At P w K mg base CX0 2 "_is_stone" ["stone", "least_place"] (spIsStone K) g gd) :
    FnR P w K mg base (L2.CX P w) 3 f (spMakeE K C D) := by
  refine star1X F sc_Row_init (fun _ _ _ _ _ _ _ => rfl) (fun _ _ _ _ _ _ _ _ _ => rfl) (fun cdv A outer s H vs Q E hr h => ?_)
  obtain ⟨p, dx, t, us, xs, rfl, hp, hT, hS, hz, er, k⟩ := h
  obtain ⟨um, cm⟩ := R.max
  refine ⟨_, pss_cons (ps_set (i := 2) sc_Row_init.nd rfl (Or.inl rfl) (pe_int)) (pss_cons (ps_for (passes_of rfl) rfl (Own.pi_enumT (by rfl) B.enumerate (pa_cons (pv 1) pa_nil)) (pg_tup rfl (pgs_cons (pg_name (i := 3) sc_Row_init.nd rfl (Or.inl rfl)) (pgs_cons (pg_name (i := 4) sc_Row_init.nd rfl (Or.inl rfl)) pgs_nil)))
      (pss_cons (ps_if (PW.pt (pw_or (pt_cmpR (op_eq) (pv 3) (pe_con (pv 0) rfl) (nomark _)) (pw_or1 (pt_not (pt_val (pe_at N hr (pa_cons (pv 4) (pa_cons (pv 2) pa_nil)))))))) (pss_one (ps_raise rfl (takes_of rfl rfl rfl rfl) (pmk_exI Z hr (pa_cons (pv 3) pa_nil)))) pss_nil)
      (pss_one (ps_set (i := 2) sc_Row_init.nd rfl (Or.inl rfl) (pe_op op_add (pe_ix ix_tup (pv 4) (pe_int) (fun _ _ => rfl)) (pe_int))))))
    (pss_one (ps_fld (pv 0) (pv 1) rfl))), ?_⟩
  refine ⟨_, rfl, t, us, rfl, hT, for_it (Own.walk_item (K := K) (a := t) (xs := us)) (fun j σ H1 => ∃ (lo : Int) (s3 s4 : Option V), σ = [some (.ref p), some (.ref t), some (.int lo), s3, s4] ∧ Same H H1 ∧ rowE 0 0 xs = rowE j lo (xs.drop j)) ?_ ?_ ?_ ?_⟩
  · exact ⟨0, none, none, rfl, Same.refl _, rfl⟩
  · rintro j σ H1 _ ⟨_, _, _, _, sm, _⟩
    exact sqT_same hT sm
  · rintro j v σ H1 H2 hj ⟨lo, s3, s4, rfl, sm, eE⟩ ⟨T, y, z, rfl, nT, rfl, e1, e2⟩
    obtain rfl : y = V.int (j : Int) := (Option.some.inj e1).symm
    have hjx : j < xs.length := by rw [← hS.1]; exact hj
    obtain ⟨x, hx⟩ : ∃ x, xs[j]? = some x := ⟨xs[j], by simp [hjx]⟩
    obtain ⟨c, hc, hsc⟩ := hS.2 j x hx
    obtain rfl : z = V.ref c := Option.some.inj (e2.symm.trans hc)
    have sm2 : Same H (upd H1 T (.tup [.int (j : Int), .ref c])) := sm.trans (same_new nT)
    have ed : xs.drop j = x :: xs.drop (j + 1) := by
      rw [List.drop_eq_getElem_cons hjx]
      congr 1
      have := List.getElem?_eq_getElem hjx
      rw [hx] at this
      exact (Option.some.inj this).symm
    rw [ed, rowE_cons] at eE
    refine ⟨T, _, rfl, SqT.of upd_same, rfl, _, _, rfl, _, _, rfl, rfl, ?_⟩
    refine ⟨_, rfl, _, rfl, p, C, dx, [], _, _, rfl, sm2 _ _ hp, R.cl, cm, rfl, rfl, _, rfl, ?_⟩
    have sj : shortI (j : Int) := short_nat (by omega)
    by_cases c40 : j = 40
    · rw [if_pos (.inl c40)] at eE
      rw [show decide (V.int (j : Int) = V.int 40) = true from by subst c40; rfl]
      refine iteT ?_
      exact mko_of Z.T rfl sj fun d H' s n e => er j eE d H' (sm2.trans s) (Same.free sm2 n) e
    · have e40 : decide (V.int (j : Int) = V.int 40) = false := by rw [dec_int]; simp; omega
      rw [e40]
      refine iteF ?_
      refine ⟨_, rfl, _, rfl, _, _, _, rfl, StoneV.two (sqT_same hsc sm2) True.intro True.intro, _, rfl, ?_⟩
      have eb : (numB (.int x.1) lo 1000000000 && numB (.int x.2) 1 1000000000) = decide (lo ≤ x.1 ∧ x.1 ≤ 1000000000 ∧ 1 ≤ x.2 ∧ x.2 ≤ 1000000000) := by
        show ((decide (lo ≤ x.1) && decide (x.1 ≤ 1000000000)) && (decide (1 ≤ x.2) && decide (x.2 ≤ 1000000000))) = _
        rw [Bool.eq_iff_iff]
        simp [and_assoc]
      rw [eb]
      by_cases cs : lo ≤ x.1 ∧ x.1 ≤ 1000000000 ∧ 1 ≤ x.2 ∧ x.2 ≤ 1000000000
      · rw [if_neg (fun z => z.elim c40 fun z => z cs)] at eE
        rw [decide_eq_true cs]
        refine iteF ?_
        refine ⟨_, rfl, c, _, (0 : Nat), _, rfl, rfl, sqT_same hsc sm2, atI_nat (j := 0) rfl, _, _, rfl, rfl, ?_⟩
        exact ⟨x.1 + 1, _, _, rfl, sm2, eE⟩
      · rw [if_pos (.inr cs)] at eE
        rw [decide_eq_false cs]
        refine iteT ?_
        exact mko_of Z.T rfl sj fun d H' s n e => er j eE d H' (sm2.trans s) (Same.free sm2 n) e
  · rintro σ H1 ⟨lo, s3, s4, rfl, sm, eE⟩
    refine ⟨_, rfl, _, rfl, p, C, dx, [], rfl, sm _ _ hp, R.cl, R.nS, (by show 0 < 1000; decide), ?_⟩
    rw [hS.1, List.drop_length] at eE
    exact k eE _ ((Same.but sm p).trans but_upd) upd_same
theorem make_rowE {C D : Addr} {H : Hp} {us : List V} {xs : List (Int × Int)} {Q : VK} {E : XK} (hS : StonesAt K H us xs) (hz : xs.length ≤ 1000) (er : ∀ e, rowE 0 0 xs = some e → ∀ d H', Same H H' → H d = none → H' d = some (.xd [("index", .int (e : Nat))]) → E (.ref D) (some d) H')
    (k : rowE 0 0 xs = none → ∀ z H', Same H H' → H z = none → RowAt K C H' z xs → Q (.ref z) H') :
    ∀ z dz, H z = Option.none → H dz = Option.none → dz ≠ z → spMakeE K C D (V.ref z :: us) (upd (upd H dz (.own z)) z (.ins C dz [])) (fun v H2 => v = .non ∧ Q (.ref z) H2) E := by
  intro z dz nz ndz ne
  have s0 : Same H (upd (upd H dz (.own z)) z (.ins C dz [])) := (same_new ndz).trans (same_new (by rw [upd_ne (Ne.symm ne)]; exact nz))
  refine ⟨_, us, rfl, by rw [hS.1]; omega, fun t nt => ?_⟩
  have s1 : Same H (upd (upd (upd H dz (.own z)) z (.ins C dz [])) t (.tup us)) := s0.trans (same_new nt)
  have ntz : z ≠ t := ne_of_none upd_same nt
  refine ⟨z, dz, t, us, xs, rfl, by rw [upd_ne ntz]; exact upd_same, SqT.of upd_same, hS.same s1, hz, fun e he d H' s n ed => er e he d H' (s1.trans s) (Same.free s1 n) ed, fun he H' b e => ⟨rfl, ?_⟩⟩
  have sm : Same H H' := But.same ((Same.but s1 z).trans b) nz
  exact k he z H' sm nz ⟨dz, t, us, e, SqT.of (b t _ (Ne.symm ntz) upd_same), hS.same sm⟩
end
/-! ### a line of words -/
def numN (l : List Nat) : Nat := l.foldl (fun a c => 10 * a + (c - 48)) 0
def numV (l : List Nat) : Int := ((numN l : Nat) : Int)
theorem numN_snoc (l : List Nat) (c : Nat) : numN (l ++ [c]) = 10 * numN l + (c - 48) := by
  unfold numN
  rw [List.foldl_append]
  rfl
theorem dig_back : ∀ d : Nat, d < 10 → (Nat.digitChar d).toNat = 48 + d := by decide
theorem digs_val : ∀ (n : Nat) (l : List Nat), l.length = n + 1 → (∀ c ∈ l, 48 ≤ c ∧ c ≤ 57) → (n = 0 ∨ l.head? ≠ some 48) → (Nat.toDigits 10 (numN l)).map Char.toNat = l ∧ numN l < 10 ^ (n + 1)
  | 0, l, hl, hc, _ => by
    obtain ⟨c, rfl⟩ : ∃ c, l = [c] := by
      match l, hl with
      | [c], _ => exact ⟨c, rfl⟩
    obtain ⟨c0, c1⟩ := hc c (by simp)
    have e : numN [c] = c - 48 := by simp [numN]
    rw [e, Nat.toDigits_of_lt_base (by omega)]
    refine ⟨?_, by omega⟩
    rw [List.map_cons, List.map_nil, dig_back _ (by omega)]
    congr 1
    omega
  | n + 1, l, hl, hc, h0 => by
    have hne : l ≠ [] := by
      intro z
      rw [z] at hl
      cases hl
    obtain ⟨l', c, rfl⟩ : ∃ l' c, l = l' ++ [c] := ⟨_, _, (List.dropLast_concat_getLast hne).symm⟩
    have hl' : l'.length = n + 1 := by rw [List.length_append] at hl; simpa using hl
    have hne' : l' ≠ [] := by
      intro z
      rw [z] at hl'
      cases hl'
    have hh : (l' ++ [c]).head? = l'.head? := by
      cases l' with
      | nil => exact absurd rfl hne'
      | cons a r => rfl
    have h48 : l'.head? ≠ some 48 := by
      rw [hh] at h0
      exact h0.resolve_left (by omega)
    obtain ⟨i1, i2⟩ := digs_val n l' hl' (fun x hx => hc x (by simp [hx])) (.inr h48)
    obtain ⟨c0, c1⟩ := hc c (by simp)
    have nz : numN l' ≠ 0 := by
      intro z
      rw [z] at i1
      refine h48 ?_
      rw [← i1]
      rfl
    rw [numN_snoc]
    refine ⟨?_, by rw [Nat.pow_succ]; omega⟩
    rw [← Nat.toDigits_append_toDigits (by decide) (by omega) (by omega), List.map_append, i1, Nat.toDigits_of_lt_base (by omega), List.map_cons, List.map_nil, dig_back _ (by omega)]
    congr 2
    omega
theorem num_of {l : List Nat} (h : isNumL l = true) : FmtS.digs (numV l) = l ∧ 0 ≤ numV l ∧ numV l < 10 ^ 10 := by
  unfold isNumL at h
  simp only [Bool.and_eq_true, Bool.or_eq_true, decide_eq_true_eq, List.all_eq_true, Bool.not_eq_true', decide_eq_false_iff_not] at h
  obtain ⟨⟨⟨hne, hc⟩, hl⟩, h0⟩ := h
  obtain ⟨n, hn⟩ : ∃ n, l.length = n + 1 := ⟨l.length - 1, by have := List.length_pos_iff.mpr hne; omega⟩
  have h1 : n = 0 ∨ l.head? ≠ some 48 := h0.elim (fun z => .inl (by rw [z] at hn; simpa using hn.symm)) .inr
  obtain ⟨e, b⟩ := digs_val n l hn (fun c m => hc c m) h1
  have b2 : numN l < 10 ^ 10 := Nat.lt_of_lt_of_le b (Nat.pow_le_pow_right (by decide) (by omega))
  refine ⟨e, ?_, ?_⟩
  · unfold numV; omega
  · unfold numV; omega
theorem read_num {l : List Nat} (h : isNumL l = true) : PySem.intText? (TxtG.T l) = some (numV l) := by
  obtain ⟨e, h0, h1⟩ := num_of h
  rw [← e]
  have : numV (FmtS.digs (numV l)) = numV l := by rw [e]
  rw [this]
  show PySem.intText? (TxtG.T (FmtS.digs ((numN l : Nat) : Int))) = some ((numN l : Nat) : Int)
  rw [← TxtG.T_str]
  exact W.KIN.num_reads h0 h1
/-- the first word from the place j on that is wrong -/
def badW : Nat → List (List Nat) → Option Nat
  | _, [] => none
  | j, w :: ws => if rightL w j = true then badW (j + 1) ws else some j
theorem badW_cons (j : Nat) (w : List Nat) (ws : List (List Nat)) : badW j (w :: ws) = if rightL w j = true then badW (j + 1) ws else some j := rfl
theorem badW_lt : ∀ {ws : List (List Nat)} {j e : Nat}, badW j ws = some e → e < j + ws.length
  | [], _, _, h => by cases h
  | w :: ws, j, e, h => by
    rw [badW_cons] at h
    split at h
    · have := badW_lt h
      simp only [List.length_cons]
      omega
    · obtain rfl : j = e := by injection h
      simp
def lineE (ws : List (List Nat)) : Option Nat := match badW 0 ws with
  | some j => some j
  | none => if ws.length < 3 then some ws.length else none
def stoneOf (ws : List (List Nat)) : Int × Int := (numV (ws.getD 1 []), numV (ws.getD 2 []))
structure WOk (ws : List (List Nat)) : Prop where
  ne : ws ≠ []
  le : ws.length ≤ 20
  w : ∀ x ∈ ws, 32 ∉ x ∧ 10 ∉ x ∧ x.length ≤ 20
  asc : ∀ x ∈ ws, ∀ c ∈ x, c < 128
theorem right_num {l : List Nat} {j : Nat} (h : rightL l (j + 1) = true) : j < 2 ∧ isNumL l = true := by
  unfold rightL at h
  rw [if_neg (by omega)] at h
  simp only [Bool.and_eq_true, decide_eq_true_eq] at h
  exact ⟨by omega, h.2⟩
theorem lineE_none {ws : List (List Nat)} (h : lineE ws = none) : ∃ a b, ws = [stoneL, a, b] ∧ isNumL a = true ∧ isNumL b = true := by
  unfold lineE at h
  cases hb : badW 0 ws with
  | some j => rw [hb] at h; cases h
  | none =>
    rw [hb] at h
    dsimp only at h
    split at h
    · cases h
    · rename_i hl
      match ws, hl, hb with
      | [], hl, _ => exact absurd (by simp) hl
      | [_], hl, _ => exact absurd (by simp) hl
      | [_, _], hl, _ => exact absurd (by simp) hl
      | x :: a :: b :: r, _, hb =>
        rw [badW_cons] at hb
        split at hb
        · rename_i h0
          rw [badW_cons] at hb
          split at hb
          · rename_i h1
            rw [badW_cons] at hb
            split at hb
            · rename_i h2
              cases r with
              | nil =>
                have e0 : x = stoneL := by
                  unfold rightL at h0
                  rw [if_pos rfl] at h0
                  exact of_decide_eq_true h0
                exact ⟨a, b, by rw [e0], (right_num h1).2, (right_num h2).2⟩
              | cons y r =>
                rw [badW_cons] at hb
                split at hb
                · rename_i h3
                  exact absurd (right_num h3).1 (by omega)
                · cases hb
            · cases hb
          · cases hb
        · cases hb
theorem lineE_lt {ws : List (List Nat)} {e : Nat} (h : lineE ws = some e) (hw : WOk ws) : e ≤ 20 := by
  have := hw.le
  unfold lineE at h
  cases hb : badW 0 ws with
  | some j =>
    rw [hb] at h
    obtain rfl : j = e := by injection h
    have := badW_lt hb
    omega
  | none =>
    rw [hb] at h
    dsimp only at h
    split at h
    · obtain rfl : ws.length = e := by injection h
      exact hw.le
    · cases h
def spStoneE (K : PySem.W.Frag) (D : Addr) : Sp := fun vs H Q E => ∃ (ws : List (List Nat)) (n : Nat), vs = [.str (TxtG.T (SplS.joinL 32 ws)), .int (n : Int)] ∧ WOk ws ∧ n ≤ 1000 ∧
  (∀ j, lineE ws = some j → ∀ d H', Same H H' → H d = none → H' d = some (.xd [("word", .int (j : Nat)), ("line", .int (n : Nat))]) → E (.ref D) (some d) H') ∧
  (lineE ws = none → ∀ t H', Same H H' → H' t = some (.tup [.int (stoneOf ws).1, .int (stoneOf ws).2]) → Q (.ref t) H')
section
variable {P : Program} {w : World} {K : PySem.W.Frag} {mg : Str → Option Value} {base : Heap}
theorem ok_stoneE {f g D : Addr} {fd gd : FuncData} (F : Fun K "_parsed_stone" "_parsed_stone" s_parsed_stone f fd) (B : Blt mg) (M : TxtM mg) (Z : ExN P w K mg base D) (N : At P w K mg base CX0 2 "_is_right_word" ["word", "index"] spRight g gd) :
    FnOk P w K mg base (L2.CX P w) 3 f fd ["line", "number"] (spStoneE K D) := by
  obtain ⟨tw, mw⟩ := M.ws
  refine F.okX sc_parsed_stone (fun vs H Q E h => ?_) (fun cdv A outer s H vs Q E hr h => ?_)
  · obtain ⟨ws, n, rfl, _⟩ := h
    rfl
  · obtain ⟨ws, n, rfl, hw, hn, er, k⟩ := h
    refine ⟨_, pss_cons (ps_set (i := 2) sc_parsed_stone.nd rfl (Or.inl rfl) (pe_split (pv 0) pe_str))
      (pss_cons (ps_for (passes_of rfl) rfl (pi_enum (by rfl) B.enumerate (pa_cons (pv 2) pa_nil)) (pg_tup rfl (pgs_cons (pg_name (i := 3) sc_parsed_stone.nd rfl (Or.inl rfl)) (pgs_cons (pg_name (i := 4) sc_parsed_stone.nd rfl (Or.inl rfl)) pgs_nil)))
        (pss_one (ps_if (pt_not (pt_val (pe_at N hr (pa_cons (pv 4) (pa_cons (pv 3) pa_nil))))) (pss_one (ps_raise rfl (takes_of rfl rfl rfl rfl) (pmk_exN Z hr (pa_cons (pv 1) (pa_cons (pv 3) pa_nil))))) pss_nil)))
      (pss_cons (ps_if (pt_cmpR (op_lt) (pe_callB call_len_seq (by rfl) B.len PySem.boot_len (pa_cons (pv 2) pa_nil)) (pe_glob (v := .int 3) (by rfl) mw ⟨tw, rfl⟩) (nomark _)) (pss_one (ps_raise rfl (takes_of rfl rfl rfl rfl) (pmk_exN Z hr (pa_cons (pv 1) (pa_cons (pe_callB call_len_seq (by rfl) B.len PySem.boot_len (pa_cons (pv 2) pa_nil)) pa_nil))))) pss_nil)
      (pss_one (ps_ret (pe_tup (pa_cons (pe_callTy (call_int_str) (by rfl) B.int boot_int (pa_cons (pe_ix ix_list (pv 2) (pe_int) (fun _ _ => rfl)) pa_nil)) (pa_cons (pe_callTy (call_int_str) (by rfl) B.int boot_int (pa_cons (pe_ix ix_list (pv 2) (pe_int) (fun _ _ => rfl)) pa_nil)) pa_nil))))))), ?_⟩
    have lj : (SplS.joinL 32 ws).length ≤ 500 := by
      have := joinL_len (c := 32) (b := 20) (ps := ws) fun p hp => (hw.w p hp).2.2
      have := hw.le
      omega
    have hwl := hw.le
    refine ⟨_, rfl, ⟨_, rfl⟩, _, _, rfl, rfl, by decide +kernel, by rw [TxtG.T_len, sizeLine_eq]; omega, fun q nq => ?_⟩
    rw [lit_spc, SplS.split_join hw.ne fun p hp => (hw.w p hp).1]
    have sq := same_new (o := .lst ((ws.map TxtG.T).map V.str)) nq
    have eq0 : (upd H q (.lst ((ws.map TxtG.T).map V.str))) q = some (.lst ((ws.map TxtG.T).map V.str)) := upd_same
    generalize upd H q (.lst ((ws.map TxtG.T).map V.str)) = H1 at sq eq0 ⊢
    refine nm_of ?_
    have lq : ((ws.map TxtG.T).map V.str).length = ws.length := by simp
    have sn : shortI (n : Int) := short_nat hn
    refine ⟨_, rfl, q, _, rfl, SqL.of eq0, for_it (walk_enum (K := K) (a := q) (xs := (ws.map TxtG.T).map V.str)) (fun i σ G => ∃ (s3 s4 : Option V), σ = [some (.str (TxtG.T (SplS.joinL 32 ws))), some (.int (n : Int)), some (.ref q), s3, s4] ∧ Same H1 G ∧ badW 0 ws = badW i (ws.drop i)) ?_ ?_ ?_ ?_⟩
    · exact ⟨none, none, rfl, Same.refl _, rfl⟩
    · rintro i σ G _ ⟨_, _, _, sm, _⟩
      exact SqL.of (sm _ _ eq0)
    · rintro i v σ G G2 hi ⟨s3, s4, rfl, sm, eB⟩ ⟨T, y, z, rfl, nT, rfl, e1, e2⟩
      obtain rfl : y = V.int (i : Int) := (Option.some.inj e1).symm
      have hiw : i < ws.length := by rw [← lq]; exact hi
      obtain ⟨l, hl⟩ : ∃ l, ws[i]? = some l := ⟨ws[i], by simp [hiw]⟩
      obtain rfl : z = V.str (TxtG.T l) := by
        have e3 : ((ws.map TxtG.T).map V.str)[i]? = some z := e2
        rw [List.getElem?_map, List.getElem?_map, hl] at e3
        exact (Option.some.inj e3).symm
      have ed : ws.drop i = l :: ws.drop (i + 1) := by
        rw [List.drop_eq_getElem_cons hiw]
        congr 1
        have := List.getElem?_eq_getElem hiw
        rw [hl] at this
        exact (Option.some.inj this).symm
      rw [ed, badW_cons] at eB
      have sm2 := sm.trans (same_new (o := .tup [V.int (i : Int), V.str (TxtG.T l)]) nT)
      refine ⟨T, _, rfl, SqT.of upd_same, rfl, _, _, rfl, _, _, rfl, rfl, ?_⟩
      refine ⟨_, rfl, _, rfl, l, i, rfl, Nat.le_trans (hw.w l (List.mem_of_getElem? hl)).2.2 (by decide), _, rfl, ?_⟩
      cases hr' : rightL l i with
      | true =>
        rw [if_pos hr'] at eB
        refine iteF (next_of ?_)
        exact ⟨_, _, rfl, sm2, eB⟩
      | false =>
        rw [if_neg (by rw [hr']; exact Bool.false_ne_true)] at eB
        refine iteT ?_
        exact mkoN Z.T (fun Q q => ⟨_, rfl, _, rfl, q⟩) sn (short_nat (n := i) (by omega)) fun d H' s nn e => er i (by unfold lineE; rw [eB]) d H' ((sq.trans sm2).trans s) (Same.free (sq.trans sm2) nn) e
    · rintro σ G ⟨s3, s4, rfl, sm, eB⟩
      rw [lq, List.drop_length] at eB
      have eG := sm _ _ eq0
      refine ⟨_, rfl, q, _, rfl, .inl (SqL.of eG), _, _, rfl, rfl, _, rfl, ?_⟩
      rw [lq]
      by_cases c3 : ws.length < 3
      · rw [decide_eq_true (show (ws.length : Int) < 3 by omega)]
        refine iteT ?_
        refine mkoN (i := (n : Int)) (j := (ws.length : Int)) Z.T (fun Q q' => ⟨_, rfl, _, rfl, q, _, rfl, .inl (SqL.of eG), by rw [lq]; exact q'⟩) sn (short_nat (by omega)) fun d H' s nn e => er ws.length (by unfold lineE; rw [eB]; exact if_pos c3) d H' ((sq.trans sm).trans s) (Same.free (sq.trans sm) nn) e
      · rw [decide_eq_false (show ¬ (ws.length : Int) < 3 by omega)]
        refine iteF (next_of ?_)
        have eL : lineE ws = none := by unfold lineE; rw [eB]; exact if_neg c3
        obtain ⟨a, b, rfl, ha, hb⟩ := lineE_none eL
        have la : a.length ≤ 20 := (hw.w a (by simp)).2.2
        have lb : b.length ≤ 20 := (hw.w b (by simp)).2.2
        refine ⟨_, rfl, q, _, ((1 : Nat) : Int), _, rfl, rfl, SqL.of eG, atI_nat (j := 1) rfl, _, _, rfl, read_num ha, by rw [TxtG.T_len]; omega, _, rfl, q, _, ((2 : Nat) : Int), _, rfl, rfl, SqL.of eG, atI_nat (j := 2) rfl, _, _, rfl, read_num hb, by rw [TxtG.T_len]; omega, by show 2 ≤ sizeLine; decide, fun t nt => ?_⟩
        exact k eL t _ ((sq.trans sm).trans (same_new nt)) upd_same
end
/-! ### parse_row of any lines of words -/
theorem passE {X : Cx} {E : XK} (tk : Takes X (fun cls d _ H => E cls d H)) : Passes (L2.CX X.prog X.w) X E := fun pins σ H s e s' I h => passAt tk σ pins H s e s' I h
abbrev txtW (ws : List (List Nat)) : List Nat := SplS.joinL 32 ws
abbrev txtL (ls : List (List (List Nat))) : List Nat := SplS.joinL 10 (ls.map txtW)
structure LOk (ls : List (List (List Nat))) : Prop where
  ne : ls ≠ []
  le : ls.length ≤ 60
  w : ∀ ws ∈ ls, WOk ws
/-- the first line from the place k on that is wrong, and its word -/
def linesE : Nat → List (List (List Nat)) → Option (Nat × Nat)
  | _, [] => none
  | k, ws :: ls => match lineE ws with
    | some j => some (k, j)
    | none => linesE (k + 1) ls
theorem linesE_cons (k : Nat) (ws : List (List Nat)) (ls : List (List (List Nat))) : linesE k (ws :: ls) = match lineE ws with
    | some j => some (k, j)
    | none => linesE (k + 1) ls := rfl
theorem linesE_all : ∀ {ls : List (List (List Nat))} {k : Nat}, linesE k ls = none → ∀ ws ∈ ls, lineE ws = none
  | [], _, _, _, h => nomatch h
  | v :: ls, k, h, ws, hm => by
    rw [linesE_cons] at h
    cases e : lineE v with
    | some j => rw [e] at h; cases h
    | none =>
      rw [e] at h
      rcases List.mem_cons.mp hm with rfl | hm
      · exact e
      · exact linesE_all h ws hm
inductive ParE where
  | note (k j : Nat)
  | row (e : Nat)
  | ok (xs : List (Int × Int))
def parE (ls : List (List (List Nat))) : ParE := if ls = [[[]]] then .ok [] else match linesE 0 ls with
  | some (k, j) => .note k j
  | none => match rowE 0 0 (ls.map stoneOf) with
    | some e => .row e
    | none => .ok (ls.map stoneOf)
theorem join_mem {c x : Nat} : ∀ {ps : List (List Nat)}, x ∈ SplS.joinL c ps → x = c ∨ ∃ p ∈ ps, x ∈ p
  | [], h => nomatch h
  | [p], h => .inr ⟨p, by simp, h⟩
  | p :: q :: ps, h => by
    have h : x ∈ p ++ c :: SplS.joinL c (q :: ps) := h
    simp only [List.mem_append, List.mem_cons] at h
    rcases h with h | h | h
    · exact .inr ⟨p, by simp, h⟩
    · exact .inl h
    · rcases join_mem h with e | ⟨r, hr, hx⟩
      · exact .inl e
      · exact .inr ⟨r, by simp at hr ⊢; exact .inr hr, hx⟩
theorem no10 {ws : List (List Nat)} (h : WOk ws) : 10 ∉ txtW ws := fun m => by
  rcases join_mem m with e | ⟨p, hp, hx⟩
  · cases e
  · exact (h.w p hp).2.1 hx
theorem join_nil {c : Nat} : ∀ {ps : List (List Nat)}, ps ≠ [] → (SplS.joinL c ps = [] ↔ ps = [[]])
  | [], h => absurd rfl h
  | [p], _ => by
    show p = [] ↔ [p] = [[]]
    simp
  | p :: q :: ps, _ => by
    show p ++ c :: SplS.joinL c (q :: ps) = [] ↔ _
    simp
theorem txt_nil {ls : List (List (List Nat))} (h : LOk ls) : txtL ls = [] ↔ ls = [[[]]] := by
  unfold txtL
  rw [join_nil (by have := h.ne; simpa using this)]
  constructor
  · intro e
    cases ls with
    | nil => cases e
    | cons ws r =>
      rw [List.map_cons] at e
      obtain ⟨e1, e2⟩ := List.cons.inj e
      obtain rfl : r = [] := by simpa using e2
      rw [(join_nil (h.w ws (by simp)).ne).mp e1]
  · rintro rfl
    rfl
theorem txtW_len {ws : List (List Nat)} (h : WOk ws) : (txtW ws).length ≤ 420 := by
  have := joinL_len (c := 32) (b := 20) (ps := ws) fun p hp => (h.w p hp).2.2
  have := h.le
  show (SplS.joinL 32 ws).length ≤ 420
  omega
theorem txtL_len {ls : List (List (List Nat))} (h : LOk ls) : (txtL ls).length ≤ 30000 := by
  have := joinL_len (c := 10) (b := 420) (ps := ls.map txtW) fun p hp => by
    obtain ⟨ws, hm, rfl⟩ := List.mem_map.mp hp
    exact txtW_len (h.w ws hm)
  rw [List.length_map] at this
  have := h.le
  show (SplS.joinL 10 (ls.map txtW)).length ≤ 30000
  omega
def spParseE (K : PySem.W.Frag) (C D5 D2 : Addr) : Sp := fun vs H Q E => ∃ ls : List (List (List Nat)), vs = [.str (TxtG.T (txtL ls))] ∧ LOk ls ∧
  (∀ k j, parE ls = .note k j → ∀ d H', Same H H' → H d = none → H' d = some (.xd [("word", .int (j : Nat)), ("line", .int (k : Nat))]) → E (.ref D2) (some d) H') ∧
  (∀ e, parE ls = .row e → ∀ d H', Same H H' → H d = none → H' d = some (.xd [("index", .int (e : Nat))]) → E (.ref D5) (some d) H') ∧
  (∀ xs, parE ls = .ok xs → ∀ z H', Same H H' → H z = none → RowAt K C H' z xs → Q (.ref z) H')
section
variable {P : Program} {w : World} {K : PySem.W.Frag} {mg : Str → Option Value} {base : Heap}
theorem ok_parseE {f g g1 C D5 D2 : Addr} {fd d1 : FuncData} (F : Fun K "parse_row" "parse_row" s_parse_row f fd) (B : Blt mg) (bs : mg "str" = none) (R : RowC K mg C) (MK : Mk K C g) (G : FnR P w K mg base CX0 3 g (spMake K C)) (GE : FnR P w K mg base (L2.CX P w) 3 g (spMakeE K C D5))
    (N : At P w K mg base (L2.CX P w) 3 "_parsed_stone" ["line", "number"] (spStoneE K D2) g1 d1) : FnOk P w K mg base (L2.CX P w) 5 f fd ["text"] (spParseE K C D5 D2) := by
  refine F.okX sc_parse_row (fun vs H Q E h => ?_) (fun cdv A outer s H vs Q E hr h => ?_)
  · obtain ⟨ls, rfl, _⟩ := h
    rfl
  · obtain ⟨ls, rfl, hL, erN, erR, k⟩ := h
    have r3 : Room 3 _ := hr.mono (by decide)
    refine ⟨_, pss_cons (ps_if (pt_not (pt_val (pe_callB (call_isi) (by rfl) B.isinstance boot_isinstance (pa_cons (pv 0) (pa_cons (pe_bltn (v := .ty "str") (by rfl) bs boot_str rfl) pa_nil))))) (pss_one ps_never) pss_nil)
      (pss_cons (ps_if (pt_cmpR (op_eq) (pv 0) (pe_str) (nomark _)) (pss_one (ps_ret (Own.pe_makeR0 MK G hr (by rfl) R.mgC pass0))) pss_nil)
      (pss_cons (LcX.ps_setLcX (i := 1) (own := [("number", 2), ("line", 3)]) (g := gTup K 2 (gCons (gName 2) (gCons (gName 3) gNil))) (Wd := E) rfl rfl (takes_of rfl rfl rfl rfl) rfl sc_parse_row.nd rfl rfl (sw_true rfl rfl rfl (by decide +kernel)) (pi_enum (by rfl) B.enumerate (pa_cons (pe_split (pv 0) pe_str) pa_nil)) (blkOk_by (N := n_parse_row) (sc := defScope s_parse_row) (by decide +kernel))
          (fun _ _ _ _ _ => (show PG _ _ (gTup K 2 (gCons (gName 2) (gCons (gName 3) gNil))) from pg_tup rfl (pgs_cons (pg_name (i := 2) sc_parse_row.nd rfl (Or.inl rfl)) (pgs_cons (pg_name (i := 3) sc_parse_row.nd rfl (Or.inl rfl)) pgs_nil))))
          (fun _ _ _ _ _ _ tk => (show PE _ _ (tCallS (spStoneE K D2) (WE fun cls d _ H => E cls d H) (tCons (tVar 3) (tCons (tVar 2) tNil))) from pe_atE N r3 tk (pa_cons (pv 3) (pa_cons (pv 2) pa_nil)))))
      (pss_one (ps_ret (Own.pe_makeS MK GE hr (by rfl) R.mgC (passE (takes_of rfl rfl rfl rfl)) (pv 1)))))), ?_⟩
    refine ⟨_, rfl, _, .ty "str", _, _, true, rfl, .ty _, .base (.str _), kit_ty (by decide +kernel), true, rfl, ?_⟩
    refine iteF (next_of ?_)
    dsimp only
    show tSeq _ _ _ _ _
    refine seq_of ?_
    refine ⟨_, rfl, rfl, _, rfl, ?_⟩
    have l0 : Str.ofString "" = TxtG.T [] := by decide +kernel
    rw [l0]
    by_cases c : ls = [[[]]]
    · rw [decide_eq_true (show V.str (TxtG.T (txtL ls)) = V.str (TxtG.T []) by rw [(txt_nil hL).mpr c])]
      refine iteT ?_
      exact mk0 fun z H' s nz ra => k [] (by unfold parE; rw [if_pos c]) z H' s nz ra
    · rw [decide_eq_false (fun z : V.str (TxtG.T (txtL ls)) = V.str (TxtG.T []) => c ((txt_nil hL).mp (SplS.T_inj (by injection z))))]
      refine iteF (next_of ?_)
      have eP : parE ls = match linesE 0 ls with
        | some (k, j) => .note k j
        | none => match rowE 0 0 (ls.map stoneOf) with
          | some e => .row e
          | none => .ok (ls.map stoneOf) := by unfold parE; rw [if_neg c]
      dsimp only
      show tSeq _ _ _ _ _
      refine seq_of ?_
      have lL := txtL_len hL
      have ll := hL.le
      refine ⟨_, rfl, ⟨_, rfl⟩, _, _, rfl, rfl, by decide +kernel, by rw [TxtG.T_len, sizeLine_eq]; omega, fun q nq => ?_⟩
      have eS : Txt.split (TxtG.T (txtL ls)) (TxtG.T [10]) = (ls.map txtW).map TxtG.T := SplS.split_join (by have := hL.ne; simpa using this) fun p hp => by
        obtain ⟨ws, hm, rfl⟩ := List.mem_map.mp hp
        exact no10 (hL.w ws hm)
      rw [lit_nl, eS]
      have sq := same_new (o := .lst (((ls.map txtW).map TxtG.T).map V.str)) nq
      have eq0 : (upd H q (.lst (((ls.map txtW).map TxtG.T).map V.str))) q = some (.lst (((ls.map txtW).map TxtG.T).map V.str)) := upd_same
      generalize upd H q (.lst (((ls.map txtW).map TxtG.T).map V.str)) = H1 at sq eq0 ⊢
      have lq : (((ls.map txtW).map TxtG.T).map V.str).length = ls.length := by simp
      refine ⟨q, _, rfl, SqL.of eq0, fun D nD => ?_⟩
      refine lc_it (walk_enum (K := K) (a := q) (xs := ((ls.map txtW).map TxtG.T).map V.str)) (fun i G => But D H1 G ∧ ∃ ys, G D = some (.lst ys) ∧ StonesAt K G ys ((ls.take i).map stoneOf) ∧ linesE 0 ls = linesE i (ls.drop i)) ?_ ?_ ?_ ?_
      · exact ⟨but_upd, [], upd_same, StonesAt.nil, rfl⟩
      · rintro i G _ ⟨b, _⟩
        exact SqL.of (But.same b nD _ _ eq0)
      · rintro i v G G' hi ⟨b, ys, eD, hS, eE⟩ ⟨T, y, z, rfl, nT, rfl, e1, e2⟩
        obtain rfl : y = V.int (i : Int) := (Option.some.inj e1).symm
        have hil : i < ls.length := by rw [← lq]; exact hi
        obtain ⟨ws, hws⟩ : ∃ ws, ls[i]? = some ws := ⟨ls[i], by simp [hil]⟩
        have e3 : (((ls.map txtW).map TxtG.T).map V.str)[i]? = some z := e2
        rw [List.getElem?_map, List.getElem?_map, List.getElem?_map, hws] at e3
        obtain rfl : V.str (TxtG.T (txtW ws)) = z := Option.some.inj e3
        have ed : ls.drop i = ws :: ls.drop (i + 1) := by
          rw [List.drop_eq_getElem_cons hil]
          congr 1
          have := List.getElem?_eq_getElem hil
          rw [hws] at this
          exact (Option.some.inj this).symm
        rw [ed, linesE_cons] at eE
        have sT := same_new (o := .tup [V.int (i : Int), V.str (TxtG.T (txtW ws))]) nT
        have sm : Same H1 G := But.same b nD
        refine ⟨T, _, rfl, SqT.of upd_same, rfl, _, _, rfl, _, _, rfl, rfl, rfl, ?_⟩
        refine ⟨_, rfl, _, rfl, ws, i, rfl, hL.w ws (List.mem_of_getElem? hws), by omega, fun j hj d H' s n e => ?_, fun hn t H' s e => ?_⟩
        · rw [hj] at eE
          have s2 := (sq.trans sm).trans (sT.trans s)
          exact erN i j (by rw [eP, eE]) d H' s2 (Same.free ((sq.trans sm).trans sT) n) e
        · rw [hn] at eE
          have s2 := sT.trans s
          have eD2 := s2 _ _ eD
          have ly : ys.length = i := by
            rw [hS.1, List.length_map, List.length_take]
            omega
          refine ⟨ys, eD2, by rw [sizeLine_eq]; omega, (b.trans (Same.but s2 D)).trans but_upd, ys ++ [.ref t], upd_same, ?_, eE⟩
          have hS2 : StonesAt K (upd H' D (.lst (ys ++ [.ref t]))) ys ((ls.take i).map stoneOf) := (hS.same s2).but eD2 but_upd
          have et : SqT K (upd H' D (.lst (ys ++ [.ref t]))) t [.int (stoneOf ws).1, .int (stoneOf ws).2] := sqT_but (SqT.of e) eD2 but_upd
          rw [List.take_add_one, hws, List.map_append]
          exact hS2.append (StonesAt.one (x := stoneOf ws) et)
      · rintro G ⟨b, ys, eD, hS, eE⟩
        rw [lq, List.take_length] at hS
        rw [lq, List.drop_length] at eE
        have eE : linesE 0 ls = none := eE
        rw [eE] at eP
        have sm := sq.trans (But.same b nD)
        refine nm_of ?_
        refine ⟨_, rfl, D, _, rfl, .inr (SqL.of eD), make_rowE hS (by rw [List.length_map]; omega) (fun e he d H' s n ed => erR e ?_ d H' (sm.trans s) (Same.free sm n) ed) fun he z H' s nz ra => k (ls.map stoneOf) ?_ z H' (sm.trans s) (Same.free sm nz) ra⟩
        · rw [eP, he]
        · rw [eP, he]
end
/-! ### lists of texts, _law_figures -/
def wsV (ws : List (List Nat)) : List V := (ws.map TxtG.T).map V.str
def tD (ws : List (List Nat)) : PyData := .list (ws.map fun w => PyData.str (TxtG.T w))
theorem strOk_T {l : List Nat} (h : ∀ c ∈ l, c < 128) : PyData.strOk (TxtG.T l) = true := by
  unfold PyData.strOk
  rw [all_T, List.all_eq_true]
  intro c hc
  have := h c hc
  simp
  omega
theorem wsV_all {K : PySem.W.Frag} {H : Hp} : ∀ ws : List (List Nat), DpAll K H (wsV ws) (ws.map fun w => PyData.str (TxtG.T w))
  | [] => .nil
  | w :: ws => .cons (.str _) (wsV_all ws)
theorem tD_lay : ∀ {ws : List (List Nat)}, (∀ x ∈ ws, ∀ c ∈ x, c < 128) → PyData.canLayAll0 (ws.map fun w => PyData.str (TxtG.T w)) = true
  | [], _ => by simp [PyData.canLayAll0]
  | w :: ws, h => by
    have ih := tD_lay (ws := ws) fun x hx => h x (by simp [hx])
    have h0 := strOk_T (h w (by simp))
    simp only [List.map_cons, PyData.canLayAll0, PyData.canLay0, ih, h0, Bool.and_self]
theorem tD_deep : ∀ ws : List (List Nat), PyData.depthAll (ws.map fun w => PyData.str (TxtG.T w)) ≤ 1
  | [] => by simp [PyData.depthAll]
  | w :: ws => by
    have := tD_deep ws
    simp only [List.map_cons, PyData.depthAll, PyData.depth]
    omega
theorem tD_shaped {ws : List (List Nat)} (h : ∀ x ∈ ws, ∀ c ∈ x, c < 128) : SeqAt.shaped (tD ws) = true := by
  show (PyData.canLay0 (tD ws) && decide (PyData.depth (tD ws) ≤ 64)) = true
  rw [Bool.and_eq_true]
  have := tD_deep ws
  refine ⟨by unfold tD; simp only [PyData.canLay0]; exact tD_lay h, decide_eq_true ?_⟩
  unfold tD
  simp only [PyData.depth]
  omega
theorem tD_dp {K : PySem.W.Frag} {H : Hp} {a : Addr} {ws : List (List Nat)} (h : SqL K H a (wsV ws)) : Dp K H (.ref a) (tD ws) := .lst h (wsV_all ws)
theorem tD_nil (ws : List (List Nat)) : PyData.eqv (tD ws) (.list []) = decide (ws = []) := by
  cases ws with
  | nil => simp [tD, PyData.eqv, PyData.eqvAll]
  | cons w ws => simp [tD, PyData.eqv, PyData.eqvAll]
theorem lt_one (a b : Nat) : decide (([a] : List Nat) < [b]) = decide (a < b) := by
  rw [decide_eq_decide]
  constructor
  · intro h
    cases h with
    | rel h => exact h
    | cons h => cases h
  · intro h
    exact .rel h
def spFig : Sp := fun vs H Q _ => ∃ l : List Nat, vs = [.str (TxtG.T l)] ∧ l.length ≤ 100 ∧ (∀ c ∈ l, c < 128) ∧ ∀ H', Same H H' → Q (.bl (isNumL l)) H'
section
variable {P : Program} {w : World} {K : PySem.W.Frag} {mg : Str → Option Value} {base : Heap}
theorem ok_fig {f : Addr} {fd : FuncData} (F : Fun K "_law_figures" "_law_figures" s_law_figures f fd) (B : Blt mg) : FnOk P w K mg base CX0 1 f fd ["_law_word"] spFig := by
  refine F.ok sc_law_figures (fun vs H Q E h => ?_) (fun cdv A outer s H vs Q E hr h => ?_)
  · obtain ⟨l, rfl, _⟩ := h
    rfl
  · obtain ⟨l, rfl, hz, ha, k⟩ := h
    have hu := hu_of hr
    have hu64 := hr.units
    refine ⟨_, pss_cons (ps_if (PW.pt (pw_or (pt_not (pt_chain op_le op_le pe_int (pe_callB call_len (by rfl) B.len PySem.boot_len (pa_cons (pv 0) pa_nil)) pe_int))
        (pw_or1 (pt_cmpR (op_neD hu64) (pe_lc (own := [("_law_c", 1)]) (g := gName 1) rfl sc_law_figures.nd (pi_str (pv 0)) (blkOk_by (N := n_law_figures) (sc := defScope s_law_figures) (by decide +kernel)) (fun _ _ _ _ _ => (show PG _ _ (gName 1) from pg_name (i := 1) sc_law_figures.nd rfl (Or.inl rfl))) (fun _ _ _ _ _ => pts_one (pt_not (pt_chain op_le_str op_le_str pe_str (pv 1) pe_str))) (fun _ _ _ _ _ => (show PE _ _ (tVar 1) from pv 1))) (pe_lst pa_nil) (nomark _))))) (pss_one (ps_ret pe_bl)) pss_nil)
      (pss_one (ps_ret (pe_or (pe_cmpR (op_eq) (pv 0) (pe_str) (nomark _)) (pe_one (pe_cmpR (op_ne) (pe_ix ix_str (pv 0) pe_int (fun _ _ => rfl)) (pe_str) (nomark _)))))), ?_⟩
    have hT : (TxtG.T l).length = l.length := TxtG.T_len l
    have hs : (TxtG.T l).length ≤ sizeLine := by rw [hT, sizeLine_eq]; omega
    refine ⟨_, rfl, _, l.length, rfl, ⟨hs, hT.symm⟩, _, _, rfl, rfl, _, rfl, ?_⟩
    by_cases c1 : 1 ≤ l.length
    case neg =>
      rw [decide_eq_false (show ¬ (1 : Int) ≤ (l.length : Int) by omega)]
      refine iteF ⟨_, rfl, ?_⟩
      refine iteT ?_
      have : isNumL l = false := by
        have e : l = [] := List.length_eq_zero_iff.mp (by omega)
        subst e
        rfl
      rw [this] at k
      exact k H (Same.refl _)
    rw [decide_eq_true (show (1 : Int) ≤ (l.length : Int) by omega)]
    refine iteT ⟨_, _, rfl, rfl, _, rfl, ?_⟩
    by_cases c10 : l.length ≤ 10
    case neg =>
      rw [decide_eq_false (show ¬ (l.length : Int) ≤ 10 by omega)]
      refine iteT ?_
      have : isNumL l = false := by unfold isNumL; rw [decide_eq_false c10]; simp
      rw [this] at k
      exact k H (Same.refl _)
    rw [decide_eq_true (show (l.length : Int) ≤ 10 by omega)]
    refine iteF ?_
    refine ⟨_, rfl, TxtG.T l, rfl, fun D nD => ?_⟩
    have zc : (TxtG.T l).cps.size = l.length := by rw [← Array.length_toList, SplS.T_cps]
    have isd : ∀ c : Nat, (!decide (([c] : List Nat) < [48])) = decide (48 ≤ c) := fun c => by
      rw [lt_one]
      by_cases h : c < 48
      · rw [decide_eq_true h, decide_eq_false (by omega)]; rfl
      · rw [decide_eq_false h, decide_eq_true (by omega)]; rfl
    have isn : ∀ c : Nat, (!decide (([57] : List Nat) < [c])) = decide (c ≤ 57) := fun c => by
      rw [lt_one]
      by_cases h : 57 < c
      · rw [decide_eq_true h, decide_eq_false (by omega)]; rfl
      · rw [decide_eq_false h, decide_eq_true (by omega)]; rfl
    refine lc_fm (walk_str (z := TxtG.T l)) l (fun c => !decide (48 ≤ c ∧ c ≤ 57)) (fun c => [c]) (fun _ v (x : List Nat) => v = V.str (TxtG.T x)) zc.symm (by omega) nD (fun _ _ _ _ _ _ _ q => q) (fun _ _ => trivial) ?_ ?_
    · rintro n c v G G' N M' hp sm _ ⟨rfl, c', hc', rfl⟩ no go
      obtain rfl : c = c' := by
        have : (TxtG.T l).cps.toList[n]? = some c' := by rw [Array.getElem?_toList]; exact hc'
        rw [SplS.T_cps, hp] at this
        exact Option.some.inj this
      refine ⟨rfl, ?_⟩
      refine ⟨_, rfl, _, _, rfl, rfl, _, rfl, ?_⟩
      have e0 : (Str.ofString "0").cps.toList = [48] := by decide +kernel
      have e9 : (Str.ofString "9").cps.toList = [57] := by decide +kernel
      rw [e0, isd]
      by_cases h48 : 48 ≤ c
      · rw [decide_eq_true h48]
        refine iteT ⟨_, _, rfl, rfl, _, rfl, ?_⟩
        rw [e9, isn]
        by_cases h57 : c ≤ 57
        · rw [decide_eq_true h57]
          exact iteF (no _ (by rw [decide_eq_true (And.intro h48 h57)]; rfl) (Same.refl _))
        · rw [decide_eq_false h57]
          exact iteT ⟨_, rfl, go _ _ (by rw [decide_eq_false (fun z => h57 z.2)]; rfl) (Same.refl _) rfl⟩
      · rw [decide_eq_false h48]
        refine iteF ⟨_, rfl, ?_⟩
        exact iteT ⟨_, rfl, go _ _ (by rw [decide_eq_false (fun z => h48 z.1)]; rfl) (Same.refl _) rfl⟩
    · intro G ys sm eD rel
      have eys := paired_eq (fun x : List Nat => V.str (TxtG.T x)) rel
      have eys : ys = wsV ((l.filter fun c => !decide (48 ≤ c ∧ c ≤ 57)).map fun c => [c]) := by
        rw [eys]
        unfold wsV
        rw [List.map_map, List.map_map, List.map_map]
        rfl
      rw [eys] at eD
      refine ⟨by show 0 ≤ sizeLine; decide, fun q nq => ?_⟩
      have sq := same_new (o := .lst []) nq
      refine ⟨_, .list [], tD_dp (SqL.of (sq _ _ eD)), .lst (SqL.of upd_same) .nil, tD_shaped (fun x hx c hc => ?_), by decide +kernel, _, rfl, ?_⟩
      · obtain ⟨c', hc', rfl⟩ := List.mem_map.mp hx
        obtain rfl : c = c' := by simpa using hc
        exact ha c (List.mem_filter.mp hc').1
      rw [tD_nil]
      by_cases hd : ∀ c ∈ l, 48 ≤ c ∧ c ≤ 57
      · have e : ((l.filter fun c => !decide (48 ≤ c ∧ c ≤ 57)).map fun c => [c]) = [] := by
          rw [List.filter_eq_nil_iff.mpr fun c hc => by rw [decide_eq_true (hd c hc)]; exact Bool.false_ne_true]
          rfl
        rw [e, decide_eq_true rfl]
        refine iteF ?_
        have e2 : isNumL l = (decide (l = [48]) || !decide (l.head? = some 48)) := by
          unfold isNumL
          rw [decide_eq_true (show l ≠ [] by intro z; rw [z] at c1; simp at c1), decide_eq_true c10, List.all_eq_true.mpr fun c hc => decide_eq_true (hd c hc)]
          rfl
        have ke := k _ (sm.trans sq)
        rw [e2] at ke
        refine ⟨_, rfl, rfl, _, rfl, ?_⟩
        rw [lit_zero]
        by_cases cz : l = [48]
        · rw [decide_eq_true (show V.str (TxtG.T l) = V.str (TxtG.T [48]) by rw [cz])]
          rw [decide_eq_true cz] at ke
          exact iteT ke
        · rw [decide_eq_false (show ¬ V.str (TxtG.T l) = V.str (TxtG.T [48]) from fun z => cz (SplS.T_inj (by injection z)))]
          rw [decide_eq_false cz, Bool.false_or] at ke
          obtain ⟨c, r, rfl⟩ : ∃ c r, l = c :: r := by
            cases l with
            | nil => simp at c1
            | cons c r => exact ⟨c, r, rfl⟩
          refine iteF ⟨_, rfl, _, (0 : Nat), c, rfl, rfl, hs, by rw [SplS.T_cps]; exact atI_nat (j := 0) rfl, rfl, ?_⟩
          have e3 : decide (V.str ⟨#[c]⟩ = V.str (TxtG.T [48])) = decide ((c :: r).head? = some 48) := by
            rw [decide_eq_decide]
            show V.str (TxtG.T [c]) = _ ↔ some c = some 48
            constructor
            · intro z
              have := SplS.T_inj (a := [c]) (b := [48]) (by injection z)
              simp at this
              rw [this]
            · intro z
              injection z with z
              rw [z]
          rw [e3]
          exact ke
      · have e : ((l.filter fun c => !decide (48 ≤ c ∧ c ≤ 57)).map fun c => [c]) ≠ [] := by
          intro z
          refine hd fun c hc => ?_
          have := List.filter_eq_nil_iff.mp (List.map_eq_nil_iff.mp z) c hc
          simpa using this
        rw [decide_eq_false e]
        refine iteT ?_
        have : isNumL l = false := by
          rw [← Bool.not_eq_true]
          intro z
          unfold isNumL at z
          simp only [Bool.and_eq_true, List.all_eq_true, decide_eq_true_eq] at z
          exact hd z.1.1.2
        have ke := k _ (sm.trans sq)
        rw [this] at ke
        exact ke
end
/-! ### _law_parsed -/
def LsAt (H : Hp) (us : List V) (ls : List (List (List Nat))) : Prop := us.length = ls.length ∧ ∀ (k : Nat) (ws : List (List Nat)), ls[k]? = some ws → ∃ a : Addr, us[k]? = some (.ref a) ∧ H a = some (.lst (wsV ws))
theorem LsAt.same {H H' : Hp} {us : List V} {ls : List (List (List Nat))} (h : LsAt H us ls) (e : Same H H') : LsAt H' us ls := ⟨h.1, fun k ws q => let ⟨a, q1, q2⟩ := h.2 k ws q; ⟨a, q1, e _ _ q2⟩⟩
def parF (ls : List (List (List Nat))) : ParE := match linesE 0 ls with
  | some (k, j) => .note k j
  | none => match rowE 0 0 (ls.map stoneOf) with
    | some e => .row e
    | none => .ok (ls.map stoneOf)
theorem parE_F {ls : List (List (List Nat))} (h : ls ≠ [[[]]]) : parE ls = parF ls := by unfold parE; rw [if_neg h]; rfl
def ParAt (K : PySem.W.Frag) (H : Hp) (t : Addr) : ParE → Prop
  | .note k j => ∃ l : Addr, H t = some (.tup [.str "error", .str "NotationError", .ref l]) ∧ H l = some (.lst [.int (k : Nat), .int (j : Nat)])
  | .row e => ∃ l : Addr, H t = some (.tup [.str "error", .str "InvalidRow", .ref l]) ∧ H l = some (.lst [.int (e : Nat)])
  | .ok xs => ∃ us : List V, H t = some (.tup us) ∧ StonesAt K H us xs
def spParsed (K : PySem.W.Frag) : Sp := fun vs H Q _ => ∃ (q : Addr) (us : List V) (ls : List (List (List Nat))), vs = [.ref q] ∧ H q = some (.lst us) ∧ LsAt H us ls ∧ LOk ls ∧ ∀ t H', Same H H' → ParAt K H' t (parF ls) → Q (.ref t) H'
theorem wsV_len (ws : List (List Nat)) : (wsV ws).length = ws.length := by simp [wsV]
theorem wsV_get {ws : List (List Nat)} {j : Nat} {l : List Nat} (h : ws[j]? = some l) : (wsV ws)[j]? = some (V.str (TxtG.T l)) := by
  unfold wsV
  rw [List.getElem?_map, List.getElem?_map, h]
  rfl
theorem drop_cons {α : Type} {xs : List α} {j : Nat} {x : α} (h : xs[j]? = some x) : xs.drop j = x :: xs.drop (j + 1) := by
  obtain ⟨hl, e⟩ := List.getElem?_eq_some_iff.mp h
  rw [List.drop_eq_getElem_cons hl, e]
theorem join {t : TS} {nx bk ct : L2.St → Hp → Prop} {rt : VK} {sl : L2.St} {H : Hp} (Pv : L2.St → Hp → Prop) (key : ∀ s' H', Pv s' H' → nx s' H') (main : ∀ nx' : L2.St → Hp → Prop, (∀ s' H', Pv s' H' → nx' s' H') → t { nx := nx', rt := rt, bk := bk, ct := ct } sl H) :
    t { nx := nx, rt := rt, bk := bk, ct := ct } sl H := main nx key
theorem ifS_of {t : TT} {u v : TS} {D : Ends} {σ : L2.St} {H : Hp} (b : Bool) (ht : ∀ Qb : Bool → Hp → Prop, Qb b H → t σ H Qb) (h1 : b = true → u D σ H) (h2 : b = false → v D σ H) : tIfS t u v D σ H := by
  refine ht _ ?_
  cases b with
  | true => rw [if_pos rfl]; exact h1 rfl
  | false => rw [if_neg Bool.false_ne_true]; exact h2 rfl
theorem right3 (x : List Nat) : rightL x 3 = false := by
  unfold rightL
  rw [if_neg (by decide)]
  rfl
theorem lineE_some {ws : List (List Nat)} {j : Nat} (h : badW 0 ws = some j) : lineE ws = some j := by unfold lineE; rw [h]
theorem lineE_short {ws : List (List Nat)} (h : badW 0 ws = none) (l : ws.length < 3) : lineE ws = some ws.length := by unfold lineE; rw [h]; exact if_pos l
theorem lineE_good {ws : List (List Nat)} (h : badW 0 ws = none) (l : ¬ ws.length < 3) : lineE ws = none := by unfold lineE; rw [h]; exact if_neg l
section
variable {P : Program} {w : World} {K : PySem.W.Frag} {mg : Str → Option Value} {base : Heap}
theorem ok_parsed {f g : Addr} {fd gd : FuncData} (F : Fun K "_law_parsed" "_law_parsed" s_law_parsed f fd) (B : Blt mg) (FG : At P w K mg base CX0 1 "_law_figures" ["_law_word"] spFig g gd) : FnOk P w K mg base CX0 2 f fd ["_law_lines"] (spParsed K) := by
  refine F.ok sc_law_parsed (fun vs H Q E h => ?_) (fun cdv A outer s H vs Q E hr h => ?_)
  · obtain ⟨q, us, ls, rfl, _⟩ := h
    rfl
  · obtain ⟨q, us, ls, rfl, eq0, hL, ok, k⟩ := h
    refine ⟨_, pss_cons (ps_for PassesOwn.never rfl (pi_range1 (by rfl) B.range (pa_cons (pe_callB call_len_seq (by rfl) B.len PySem.boot_len (pa_cons (pv 0) pa_nil)) pa_nil)) (pg_name (i := 1) sc_law_parsed.nd rfl (Or.inl rfl))
        (pss_cons (ps_for PassesOwn.never rfl (pi_range1 (by rfl) B.range (pa_cons (pe_int) pa_nil)) (pg_name (i := 2) sc_law_parsed.nd rfl (Or.inl rfl))
          (pss_cons (ps_set (i := 3) sc_law_parsed.nd rfl (Or.inl rfl) (pe_ix ix_list (pe_op op_cat (pe_ix ix_list (pv 0) (pv 1) (fun _ _ => rfl)) (pe_lst (pa_cons (pe_str) (pa_cons (pe_str) (pa_cons (pe_str) pa_nil))))) (pv 2) (fun _ _ => rfl)))
          (pss_cons (ps_set (i := 4) sc_law_parsed.nd rfl (Or.inl rfl) (pe_ifExp (pt_cmpR (op_eq) (pv 2) (pe_int) (nomark _)) (pe_cmpR (op_eq) (pv 3) (pe_str) (nomark _)) (pe_at FG hr (pa_cons (pv 3) pa_nil))))
          (pss_one (ps_if (PW.pt (pw_or (pt_cmpR (op_ge) (pv 2) (pe_callB call_len_seq (by rfl) B.len PySem.boot_len (pa_cons (pe_ix ix_list (pv 0) (pv 1) (fun _ _ => rfl)) pa_nil)) (nomark _)) (pw_or1 (pt_not (pt_val (pv 4)))))) (pss_one (ps_ret (pe_tup (pa_cons (pe_str) (pa_cons (pe_str) (pa_cons (pe_lst (pa_cons (pv 1) (pa_cons (pv 2) pa_nil))) pa_nil)))))) pss_nil)))))
        (pss_one (ps_if (pt_cmpR (op_gt) (pe_callB call_len_seq (by rfl) B.len PySem.boot_len (pa_cons (pe_ix ix_list (pv 0) (pv 1) (fun _ _ => rfl)) pa_nil)) (pe_int) (nomark _)) (pss_one (ps_ret (pe_tup (pa_cons (pe_str) (pa_cons (pe_str) (pa_cons (pe_lst (pa_cons (pv 1) (pa_cons (pe_int) pa_nil))) pa_nil)))))) pss_nil))))
      (pss_cons (ps_par (i := 5) (j := 6) (by rfl) sc_law_parsed.nd rfl rfl (by decide) rfl rfl (pa_cons (pe_int) (pa_cons (pe_lst pa_nil) pa_nil)) (by rfl))
      (pss_cons (ps_for PassesOwn.never rfl (pi_range1 (by rfl) B.range (pa_cons (pe_callB call_len_seq (by rfl) B.len PySem.boot_len (pa_cons (pv 0) pa_nil)) pa_nil)) (pg_name (i := 1) sc_law_parsed.nd rfl (Or.inl rfl))
        (pss_cons (ps_par (i := 7) (j := 8) (by rfl) sc_law_parsed.nd rfl rfl (by decide) rfl rfl (pa_cons (pe_callTy (call_int_str) (by rfl) B.int boot_int (pa_cons (pe_ix ix_list (pe_ix ix_list (pv 0) (pv 1) (fun _ _ => rfl)) (pe_int) (fun _ _ => rfl)) pa_nil)) (pa_cons (pe_callTy (call_int_str) (by rfl) B.int boot_int (pa_cons (pe_ix ix_list (pe_ix ix_list (pv 0) (pv 1) (fun _ _ => rfl)) (pe_int) (fun _ _ => rfl)) pa_nil)) pa_nil)) (by rfl))
        (pss_cons (ps_if (PW.pt (pw_or (pt_cmpR (op_eq) (pv 1) (pe_int) (nomark _)) (pw_or (pt_not (pt_chain op_le op_le (pv 5) (pv 7) (pe_op op_pow pe_int pe_int))) (pw_or1 (pt_not (pt_chain op_le op_le pe_int (pv 8) (pe_op op_pow pe_int pe_int))))))) (pss_one (ps_ret (pe_tup (pa_cons (pe_str) (pa_cons (pe_str) (pa_cons (pe_lst (pa_cons (pv 1) pa_nil)) pa_nil)))))) pss_nil)
        (pss_one (ps_par (i := 5) (j := 6) (by rfl) sc_law_parsed.nd rfl rfl (by decide) rfl rfl (pa_cons (pe_op op_add (pv 7) (pe_int)) (pa_cons (pe_op op_cat (pv 6) (pe_lst (pa_cons (pe_tup (pa_cons (pv 7) (pa_cons (pv 8) pa_nil))) pa_nil))) pa_nil)) (by rfl))))))
      (pss_one (ps_ret (pe_tupleOf (by rfl) B.tuple (pv 6)))))), ?_⟩
    have ul := hL.1
    have ll := ok.le
    have e10 : (10 : Int) ^ (9 : Int).toNat = 1000000000 := by decide
    refine ⟨_, rfl, q, us, rfl, .inl (SqL.of eq0), (us.length : Int), rfl, by omega, by omega, for_range (lo := 0) (n := us.length) (fun kk σ G => ∃ (s1 s2 s3 s4 s5 s6 s7 s8 : Option V), σ = [some (.ref q), s1, s2, s3, s4, s5, s6, s7, s8] ∧ Same H G ∧ linesE 0 ls = linesE kk (ls.drop kk)) ?_ ?_ ?_⟩
    · exact ⟨none, none, none, none, none, none, none, none, rfl, Same.refl _, rfl⟩
    · rintro kk σ G hk ⟨s1, s2, s3, s4, s5, s6, s7, s8, rfl, sm, eE⟩
      obtain ⟨ws, hws⟩ : ∃ ws, ls[kk]? = some ws := ⟨ls[kk]'(by omega), by simp⟩
      obtain ⟨a, ha, eaH⟩ := hL.2 kk ws hws
      have hw := ok.w ws (List.mem_of_getElem? hws)
      have wl := hw.le
      rw [drop_cons hws, linesE_cons] at eE
      have ez : (0 : Int) + (kk : Int) = (kk : Int) := Int.zero_add _
      rw [ez]
      refine nm_of ?_
      dsimp only
      show tSeq _ _ _ _ _
      refine seq_of ?_
      refine ⟨3, rfl, by decide, by decide, for_range (lo := 0) (n := 3) (fun j σ G' => ∃ (s2 s3 s4 : Option V), σ = [some (.ref q), some (.int (kk : Int)), s2, s3, s4, s5, s6, s7, s8] ∧ Same G G' ∧ j ≤ ws.length ∧ badW 0 ws = badW j (ws.drop j)) ?_ ?_ ?_⟩
      · exact ⟨_, _, _, rfl, Same.refl _, Nat.zero_le _, rfl⟩
      · rintro j σ G' hj ⟨s2, s3, s4, rfl, sG, jl, eB⟩
        have ez2 : (0 : Int) + (j : Int) = (j : Int) := Int.zero_add _
        rw [ez2]
        refine nm_of ?_
        have sG' := sm.trans sG
        have eqG := sG' _ _ eq0
        have eaG := sG' _ _ eaH
        dsimp only
        show tSeq _ _ _ _ _
        refine seq_of (asg_of ?_)
        refine ⟨_, rfl, _, rfl, q, us, (kk : Int), _, rfl, rfl, SqL.of eqG, atI_nat ha, by show 3 ≤ sizeLine; decide, fun l3 n3 => ?_⟩
        have z3 := same_new (o := .lst [V.str (Str.ofString ""), V.str (Str.ofString ""), V.str (Str.ofString "")]) n3
        refine ⟨a, l3, _, _, rfl, rfl, z3 _ _ eaG, upd_same, by rw [wsV_len]; show ws.length + 3 ≤ sizeLine; rw [sizeLine_eq]; omega, fun l4 n4 => ?_⟩
        have ep : wsV ws ++ [V.str (Str.ofString ""), V.str (Str.ofString ""), V.str (Str.ofString "")] = wsV (ws ++ [[], [], []]) := by
          have l0 : Str.ofString "" = TxtG.T [] := by decide +kernel
          rw [l0]
          unfold wsV
          rw [List.map_append, List.map_append]
          rfl
        rw [ep]
        have z4 := z3.trans (same_new (o := .lst (wsV (ws ++ [[], [], []]))) n4)
        obtain ⟨l, hl⟩ : ∃ l, (ws ++ [[], [], []])[j]? = some l := ⟨(ws ++ [[], [], []])[j]'(by rw [List.length_append]; show j < ws.length + 3; omega), by simp⟩
        have lm : l.length ≤ 20 ∧ ∀ c ∈ l, c < 128 := by
          rcases List.mem_append.mp (List.mem_of_getElem? hl) with m | m
          · exact ⟨(hw.w l m).2.2, hw.asc l m⟩
          · have e : l = [] := by simpa using m
            subst e
            exact ⟨by decide, fun c hc => (nomatch hc)⟩
        refine ⟨_, rfl, l4, _, (j : Int), _, rfl, rfl, SqL.of upd_same, atI_nat (wsV_get hl), nm_of ?_⟩
        generalize upd (upd G' l3 (.lst [V.str (Str.ofString ""), V.str (Str.ofString ""), V.str (Str.ofString "")])) l4 (.lst (wsV (ws ++ [[], [], []]))) = G2 at z4 ⊢
        dsimp only
        show tSeq _ _ _ _ _
        refine seq_of (join (fun σ2 H2 => σ2 = [some (.ref q), some (.int (kk : Int)), some (.int (j : Int)), some (.str (TxtG.T l)), some (.bl (rightL l j)), s5, s6, s7, s8] ∧ Same G H2) ?_ ?_)
        rotate_left
        · intro nx' go
          refine asg_of ?_
          refine ⟨_, rfl, rfl, _, rfl, ?_⟩
          by_cases j0 : j = 0
          · subst j0
            rw [show decide (V.int ((0 : Nat) : Int) = V.int 0) = true from rfl]
            refine iteT ⟨_, rfl, rfl, nm_of ?_⟩
            have eb : decide (V.str (TxtG.T l) = V.str (Str.ofString "stone")) = rightL l 0 := by
              rw [lit_stone]
              unfold rightL
              rw [if_pos rfl, decide_eq_decide]
              exact ⟨fun e => SplS.T_inj (by injection e), fun e => by rw [e]⟩
            rw [eb]
            exact go _ _ ⟨rfl, sG.trans z4⟩
          · rw [decide_eq_false (fun z : V.int (j : Int) = V.int 0 => j0 (by injection z with z; omega))]
            refine iteF ⟨_, rfl, l, rfl, by omega, lm.2, fun H2 s2 => nm_of ?_⟩
            have eb : isNumL l = rightL l j := by
              unfold rightL
              rw [if_neg j0, decide_eq_true hj]
              rfl
            rw [eb]
            exact go _ _ ⟨rfl, (sG.trans z4).trans s2⟩
        · rintro σ2 H2 ⟨rfl, sH2⟩
          have s2 := sm.trans sH2
          have eq2 := s2 _ _ eq0
          have ea2 := s2 _ _ eaH
          show tIfS _ _ _ _ _ _
          refine ⟨_, rfl, _, rfl, _, rfl, q, us, (kk : Int), _, rfl, rfl, SqL.of eq2, atI_nat ha, a, _, rfl, .inl (SqL.of ea2), _, _, rfl, rfl, _, rfl, ?_⟩
          rw [wsV_len]
          by_cases cj : ws.length ≤ j
          · rw [decide_eq_true (show (ws.length : Int) ≤ (j : Int) by omega)]
            refine iteT ?_
            have jw : ws.length = j := by omega
            rw [List.drop_eq_nil_of_le cj] at eB
            have eL := lineE_short eB (by omega)
            rw [eL] at eE
            refine iteT ?_
            refine ⟨_, rfl, _, rfl, by show 2 ≤ sizeLine; decide, fun l5 n5 => ⟨by show 3 ≤ sizeLine; decide, fun t nt => ?_⟩⟩
            refine k t _ ((s2.trans (same_new n5)).trans (same_new nt)) ?_
            unfold parF
            rw [eE, jw]
            exact ⟨l5, upd_same, same_new nt _ _ upd_same⟩
          · rw [decide_eq_false (show ¬ (ws.length : Int) ≤ (j : Int) by omega)]
            refine iteF ?_
            have hlw : ws[j]? = some l := by rw [List.getElem?_append_left (by omega)] at hl; exact hl
            rw [drop_cons hlw, badW_cons] at eB
            refine ⟨_, rfl, _, rfl, ?_⟩
            cases hr' : rightL l j with
            | true =>
              rw [if_pos hr'] at eB
              refine iteF (next_of ?_)
              exact ⟨_, _, _, rfl, sH2, by omega, eB⟩
            | false =>
              rw [if_neg (by rw [hr']; exact Bool.false_ne_true)] at eB
              have eL := lineE_some eB
              rw [eL] at eE
              refine iteT ?_
              refine ⟨_, rfl, _, rfl, by show 2 ≤ sizeLine; decide, fun l5 n5 => ⟨by show 3 ≤ sizeLine; decide, fun t nt => ?_⟩⟩
              refine k t _ ((s2.trans (same_new n5)).trans (same_new nt)) ?_
              unfold parF
              rw [eE]
              exact ⟨l5, upd_same, same_new nt _ _ upd_same⟩
      · rintro σ G' ⟨s2, s3, s4, rfl, sG, jl, eB⟩
        have s2' := sm.trans sG
        have eq2 := s2' _ _ eq0
        have ea2 := s2' _ _ eaH
        dsimp only
        show tIfS _ _ _ _ _ _
        refine ⟨_, rfl, _, rfl, q, us, (kk : Int), _, rfl, rfl, SqL.of eq2, atI_nat ha, a, _, rfl, .inl (SqL.of ea2), _, _, rfl, rfl, _, rfl, ?_⟩
        rw [wsV_len]
        by_cases c3 : 3 < ws.length
        · rw [decide_eq_true (show (3 : Int) < (ws.length : Int) by omega)]
          refine iteT ?_
          obtain ⟨x, hx⟩ : ∃ x, ws[3]? = some x := ⟨ws[3], by simp [c3]⟩
          rw [drop_cons hx, badW_cons, if_neg (by rw [right3]; exact Bool.false_ne_true)] at eB
          have eL := lineE_some eB
          rw [eL] at eE
          refine ⟨_, rfl, by show 2 ≤ sizeLine; decide, fun l5 n5 => ⟨by show 3 ≤ sizeLine; decide, fun t nt => ?_⟩⟩
          refine k t _ ((s2'.trans (same_new n5)).trans (same_new nt)) ?_
          unfold parF
          rw [eE]
          exact ⟨l5, upd_same, same_new nt _ _ upd_same⟩
        · rw [decide_eq_false (show ¬ (3 : Int) < (ws.length : Int) by omega)]
          refine iteF (next_of ?_)
          rw [List.drop_eq_nil_of_le (by omega)] at eB
          rw [lineE_good eB (by omega)] at eE
          exact ⟨_, _, _, _, _, _, _, _, rfl, s2', eE⟩
    · rintro σ G ⟨s1, s2, s3, s4, s5, s6, s7, s8, rfl, sm, eE⟩
      rw [ul, List.drop_length] at eE
      have eE : linesE 0 ls = none := eE
      have eP : parF ls = match rowE 0 0 (ls.map stoneOf) with
        | some e => .row e
        | none => .ok (ls.map stoneOf) := by unfold parF; rw [eE]
      have allN := linesE_all eE
      dsimp only
      show tSeq _ _ _ _ _
      refine seq_of ?_
      refine ⟨by show 0 ≤ sizeLine; decide, fun f0 nf0 => ⟨_, _, rfl, ?_⟩⟩
      have sf := sm.trans (same_new (o := .lst []) nf0)
      have ef0 : (upd G f0 (.lst [])) f0 = some (.lst []) := upd_same
      generalize upd G f0 (.lst []) = G1 at sf ef0 ⊢
      dsimp only
      show tSeq _ _ _ _ _
      refine seq_of ?_
      refine ⟨_, rfl, q, us, rfl, .inl (SqL.of (sf _ _ eq0)), (us.length : Int), rfl, by omega, by omega, for_range (lo := 0) (n := us.length) (fun kk σ G => ∃ (lo : Int) (fl : Addr) (fs : List V) (s1 s7 s8 : Option V), σ = [some (.ref q), s1, s2, s3, s4, some (.int lo), some (.ref fl), s7, s8] ∧ Same H G ∧ G fl = some (.lst fs) ∧ StonesAt K G fs ((ls.take kk).map stoneOf) ∧ rowE 0 0 (ls.map stoneOf) = rowE kk lo ((ls.drop kk).map stoneOf)) ?_ ?_ ?_⟩
      · exact ⟨0, f0, [], s1, s7, s8, rfl, sf, ef0, StonesAt.nil, rfl⟩
      · rintro kk σ G hk ⟨lo, fl, fs, s1, s7, s8, rfl, sG, eF, hS, eR⟩
        obtain ⟨ws, hws⟩ : ∃ ws, ls[kk]? = some ws := ⟨ls[kk]'(by omega), by simp⟩
        obtain ⟨a, ha, eaH⟩ := hL.2 kk ws hws
        obtain ⟨wa, wb, rfl, na, nb⟩ := lineE_none (allN ws (List.mem_of_getElem? hws))
        have hw := ok.w _ (List.mem_of_getElem? hws)
        have la := (hw.w wa (by simp)).2.2
        have lb := (hw.w wb (by simp)).2.2
        rw [drop_cons hws, List.map_cons, rowE_cons] at eR
        have est : stoneOf [stoneL, wa, wb] = (numV wa, numV wb) := rfl
        rw [est] at eR
        have ez : (0 : Int) + (kk : Int) = (kk : Int) := Int.zero_add _
        rw [ez]
        refine nm_of ?_
        have eqG := sG _ _ eq0
        have eaG := sG _ _ eaH
        dsimp only
        show tSeq _ _ _ _ _
        refine seq_of ?_
        refine ⟨_, rfl, _, rfl, q, us, (kk : Int), _, rfl, rfl, SqL.of eqG, atI_nat ha, a, _, ((1 : Nat) : Int), _, rfl, rfl, SqL.of eaG, atI_nat (wsV_get (j := 1) rfl), _, _, rfl, read_num na, by rw [TxtG.T_len]; omega,
          _, rfl, _, rfl, q, us, (kk : Int), _, rfl, rfl, SqL.of eqG, atI_nat ha, a, _, ((2 : Nat) : Int), _, rfl, rfl, SqL.of eaG, atI_nat (wsV_get (j := 2) rfl), _, _, rfl, read_num nb, by rw [TxtG.T_len]; omega, _, _, rfl, ?_⟩
        dsimp only
        show tSeq _ _ _ _ _
        refine seq_of (ifS_of (decide (kk = 40 ∨ ¬ (lo ≤ numV wa ∧ numV wa ≤ 1000000000 ∧ 1 ≤ numV wb ∧ numV wb ≤ 1000000000))) (fun Qb qb => ?_) (fun hb => ?_) fun hb => ?_)
        · refine ⟨_, rfl, rfl, _, rfl, ?_⟩
          by_cases c40 : kk = 40
          · rw [show decide (V.int (kk : Int) = V.int 40) = true from by subst c40; rfl]
            rw [decide_eq_true (.inl c40)] at qb
            exact iteT qb
          · rw [decide_eq_false (fun z : V.int (kk : Int) = V.int 40 => c40 (by injection z with z; omega))]
            refine iteF ⟨_, rfl, _, rfl, _, _, rfl, rfl, _, rfl, ?_⟩
            by_cases cl : lo ≤ numV wa
            · rw [decide_eq_true cl]
              refine iteT ⟨_, _, rfl, rfl, ⟨by decide, by decide⟩, _, _, rfl, rfl, _, rfl, ?_⟩
              rw [e10]
              by_cases cp : numV wa ≤ 1000000000
              · rw [decide_eq_true cp]
                refine iteF ⟨_, rfl, _, _, rfl, rfl, _, rfl, ?_⟩
                by_cases ch : 1 ≤ numV wb
                · rw [decide_eq_true ch]
                  refine iteT ⟨_, _, rfl, rfl, ⟨by decide, by decide⟩, _, _, rfl, rfl, _, rfl, ?_⟩
                  rw [e10]
                  by_cases cg : numV wb ≤ 1000000000
                  · rw [decide_eq_true cg]
                    rw [decide_eq_false (fun z => z.elim c40 fun z => z ⟨cl, cp, ch, cg⟩)] at qb
                    exact qb
                  · rw [decide_eq_false cg]
                    rw [decide_eq_true (.inr fun z => cg z.2.2.2)] at qb
                    exact qb
                · rw [decide_eq_false ch]
                  rw [decide_eq_true (.inr fun z => ch z.2.2.1)] at qb
                  exact iteF ⟨_, rfl, qb⟩
              · rw [decide_eq_false cp]
                rw [decide_eq_true (.inr fun z => cp z.2.1)] at qb
                exact iteT qb
            · rw [decide_eq_false cl]
              rw [decide_eq_true (.inr fun z => cl z.1)] at qb
              refine iteF ⟨_, rfl, ?_⟩
              exact iteT qb
        · rw [if_pos (of_decide_eq_true hb)] at eR
          rw [eR] at eP
          refine ⟨_, rfl, by show 1 ≤ sizeLine; decide, fun l5 n5 => ⟨by show 3 ≤ sizeLine; decide, fun t nt => ?_⟩⟩
          refine k t _ ((sG.trans (same_new n5)).trans (same_new nt)) ?_
          rw [eP]
          exact ⟨l5, upd_same, same_new nt _ _ upd_same⟩
        · rw [if_neg (of_decide_eq_false hb)] at eR
          refine next_of ?_
          dsimp only
          refine ⟨_, rfl, _, _, rfl, rfl, _, rfl, _, rfl, _, rfl, by show 2 ≤ sizeLine; decide, fun T1 nT1 => ⟨by show 1 ≤ sizeLine; decide, fun l2 nl2 => ?_⟩⟩
          have sT := same_new (o := .tup [V.int (numV wa), V.int (numV wb)]) nT1
          have sl2 := same_new (o := .lst [V.ref T1]) nl2
          have s2 := sT.trans sl2
          have fl40 : fs.length ≤ 60 := by rw [hS.1, List.length_map, List.length_take]; omega
          refine ⟨fl, l2, fs, _, rfl, rfl, s2 _ _ eF, upd_same, by show fs.length + 1 ≤ sizeLine; rw [sizeLine_eq]; omega, fun fl2 nf2 => ⟨_, _, rfl, ?_⟩⟩
          have s3 := s2.trans (same_new (o := .lst (fs ++ [V.ref T1])) nf2)
          have hS2 := hS.same s3
          have eT : SqT K (upd (upd (upd G T1 (.tup [V.int (numV wa), V.int (numV wb)])) l2 (.lst [V.ref T1])) fl2 (.lst (fs ++ [V.ref T1]))) T1 [V.int (numV wa), V.int (numV wb)] := SqT.of ((sl2.trans (same_new nf2)) _ _ upd_same)
          refine ⟨_, fl2, _, _, _, _, rfl, sG.trans s3, upd_same, ?_, eR⟩
          rw [List.take_add_one, hws, List.map_append]
          exact hS2.append (StonesAt.one (x := stoneOf [stoneL, wa, wb]) eT)
      · rintro σ G ⟨lo, fl, fs, s1, s7, s8, rfl, sG, eF, hS, eR⟩
        rw [ul, List.drop_length] at eR
        have eR : rowE 0 0 (ls.map stoneOf) = none := eR
        rw [eR] at eP
        rw [ul, List.take_length] at hS
        refine ⟨_, rfl, .inl ⟨fl, fs, rfl, SqL.of eF, fun t nt => ?_⟩⟩
        refine k t _ (sG.trans (same_new nt)) ?_
        rw [eP]
        exact ⟨fs, upd_same, hS.same (same_new nt)⟩
end
/-! ### lines in the heap -/
def LnsAt (H : Hp) (q : Addr) (ls : List (List (List Nat))) : Prop := ∃ us, H q = some (.lst us) ∧ LsAt H us ls
theorem LnsAt.same {H H' : Hp} {q : Addr} {ls : List (List (List Nat))} (h : LnsAt H q ls) (e : Same H H') : LnsAt H' q ls := let ⟨us, a, b⟩ := h; ⟨us, e _ _ a, b.same e⟩
theorem str_not_cell {H : Hp} {L a b : Addr} {ws : List (List Nat)} (c : Cell H L a) (h : H b = some (.lst (wsV ws))) : b ≠ L := by
  rintro rfl
  obtain ⟨i, s, r, z, _⟩ := c
  rw [z] at h
  cases ws with
  | nil => cases h
  | cons w ws => cases h
theorem lns_not_cell {H : Hp} {L a q : Addr} {us : List V} {ls : List (List (List Nat))} (c : Cell H L a) (h : H q = some (.lst us)) (hl : LsAt H us ls) : q ≠ L := by
  rintro rfl
  obtain ⟨i, s, r, z, _⟩ := c
  rw [z] at h
  obtain rfl : us = _ := by
    have e := Option.some.inj h
    injection e with e
    exact e.symm
  have h4 := hl.1
  obtain ⟨w1, hw⟩ : ∃ w1, ls[1]? = some w1 := ⟨ls[1]'(by rw [← h4]; show 1 < 4; decide), by simp⟩
  obtain ⟨b, hb, _⟩ := hl.2 1 w1 hw
  simp at hb
theorem LsAt.butC {H H' : Hp} {L a : Addr} {us : List V} {ls : List (List (List Nat))} (c : Cell H L a) (b : But L H H') (hl : LsAt H us ls) : LsAt H' us ls :=
  ⟨hl.1, fun k ws q => let ⟨x, q1, q2⟩ := hl.2 k ws q; ⟨x, q1, b _ _ (str_not_cell c q2) q2⟩⟩
theorem LnsAt.butC {H H' : Hp} {L a q : Addr} {ls : List (List (List Nat))} (c : Cell H L a) (b : But L H H') (h : LnsAt H q ls) : LnsAt H' q ls :=
  let ⟨us, h1, h2⟩ := h; ⟨us, b _ _ (lns_not_cell c h1 h2) h1, h2.butC c b⟩
/-- a line's list is not the list that holds lines -/
theorem LsAt.apart {H : Hp} {D a : Addr} {ys : List V} {ls : List (List (List Nat))} {w : List (List Nat)} (h : LsAt H ys ls) (hD : H D = some (.lst ys)) (ha : H a = some (.lst (wsV w))) (nw : w ≠ []) : a ≠ D := by
  rintro rfl
  rw [hD] at ha
  obtain rfl : ys = wsV w := by
    have e := Option.some.inj ha
    injection e
  have h1 := h.1
  cases w with
  | nil => exact nw rfl
  | cons x w =>
    cases ls with
    | nil => rw [wsV_len] at h1; simp at h1
    | cons l ls =>
      obtain ⟨b, hb, _⟩ := h.2 0 l rfl
      cases hb
theorem LsAt.nil {H : Hp} : LsAt H [] [] := ⟨rfl, fun k ws q => by simp at q⟩
theorem LsAt.put {H : Hp} {D y : Addr} {ys : List V} {ls : List (List (List Nat))} {w : List (List Nat)} (h : LsAt H ys ls) (hD : H D = some (.lst ys)) (ne : ∀ ws ∈ ls, ws ≠ []) (hy : H y = some (.lst (wsV w))) (nw : w ≠ []) :
    LsAt (upd H D (.lst (ys ++ [.ref y]))) (ys ++ [.ref y]) (ls ++ [w]) := by
  refine ⟨by rw [List.length_append, List.length_append, h.1]; rfl, fun k ws q => ?_⟩
  by_cases hk : k < ls.length
  · rw [List.getElem?_append_left hk] at q
    obtain ⟨a, q1, q2⟩ := h.2 k ws q
    exact ⟨a, by rw [List.getElem?_append_left (by rw [h.1]; exact hk)]; exact q1, by rw [upd_ne (h.apart hD q2 (ne ws (List.mem_of_getElem? q)))]; exact q2⟩
  · rw [List.getElem?_append_right (by omega)] at q
    have e : k - ls.length = 0 := by
      have := (List.getElem?_eq_some_iff.mp q).1
      simp at this
      omega
    rw [e] at q
    obtain rfl : w = ws := by simpa using q
    refine ⟨y, by rw [List.getElem?_append_right (by rw [h.1]; omega), h.1, e]; rfl, by rw [upd_ne (h.apart hD hy nw)]; exact hy⟩
theorem LsAt.app {H : Hp} {us vs : List V} {ls ms : List (List (List Nat))} (h : LsAt H us ls) (g : LsAt H vs ms) : LsAt H (us ++ vs) (ls ++ ms) := by
  refine ⟨by rw [List.length_append, List.length_append, h.1, g.1], fun k ws q => ?_⟩
  by_cases hk : k < ls.length
  · rw [List.getElem?_append_left hk] at q
    obtain ⟨a, q1, q2⟩ := h.2 k ws q
    exact ⟨a, by rw [List.getElem?_append_left (by rw [h.1]; exact hk)]; exact q1, q2⟩
  · rw [List.getElem?_append_right (by omega)] at q
    obtain ⟨a, q1, q2⟩ := g.2 _ ws q
    exact ⟨a, by rw [List.getElem?_append_right (by rw [h.1]; omega), h.1]; exact q1, q2⟩
theorem cut_ws (ws : List (List Nat)) (lo hi : Option Int) : ∃ ms : List (List Nat), cutV (wsV ws) lo hi = wsV ms ∧ (∀ x ∈ ms, x ∈ ws) ∧ ms.length ≤ ws.length := by
  unfold cutV
  refine ⟨(ws.drop (HT.sIx (wsV ws).length 0 lo)).take (HT.sIx (wsV ws).length (wsV ws).length hi - HT.sIx (wsV ws).length 0 lo), ?_, fun x hx => List.mem_of_mem_drop (List.mem_of_mem_take hx), ?_⟩
  · unfold wsV
    rw [List.map_take, List.map_drop, List.map_take, List.map_drop]
  · rw [List.length_take, List.length_drop]
    omega
theorem LsAt.sub {H : Hp} {us : List V} {ls : List (List (List Nat))} (h : LsAt H us ls) (a b : Nat) : LsAt H ((us.drop a).take b) ((ls.drop a).take b) := by
  refine ⟨by rw [List.length_take, List.length_take, List.length_drop, List.length_drop, h.1], fun k ws q => ?_⟩
  rw [List.getElem?_take] at q
  split at q
  · rename_i hk
    rw [List.getElem?_drop] at q
    obtain ⟨x, q1, q2⟩ := h.2 _ ws q
    exact ⟨x, by rw [List.getElem?_take, if_pos hk, List.getElem?_drop]; exact q1, q2⟩
  · cases q
theorem cut_ls {H : Hp} {us : List V} {ls : List (List (List Nat))} (h : LsAt H us ls) (lo hi : Option Int) : ∃ ms, LsAt H (cutV us lo hi) ms ∧ (∀ x ∈ ms, x ∈ ls) ∧ ms.length ≤ ls.length := by
  unfold cutV
  refine ⟨_, h.sub _ _, fun x hx => List.mem_of_mem_drop (List.mem_of_mem_take hx), ?_⟩
  rw [List.length_take, List.length_drop]
  omega
theorem LsAt.set {H : Hp} {q y : Addr} {us : List V} {ls : List (List (List Nat))} {w : List (List Nat)} {k : Nat} (h : LsAt H us ls) (hq : H q = some (.lst us)) (hy : H y = some (.lst (wsV w))) (yq : y ≠ q) (ne : ∀ ws ∈ ls, ws ≠ []) (hk : k < ls.length) :
    LsAt (upd H q (.lst (us.set k (.ref y)))) (us.set k (.ref y)) (ls.set k w) := by
  refine ⟨by rw [List.length_set, List.length_set, h.1], fun j ws e => ?_⟩
  by_cases hj : k = j
  · subst hj
    rw [List.getElem?_set_self (by omega)] at e
    obtain rfl : w = ws := Option.some.inj e
    exact ⟨y, by rw [List.getElem?_set_self (by rw [h.1]; exact hk)], by rw [upd_ne yq]; exact hy⟩
  · rw [List.getElem?_set_ne hj] at e
    obtain ⟨a, q1, q2⟩ := h.2 j ws e
    exact ⟨a, by rw [List.getElem?_set_ne hj]; exact q1, by rw [upd_ne (h.apart hq q2 (ne ws (List.mem_of_getElem? e)))]; exact q2⟩
/-- words that may stand in a line -/
structure GW (ws : List (List Nat)) : Prop where
  le : ws.length ≤ 10
  w : ∀ x ∈ ws, 32 ∉ x ∧ 10 ∉ x ∧ x.length ≤ 20
  asc : ∀ x ∈ ws, ∀ c ∈ x, c < 128
def fixL (ws : List (List Nat)) : List (List Nat) := if ws = [] then [[]] else ws
theorem fix_ok {ws : List (List Nat)} (h : GW ws) : WOk (fixL ws) := by
  unfold fixL
  by_cases e : ws = []
  · rw [if_pos e]
    exact ⟨by simp, by decide, fun x hx => by rw [List.mem_singleton.mp hx]; exact ⟨by simp, by simp, by decide⟩, fun x hx => by rw [List.mem_singleton.mp hx]; exact fun c hc => (nomatch hc)⟩
  · rw [if_neg e]
    exact ⟨e, by have := h.le; omega, h.w, h.asc⟩
/-- the words of a stone's line -/
theorem digs_asc (a : Int) : ∀ c ∈ FmtS.digs a, c < 128 := fun c hc => by have := digs_all c hc; omega
theorem words_ok {x : Int × Int} (h0 : 0 ≤ x.1) (h1 : x.1 ≤ 1000000000) (h2 : 1 ≤ x.2) (h3 : x.2 ≤ 1000000000) : GW (wordsL x) := by
  have l1 := TxtG.digs_len h0 (by omega)
  have l2 := TxtG.digs_len (a := x.2) (by omega) (by omega)
  refine ⟨by show 3 ≤ 10; decide, fun y hy => ?_, fun y hy => ?_⟩
  · simp only [wordsL, List.mem_cons, List.not_mem_nil, or_false] at hy
    rcases hy with rfl | rfl | rfl
    · exact ⟨by decide, by decide, by decide⟩
    · exact ⟨no_32, no_10, by omega⟩
    · exact ⟨no_32, no_10, by omega⟩
  · simp only [wordsL, List.mem_cons, List.not_mem_nil, or_false] at hy
    rcases hy with rfl | rfl | rfl
    · decide
    · exact digs_asc _
    · exact digs_asc _
theorem numV_digs {a : Int} (h0 : 0 ≤ a) (h1 : a ≤ 1000000000) : numV (FmtS.digs a) = a := by
  have e1 := read_num (isNum_digs h0 h1)
  rw [read_digs h0 h1] at e1
  exact (Option.some.inj e1).symm
theorem lineE_words {x : Int × Int} (h0 : 0 ≤ x.1) (h1 : x.1 ≤ 1000000000) (h2 : 1 ≤ x.2) (h3 : x.2 ≤ 1000000000) : lineE (wordsL x) = none ∧ stoneOf (wordsL x) = x := by
  have r0 : rightL (FmtS.digs x.1) 1 = true := by unfold rightL; rw [if_neg (by decide), isNum_digs h0 h1]; rfl
  have r1 : rightL (FmtS.digs x.2) 2 = true := by unfold rightL; rw [if_neg (by decide), isNum_digs (by omega) h3]; rfl
  have rs : rightL stoneL 0 = true := by decide
  refine ⟨?_, ?_⟩
  · unfold lineE wordsL
    rw [badW_cons, if_pos rs, badW_cons, if_pos r0, badW_cons, if_pos r1]
    rfl
  · show (numV (FmtS.digs x.1), numV (FmtS.digs x.2)) = x
    rw [numV_digs h0 h1, numV_digs (by omega) h3]
theorem linesE_good : ∀ {ls : List (List (List Nat))} {k : Nat}, (∀ ws ∈ ls, lineE ws = none) → linesE k ls = none
  | [], _, _ => rfl
  | ws :: ls, k, h => by
    rw [linesE_cons, h ws (by simp)]
    exact linesE_good fun v hv => h v (by simp [hv])
theorem parE_words {xs : List (Int × Int)} (hw : Wf 0 xs) (hz : xs.length ≤ 40) : parE (xs.map wordsL) = .ok xs := by
  have hb : ∀ x ∈ xs, 0 ≤ x.1 ∧ x.1 ≤ 1000000000 ∧ 1 ≤ x.2 ∧ x.2 ≤ 1000000000 := fun x hx => by
    obtain ⟨n, hn⟩ := List.getElem?_of_mem hx
    obtain ⟨_, _, w1, w2, w3⟩ := hw.get hn
    exact ⟨hw.low hn, w1, w2, w3⟩
  have ne : xs.map wordsL ≠ [[[]]] := by
    intro z
    cases xs with
    | nil => cases z
    | cons x xs => cases z
  have e1 : linesE 0 (xs.map wordsL) = none := linesE_good fun ws hm => by
    obtain ⟨x, hx, rfl⟩ := List.mem_map.mp hm
    obtain ⟨h0, h1, h2, h3⟩ := hb x hx
    exact (lineE_words h0 h1 h2 h3).1
  have e2 : (xs.map wordsL).map stoneOf = xs := by
    rw [List.map_map]
    have : ∀ x ∈ xs, (stoneOf ∘ wordsL) x = id x := fun x hx => by
      obtain ⟨h0, h1, h2, h3⟩ := hb x hx
      exact (lineE_words h0 h1 h2 h3).2
    rw [List.map_congr_left this, List.map_id]
  unfold parE
  rw [if_neg ne, e1]
  dsimp only
  rw [e2, rowE_none hw (by omega)]
theorem rowL_txt (xs : List (Int × Int)) : rowL xs = txtL (xs.map wordsL) := by
  unfold rowL txtL
  rw [List.map_map]
  rfl
/-- what is expected, as data -/
def parD : ParE → PyData
  | .note k j => .tuple [.str "error", .str "NotationError", .list [.int (k : Nat), .int (j : Nat)]]
  | .row e => .tuple [.str "error", .str "InvalidRow", .list [.int (e : Nat)]]
  | .ok xs => stonesD xs
theorem parD_shaped (r : ParE) : SeqAt.shaped (parD r) = true := by
  cases r with
  | ok xs => exact stones_shaped xs
  | note k j =>
    show (PyData.canLay0 (parD (.note k j)) && decide (PyData.depth (parD (.note k j)) ≤ 64)) = true
    rw [Bool.and_eq_true]
    refine ⟨by simp [parD, PyData.canLay0, PyData.canLayAll0, PyData.strOk]; decide +kernel, decide_eq_true (by simp [parD, PyData.depth, PyData.depthAll])⟩
  | row e =>
    show (PyData.canLay0 (parD (.row e)) && decide (PyData.depth (parD (.row e)) ≤ 64)) = true
    rw [Bool.and_eq_true]
    refine ⟨by simp [parD, PyData.canLay0, PyData.canLayAll0, PyData.strOk]; decide +kernel, decide_eq_true (by simp [parD, PyData.depth, PyData.depthAll])⟩
theorem parD_eqv (r : ParE) : PyData.eqv (parD r) (parD r) = true := SeqAt.eqv_refl _ (SeqAt.canLay_of_shaped (parD_shaped r))
theorem ParAt.dp {K : PySem.W.Frag} {H : Hp} {t : Addr} {r : ParE} (h : ParAt K H t r) : Dp K H (.ref t) (parD r) := by
  cases r with
  | ok xs =>
    obtain ⟨us, e, hS⟩ := h
    exact stones_dp (SqT.of e) hS
  | note k j =>
    obtain ⟨l, e1, e2⟩ := h
    exact .tup (SqT.of e1) (.cons (.str _) (.cons (.str _) (.cons (.lst (SqL.of e2) (.cons (.int _) (.cons (.int _) .nil))) .nil)))
  | row e =>
    obtain ⟨l, e1, e2⟩ := h
    exact .tup (SqT.of e1) (.cons (.str _) (.cons (.str _) (.cons (.lst (SqL.of e2) (.cons (.int _) .nil)) .nil)))
theorem ParAt.same {K : PySem.W.Frag} {H H' : Hp} {t : Addr} {r : ParE} (h : ParAt K H t r) (s : Same H H') : ParAt K H' t r := by
  cases r with
  | ok xs =>
    obtain ⟨us, e, hS⟩ := h
    exact ⟨us, s _ _ e, hS.same s⟩
  | note k j =>
    obtain ⟨l, e1, e2⟩ := h
    exact ⟨l, s _ _ e1, s _ _ e2⟩
  | row e =>
    obtain ⟨l, e1, e2⟩ := h
    exact ⟨l, s _ _ e1, s _ _ e2⟩
/-- many lines -/
def manyL (n : Nat) : List (List (List Nat)) := (List.range n).map fun (k : Nat) => [stoneL, FmtS.digs (k : Int), [49]]
theorem many_ok {n : Nat} (h : n = 40 ∨ n = 41) : LOk (manyL n) := by
  have key : ∀ k : Nat, k < 41 → (FmtS.digs (k : Int)).length ≤ 20 := by decide +kernel
  rcases h with rfl | rfl <;> refine ⟨by decide +kernel, by decide +kernel, fun ws hm => ?_⟩ <;>
  · obtain ⟨k, hk, rfl⟩ := List.mem_map.mp hm
    have hk := List.mem_range.mp hk
    have kl := key k (by omega)
    refine ⟨by simp, by show 3 ≤ 20; decide, fun y hy => ?_, fun y hy => ?_⟩
    · simp only [List.mem_cons, List.not_mem_nil, or_false] at hy
      rcases hy with rfl | rfl | rfl
      · exact ⟨by decide, by decide, by decide⟩
      · exact ⟨no_32, no_10, kl⟩
      · exact ⟨by decide, by decide, by decide⟩
    · simp only [List.mem_cons, List.not_mem_nil, or_false] at hy
      rcases hy with rfl | rfl | rfl
      · decide
      · exact digs_asc _
      · decide
theorem many_40 : (match parE (manyL 40) with | .ok xs => decide (xs.length = 40) | _ => false) = true := by decide +kernel
theorem many_41 : (match parE (manyL 41) with | .row e => decide (e = 40) | _ => false) = true := by decide +kernel
theorem cells_txt (k : Int) : txtW [stoneL, FmtS.digs k, [49]] = (stoneL ++ [32]) ++ FmtS.digs k ++ [32, 49] := by
  show stoneL ++ 32 :: (FmtS.digs k ++ 32 :: [49]) = _
  simp
/-! ### what stands while tables grow -/
def qL : Str := (("law" : Str) ++ (".<locals>." : Str)) ++ ("<lambda>" : Str)
theorem sqT_extN {H H' : Hp} {a : Addr} {xs : List V} {K : PySem.W.Frag} (e : LamX.ExtN H H') (h : SqT K H a xs) : SqT K H' a xs := by
  rcases h with (h | ⟨o, h⟩) | h
  · exact .inl (.inl (e _ _ h fun ps z => nomatch z))
  · exact .inl (.inr ⟨o, e _ _ h fun ps z => nomatch z⟩)
  · exact .inr h
theorem sqL_extN {H H' : Hp} {a : Addr} {xs : List V} {K : PySem.W.Frag} (e : LamX.ExtN H H') (h : SqL K H a xs) : SqL K H' a xs := by
  rcases h with (h | ⟨o, h⟩) | h
  · exact .inl (.inl (e _ _ h fun ps z => nomatch z))
  · exact .inl (.inr ⟨o, e _ _ h fun ps z => nomatch z⟩)
  · exact .inr h
theorem extN_of {H H' : Hp} (e : Same H H') : LamX.ExtN H H' := fun b o h _ => e b o h
theorem tabs_same {T : List (Addr × Str)} {H H' : Hp} (e : Same H H') (h : LamX.Tabs T H) : LamX.Tabs T H' := LamX.Tabs.ext h e
theorem tabs_but {T : List (Addr × Str)} {H H' : Hp} {L : Addr} {ys : List V} (e : But L H H') (hL : H L = some (.lst ys)) (h : LamX.Tabs T H) : LamX.Tabs T H' := fun p hp => by
  obtain ⟨ps, a, b, c⟩ := h p hp
  refine ⟨ps, e _ _ (fun z => by rw [z, hL] at a; cases a) a, b, fun pos cv q => ?_⟩
  obtain ⟨c0, d1, d2⟩ := c pos cv q
  exact ⟨c0, d1, e _ _ (fun z => by rw [z, hL] at d2; cases d2) d2⟩
theorem StonesAt.map {K : PySem.W.Frag} {H H' : Hp} {us : List V} {xs : List (Int × Int)} (h : StonesAt K H us xs) (f : ∀ a ys, SqT K H a ys → SqT K H' a ys) : StonesAt K H' us xs :=
  ⟨h.1, fun k x q => let ⟨a, q1, q2⟩ := h.2 k x q; ⟨a, q1, f _ _ q2⟩⟩
theorem Drw.extN {K : PySem.W.Frag} {H H' : Hp} {L a : Addr} {ns : List Int} (h : Drw K H L a ns) (e : LamX.ExtN H H') : Drw K H' L a ns :=
  let ⟨i, s, r, h1, h2, h3, h4, h5⟩ := h; ⟨i, s, r, e _ _ h1 (fun ps z => nomatch z), h2, h3, h4, sqL_extN e h5⟩
theorem RowAt.extN {K : PySem.W.Frag} {C : Addr} {H H' : Hp} {p : Addr} {xs : List (Int × Int)} (h : RowAt K C H p xs) (e : LamX.ExtN H H') : RowAt K C H' p xs :=
  let ⟨dx, t, us, h1, h2, h3⟩ := h; ⟨dx, t, us, e _ _ h1 (fun ps z => nomatch z), sqT_extN e h2, h3.map fun _ _ => sqT_extN e⟩
/-! ### k46's law -/
theorem ParAt.extN {K : PySem.W.Frag} {H H' : Hp} {t : Addr} {r : ParE} (h : ParAt K H t r) (s : LamX.ExtN H H') : ParAt K H' t r := by
  cases r with
  | ok xs =>
    obtain ⟨us, e, hS⟩ := h
    exact ⟨us, s _ _ e (fun ps z => nomatch z), hS.map fun _ _ => sqT_extN s⟩
  | note k j =>
    obtain ⟨l, e1, e2⟩ := h
    exact ⟨l, s _ _ e1 (fun ps z => nomatch z), s _ _ e2 (fun ps z => nomatch z)⟩
  | row e =>
    obtain ⟨l, e1, e2⟩ := h
    exact ⟨l, s _ _ e1 (fun ps z => nomatch z), s _ _ e2 (fun ps z => nomatch z)⟩
def rStrI : List V → Hp → VK → Prop := fun vs G R => ∃ n, vs = [V.int n] ∧ n.natAbs.log2 < 1920 ∧ R (V.str (Str.ofString (toString n))) G
def rJn (K : PySem.W.Frag) : V → List V → Hp → VK → Prop := fun v vs G R => ∃ z q, ∃ ts : List PySem.Str, v = V.str z ∧ vs = [V.ref q] ∧ (SqL K G q (ts.map V.str) ∨ SqT K G q (ts.map V.str)) ∧
  (ts.map (·.length)).sum + ts.length * z.length ≤ 16777216 ∧ R (V.str (Txt.join z ts)) G
def rAddS : R2 := fun v v' G R => ∃ z z', v = V.str z ∧ v' = V.str z' ∧ z.length + z'.length ≤ sizeLine ∧ R (V.str (z ++ z')) G
def tWordsE : TE := tLst (tCons (tC (V.str (Str.ofString "stone"))) (tCons (tCB rStrI (tCons (tVar 5) tNil)) (tCons (tCB rStrI (tCons (tVar 6) tNil)) tNil)))
def tLineJ (K : PySem.W.Frag) : TE := tM1 (rJn K) (tC (V.str (Str.ofString " "))) (tVar 8)
def tFixE (K : PySem.W.Frag) : TE := tIf (tTest (tOp (rNeD K) (tVar 8) (tLst tNil))) (tVar 8) (tLst (tCons (tC (V.str (Str.ofString ""))) tNil))
def tManyE : TE := tOp rAddS (tOp rAddS (tC (V.str (Str.ofString "stone "))) (tCB rStrI (tCons (tVar 9) tNil))) (tC (V.str (Str.ofString " 1")))
theorem sum_le {b : Nat} : ∀ {ps : List (List Nat)}, (∀ p ∈ ps, p.length ≤ b) → (((ps.map TxtG.T).map (·.length)).sum) ≤ b * ps.length
  | [], _ => by simp
  | p :: ps, h => by
    have h1 := h p (by simp)
    have ih := sum_le (ps := ps) fun x hx => h x (by simp [hx])
    have : (TxtG.T p).length = p.length := TxtG.T_len p
    rw [List.map_cons, List.map_cons, List.sum_cons, List.length_cons, Nat.mul_add, Nat.mul_one]
    omega
theorem joinT {K : PySem.W.Frag} {x0 x1 x2 x3 x5 x6 x7 x8 x9 x10 x11 x12 x13 x14 x15 : Option V} {q : Addr} {ls : List (List (List Nat))} {H : Hp} {Q : VK} (h : LnsAt H q ls) (ok : ∀ ws ∈ ls, WOk ws) (lz : ls.length ≤ 60)
    (k : ∀ H', Same H H' → Q (.str (TxtG.T (txtL ls))) H') :
    tM1 (rJn K) (tC (V.str (Str.ofString "\n"))) (tLc (iList K (tVar 4)) (gName 8) tYes (tLineJ K) [8]) [x0, x1, x2, x3, some (.ref q), x5, x6, x7, x8, x9, x10, x11, x12, x13, x14, x15] H Q := by
  obtain ⟨us, eq, hL⟩ := h
  have ul := hL.1
  refine ⟨⟨_, rfl⟩, _, rfl, q, rfl, ⟨_, SqL.of eq⟩, fun D nD => ?_⟩
  refine lc_fm (walk_list (K := K) (a := q) (xs := us)) ls (fun _ => true) txtW (fun _ v (x : List Nat) => v = V.str (TxtG.T x)) ul.symm (by omega) nD (fun _ _ _ _ _ _ _ q => q) (fun _ e => SqL.of (e _ _ eq)) ?_ ?_
  · rintro n ws v G G' N M' hp sm _ ⟨rfl, hx⟩ _ go
    obtain ⟨a, ha, ea⟩ := hL.2 n ws hp
    obtain rfl : v = .ref a := Option.some.inj (hx.symm.trans ha)
    have w := ok ws (List.mem_of_getElem? hp)
    have wl := w.le
    refine ⟨rfl, ?_⟩
    refine ⟨⟨_, rfl⟩, _, rfl, _, a, ws.map TxtG.T, rfl, rfl, .inl (SqL.of (sm _ _ ea)), ?_, ?_⟩
    · have := sum_le (b := 20) (ps := ws) fun p hp => (w.w p hp).2.2
      have l1 : (Str.ofString " ").length = 1 := by decide +kernel
      rw [l1, List.length_map]
      omega
    · rw [lit_spc, SplS.txtJoin_T]
      exact go _ _ rfl (Same.refl _) rfl
  · intro G ys sm eD rel
    rw [List.filter_eq_self.mpr (fun _ _ => rfl)] at rel
    have e := paired_eq (fun l : List Nat => V.str (TxtG.T l)) rel
    have eys : ys = ((ls.map txtW).map TxtG.T).map V.str := by
      rw [e, List.map_map, List.map_map, List.map_map]
      rfl
    refine ⟨_, D, (ls.map txtW).map TxtG.T, rfl, rfl, .inl (SqL.of (by rw [eD, eys])), ?_, ?_⟩
    · have := sum_le (b := 420) (ps := ls.map txtW) fun p hp => by
        obtain ⟨ws, hm, rfl⟩ := List.mem_map.mp hp
        exact txtW_len (ok ws hm)
      have l1 : (Str.ofString "\n").length = 1 := by decide +kernel
      rw [l1, List.length_map, List.length_map]
      rw [List.length_map] at this
      omega
    · rw [lit_nl, SplS.txtJoin_T]
      exact k _ sm
theorem ixk {n i : Nat} (h : i < n) : ixN n (i : Int) = some i := by
  unfold ixN
  rw [if_pos (by omega), if_pos (by omega)]
  rfl
/-- the words that the law puts in -/
structure OddW (o : List Nat) : Prop where
  w : 32 ∉ o ∧ 10 ∉ o ∧ o.length ≤ 20
  asc : ∀ c ∈ o, c < 128
theorem odd_of {v : V} (h : v ∈ [V.str (Str.ofString ""), V.str (Str.ofString "0"), V.str (Str.ofString "1"), V.str (Str.ofString "01"), V.str (Str.ofString "stone"), V.str (Str.ofString "-1"), V.str (Str.ofString "1000000001"), V.str (Str.ofString "10000000000"), V.str (Str.ofString "x"), V.str (Str.ofString "59")]) :
    ∃ o, v = V.str (TxtG.T o) ∧ OddW o := by
  simp only [List.mem_cons, List.not_mem_nil, or_false] at h
  rcases h with rfl | rfl | rfl | rfl | rfl | rfl | rfl | rfl | rfl | rfl
  · exact ⟨[], congrArg V.str (by decide +kernel), by decide, by decide⟩
  · exact ⟨[48], congrArg V.str (by decide +kernel), by decide, by decide⟩
  · exact ⟨[49], congrArg V.str (by decide +kernel), by decide, by decide⟩
  · exact ⟨[48, 49], congrArg V.str (by decide +kernel), by decide, by decide⟩
  · exact ⟨stoneL, congrArg V.str (by decide +kernel), by decide, by decide⟩
  · exact ⟨[45, 49], congrArg V.str (by decide +kernel), by decide, by decide⟩
  · exact ⟨[49, 48, 48, 48, 48, 48, 48, 48, 48, 49], congrArg V.str (by decide +kernel), by decide, by decide⟩
  · exact ⟨[49, 48, 48, 48, 48, 48, 48, 48, 48, 48, 48], congrArg V.str (by decide +kernel), by decide, by decide⟩
  · exact ⟨[120], congrArg V.str (by decide +kernel), by decide, by decide⟩
  · exact ⟨[53, 57], congrArg V.str (by decide +kernel), by decide, by decide⟩
theorem GW.put {ws as bs : List (List Nat)} {o : List Nat} (h : GW ws) (ha : ∀ x ∈ as, x ∈ ws) (hb : ∀ x ∈ bs, x ∈ ws) (ho : OddW o) (l : as.length + 1 + bs.length ≤ 10) : GW (as ++ [o] ++ bs) := by
  have key : ∀ x ∈ as ++ [o] ++ bs, x ∈ ws ∨ x = o := fun x hx => by
    simp only [List.mem_append, List.mem_singleton] at hx
    rcases hx with (hx | hx) | hx
    · exact .inl (ha x hx)
    · exact .inr hx
    · exact .inl (hb x hx)
  refine ⟨by simp only [List.length_append, List.length_cons, List.length_nil]; omega, fun x hx => ?_, fun x hx => ?_⟩
  · rcases key x hx with q | rfl
    · exact h.w x q
    · exact ho.w
  · rcases key x hx with q | rfl
    · exact h.asc x q
    · exact ho.asc
theorem GW.sub {ws as : List (List Nat)} (h : GW ws) (ha : ∀ x ∈ as, x ∈ ws) (l : as.length ≤ ws.length) : GW as :=
  ⟨by have := h.le; omega, fun x hx => h.w x (ha x hx), fun x hx => h.asc x (ha x hx)⟩
theorem GW.set {ls : List (List (List Nat))} {w : List (List Nat)} {k : Nat} (h : ∀ ws ∈ ls, GW ws) (g : GW w) : ∀ ws ∈ ls.set k w, GW ws := fun ws hm => by
  rcases List.mem_or_eq_of_mem_set hm with q | rfl
  · exact h ws q
  · exact g
theorem wsV_app (as bs : List (List Nat)) : wsV as ++ wsV bs = wsV (as ++ bs) := by
  unfold wsV
  rw [List.map_append, List.map_append]
theorem Drw.butD {K : PySem.W.Frag} {H H' : Hp} {L a D : Addr} {ns : List Int} {us : List V} {ls : List (List (List Nat))} (h : Drw K H L a ns) (eD : H D = some (.lst us)) (hL : LsAt H us ls) (ne : ls ≠ []) (b : But D H H') : Drw K H' L a ns := by
  have LD : L ≠ D := (lns_not_cell h.cell eD hL).symm
  obtain ⟨i, s, r, h1, h2, h3, h4, h5⟩ := h
  refine ⟨i, s, r, b _ _ LD h1, h2, h3, h4, ?_⟩
  rcases h5 with (q | ⟨o, q⟩) | q
  · refine .inl (.inl (b _ _ ?_ q))
    rintro rfl
    rw [q] at eD
    obtain rfl : ns.map V.int = us := by
      have e := Option.some.inj eD
      injection e
    obtain ⟨w, hw⟩ : ∃ w, ls[0]? = some w := ⟨ls[0]'(List.length_pos_iff.mpr ne), by simp⟩
    obtain ⟨x, hx, _⟩ := hL.2 0 w hw
    rw [List.getElem?_map] at hx
    cases e : ns[0]? with
    | none => rw [e] at hx; cases hx
    | some n => rw [e] at hx; cases hx
  · exact .inl (.inr ⟨o, b _ _ (ne_of q eD (by intro z; cases z)) q⟩)
  · exact .inr q
theorem LsAt.one {H : Hp} {y : Addr} {w : List (List Nat)} (hy : H y = some (.lst (wsV w))) : LsAt H [V.ref y] [w] := ⟨rfl, fun k ws q => by
  cases k with
  | zero =>
    obtain rfl : w = ws := by simpa using q
    exact ⟨y, rfl, hy⟩
  | succ k => simp at q⟩
theorem fix_ne (ws : List (List Nat)) : fixL ws ≠ [] := by
  unfold fixL
  split
  · simp
  · assumption
theorem many_res {n : Nat} (h : n = 40 ∨ n = 41) : (∃ xs, parE (manyL n) = .ok xs ∧ xs.length = 40) ∨ parE (manyL n) = .row 40 := by
  rcases h with rfl | rfl
  · have := many_40
    cases e : parE (manyL 40) with
    | ok xs =>
      rw [e] at this
      exact .inl ⟨xs, rfl, of_decide_eq_true this⟩
    | note k j => rw [e] at this; cases this
    | row k => rw [e] at this; cases this
  · have := many_41
    cases e : parE (manyL 41) with
    | ok xs => rw [e] at this; cases this
    | note k j => rw [e] at this; cases this
    | row k =>
      rw [e] at this
      obtain rfl : k = 40 := of_decide_eq_true this
      exact .inr rfl
theorem one_ok : LOk [[[]]] := ⟨by simp, by decide, fun ws hm => by
  rw [List.mem_singleton.mp hm]
  exact fix_ok (ws := []) ⟨by decide, fun x hx => (nomatch hx), fun x hx => (nomatch hx)⟩⟩
mutual
theorem Dp.same {K : PySem.W.Frag} {H H' : Hp} (e : Same H H') : ∀ {v : V} {d : PyData}, Dp K H v d → Dp K H' v d
  | _, _, .non => .non
  | _, _, .bl b => .bl b
  | _, _, .int i => .int i
  | _, _, .str x => .str x
  | _, _, .lst h a => .lst (e.seq h) (DpAll.same e a)
  | _, _, .tup h a => .tup (sqT_same h e) (DpAll.same e a)
theorem DpAll.same {K : PySem.W.Frag} {H H' : Hp} (e : Same H H') : ∀ {vs : List V} {ds : List PyData}, DpAll K H vs ds → DpAll K H' vs ds
  | _, _, .nil => .nil
  | _, _, .cons h t => .cons (Dp.same e h) (DpAll.same e t)
end
def spLaw (K : PySem.W.Frag) (T : List (Addr × Str)) : Sp := fun vs H Q _ => ∃ (a : Addr) (ns : List Int), vs = [.ref a] ∧ SqL K H a (ns.map V.int) ∧ ns.length ≤ 63 ∧ LamX.Tabs T H ∧ ∀ H', Q (.bl true) H'
section
variable {P : Program} {w : World} {K : PySem.W.Frag} {mg : Str → Option Value} {base : Heap}
theorem ok_law {Y : Exc11} {C C2 C5 f1 f2 f3 f4 f5 f6 f7 f8 pP gP : Addr} {d1 d2 d3 d4 d5 d6 d7 d8 dP : FuncData}
    {f c Pt g gi gl : Addr} {oC kV doc pm ct dVr kVr docr pmr cdr ctr ocr : Value} {an od' anr odr : Option Addr} {osl oslr : Array (Option Value)} {T : List (Addr × Str)}
    (B : Blt mg) (bs : mg "str" = none) (R : RowC K mg C)
    (MK : Mk K C gi) (G : FnR P w K mg base CX0 3 gi (spMake K C)) (SL : Sign K C "__len__" gl) (GL : FnR P w K mg base CX0 1 gl (spLen K C))
    (pr : PropOf K C "stones" pP gP) (P1 : FnOk P w K mg base CX0 1 gP dP ["self"] (spGet K C)) (bP : Binds K dP ["self"] [])
    (ND : At P w K mg base CX0 1 "_law_dice" ["_law_script"] (spDice K) f1 d1) (NX : At P w K mg base CX0 1 "_law_next" ["_law_dice_here", "_law_many"] (spNext K) f2 d2) (S2 : At P w K mg base CX0 2 "_law_stones" ["_law_d", "_law_most"] (spStones K) f3 d3)
    (R6 : At P w K mg base CX0 6 "_law_made" ["_law_stones_here"] (spRow K C) f4 d4) (PK : At P w K mg base CX0 2 "_law_pick" ["_law_d", "_law_some"] (spPick K) f5 d5)
    (PD : At P w K mg base CX0 2 "_law_parsed" ["_law_lines"] (spParsed K) f6 d6) (FR : At P w K mg base CX0 3 "format_row" ["row"] (spFmt K C) f7 d7) (PR : At P w K mg base (L2.CX P w) 5 "parse_row" ["text"] (spParseE K C C5 C2) f8 d8)
    (M : ExcMW mg Y) (o2 : ExcOfW K Y C2 2) (o5 : ExcOfW K Y C5 5)
    (lk : K.lookup f = some ⟨oC, od', .func (PySem.W.fnOf "law" "law" (defArgs s_law) (defBody s_law) (defScope s_law) .none kV doc pm an (.ref c) ct), osl⟩) (hcd : PySem.W.codeIn K (.ref c) "law" = true)
    (mR : mg "_law_told" = some (.ref g)) (kR : PySem.W.keepIn K (.ref g) = true) (lkR : K.lookup g = some ⟨ocr, odr, .func (PySem.W.fnOf "_law_told" "_law_told" (defArgs s_law_told) (defBody s_law_told) (defScope s_law_told) dVr kVr docr pmr anr cdr ctr), oslr⟩)
    (hcR : PySem.W.codeIn K cdr "_law_told" = true) (bR : L2.Binds K (PySem.W.fnOf "_law_told" "_law_told" (defArgs s_law_told) (defBody s_law_told) (defScope s_law_told) dVr kVr docr pmr anr cdr ctr) ["_law_work"] [])
    (TB : LamX.TabB base mg c Pt) (inT : (Pt, qL) ∈ T) (one : ∀ p ∈ T, p.1 = Pt → p.2 = qL) :
    FnOk P w K mg base CX0 8 f (PySem.W.fnOf "law" "law" (defArgs s_law) (defBody s_law) (defScope s_law) .none kV doc pm an (.ref c) ct) ["_law_script"] (spLaw K T) := by
  refine fn_of lk hcd sc_law (fun vs H Q E h => ?_) (fun A outer s H vs Q E hr hsp => ?_)
  · obtain ⟨a, ns, rfl, _⟩ := h
    rfl
  · obtain ⟨a, ns, rfl, hs, hn63, tabs, k⟩ := hsp
    have hu := hu_of hr
    have hu64 := hr.units
    have r6 : Room 6 _ := hr.mono (by decide)
    have r5 : Room 5 _ := hr.mono (by decide)
    have r4 : Room 4 _ := hr.mono (by decide)
    have r3 : Room 3 _ := hr.mono (by decide)
    have r2 : Room 2 _ := hr.mono (by decide)
    have r1 : Room 1 _ := hr.mono (by decide)
    have hu65 : (A.deeper (envOfC "law" (defScope s_law) s.heap.objs.size f (.ref c))).units + 65 < cLine := by have := hr.un; omega
    have hG := told_givesW (X := (cxOf CX0 P w K mg base n_law "law" (defScope s_law) f (.ref c) A outer s H E).nox) (Z := Y) (g := g) (cdg := cdr) M B (by have := hr.un; show (A.deeper _).units + 130 < cLine; omega)
    suffices hh : ∃ t, PSs (cxOf CX0 P w K mg base n_law "law" (defScope s_law) f (.ref c) A outer s H E).nox (defBody s_law) t ∧ t { nx := fun _ H' => Q .non H', rt := Q } (start n_law [.ref a]) H by
      obtain ⟨t, q1, q2⟩ := hh
      exact ⟨t, q1.nox, q2⟩
    refine ⟨_, pss_cons (ps_set (i := 1) sc_law.nd rfl (Or.inl rfl) (pe_at ND r1 (pa_cons (pv 0) pa_nil)))
      (pss_cons (ps_for PassesOwn.never rfl (pi_range1 (by rfl) B.range (pa_cons (pe_int) pa_nil)) (pg_name (i := 2) sc_law.nd rfl (Or.inl rfl))
        (pss_cons (ps_set (i := 3) sc_law.nd rfl (Or.inl rfl) (pe_op op_cat (pe_at S2 r2 (pa_cons (pv 1) (pa_cons (pe_int) pa_nil))) (pe_lst (pa_cons (pe_tup (pa_cons (pe_at PK r2 (pa_cons (pv 1) (pa_cons (pe_lst (pa_cons (pe_int) (pa_cons (pe_op op_pow pe_int pe_int) pa_nil))) pa_nil))) (pa_cons (pe_at PK r2 (pa_cons (pv 1) (pa_cons (pe_lst (pa_cons (pe_int) (pa_cons (pe_op op_pow pe_int pe_int) pa_nil))) pa_nil))) pa_nil))) pa_nil))))
        (pss_cons (ps_setLc (i := 4) (own := [("_law_place", 5), ("_law_height", 6)]) (g := gTup K 2 (gCons (gName 5) (gCons (gName 6) gNil))) (tt := tYes) rfl sc_law.nd rfl rfl (sw_true rfl rfl rfl (by decide +kernel)) (pi_list (pv 3)) (blkOk_by (N := n_law) (sc := defScope s_law) (by decide +kernel))
            (fun _ _ _ _ _ => (show PG _ _ (gTup K 2 (gCons (gName 5) (gCons (gName 6) gNil))) from pg_tup rfl (pgs_cons (pg_name (i := 5) sc_law.nd rfl (Or.inl rfl)) (pgs_cons (pg_name (i := 6) sc_law.nd rfl (Or.inl rfl)) pgs_nil)))) (fun _ _ _ _ _ => pts_nil)
            (fun _ _ _ _ _ => (show PE _ _ tWordsE from pe_lst (pa_cons (pe_str) (pa_cons (pe_callTy call_str_int (by rfl) bs boot_str (pa_cons (pv 5) pa_nil)) (pa_cons (pe_callTy call_str_int (by rfl) bs boot_str (pa_cons (pv 6) pa_nil)) pa_nil))))))
        (pss_cons (ps_set (i := 7) sc_law.nd rfl (Or.inr rfl) (pe_join pe_str (pe_lc (own := [("_law_line", 8)]) (g := gName 8) (tt := tYes) rfl sc_law.nd (pi_list (pv 4)) (blkOk_by (N := n_law) (sc := defScope s_law) (by decide +kernel)) (fun _ _ _ _ _ => (show PG _ _ (gName 8) from pg_name (i := 8) sc_law.nd rfl (Or.inl rfl))) (fun _ _ _ _ _ => pts_nil) (fun _ _ _ _ _ => (show PE _ _ (tLineJ K) from pe_join pe_str (pv 8))))))
        (pss_cons (ps_if (PW.pt (pw_or (pt_cmpR (op_ne) (pe_at FR r3 (pa_cons (pe_at R6 r6 (pa_cons (pv 3) pa_nil)) pa_nil)) (pv 7) (nomark _)) (pw_or1 (pt_cmpR (op_neD hu64) (pe_prop (pe_call PR.ok r5 (by rfl) PR.m PR.kp PR.b .nil passL (pa_cons (pv 7) pa_nil)) R.cl pr P1 r2 bP .nil pass0 rfl) (pe_tupleOf (by rfl) B.tuple (pv 3)) (nomark _))))) (pss_one (ps_ret pe_bl)) pss_nil)
        (pss_cons (ps_set (i := 9) sc_law.nd rfl (Or.inl rfl) (pe_at NX r1 (pa_cons (pv 1) (pa_cons (pe_callB call_len_seq (by rfl) B.len PySem.boot_len (pa_cons (pv 4) pa_nil)) pa_nil))))
        (pss_cons (ps_par (i := 10) (j := 11) (by rfl) sc_law.nd rfl rfl (by decide) rfl rfl (pa_cons (pe_at NX r1 (pa_cons (pv 1) (pa_cons (pe_op op_add (pe_callB call_len_seq (by rfl) B.len PySem.boot_len (pa_cons (pe_ix ix_list (pv 4) (pv 9) (fun _ _ => rfl)) pa_nil)) (pe_int)) pa_nil))) (pa_cons (pe_at NX r1 (pa_cons (pv 1) (pa_cons (pe_int) pa_nil))) pa_nil)) (by rfl))
        (pss_cons (ps_set (i := 12) sc_law.nd rfl (Or.inl rfl) (pe_at PK r2 (pa_cons (pv 1) (pa_cons (pe_lst (pa_cons pe_str (pa_cons pe_str (pa_cons pe_str (pa_cons pe_str (pa_cons pe_str (pa_cons pe_str (pa_cons (pe_str) (pa_cons (pe_str) (pa_cons (pe_str) (pa_cons (pe_str) pa_nil))))))))))) pa_nil))))
        (pss_cons (ps_if (pt_cmpR (op_eq) (pv 11) (pe_int) (nomark _)) (pss_one (ps_asg (pe_slice sl_list (pe_ix ix_list (pv 4) (pv 9) (fun _ _ => rfl)) po_none (po_some (pv 10))) (pg_sub (pv 4) (pv 9) set_list)))
          (pss_one (ps_if (pt_cmpR (op_eq) (pv 11) (pe_int) (nomark _)) (pss_one (ps_asg (pe_op op_cat (pe_op op_cat (pe_slice sl_list (pe_ix ix_list (pv 4) (pv 9) (fun _ _ => rfl)) po_none (po_some (pv 10))) (pe_lst (pa_cons (pv 12) pa_nil))) (pe_slice sl_list (pe_ix ix_list (pv 4) (pv 9) (fun _ _ => rfl)) (po_some (pe_op op_add (pv 10) (pe_int))) po_none)) (pg_sub (pv 4) (pv 9) set_list)))
            (pss_one (ps_if (pt_cmpR (op_eq) (pv 11) (pe_int) (nomark _)) (pss_one (ps_asg (pe_op op_cat (pe_op op_cat (pe_slice sl_list (pe_ix ix_list (pv 4) (pv 9) (fun _ _ => rfl)) po_none (po_some (pv 10))) (pe_lst (pa_cons (pv 12) pa_nil))) (pe_slice sl_list (pe_ix ix_list (pv 4) (pv 9) (fun _ _ => rfl)) (po_some (pv 10)) po_none)) (pg_sub (pv 4) (pv 9) set_list)))
              (pss_one (ps_set (i := 4) sc_law.nd rfl (Or.inl rfl) (pe_op op_cat (pe_op op_cat (pe_slice sl_list (pv 4) po_none (po_some (pv 9))) (pe_lst (pa_cons (pe_callTy (call_list_of) (by rfl) B.list boot_list (pa_cons (pe_at PK r2 (pa_cons (pv 1) (pa_cons (pv 4) pa_nil))) pa_nil)) pa_nil))) (pe_slice sl_list (pv 4) (po_some (pv 9)) po_none)))))))))
        (pss_cons (ps_setLc (i := 4) (own := [("_law_line", 8)]) (g := gName 8) (tt := tYes) rfl sc_law.nd rfl rfl (sw_true rfl rfl rfl (by decide +kernel)) (pi_list (pv 4)) (blkOk_by (N := n_law) (sc := defScope s_law) (by decide +kernel)) (fun _ _ _ _ _ => (show PG _ _ (gName 8) from pg_name (i := 8) sc_law.nd rfl (Or.inl rfl))) (fun _ _ _ _ _ => pts_nil)
            (fun _ _ _ _ _ => (show PE _ _ (tFixE K) from pe_ifExp (pt_cmpR (op_neD hu64) (pv 8) (pe_lst pa_nil) (nomark _)) (pv 8) (pe_lst (pa_cons (pe_str) pa_nil)))))
        (pss_cons (ps_set (i := 7) sc_law.nd rfl (Or.inr rfl) (pe_join pe_str (pe_lc (own := [("_law_line", 8)]) (g := gName 8) (tt := tYes) rfl sc_law.nd (pi_list (pv 4)) (blkOk_by (N := n_law) (sc := defScope s_law) (by decide +kernel)) (fun _ _ _ _ _ => (show PG _ _ (gName 8) from pg_name (i := 8) sc_law.nd rfl (Or.inl rfl))) (fun _ _ _ _ _ => pts_nil) (fun _ _ _ _ _ => (show PE _ _ (tLineJ K) from pe_join pe_str (pv 8))))))
        (pss_cons (ps_set (i := 13) sc_law.nd rfl (Or.inl rfl) (pe_ifExp (pt_cmpR (op_ne) (pv 7) (pe_str) (nomark _)) (pe_at PD r2 (pa_cons (pv 4) pa_nil)) (pe_tup pa_nil)))
        (pss_one (ps_if (pt_cmpR (op_neD hu64) (LamV.pe_give (k := 5) (by rfl) mR kR lkR hcR bR sc_law_told rfl (.inl rfl) hG hr (pa_cons (LamV.pe_lam0 TB rfl inT one (LamV.lamN_by (N := n_law) (sc := defScope s_law) (by decide +kernel)).free rfl) pa_nil)) (pv 13) (nomark _)) (pss_one (ps_ret pe_bl)) pss_nil))))))))))))))
      (pss_cons (ps_set (i := 14) sc_law.nd rfl (Or.inr rfl) (pe_join pe_str (pe_lc (own := [("_law_k", 9)]) (g := gName 9) (tt := tYes) rfl sc_law.nd (pi_range1 (by rfl) B.range (pa_cons (pe_op op_add (pe_int) (pe_at NX r1 (pa_cons (pv 1) (pa_cons (pe_int) pa_nil)))) pa_nil)) (blkOk_by (N := n_law) (sc := defScope s_law) (by decide +kernel)) (fun _ _ _ _ _ => (show PG _ _ (gName 9) from pg_name (i := 9) sc_law.nd rfl (Or.inl rfl))) (fun _ _ _ _ _ => pts_nil) (fun _ _ _ _ _ => (show PE _ _ tManyE from pe_op op_add_str (pe_op op_add_str pe_str (pe_callTy call_str_int (by rfl) bs boot_str (pa_cons (pv 9) pa_nil))) pe_str)))))
      (pss_cons (ps_set (i := 15) sc_law.nd rfl (Or.inl rfl) (LamV.pe_give (k := 5) (by rfl) mR kR lkR hcR bR sc_law_told rfl (.inl rfl) hG hr (pa_cons (LamV.pe_lam1 TB rfl inT one (LamV.lamN_by (N := n_law) (sc := defScope s_law) (by decide +kernel)).free rfl rfl (pe_int)) pa_nil)))
      (pss_one (ps_ret (pe_and (pe_cmpR (LcX.op_inT hu65) (pv 15) (pe_tup (pa_cons (pe_int) (pa_cons (pe_tup (pa_cons (pe_str) (pa_cons (pe_str) (pa_cons (pe_lst (pa_cons (pe_int) pa_nil)) pa_nil)))) pa_nil))) (by rfl)) (pe_and (pe_cmpR (op_eq) (pe_at FR r3 (pa_cons (Own.pe_makeR0 MK G r4 (by rfl) R.mgC pass0) pa_nil)) (pe_str) (nomark _)) (pe_one (pe_cmpR (op_eqD hu64) (pe_prop (pe_call PR.ok r5 (by rfl) PR.m PR.kp PR.b .nil passL (pa_cons (pe_str) pa_nil)) R.cl pr P1 r2 bP .nil pass0 rfl) (pe_tup pa_nil) (nomark _)))))))))), ?_⟩
    -- the dice
    refine ⟨_, rfl, a, ns, rfl, hs, hn63, fun L0 H1 s1 nL D1 => ?_⟩
    have t1 := tabs_same s1 tabs
    have e10 : (10 : Int) ^ (9 : Int).toNat = 1000000000 := by decide
    refine nm_of ?_
    refine ⟨6, rfl, by decide, by decide, for_range (lo := 0) (n := 6) (fun j σ G => ∃ (s2 s3 s4 s5 s6 s7 s8 s9 s10 s11 s12 s13 s14 s15 : Option V), σ = [some (.ref a), some (.ref L0), s2, s3, s4, s5, s6, s7, s8, s9, s10, s11, s12, s13, s14, s15] ∧ LamX.Tabs T G ∧ Drw K G L0 a ns) ?_ ?_ ?_⟩
    · exact ⟨_, _, _, _, _, _, _, _, _, _, _, _, _, _, rfl, t1, D1⟩
    · rintro jt σ G hj ⟨s2, s3, s4, s5, s6, s7, s8, s9, s10, s11, s12, s13, s14, s15, rfl, tG, DG⟩
      refine nm_of ?_
      refine seq_of (asg_of ?_)
      -- the stones
      refine ⟨_, rfl, L0, a, ns, 8, rfl, by decide, by decide, DG, fun sl us xs H4 D4 b4 nsl esl hS hw hd hz => ?_⟩
      obtain ⟨yL, eL⟩ := DG.cell.list
      have slL : sl ≠ L0 := fun e => by rw [e, eL] at nsl; cases nsl
      have t4 := tabs_but b4 eL tG
      have ul : us.length = xs.length := hS.1
      refine ⟨_, rfl, _, _, rfl, rfl, ⟨by decide, by decide⟩, by show 2 ≤ sizeLine; decide, fun l1 nl1 => ?_⟩
      obtain ⟨yL4, eL4⟩ := D4.cell.list
      have l1L : l1 ≠ L0 := fun e => by rw [e, eL4] at nl1; cases nl1
      have z1 := same_new (o := .lst [V.int 60, V.int ((10 : Int) ^ (9 : Int).toNat)]) nl1
      refine ⟨L0, a, l1, ns, _, rfl, D4.up z1, upd_same, l1L, by show 0 < 2; decide, by show 2 ≤ 1000; decide, fun v iv H5 hv D5 b5 => ?_⟩
      obtain ⟨p1, rfl, hp1⟩ : ∃ p : Int, v = .int p ∧ 60 ≤ p ∧ p ≤ 1000000000 := by
        have := List.mem_of_getElem? hv
        simp only [List.mem_cons, List.not_mem_nil, or_false] at this
        rcases this with rfl | rfl <;> first | exact ⟨_, rfl, by omega, by omega⟩ | exact ⟨_, rfl, by rw [e10]; omega, by rw [e10]; omega⟩
      have esl5 := b5 _ _ slL (z1 _ _ esl)
      have hS5 := (hS.same z1).but (z1 _ _ eL4) b5
      have t5 := tabs_but b5 (z1 _ _ eL4) (tabs_same z1 t4)
      refine ⟨_, rfl, _, _, rfl, rfl, ⟨by decide, by decide⟩, by show 2 ≤ sizeLine; decide, fun l2 nl2 => ?_⟩
      obtain ⟨yL5, eL5⟩ := D5.cell.list
      have l2L : l2 ≠ L0 := fun e => by rw [e, eL5] at nl2; cases nl2
      have z2 := same_new (o := .lst [V.int 1, V.int ((10 : Int) ^ (9 : Int).toNat)]) nl2
      refine ⟨L0, a, l2, ns, _, rfl, D5.up z2, upd_same, l2L, by show 0 < 2; decide, by show 2 ≤ 1000; decide, fun v iv2 H6 hv2 D6 b6 => ?_⟩
      obtain ⟨p2, rfl, hp2⟩ : ∃ p : Int, v = .int p ∧ 1 ≤ p ∧ p ≤ 1000000000 := by
        have := List.mem_of_getElem? hv2
        simp only [List.mem_cons, List.not_mem_nil, or_false] at this
        rcases this with rfl | rfl <;> first | exact ⟨_, rfl, by omega, by omega⟩ | exact ⟨_, rfl, by rw [e10]; omega, by rw [e10]; omega⟩
      have esl6 := b6 _ _ slL (z2 _ _ esl5)
      have hS6 := (hS5.same z2).but (z2 _ _ eL5) b6
      have t6 := tabs_but b6 (z2 _ _ eL5) (tabs_same z2 t5)
      clear hv hv2 b5 b6 z1 z2 l1L l2L nl1 nl2 eL4 eL5 D4 D5 t4 t5 hS5 esl5 b4
      refine ⟨by show 2 ≤ sizeLine; decide, fun T1 nT1 => ?_⟩
      refine ⟨by show 1 ≤ sizeLine; decide, fun l3 nl3 => ?_⟩
      have sT := same_new (o := .tup [V.int p1, V.int p2]) nT1
      have sl2 := same_new (o := .lst [V.ref T1]) nl3
      have s57 := sT.trans sl2
      have hT1 : SqT K (upd (upd H6 T1 (.tup [V.int p1, V.int p2])) l3 (.lst [V.ref T1])) T1 [V.int p1, V.int p2] := sqT_same (SqT.of upd_same) sl2
      have el3 : (upd (upd H6 T1 (.tup [V.int p1, V.int p2])) l3 (.lst [V.ref T1])) l3 = some (.lst [V.ref T1]) := upd_same
      generalize upd (upd H6 T1 (.tup [V.int p1, V.int p2])) l3 (.lst [V.ref T1]) = H7 at hT1 s57 el3 ⊢
      refine ⟨sl, l3, us, _, rfl, rfl, s57 _ _ esl6, el3, by show us.length + 1 ≤ sizeLine; rw [sizeLine_eq]; omega, fun sr nsr => ?_⟩
      have srs := same_new (o := .lst (us ++ [V.ref T1])) nsr
      have hS8 : StonesAt K (upd H7 sr (.lst (us ++ [V.ref T1]))) (us ++ [V.ref T1]) (xs ++ [(p1, p2)]) := ((hS6.same s57).append (StonesAt.one (x := (p1, p2)) hT1)).same srs
      have esr : (upd H7 sr (.lst (us ++ [V.ref T1]))) sr = some (.lst (us ++ [V.ref T1])) := upd_same
      have D8 := D6.up (s57.trans srs)
      have t8 := tabs_same (s57.trans srs) t6
      have hw8 : Wf 0 (xs ++ [(p1, p2)]) := by
        refine Wf.snoc hw (by show 0 ≤ p1; omega) (fun x hx => ?_) (by show p1 ≤ _; omega) (by show 1 ≤ p2; omega) (by show p2 ≤ 1000000000; omega)
        have := (hd x hx).2.1
        show x.1 + 1 ≤ p1
        omega
      have hz8 : (xs ++ [(p1, p2)]).length ≤ 9 := by rw [List.length_append]; simp; omega
      have hn8 : xs ++ [(p1, p2)] ≠ [] := by simp
      generalize upd H7 sr (.lst (us ++ [V.ref T1])) = H8 at hS8 esr D8 t8 ⊢
      generalize xs ++ [(p1, p2)] = ys at hS8 hw8 hz8 hn8
      generalize us ++ [V.ref T1] = vs at hS8 esr
      have vl : vs.length = ys.length := hS8.1
      clear srs nsr hT1 s57 el3 sl2 sT nl3 nT1 hS6 esl6 D6 t6 slL eL hS hw hd hz esl nsl ul hp1 hp2
      refine nm_of ?_
      dsimp only
      show tSeq _ _ _ _ _
      refine seq_of ?_
      -- the lines
      refine ⟨_, rfl, sr, rfl, ⟨_, SqL.of esr⟩, fun D nD => ?_⟩
      refine lc_it (walk_list (K := K) (a := sr) (xs := vs)) (fun i G => But D H8 G ∧ ∃ qs, G D = some (.lst qs) ∧ LsAt G qs ((ys.take i).map wordsL)) ?_ ?_ ?_ ?_
      · exact ⟨but_upd, [], upd_same, LsAt.nil⟩
      · rintro i G _ ⟨b, _⟩
        exact SqL.of (But.same b nD _ _ esr)
      · rintro i v G G' hi ⟨b, qs, eD, hL⟩ ⟨rfl, hv⟩
        have hiy : i < ys.length := by omega
        obtain ⟨x, hx⟩ : ∃ x, ys[i]? = some x := ⟨ys[i], by simp [hiy]⟩
        have sm : Same H8 G' := But.same b nD
        obtain ⟨cs, hc, hsc⟩ := hS8.2 i x hx
        obtain rfl : v = .ref cs := Option.some.inj (hv.symm.trans hc)
        obtain ⟨_, _, w1, w2, w3⟩ := hw8.get hx
        have w0 : 0 ≤ x.1 := hw8.low hx
        have w02 : 0 ≤ x.2 := by omega
        refine ⟨cs, _, rfl, sqT_same hsc sm, rfl, _, _, rfl, _, _, rfl, rfl, rfl, ?_⟩
        refine ⟨_, rfl, _, rfl, log_sm w0 (by omega), _, rfl, _, rfl, log_sm w02 (by omega), by show 3 ≤ sizeLine; decide, fun e ne => ?_⟩
        have se := same_new (o := .lst [V.str (Str.ofString "stone"), V.str (Str.ofString (toString x.1)), V.str (Str.ofString (toString x.2))]) ne
        have ee : (upd G' e (.lst [V.str (Str.ofString "stone"), V.str (Str.ofString (toString x.1)), V.str (Str.ofString (toString x.2))])) e = some (.lst (wsV (wordsL x))) := by
          rw [upd_same, lit_stone, T_int w0, T_int w02]
          rfl
        have eD2 := se _ _ eD
        have lq : qs.length = i := by rw [hL.1, List.length_map, List.length_take]; omega
        refine ⟨qs, eD2, by rw [sizeLine_eq]; omega, (b.trans (Same.but se D)).trans but_upd, _, upd_same, ?_⟩
        have := (hL.same se).put eD2 (fun ws hm => by
          obtain ⟨y, _, rfl⟩ := List.mem_map.mp hm
          simp [wordsL]) ee (by simp [wordsL])
        rw [List.take_add_one, hx, List.map_append]
        exact this
      rintro G ⟨b, qs, eD, hL⟩
      rw [vl, List.take_length] at hL
      have sG := But.same b nD
      have esrG := sG _ _ esr
      have hS9 := hS8.same sG
      have D9 := D8.up sG
      have t9 := tabs_same sG t8
      have hLn : LnsAt G D (ys.map wordsL) := ⟨qs, eD, hL⟩
      clear b nD sG eD hL hS8 D8 t8 esr
      have wok : ∀ ws ∈ ys.map wordsL, WOk ws ∧ GW ws := fun ws hm => by
        obtain ⟨x, hx, rfl⟩ := List.mem_map.mp hm
        obtain ⟨n, hn⟩ := List.getElem?_of_mem hx
        obtain ⟨_, _, w1, w2, w3⟩ := hw8.get hn
        have gw := words_ok (hw8.low hn) w1 w2 w3
        exact ⟨⟨by simp [wordsL], by have := gw.le; omega, gw.w, gw.asc⟩, gw⟩
      refine nm_of ?_
      dsimp only
      show tSeq _ _ _ _ _
      refine seq_of (asg_of ?_)
      refine joinT hLn (fun ws hm => (wok ws hm).1) (by rw [List.length_map]; omega) fun G1 sG1 => nm_of ?_
      have esr1 := sG1 _ _ esrG
      have hS1 := hS9.same sG1
      have D1' := D9.up sG1
      have t1' := tabs_same sG1 t9
      have hL1 := hLn.same sG1
      dsimp only
      show tSeq _ _ _ _ _
      refine seq_of ?_
      -- format_row, parse_row
      have lokW : LOk (ys.map wordsL) := ⟨by simpa using hn8, by rw [List.length_map]; omega, fun ws hm => (wok ws hm).1⟩
      refine ⟨_, rfl, sr, vs, ys, rfl, SqL.of esr1, hS1, hw8, by omega, fun z G2 s2' nz Rz => ?_⟩
      refine ⟨z, ys, rfl, Rz, hw8, by omega, fun G3 s3' => ?_⟩
      refine ⟨_, rfl, rfl, _, rfl, ?_⟩
      rw [show (!decide (V.str (TxtG.T (rowL ys)) = V.str (TxtG.T (txtL (ys.map wordsL))))) = false from by rw [rowL_txt, decide_eq_true rfl]; rfl]
      refine iteF ?_
      have s13 := s2'.trans s3'
      have pW := parE_words hw8 (show ys.length ≤ 40 by omega)
      refine ⟨_, rfl, ys.map wordsL, rfl, lokW, fun k j e => absurd (pW.symm.trans e) (fun z => nomatch z), fun e he => absurd (pW.symm.trans he) (fun z => nomatch z), fun xs' hx' z2 G4 s4' nz2 Rz2 => ?_⟩
      obtain rfl : ys = xs' := by rw [pW] at hx'; injection hx'
      obtain ⟨dx, t', us', ez2, _, _⟩ := id Rz2
      refine ⟨z2, dx, _, rfl, ez2, z2, ys, rfl, Rz2, fun t us hT hSt => ?_⟩
      have esr4 := s4' _ _ (s13 _ _ esr1)
      refine ⟨_, rfl, .inl ⟨sr, vs, rfl, SqL.of esr4, fun tq ntq => ?_⟩⟩
      have stq := same_new (o := .tup vs) ntq
      refine ⟨stonesD ys, stonesD ys, stones_dp (sqT_same hT stq) (hSt.same stq), stones_dp (SqT.of upd_same) (((hS1.same s13).same s4').same stq), stones_shaped ys, stones_shaped ys, _, rfl, ?_⟩
      rw [show (!PyData.eqv (stonesD ys) (stonesD ys)) = false from by rw [eqv_stones]; rfl]
      refine iteF (next_of ?_)
      have s35 := (s13.trans s4').trans stq
      have D6 := D1'.up s35
      have t6 := tabs_same s35 t1'
      have hL6 := hL1.same s35
      generalize upd G4 tq (.tup vs) = G6 at D6 t6 hL6 ⊢
      have gwW : ∀ ws ∈ ys.map wordsL, GW ws ∧ ws.length = 3 := fun ws hm => ⟨(wok ws hm).2, by obtain ⟨x, _, rfl⟩ := List.mem_map.mp hm; rfl⟩
      have neW : ∀ ws ∈ ys.map wordsL, ws ≠ [] := fun ws hm => (wok ws hm).1.ne
      have lzW : (ys.map wordsL).length ≤ 9 := by rw [List.length_map]; exact hz8
      have lnW : (ys.map wordsL) ≠ [] := by simpa using hn8
      generalize ys.map wordsL = ls at *
      generalize hsv : V.ref sr = rsr at *
      clear s35 stq ntq esr4 hT hSt ez2 Rz2 nz2 s4' s13 s2' s3' Rz nz lokW pW esr1 hS1 D1' t1' hL1 sG1 wok hLn t9 D9 hS9 esrG
      -- what is changed
      obtain ⟨us, eD, hL⟩ := hL6
      have ul := hL.1
      have lp : 0 < ls.length := List.length_pos_iff.mpr lnW
      dsimp only
      show tSeq _ _ _ _ _
      refine seq_of (asg_of ?_)
      refine ⟨_, rfl, _, rfl, D, _, rfl, .inl (SqL.of eD), L0, a, ns, _, rfl, by omega, by omega, D6, fun k0 H7 k00 k01 D7 b7 => nm_of ?_⟩
      have eD7 := b7 _ _ (lns_not_cell D6.cell eD hL) eD
      have hL7 := hL.butC D6.cell b7
      obtain ⟨yL6, eL6⟩ := D6.cell.list
      have t7 := tabs_but b7 eL6 t6
      obtain ⟨kk, rfl⟩ : ∃ kk : Nat, k0 = (kk : Int) := ⟨k0.toNat, by omega⟩
      obtain ⟨ws, hws⟩ : ∃ ws, ls[kk]? = some ws := ⟨ls[kk]'(by omega), by simp⟩
      obtain ⟨gw, wl3⟩ := gwW ws (List.mem_of_getElem? hws)
      obtain ⟨wa, hwa, ewa⟩ := hL7.2 kk ws hws
      clear b7 eL6 t6 D6 eD hL
      dsimp only
      show tSeq _ _ _ _ _
      refine seq_of ?_
      refine ⟨_, rfl, _, rfl, _, rfl, D, us, (kk : Int), _, rfl, rfl, SqL.of eD7, atI_nat hwa, wa, _, rfl, .inl (SqL.of ewa), _, _, rfl, rfl, L0, a, ns, _, rfl, by omega, by rw [wsV_len]; omega, D7, fun j0 H8' j00 j01 D8 b8 => ?_⟩
      obtain ⟨yL7, eL7⟩ := D7.cell.list
      have eD8 := b8 _ _ (lns_not_cell D7.cell eD7 hL7) eD7
      have hL8 := hL7.butC D7.cell b8
      have t8 := tabs_but b8 eL7 t7
      refine ⟨_, rfl, L0, a, ns, 4, rfl, by decide, by decide, D8, fun m0 H9 m00 m01 D9 b9 => ⟨_, _, rfl, ?_⟩⟩
      obtain ⟨yL8, eL8⟩ := D8.cell.list
      have eD9 := b9 _ _ (lns_not_cell D8.cell eD8 hL8) eD8
      have hL9 := hL8.butC D8.cell b9
      have t9 := tabs_but b9 eL8 t8
      clear b8 b9 eL7 eL8 t7 t8 D7 D8 eD7 eD8 hL7 hL8 ewa
      dsimp only
      show tSeq _ _ _ _ _
      refine seq_of (asg_of ?_)
      refine ⟨_, rfl, by show 10 ≤ sizeLine; decide, fun l1 nl1 => ?_⟩
      obtain ⟨yL9, eL9⟩ := D9.cell.list
      have l1L : l1 ≠ L0 := fun e => by rw [e, eL9] at nl1; cases nl1
      have z1 := same_new (o := .lst [V.str (Str.ofString ""), V.str (Str.ofString "0"), V.str (Str.ofString "1"), V.str (Str.ofString "01"), V.str (Str.ofString "stone"), V.str (Str.ofString "-1"), V.str (Str.ofString "1000000001"), V.str (Str.ofString "10000000000"), V.str (Str.ofString "x"), V.str (Str.ofString "59")]) nl1
      refine ⟨L0, a, l1, ns, _, rfl, D9.up z1, upd_same, l1L, by show 0 < 10; decide, by show 10 ≤ 1000; decide, fun v iv G hv DG b => nm_of ?_⟩
      obtain ⟨o, rfl, ho⟩ := odd_of (List.mem_of_getElem? hv)
      have eDG := b _ _ (lns_not_cell (D9.up z1).cell (z1 _ _ eD9) (hL9.same z1)) (z1 _ _ eD9)
      have hLG := (hL9.same z1).butC (D9.up z1).cell b
      have tG := tabs_but b (z1 _ _ eL9) (tabs_same z1 t9)
      clear b hv z1 l1L nl1 eL9 t9 D9 eD9 hL9
      obtain ⟨wa, hwa, ewa⟩ := hLG.2 kk ws hws
      have DnL := lns_not_cell DG.cell eDG hLG
      have kl : kk < ls.length := (List.getElem?_eq_some_iff.mp hws).1
      dsimp only
      show tSeq _ _ _ _ _
      refine seq_of (join (fun σ G => ∃ (q : Addr) (ls1 : List (List (List Nat))), σ = [some (.ref a), some (.ref L0), some (.int (0 + (jt : Nat))), some rsr, some (.ref q), s5, s6, some (.str (TxtG.T (txtL ls))), s8, some (.int (kk : Int)), some (.int j0), some (.int m0), some (.str (TxtG.T o)), s13, s14, s15] ∧
        LnsAt G q ls1 ∧ ls1 ≠ [] ∧ ls1.length ≤ 20 ∧ (∀ w ∈ ls1, GW w) ∧ LamX.Tabs T G ∧ Drw K G L0 a ns) ?_ ?_)
      rotate_left
      · intro nx' go
        have gwA : ∀ w ∈ ls, GW w := fun w hm => (gwW w hm).1
        have fin : ∀ (G' : Hp) (qn : Addr) (w' : List (List Nat)), Same G G' → G' qn = some (.lst (wsV w')) → qn ≠ D → GW w' →
            nx' [some (.ref a), some (.ref L0), some (.int (0 + (jt : Nat))), some rsr, some (.ref D), s5, s6, some (.str (TxtG.T (txtL ls))), s8, some (.int (kk : Int)), some (.int j0), some (.int m0), some (.str (TxtG.T o)), s13, s14, s15] (upd G' D (.lst (us.set kk (V.ref qn)))) := fun G' qn w' sG eq nq gw' => by
          have eD' := sG _ _ eDG
          have hL' := hLG.same sG
          refine go _ _ ⟨D, ls.set kk w', rfl, ⟨_, upd_same, hL'.set eD' eq nq neW kl⟩, fun z => ?_, by rw [List.length_set]; omega, GW.set gwA gw', tabs_but but_upd eD' (tabs_same sG tG), (DG.up sG).butD eD' hL' lnW but_upd⟩
          have := congrArg List.length z
          rw [List.length_set] at this
          simp at this
          exact lnW this
        obtain ⟨as, eas, mas, las⟩ := cut_ws ws none (some j0)
        refine ⟨_, rfl, rfl, _, rfl, ?_⟩
        by_cases c0 : m0 = 0
        · rw [decide_eq_true (show V.int m0 = V.int 0 by rw [c0])]
          refine iteT (asg_of ?_)
          refine ⟨_, rfl, _, rfl, D, us, (kk : Int), _, rfl, rfl, SqL.of eDG, atI_nat hwa, _, rfl, _, rfl, wa, _, rfl, SqL.of ewa, fun q1 nq1 => ?_⟩
          rw [eas]
          have z1 := same_new (o := .lst (wsV as)) nq1
          refine ⟨_, rfl, _, rfl, D, us, (kk : Int), kk, rfl, rfl, z1 _ _ eDG, ixk (by omega), ?_⟩
          exact fin _ q1 as z1 upd_same (fun e => by rw [e, eDG] at nq1; cases nq1) (gw.sub mas las)
        · rw [decide_eq_false (show ¬ V.int m0 = V.int 0 from fun z => c0 (by injection z))]
          refine iteF ?_
          refine ⟨_, rfl, rfl, _, rfl, ?_⟩
          -- a word put in, between two parts of the line
          have mid : ∀ (lo : Int), ∃ bs, cutV (wsV ws) (some lo) none = wsV bs ∧ (∀ x ∈ bs, x ∈ ws) ∧ bs.length ≤ ws.length := fun lo => cut_ws ws (some lo) none
          by_cases c1 : m0 = 1
          · rw [decide_eq_true (show V.int m0 = V.int 1 by rw [c1])]
            refine iteT (asg_of ?_)
            refine ⟨_, rfl, _, rfl, D, us, (kk : Int), _, rfl, rfl, SqL.of eDG, atI_nat hwa, _, rfl, _, rfl, wa, _, rfl, SqL.of ewa, fun q1 nq1 => ?_⟩
            rw [eas]
            have z1 := same_new (o := .lst (wsV as)) nq1
            refine ⟨_, rfl, by show 1 ≤ sizeLine; decide, fun q2 nq2 => ?_⟩
            have z2 := same_new (o := .lst [V.str (TxtG.T o)]) nq2
            refine ⟨q1, q2, _, _, rfl, rfl, z2 _ _ upd_same, upd_same, by rw [wsV_len]; show as.length + 1 ≤ sizeLine; rw [sizeLine_eq]; omega, fun q3 nq3 => ?_⟩
            have z3 := same_new (o := .lst (wsV as ++ [V.str (TxtG.T o)])) nq3
            have z13 := (z1.trans z2).trans z3
            obtain ⟨bs, ebs, mbs, lbs⟩ := mid (j0 + 1)
            refine ⟨_, rfl, _, rfl, D, us, (kk : Int), _, rfl, rfl, SqL.of (z13 _ _ eDG), atI_nat hwa, _, rfl, _, _, rfl, rfl, _, rfl, wa, _, rfl, SqL.of (z13 _ _ ewa), fun q4 nq4 => ?_⟩
            rw [ebs]
            have z4 := same_new (o := .lst (wsV bs)) nq4
            refine ⟨q3, q4, _, _, rfl, rfl, z4 _ _ upd_same, upd_same, by rw [List.length_append, wsV_len, wsV_len]; show as.length + 1 + bs.length ≤ sizeLine; rw [sizeLine_eq]; omega, fun q5 nq5 => ?_⟩
            have z5 := same_new (o := .lst (wsV as ++ [V.str (TxtG.T o)] ++ wsV bs)) nq5
            have z15 := (z13.trans z4).trans z5
            refine ⟨_, rfl, _, rfl, D, us, (kk : Int), kk, rfl, rfl, z15 _ _ eDG, ixk (by omega), ?_⟩
            exact fin _ q5 (as ++ [o] ++ bs) z15 (by rw [upd_same, ← wsV_app, ← wsV_app]; rfl) (fun e => by rw [e, (z13.trans z4) _ _ eDG] at nq5; cases nq5) (gw.put mas mbs ho (by omega))
          · rw [decide_eq_false (show ¬ V.int m0 = V.int 1 from fun z => c1 (by injection z))]
            refine iteF ?_
            refine ⟨_, rfl, rfl, _, rfl, ?_⟩
            by_cases c2 : m0 = 2
            · rw [decide_eq_true (show V.int m0 = V.int 2 by rw [c2])]
              refine iteT (asg_of ?_)
              refine ⟨_, rfl, _, rfl, D, us, (kk : Int), _, rfl, rfl, SqL.of eDG, atI_nat hwa, _, rfl, _, rfl, wa, _, rfl, SqL.of ewa, fun q1 nq1 => ?_⟩
              rw [eas]
              have z1 := same_new (o := .lst (wsV as)) nq1
              refine ⟨_, rfl, by show 1 ≤ sizeLine; decide, fun q2 nq2 => ?_⟩
              have z2 := same_new (o := .lst [V.str (TxtG.T o)]) nq2
              refine ⟨q1, q2, _, _, rfl, rfl, z2 _ _ upd_same, upd_same, by rw [wsV_len]; show as.length + 1 ≤ sizeLine; rw [sizeLine_eq]; omega, fun q3 nq3 => ?_⟩
              have z3 := same_new (o := .lst (wsV as ++ [V.str (TxtG.T o)])) nq3
              have z13 := (z1.trans z2).trans z3
              obtain ⟨bs, ebs, mbs, lbs⟩ := mid j0
              refine ⟨_, rfl, _, rfl, D, us, (kk : Int), _, rfl, rfl, SqL.of (z13 _ _ eDG), atI_nat hwa, _, rfl, _, rfl, wa, _, rfl, SqL.of (z13 _ _ ewa), fun q4 nq4 => ?_⟩
              rw [ebs]
              have z4 := same_new (o := .lst (wsV bs)) nq4
              refine ⟨q3, q4, _, _, rfl, rfl, z4 _ _ upd_same, upd_same, by rw [List.length_append, wsV_len, wsV_len]; show as.length + 1 + bs.length ≤ sizeLine; rw [sizeLine_eq]; omega, fun q5 nq5 => ?_⟩
              have z5 := same_new (o := .lst (wsV as ++ [V.str (TxtG.T o)] ++ wsV bs)) nq5
              have z15 := (z13.trans z4).trans z5
              refine ⟨_, rfl, _, rfl, D, us, (kk : Int), kk, rfl, rfl, z15 _ _ eDG, ixk (by omega), ?_⟩
              exact fin _ q5 (as ++ [o] ++ bs) z15 (by rw [upd_same, ← wsV_app, ← wsV_app]; rfl) (fun e => by rw [e, (z13.trans z4) _ _ eDG] at nq5; cases nq5) (gw.put mas mbs ho (by omega))
            · rw [decide_eq_false (show ¬ V.int m0 = V.int 2 from fun z => c2 (by injection z))]
              refine iteF (asg_of ?_)
              -- a line put in once more
              refine ⟨_, rfl, _, rfl, _, rfl, D, us, rfl, SqL.of eDG, fun q1 nq1 => ?_⟩
              obtain ⟨m1, hm1, mm1, lm1⟩ := cut_ls hLG none (some (kk : Int))
              obtain ⟨m2, hm2, mm2, lm2⟩ := cut_ls hLG (some (kk : Int)) none
              generalize cutV us none (some (kk : Int)) = u1 at hm1 nq1 ⊢
              have z1 := same_new (o := .lst u1) nq1
              obtain ⟨yLG, eLG⟩ := DG.cell.list
              have q1L : q1 ≠ L0 := fun e => by rw [e, eLG] at nq1; cases nq1
              refine ⟨_, rfl, _, rfl, L0, a, D, ns, us, rfl, DG.up z1, z1 _ _ eDG, DnL, by omega, by omega, fun v iv G2 hv DG2 b => ?_⟩
              have ivl : iv < ls.length := by rw [← ul]; exact (List.getElem?_eq_some_iff.mp hv).1
              obtain ⟨ws2, hws2⟩ : ∃ w, ls[iv]? = some w := ⟨ls[iv], by simp [ivl]⟩
              have eD2 := b _ _ DnL (z1 _ _ eDG)
              have hL2 := (hLG.same z1).butC (DG.up z1).cell b
              have hm12 := (hm1.same z1).butC (DG.up z1).cell b
              have hm22 := (hm2.same z1).butC (DG.up z1).cell b
              have t2 := tabs_but b (z1 _ _ eLG) (tabs_same z1 tG)
              have e12 := b _ _ q1L upd_same
              obtain ⟨w2, hw2, ew2⟩ := hL2.2 iv ws2 hws2
              obtain rfl : v = .ref w2 := Option.some.inj (hv.symm.trans hw2)
              clear b z1 nq1 q1L eLG hm1 hm2
              refine ⟨w2, wsV ws2, rfl, .inl (SqL.of ew2), fun l2 nl2 => ?_⟩
              have z3 := same_new (o := .lst (wsV ws2)) nl2
              refine ⟨by show 1 ≤ sizeLine; decide, fun l3 nl3 => ?_⟩
              have z4 := same_new (o := .lst [V.ref l2]) nl3
              have u1l := hm12.1
              refine ⟨q1, l3, u1, _, rfl, rfl, z4 _ _ (z3 _ _ e12), upd_same, by show u1.length + 1 ≤ sizeLine; rw [sizeLine_eq]; omega, fun q3 nq3 => ?_⟩
              have z5 := same_new (o := .lst (u1 ++ [V.ref l2])) nq3
              have z35 := (z3.trans z4).trans z5
              have hA : LsAt (upd (upd (upd G2 l2 (.lst (wsV ws2))) l3 (.lst [V.ref l2])) q3 (.lst (u1 ++ [V.ref l2]))) (u1 ++ [V.ref l2]) (m1 ++ [ws2]) := (hm12.same z35).app ((LsAt.one (y := l2) upd_same).same (z4.trans z5))
              refine ⟨_, rfl, _, rfl, _, rfl, D, us, rfl, SqL.of (z35 _ _ eD2), fun q4 nq4 => ?_⟩
              have hm23 := hm22.same z35
              have u2l := hm22.1
              generalize cutV us (some (kk : Int)) none = u2 at hm23 u2l nq4 ⊢
              have z6 := same_new (o := .lst u2) nq4
              refine ⟨q3, q4, _, _, rfl, rfl, z6 _ _ upd_same, upd_same, by rw [List.length_append]; show u1.length + 1 + u2.length ≤ sizeLine; rw [sizeLine_eq]; omega, fun q5 nq5 => nm_of ?_⟩
              have z7 := same_new (o := .lst (u1 ++ [V.ref l2] ++ u2)) nq5
              have z67 := z6.trans z7
              refine go _ _ ⟨q5, m1 ++ [ws2] ++ m2, rfl, ⟨_, upd_same, (hA.app hm23).same z67⟩, by simp, by simp only [List.length_append, List.length_cons, List.length_nil]; omega, fun w hm => ?_, tabs_same (z35.trans z67) t2, DG2.up (z35.trans z67)⟩
              simp only [List.mem_append, List.mem_singleton] at hm
              rcases hm with (hm | hm) | hm
              · exact gwA w (mm1 w hm)
              · rw [hm]; exact gwA ws2 (List.mem_of_getElem? hws2)
              · exact gwA w (mm2 w hm)
      rintro σ G1 ⟨q, ls1, rfl, hL1, n1, l20, gw1, t1', D1'⟩
      clear hLG eDG ewa hwa tG DG DnL hws kl gwW neW lzW lnW gw wl3
      show tSeq _ _ _ _ _
      refine seq_of ?_
      have l0 : Str.ofString "" = TxtG.T [] := by decide +kernel
      obtain ⟨us1, eq, hL⟩ := hL1
      have ul1 := hL.1
      refine ⟨_, rfl, q, rfl, ⟨_, SqL.of eq⟩, fun D2 nD => ?_⟩
      refine lc_it (walk_list (K := K) (a := q) (xs := us1)) (fun i G => But D2 G1 G ∧ ∃ qs, G D2 = some (.lst qs) ∧ LsAt G qs ((ls1.take i).map fixL)) ?_ ?_ ?_ ?_
      · exact ⟨but_upd, [], upd_same, LsAt.nil⟩
      · rintro i G _ ⟨b, _⟩
        exact SqL.of (But.same b nD _ _ eq)
      · rintro i v G G' hi ⟨b, qs, eD, hLq⟩ ⟨rfl, hv⟩
        have hil : i < ls1.length := by omega
        obtain ⟨ws, hws⟩ : ∃ ws, ls1[i]? = some ws := ⟨ls1[i], by simp [hil]⟩
        obtain ⟨aw, haw, eaw⟩ := hL.2 i ws hws
        obtain rfl : v = .ref aw := Option.some.inj (hv.symm.trans haw)
        have gw := gw1 ws (List.mem_of_getElem? hws)
        have eaw' := But.same b nD _ _ eaw
        have lq : qs.length = i := by rw [hLq.1, List.length_map, List.length_take]; omega
        have neq : ∀ w ∈ (ls1.take i).map fixL, w ≠ [] := fun w hm => by
          obtain ⟨y, _, rfl⟩ := List.mem_map.mp hm
          exact fix_ne y
        have put : ∀ (H4 : Hp) (y : Addr), Same G' H4 → H4 y = some (.lst (wsV (fixL ws))) → ∃ acc, H4 D2 = some (.lst acc) ∧ acc.length < sizeLine ∧ But D2 G1 (upd H4 D2 (.lst (acc ++ [V.ref y]))) ∧
            ∃ qs, (upd H4 D2 (.lst (acc ++ [V.ref y]))) D2 = some (.lst qs) ∧ LsAt (upd H4 D2 (.lst (acc ++ [V.ref y]))) qs ((ls1.take (i + 1)).map fixL) := fun H4 y se ey => by
          have eD2 := se _ _ eD
          refine ⟨qs, eD2, by rw [sizeLine_eq]; omega, (b.trans (Same.but se D2)).trans but_upd, _, upd_same, ?_⟩
          have := (hLq.same se).put eD2 neq ey (fix_ne ws)
          rw [List.take_add_one, hws, List.map_append]
          exact this
        refine ⟨rfl, ?_⟩
        refine ⟨_, rfl, by show 0 ≤ sizeLine; decide, fun e ne => ⟨tD ws, .list [], tD_dp (SqL.of (same_new ne _ _ eaw')), .lst (SqL.of upd_same) .nil, tD_shaped gw.asc, by decide +kernel, _, rfl, ?_⟩⟩
        have se := same_new (o := .lst []) ne
        rw [tD_nil]
        by_cases cw : ws = []
        · rw [decide_eq_true cw]
          refine iteF ⟨by show 1 ≤ sizeLine; decide, fun f nf => ?_⟩
          refine put _ f (se.trans (same_new nf)) ?_
          rw [upd_same, l0]
          unfold fixL
          rw [if_pos cw]
          rfl
        · rw [decide_eq_false cw]
          refine iteT ⟨_, rfl, ?_⟩
          refine put _ aw se ?_
          unfold fixL
          rw [if_neg cw]
          exact se _ _ eaw'
      rintro G ⟨b, qs, eD, hLq⟩
      rw [ul1, List.take_length] at hLq
      have sG := But.same b nD
      have D2' := D1'.up sG
      have t2' := tabs_same sG t1'
      have lok : LOk (ls1.map fixL) := ⟨by simpa using n1, by rw [List.length_map]; omega, fun ws hm => by
        obtain ⟨y, hy, rfl⟩ := List.mem_map.mp hm
        exact fix_ok (gw1 y hy)⟩
      generalize ls1.map fixL = ls2 at *
      clear b nD sG hL eq D1' t1' gw1 n1 l20 ul1
      refine nm_of ?_
      dsimp only
      show tSeq _ _ _ _ _
      refine seq_of (asg_of ?_)
      refine joinT ⟨qs, eD, hLq⟩ lok.w lok.le fun G3 sG3 => nm_of ?_
      have eD3 := sG3 _ _ eD
      have hL3 := hLq.same sG3
      have D3 := D2'.up sG3
      have t3 := tabs_same sG3 t2'
      clear sG3 eD hLq D2' t2'
      -- what is expected
      dsimp only
      show tSeq _ _ _ _ _
      refine seq_of (join (fun σ G => ∃ t : Addr, σ = [some (.ref a), some (.ref L0), some (.int (0 + (jt : Nat))), some rsr, some (.ref D2), s5, s6, some (.str (TxtG.T (txtL ls2))), s8, some (.int (kk : Int)), some (.int j0), some (.int m0), some (.str (TxtG.T o)), some (.ref t), s14, s15] ∧ ParAt K G t (parE ls2) ∧ LamX.Tabs T G ∧ Drw K G L0 a ns) ?_ ?_)
      rotate_left
      · intro nx' go
        refine asg_of ?_
        refine ⟨_, rfl, rfl, _, rfl, ?_⟩
        rw [l0]
        by_cases c : ls2 = [[[]]]
        · rw [decide_eq_true (show V.str (TxtG.T (txtL ls2)) = V.str (TxtG.T []) by rw [(txt_nil lok).mpr c])]
          refine iteF ⟨by show 0 ≤ sizeLine; decide, fun t nt => nm_of ?_⟩
          have z := same_new (o := .tup []) nt
          refine go _ _ ⟨t, rfl, ?_, tabs_same z t3, D3.up z⟩
          unfold parE
          rw [if_pos c]
          exact ⟨[], upd_same, StonesAt.nil⟩
        · rw [decide_eq_false (fun z : V.str (TxtG.T (txtL ls2)) = V.str (TxtG.T []) => c ((txt_nil lok).mp (SplS.T_inj (by injection z))))]
          refine iteT ⟨_, rfl, D2, qs, ls2, rfl, eD3, hL3, lok, fun t H' s hP => nm_of ?_⟩
          refine go _ _ ⟨t, rfl, ?_, tabs_same s t3, D3.up s⟩
          rw [parE_F c]
          exact hP
      clear eD3 hL3 D3 t3
      rintro σ G ⟨t, rfl, hP, tG, DG⟩
      show tIfS _ _ _ _ _ _
      refine ⟨tG, fun f0 c0 G4 eN0 mn0 tT0 nf0 eF0 eC0 => ?_⟩
      have D4 := DG.extN eN0
      have hP4 := hP.extN eN0
      clear hP DG tG
      obtain ⟨F0, i0, of0⟩ : ∃ F0 : LamV.LF, F0.is f0 (fun _ => True) G4 ∧ F0.Of (cxOf CX0 P w K mg base n_law "law" (defScope s_law) f (.ref c) A outer s H E).nox ⟨defArgs s_law, F0.body, F0.scope, fun E => tProp C (spGet K C) [] E0 (tCall (spParseE K C C5 C2) [] E (tCons (tVar 7) tNil))⟩ (fun _ => True) 5 := by
        refine ⟨_, ⟨eF0, eC0, True.intro⟩, rfl, rfl, rfl, rfl, ?wa5, fun _ _ _ _ _ _ _ => ⟨[], .of_eq rfl, fun y hy => by cases hy⟩, ?wa7⟩
        (case wa5 => exact LamV.lamN_by (N := n_law) (sc := defScope s_law) (scope := { kind := .function, names := [("_law_text", .free), ("parse_row", .globalImplicit)], isGenerator := false, isCoroutine := false }) (by decide +kernel))
        (case wa7 =>
          intro A outer s H E f c' r
          exact pe_prop (pe_call PR.ok (r.mono (by decide)) (by rfl) PR.m PR.kp PR.b .nil (passes_call (takes_of rfl rfl rfl rfl) fun _ _ _ _ z => z) (pa_cons (pv 7) pa_nil)) R.cl pr P1 (r.mono (by decide)) bP .nil pass0 rfl)
      refine ⟨f0, F0, _, _, rfl, of0, i0, ?_⟩
      refine ⟨_, rfl, ls2, rfl, lok, fun k j e d H5 s5 nd ed => ?_, fun e he d H5 s5 nd ed => ?_, fun xs hx z H5 s5 nz Rz => ?_⟩
      · refine ⟨C2, 2, [.int (k : Nat), .int (j : Nat)], rfl, by decide, o2, fun dd h => ⟨_, by cases h; exact ed⟩, fun _ => ⟨d, _, rfl, ed, rfl⟩, fun _ t2 l H8 s8 e8 e9 => ?_, fun h => absurd (by decide) h⟩
        have hT : ParAt K H8 t2 (parE ls2) := by rw [e]; exact ⟨l, e9, e8⟩
        have s58 := s5.trans s8
        refine ⟨_, rfl, parD (parE ls2), parD (parE ls2), hT.dp, (hP4.same s58).dp, parD_shaped _, parD_shaped _, _, rfl, ?_⟩
        rw [show (!PyData.eqv (parD (parE ls2)) (parD (parE ls2))) = false from by rw [parD_eqv]; rfl]
        refine iteF (next_of ?_)
        exact ⟨_, _, _, _, _, _, _, _, _, _, _, _, _, _, rfl, tabs_same s58 tT0, D4.up s58⟩
      · refine ⟨C5, 5, [.int (e : Nat)], rfl, by decide, o5, fun dd h => ⟨_, by cases h; exact ed⟩, fun _ => ⟨d, _, rfl, ed, rfl⟩, fun _ t2 l H8 s8 e8 e9 => ?_, fun h => absurd (by decide) h⟩
        have hT : ParAt K H8 t2 (parE ls2) := by rw [he]; exact ⟨l, e9, e8⟩
        have s58 := s5.trans s8
        refine ⟨_, rfl, parD (parE ls2), parD (parE ls2), hT.dp, (hP4.same s58).dp, parD_shaped _, parD_shaped _, _, rfl, ?_⟩
        rw [show (!PyData.eqv (parD (parE ls2)) (parD (parE ls2))) = false from by rw [parD_eqv]; rfl]
        refine iteF (next_of ?_)
        exact ⟨_, _, _, _, _, _, _, _, _, _, _, _, _, _, rfl, tabs_same s58 tT0, D4.up s58⟩
      · obtain ⟨dx, t', us', ez2, _, _⟩ := id Rz
        refine ⟨z, dx, _, rfl, ez2, z, xs, rfl, Rz, fun t2 us2 hT hSt => ?_⟩
        have e2 : parD (parE ls2) = stonesD xs := by rw [hx]; rfl
        refine ⟨_, rfl, stonesD xs, parD (parE ls2), stones_dp hT hSt, (hP4.same s5).dp, stones_shaped xs, parD_shaped _, _, rfl, ?_⟩
        rw [show (!PyData.eqv (stonesD xs) (parD (parE ls2))) = false from by rw [e2, eqv_stones]; rfl]
        refine iteF (next_of ?_)
        exact ⟨_, _, _, _, _, _, _, _, _, _, _, _, _, _, rfl, tabs_same s5 tT0, D4.up s5⟩
    · rintro σ G ⟨s2, s3, s4, s5, s6, s7, s8, s9, s10, s11, s12, s13, s14, s15, rfl, tG, DG⟩
      -- many lines
      dsimp only
      show tSeq _ _ _ _ _
      refine seq_of (asg_of ?_)
      refine ⟨⟨_, rfl⟩, ?_⟩
      refine ⟨_, rfl, L0, a, ns, 2, rfl, by decide, by decide, DG, fun n0 H2 n00 n01 D2 b2 => ?_⟩
      obtain ⟨yL, eL⟩ := DG.cell.list
      have t2 := tabs_but b2 eL tG
      clear b2 eL DG tG
      refine ⟨_, _, rfl, rfl, 40 + n0, rfl, by omega, by omega, fun D nD => ?_⟩
      obtain ⟨n, hn, hn2⟩ : ∃ n : Nat, (40 + n0).toNat = n ∧ (n = 40 ∨ n = 41) := ⟨(40 + n0).toNat, rfl, by omega⟩
      have e40 : (40 + n0 - 0).toNat = n := by omega
      have lokM := many_ok hn2
      have l6 : Str.ofString "stone " = TxtG.T (stoneL ++ [32]) := by decide +kernel
      have l2 : Str.ofString " 1" = TxtG.T [32, 49] := by decide +kernel
      have l0 : Str.ofString "" = TxtG.T [] := by decide +kernel
      refine lc_fm (walk_range (lo := 0) (n := _)) (List.range n) (fun _ => true) (fun (i : Nat) => txtW [stoneL, FmtS.digs (i : Int), [49]]) (fun _ v (x : List Nat) => v = V.str (TxtG.T x)) (by rw [List.length_range]; omega) (by omega) nD (fun _ _ _ _ _ _ _ q => q) (fun _ _ => trivial) ?_ ?_
      · rintro i i' v G G' N M' hp sm _ ⟨rfl, rfl⟩ _ go
        have hin : i < n := by have := (List.getElem?_eq_some_iff.mp hp).1; simpa using this
        obtain rfl : i = i' := by
          rw [List.getElem?_range hin] at hp
          exact Option.some.inj hp
        have ei : (0 : Int) + (i : Int) = (i : Int) := Int.zero_add _
        have i0 : 0 ≤ (i : Int) := by omega
        have dl := TxtG.digs_len i0 (by omega)
        refine ⟨rfl, ?_⟩
        refine ⟨_, rfl, _, rfl, log_sm (by omega) (by omega), _, _, rfl, rfl, ?_, _, _, rfl, rfl, ?_, ?_⟩
        · rw [ei, T_int i0, l6, TxtG.T_len, TxtG.T_len, sizeLine_eq, List.length_append]
          show 5 + 1 + _ ≤ _
          omega
        · rw [ei, T_int i0, l6, l2, TxtG.T_app, TxtG.T_len, TxtG.T_len, sizeLine_eq, List.length_append, List.length_append]
          show 5 + 1 + _ + 2 ≤ _
          omega
        · refine go _ _ rfl (Same.refl _) ?_
          rw [ei, T_int i0, l6, l2, TxtG.T_app, TxtG.T_app, cells_txt]
      intro G ys sG eD rel
      rw [List.filter_eq_self.mpr (fun _ _ => rfl)] at rel
      have e := paired_eq (fun l : List Nat => V.str (TxtG.T l)) rel
      have eml : (List.range n).map (fun (i : Nat) => txtW [stoneL, FmtS.digs (i : Int), [49]]) = (manyL n).map txtW := by
        unfold manyL
        rw [List.map_map]
        rfl
      rw [eml] at e
      have eys : ys = (((manyL n).map txtW).map TxtG.T).map V.str := by
        rw [e, List.map_map, List.map_map, List.map_map]
        rfl
      have mle := lokM.le
      refine ⟨_, D, ((manyL n).map txtW).map TxtG.T, rfl, rfl, .inl (SqL.of (by rw [eD, eys])), ?_, ?_⟩
      · have := sum_le (b := 420) (ps := (manyL n).map txtW) fun p hp => by
          obtain ⟨ws, hm, rfl⟩ := List.mem_map.mp hp
          exact txtW_len (lokM.w ws hm)
        have l1 : (Str.ofString "\n").length = 1 := by decide +kernel
        rw [l1, List.length_map, List.length_map]
        rw [List.length_map] at this
        omega
      rw [lit_nl, SplS.txtJoin_T]
      have t3 := tabs_same sG t2
      clear rel e eml eys eD nD t2 D2
      refine nm_of ?_
      dsimp only
      show tSeq _ _ _ _ _
      refine seq_of (join (fun σ G => ∃ (v : V) (d : PyData), σ = [some (.ref a), some (.ref L0), s2, s3, s4, s5, s6, s7, s8, s9, s10, s11, s12, s13, some (.str (TxtG.T (txtL (manyL n)))), some v] ∧ Dp K G v d ∧ SeqAt.shaped d = true ∧ ([PyData.int 40, .tuple [.str "error", .str "InvalidRow", .list [.int 40]]].any fun z => PyData.eqv z d) = true) ?_ ?_)
      rotate_left
      · intro nx' go
        refine asg_of ?_
        refine ⟨t3, fun td ntd f1 c1 G8 eN1 mn1 tT1 nf1 eF1 eC1 => ?_⟩
        obtain ⟨F1, i1, of1⟩ : ∃ F1 : LamV.LF, F1.is f1 (fun G => G td = some (.tup [.int 0])) G8 ∧ F1.Of (cxOf CX0 P w K mg base n_law "law" (defScope s_law) f (.ref c) A outer s H E).nox ⟨defArgs s_law, F1.body, F1.scope, fun E => tCB (Own.rLen C (spLen K C) E0) (tCons (tCall (spParseE K C C5 C2) [] E (tCons (tVar 14) tNil)) tNil)⟩ (fun G => G td = some (.tup [.int 0])) 5 := by
          refine ⟨_, ⟨eF1, eC1, eN1 _ _ upd_same (fun ps z => nomatch z)⟩, rfl, rfl, rfl, rfl, ?o5, fun s' G ok e doc pm ctv => ?o6, ?o7⟩
          (case o5 => exact LamV.lamN_by (N := n_law) (sc := defScope s_law) (scope := { kind := .function, names := [("_law_a", .local), ("_law_many", .free), ("len", .globalImplicit), ("parse_row", .globalImplicit)], isGenerator := false, isCoroutine := false }) (by decide +kernel))
          (case o6 =>
            obtain ⟨_, its, r, o, ho, hc, n, hd⟩ := ok td _ e
            obtain ⟨u, rfl, _⟩ := r.one
            exact ⟨[("_law_a", u)], BindsTo.of_defaults rfl ho hd rfl rfl, fun y hy => by
              simp only [List.mem_cons, List.not_mem_nil, or_false] at hy
              subst hy
              rfl⟩)
          (case o7 =>
            intro A outer s H E f c' r
            exact pe_callB (Own.call_len SL.at_ SL.fn GL (r.mono (by decide)) pass0) (by rfl) B.len PySem.boot_len (pa_cons (pe_call PR.ok (r.mono (by decide)) (by rfl) PR.m PR.kp PR.b .nil (passes_call (takes_of rfl rfl rfl rfl) fun _ _ _ _ z => z) (pa_cons (pv 14) pa_nil)) pa_nil))
        refine ⟨f1, F1, _, _, rfl, of1, i1, ?_⟩
        have res := many_res hn2
        refine ⟨_, rfl, manyL n, rfl, lokM, fun k j e => ?_, fun e he d H5 s5 nd ed => ?_, fun xs hx z H5 s5 nz Rz => ?_⟩
        · rcases res with ⟨xs, q, _⟩ | q
          · rw [q] at e; cases e
          · rw [q] at e; cases e
        · obtain rfl : e = 40 := by
            rcases res with ⟨xs, q, _⟩ | q
            · rw [q] at he; cases he
            · rw [q] at he; injection he with he; exact he.symm
          refine ⟨C5, 5, [.int 40], rfl, by decide, o5, fun dd h => ⟨_, by cases h; exact ed⟩, fun _ => ⟨d, _, rfl, ed, rfl⟩, fun _ t2 l H8 s8 e8 e9 => nm_of ?_, fun h => absurd (by decide) h⟩
          refine go _ _ ⟨_, .tuple [.str "error", .str (wordW 5), .list [.int 40]], rfl, .tup (SqT.of e9) (.cons (.str _) (.cons (.str _) (.cons (.lst (SqL.of e8) (.cons (.int _) .nil)) .nil))), by decide +kernel, by decide +kernel⟩
        · obtain ⟨dx, t', us', ez2, _, _⟩ := id Rz
          have xl : xs.length = 40 := by
            rcases res with ⟨xs', q, hq⟩ | q
            · rw [q] at hx; injection hx with hx; rw [← hx]; exact hq
            · rw [q] at hx; cases hx
          refine ⟨z, dx, _, rfl, ez2, z, xs, rfl, Rz, (xs.length : Int), rfl, by omega, by omega, nm_of ?_⟩
          refine go _ _ ⟨_, .int 40, by rw [xl]; rfl, .int _, by decide +kernel, by decide +kernel⟩
      rintro σ G9 ⟨v, d, rfl, hd, sd, hany⟩
      refine ⟨_, rfl, by show 1 ≤ sizeLine; decide, fun l nl => ⟨by show 3 ≤ sizeLine; decide, fun t nt => ⟨by show 2 ≤ sizeLine; decide, fun u nu => ?_⟩⟩⟩
      have zl := same_new (o := .lst [V.int 40]) nl
      have zt := same_new (o := .tup [V.str (Str.ofString "error"), V.str (Str.ofString "InvalidRow"), V.ref l]) nt
      have zu := same_new (o := .tup [V.int 40, V.ref t]) nu
      refine ⟨d, [PyData.int 40, .tuple [.str "error", .str "InvalidRow", .list [.int 40]]], Dp.same ((zl.trans zt).trans zu) hd, .tup (SqT.of upd_same) (.cons (.int _) (.cons (.tup (SqT.of (zu _ _ upd_same)) (.cons (.str _) (.cons (.str _) (.cons (.lst (SqL.of ((zt.trans zu) _ _ upd_same)) (.cons (.int _) .nil)) .nil)))) .nil)), sd, by decide +kernel, _, rfl, ?_⟩
      rw [hany]
      refine iteT ?_
      dsimp only [tAndV, tOp, tCall, tCons]
      refine mk0 ?_
      intro z H' s' nz Rz
      refine ⟨z, [], rfl, Rz, trivial, by simp, fun H'' s'' => ⟨rfl, _, rfl, ?_⟩⟩
      rw [l0, decide_eq_true (show V.str (TxtG.T (rowL [])) = V.str (TxtG.T []) from rfl)]
      refine iteT ?_
      have p1 : parE [[[]]] = .ok [] := by unfold parE; rw [if_pos rfl]
      refine ⟨[[[]]], by show [V.str (Str.ofString "")] = _; rw [l0]; rfl, one_ok, fun k j e => absurd (p1.symm.trans e) (fun z => nomatch z), fun e he => absurd (p1.symm.trans he) (fun z => nomatch z), fun xs hx z2 H3 s3' nz2 Rz2 => ?_⟩
      obtain rfl : [] = xs := by rw [p1] at hx; injection hx
      obtain ⟨dx, t', us', ez2, _, _⟩ := id Rz2
      refine ⟨z2, dx, _, rfl, ez2, z2, [], rfl, Rz2, fun t2 us2 hT hSt => ?_⟩
      refine ⟨by show 0 ≤ sizeLine; decide, fun t3 nt3 => ?_⟩
      refine ⟨stonesD [], .tuple [], stones_dp (sqT_same hT (same_new nt3)) (hSt.same (same_new nt3)), .tup (SqT.of upd_same) .nil, stones_shaped _, by decide +kernel, ?_⟩
      rw [show PyData.eqv (stonesD []) (.tuple []) = true from by decide +kernel]
      exact k _
end
theorem all_mk {l : PySem.W.OpenLaw} {w : World} {K : PySem.W.Frag} {h : Heap} {mg : Str → Option Value} {fa C cl Pt f_ini f_len f_add p_get f_get f_num f_iss f_fmt f_par f_pst f_irw f_inn f_dic f_nex f_pic f_tol f_sto f_mad f_fig f_psd f_law xe xc0 xc1 xc2 xc3 xc4 xc5 xc6 xc7 xc8 xc9 xc10 f_i2 g_i2 e_i2 f_i5 g_i5 e_i5 : Addr} (X : K.In h) (G : h.Ns mainGlobals mg) (hfa : mg "law" = some (.ref fa)) (own : LamX.OwnTab K fa h)
    {od_ini an_ini od_len an_len od_add an_add od_get an_get od_num an_num od_iss an_iss od_fmt an_fmt od_par an_par od_pst an_pst od_irw an_irw od_inn an_inn od_dic an_dic od_nex an_nex od_pic an_pic od_tol an_tol od_sto an_sto od_mad an_mad od_fig an_fig od_psd an_psd od_law an_law ddC : Option Addr} {sl_ini sl_len sl_add sl_get sl_num sl_iss sl_fmt sl_par sl_pst sl_irw sl_inn sl_dic sl_nex sl_pic sl_tol sl_sto sl_mad sl_fig sl_psd sl_law : Array (Option Value)} {oc_ini kV_ini dc_ini pm_ini cd_ini ct_ini oc_len kV_len dc_len pm_len cd_len ct_len oc_add kV_add dc_add pm_add cd_add ct_add oc_get kV_get dc_get pm_get cd_get ct_get oc_num kV_num dc_num pm_num cd_num ct_num oc_iss kV_iss dc_iss pm_iss cd_iss ct_iss oc_fmt kV_fmt dc_fmt pm_fmt cd_fmt ct_fmt oc_par kV_par dc_par pm_par cd_par ct_par oc_pst kV_pst dc_pst pm_pst cd_pst ct_pst oc_irw kV_irw dc_irw pm_irw cd_irw ct_irw oc_inn kV_inn dc_inn pm_inn cd_inn ct_inn oc_dic kV_dic dc_dic pm_dic cd_dic ct_dic oc_nex kV_nex dc_nex pm_nex cd_nex ct_nex oc_pic kV_pic dc_pic pm_pic cd_pic ct_pic oc_tol kV_tol dc_tol pm_tol cd_tol ct_tol oc_sto kV_sto dc_sto pm_sto cd_sto ct_sto oc_mad kV_mad dc_mad pm_mad cd_mad ct_mad oc_fig kV_fig dc_fig pm_fig cd_fig ct_fig oc_psd kV_psd dc_psd pm_psd cd_psd ct_psd oc_law kV_law dc_law pm_law ct_law eC : Value} {vsC : Array Value} {slC : Array (Option Value)}
    {rs_get : List Value}
    {nmc2 qc2 : Str} {Nc2 : Addr} {bsc2 bmc2 subc2 : List Value} {snc2 : List Str} {abc2 : Bool} {colc2 : Option Bool} {ddc2 : Option Addr} {m0c2 m1c2 m2c2 m3c2 m5c2 : Option Value}
    {od_i2 an_i2 : Option Addr} {sl_i2 : Array (Option Value)} {oc_i2 kV_i2 dc_i2 pm_i2 ct_i2 : Value}
    {cg_i2 : Value} {dg_i2 : Option Addr} {sg_i2 : Array (Option Value)} {ce_i2 : Value} {de_i2 : Option Addr} {vs_i2 : Array Value} {se_i2 : Array (Option Value)} {fi_i2 : Str} {tf_i2 : Tok} {cdd_i2 : ClassData}
    {nmc5 qc5 : Str} {Nc5 : Addr} {bsc5 bmc5 subc5 : List Value} {snc5 : List Str} {abc5 : Bool} {colc5 : Option Bool} {ddc5 : Option Addr} {m0c5 m1c5 m2c5 m3c5 m5c5 : Option Value}
    {od_i5 an_i5 : Option Addr} {sl_i5 : Array (Option Value)} {oc_i5 kV_i5 dc_i5 pm_i5 ct_i5 : Value}
    {cg_i5 : Value} {dg_i5 : Option Addr} {sg_i5 : Array (Option Value)} {ce_i5 : Value} {de_i5 : Option Addr} {vs_i5 : Array Value} {se_i5 : Array (Option Value)} {fi_i5 : Str} {tf_i5 : Tok} {cdd_i5 : ClassData}
    {tP tH tM : Tok}
    {tFW tWS tMF : Tok}
    (aC : PySem.W.nsIn K mainGlobals "Row" = some (some (.ref C)))
    (a_ini : PySem.W.findIn K (.ref C) "__init__" = some (some (.ref f_ini)))
    (i_ini : PySem.W.isFn K (.ref f_ini) = true)
    (l_ini : K.lookup f_ini = some ⟨oc_ini, od_ini, .func (PySem.W.fnOf "__init__" "Row.__init__" (defArgs s_Row_init) (defBody s_Row_init) (defScope s_Row_init) .none kV_ini dc_ini pm_ini an_ini cd_ini ct_ini), sl_ini⟩)
    (c_ini : PySem.W.codeIn K cd_ini "Row.__init__" = true)
    (k_ini : PySem.W.keepIn K (.ref f_ini) = true)
    (a_len : PySem.W.findIn K (.ref C) "__len__" = some (some (.ref f_len)))
    (i_len : PySem.W.isFn K (.ref f_len) = true)
    (l_len : K.lookup f_len = some ⟨oc_len, od_len, .func (PySem.W.fnOf "__len__" "Row.__len__" (defArgs s_Row_len) (defBody s_Row_len) (defScope s_Row_len) .none kV_len dc_len pm_len an_len cd_len ct_len), sl_len⟩)
    (c_len : PySem.W.codeIn K cd_len "Row.__len__" = true)
    (k_len : PySem.W.keepIn K (.ref f_len) = true)
    (a_add : PySem.W.findIn K (.ref C) "__add__" = some (some (.ref f_add)))
    (i_add : PySem.W.isFn K (.ref f_add) = true)
    (l_add : K.lookup f_add = some ⟨oc_add, od_add, .func (PySem.W.fnOf "__add__" "Row.__add__" (defArgs s_Row_add) (defBody s_Row_add) (defScope s_Row_add) .none kV_add dc_add pm_add an_add cd_add ct_add), sl_add⟩)
    (c_add : PySem.W.codeIn K cd_add "Row.__add__" = true)
    (k_add : PySem.W.keepIn K (.ref f_add) = true)
    (pa_get : PySem.W.findIn K (.ref C) "stones" = some (some (.ref p_get)))
    (pb_get : PySem.W.specialIn K (.ref p_get) "__get__" = some (some (.builtin "property.__get__")))
    (pc_get : PySem.W.takesIn K (.ref p_get) = some true)
    (pd_get : PySem.W.recIn K p_get "property" = some (.ref f_get :: rs_get))
    (l_get : K.lookup f_get = some ⟨oc_get, od_get, .func (PySem.W.fnOf "stones" "Row.stones" (defArgs s_Row_stones) (defBody s_Row_stones) (defScope s_Row_stones) .none kV_get dc_get pm_get an_get cd_get ct_get), sl_get⟩)
    (c_get : PySem.W.codeIn K cd_get "Row.stones" = true)
    (k_get : PySem.W.keepIn K (.ref f_get) = true)
    (a_num : PySem.W.nsIn K mainGlobals "is_number" = some (some (.ref f_num)))
    (l_num : K.lookup f_num = some ⟨oc_num, od_num, .func (PySem.W.fnOf "is_number" "is_number" (defArgs s_is_number) (defBody s_is_number) (defScope s_is_number) .none kV_num dc_num pm_num an_num cd_num ct_num), sl_num⟩)
    (c_num : PySem.W.codeIn K cd_num "is_number" = true)
    (k_num : PySem.W.keepIn K (.ref f_num) = true)
    (a_iss : PySem.W.nsIn K mainGlobals "_is_stone" = some (some (.ref f_iss)))
    (l_iss : K.lookup f_iss = some ⟨oc_iss, od_iss, .func (PySem.W.fnOf "_is_stone" "_is_stone" (defArgs s_is_stone) (defBody s_is_stone) (defScope s_is_stone) .none kV_iss dc_iss pm_iss an_iss cd_iss ct_iss), sl_iss⟩)
    (c_iss : PySem.W.codeIn K cd_iss "_is_stone" = true)
    (k_iss : PySem.W.keepIn K (.ref f_iss) = true)
    (a_fmt : PySem.W.nsIn K mainGlobals "format_row" = some (some (.ref f_fmt)))
    (l_fmt : K.lookup f_fmt = some ⟨oc_fmt, od_fmt, .func (PySem.W.fnOf "format_row" "format_row" (defArgs s_format_row) (defBody s_format_row) (defScope s_format_row) .none kV_fmt dc_fmt pm_fmt an_fmt cd_fmt ct_fmt), sl_fmt⟩)
    (c_fmt : PySem.W.codeIn K cd_fmt "format_row" = true)
    (k_fmt : PySem.W.keepIn K (.ref f_fmt) = true)
    (a_par : PySem.W.nsIn K mainGlobals "parse_row" = some (some (.ref f_par)))
    (l_par : K.lookup f_par = some ⟨oc_par, od_par, .func (PySem.W.fnOf "parse_row" "parse_row" (defArgs s_parse_row) (defBody s_parse_row) (defScope s_parse_row) .none kV_par dc_par pm_par an_par cd_par ct_par), sl_par⟩)
    (c_par : PySem.W.codeIn K cd_par "parse_row" = true)
    (k_par : PySem.W.keepIn K (.ref f_par) = true)
    (a_pst : PySem.W.nsIn K mainGlobals "_parsed_stone" = some (some (.ref f_pst)))
    (l_pst : K.lookup f_pst = some ⟨oc_pst, od_pst, .func (PySem.W.fnOf "_parsed_stone" "_parsed_stone" (defArgs s_parsed_stone) (defBody s_parsed_stone) (defScope s_parsed_stone) .none kV_pst dc_pst pm_pst an_pst cd_pst ct_pst), sl_pst⟩)
    (c_pst : PySem.W.codeIn K cd_pst "_parsed_stone" = true)
    (k_pst : PySem.W.keepIn K (.ref f_pst) = true)
    (a_irw : PySem.W.nsIn K mainGlobals "_is_right_word" = some (some (.ref f_irw)))
    (l_irw : K.lookup f_irw = some ⟨oc_irw, od_irw, .func (PySem.W.fnOf "_is_right_word" "_is_right_word" (defArgs s_is_right_word) (defBody s_is_right_word) (defScope s_is_right_word) .none kV_irw dc_irw pm_irw an_irw cd_irw ct_irw), sl_irw⟩)
    (c_irw : PySem.W.codeIn K cd_irw "_is_right_word" = true)
    (k_irw : PySem.W.keepIn K (.ref f_irw) = true)
    (a_inn : PySem.W.nsIn K mainGlobals "_is_notation_of_number" = some (some (.ref f_inn)))
    (l_inn : K.lookup f_inn = some ⟨oc_inn, od_inn, .func (PySem.W.fnOf "_is_notation_of_number" "_is_notation_of_number" (defArgs s_is_notation_of_number) (defBody s_is_notation_of_number) (defScope s_is_notation_of_number) .none kV_inn dc_inn pm_inn an_inn cd_inn ct_inn), sl_inn⟩)
    (c_inn : PySem.W.codeIn K cd_inn "_is_notation_of_number" = true)
    (k_inn : PySem.W.keepIn K (.ref f_inn) = true)
    (a_dic : PySem.W.nsIn K mainGlobals "_law_dice" = some (some (.ref f_dic)))
    (l_dic : K.lookup f_dic = some ⟨oc_dic, od_dic, .func (PySem.W.fnOf "_law_dice" "_law_dice" (defArgs s_law_dice) (defBody s_law_dice) (defScope s_law_dice) .none kV_dic dc_dic pm_dic an_dic cd_dic ct_dic), sl_dic⟩)
    (c_dic : PySem.W.codeIn K cd_dic "_law_dice" = true)
    (k_dic : PySem.W.keepIn K (.ref f_dic) = true)
    (a_nex : PySem.W.nsIn K mainGlobals "_law_next" = some (some (.ref f_nex)))
    (l_nex : K.lookup f_nex = some ⟨oc_nex, od_nex, .func (PySem.W.fnOf "_law_next" "_law_next" (defArgs s_law_next) (defBody s_law_next) (defScope s_law_next) .none kV_nex dc_nex pm_nex an_nex cd_nex ct_nex), sl_nex⟩)
    (c_nex : PySem.W.codeIn K cd_nex "_law_next" = true)
    (k_nex : PySem.W.keepIn K (.ref f_nex) = true)
    (a_pic : PySem.W.nsIn K mainGlobals "_law_pick" = some (some (.ref f_pic)))
    (l_pic : K.lookup f_pic = some ⟨oc_pic, od_pic, .func (PySem.W.fnOf "_law_pick" "_law_pick" (defArgs s_law_pick) (defBody s_law_pick) (defScope s_law_pick) .none kV_pic dc_pic pm_pic an_pic cd_pic ct_pic), sl_pic⟩)
    (c_pic : PySem.W.codeIn K cd_pic "_law_pick" = true)
    (k_pic : PySem.W.keepIn K (.ref f_pic) = true)
    (a_tol : PySem.W.nsIn K mainGlobals "_law_told" = some (some (.ref f_tol)))
    (l_tol : K.lookup f_tol = some ⟨oc_tol, od_tol, .func (PySem.W.fnOf "_law_told" "_law_told" (defArgs s_law_told) (defBody s_law_told) (defScope s_law_told) .none kV_tol dc_tol pm_tol an_tol cd_tol ct_tol), sl_tol⟩)
    (c_tol : PySem.W.codeIn K cd_tol "_law_told" = true)
    (k_tol : PySem.W.keepIn K (.ref f_tol) = true)
    (a_sto : PySem.W.nsIn K mainGlobals "_law_stones" = some (some (.ref f_sto)))
    (l_sto : K.lookup f_sto = some ⟨oc_sto, od_sto, .func (PySem.W.fnOf "_law_stones" "_law_stones" (defArgs s_law_stones) (defBody s_law_stones) (defScope s_law_stones) .none kV_sto dc_sto pm_sto an_sto cd_sto ct_sto), sl_sto⟩)
    (c_sto : PySem.W.codeIn K cd_sto "_law_stones" = true)
    (k_sto : PySem.W.keepIn K (.ref f_sto) = true)
    (a_mad : PySem.W.nsIn K mainGlobals "_law_made" = some (some (.ref f_mad)))
    (l_mad : K.lookup f_mad = some ⟨oc_mad, od_mad, .func (PySem.W.fnOf "_law_made" "_law_made" (defArgs s_law_made) (defBody s_law_made) (defScope s_law_made) .none kV_mad dc_mad pm_mad an_mad cd_mad ct_mad), sl_mad⟩)
    (c_mad : PySem.W.codeIn K cd_mad "_law_made" = true)
    (k_mad : PySem.W.keepIn K (.ref f_mad) = true)
    (a_fig : PySem.W.nsIn K mainGlobals "_law_figures" = some (some (.ref f_fig)))
    (l_fig : K.lookup f_fig = some ⟨oc_fig, od_fig, .func (PySem.W.fnOf "_law_figures" "_law_figures" (defArgs s_law_figures) (defBody s_law_figures) (defScope s_law_figures) .none kV_fig dc_fig pm_fig an_fig cd_fig ct_fig), sl_fig⟩)
    (c_fig : PySem.W.codeIn K cd_fig "_law_figures" = true)
    (k_fig : PySem.W.keepIn K (.ref f_fig) = true)
    (a_psd : PySem.W.nsIn K mainGlobals "_law_parsed" = some (some (.ref f_psd)))
    (l_psd : K.lookup f_psd = some ⟨oc_psd, od_psd, .func (PySem.W.fnOf "_law_parsed" "_law_parsed" (defArgs s_law_parsed) (defBody s_law_parsed) (defScope s_law_parsed) .none kV_psd dc_psd pm_psd an_psd cd_psd ct_psd), sl_psd⟩)
    (c_psd : PySem.W.codeIn K cd_psd "_law_parsed" = true)
    (k_psd : PySem.W.keepIn K (.ref f_psd) = true)
    (a_law : PySem.W.nsIn K mainGlobals "law" = some (some (.ref f_law)))
    (l_law : K.lookup f_law = some ⟨oc_law, od_law, .func (PySem.W.fnOf "law" "law" (defArgs s_law) (defBody s_law) (defScope s_law) .none kV_law dc_law pm_law an_law (.ref cl) ct_law), sl_law⟩)
    (c_law : PySem.W.codeIn K (.ref cl) "law" = true)
    (k_law : PySem.W.keepIn K (.ref f_law) = true)
    (lc : K.lookup cl = some ⟨eC, ddC, .fields vsC, slC⟩)
    (lp : vsC[11]? = some (.ref Pt))
    (np : K.lookup Pt = none)
    (ch : PySem.W.codeHdIn K cl Pt = true)
    (z_isinstance : PySem.W.nsIn K mainGlobals "isinstance" = some none)
    (z_int : PySem.W.nsIn K mainGlobals "int" = some none)
    (z_bool : PySem.W.nsIn K mainGlobals "bool" = some none)
    (z_len : PySem.W.nsIn K mainGlobals "len" = some none)
    (z_tuple : PySem.W.nsIn K mainGlobals "tuple" = some none)
    (z_list : PySem.W.nsIn K mainGlobals "list" = some none)
    (z_range : PySem.W.nsIn K mainGlobals "range" = some none)
    (z_enumerate : PySem.W.nsIn K mainGlobals "enumerate" = some none)
    (z_abs : PySem.W.nsIn K mainGlobals "abs" = some none)
    (z_max : PySem.W.nsIn K mainGlobals "max" = some none)
    (z_min : PySem.W.nsIn K mainGlobals "min" = some none)
    (z_sorted : PySem.W.nsIn K mainGlobals "sorted" = some none)
    (z_str : PySem.W.nsIn K mainGlobals "str" = some none)
    (z_super : PySem.W.nsIn K mainGlobals "super" = some none)
    (z_VE : PySem.W.nsIn K mainGlobals "ValueError" = some none)
    (ne : PySem.W.nsIn K mainGlobals "StoneError" = some (some (.ref xe)))
    (nc0 : PySem.W.nsIn K mainGlobals "InvalidOperation" = some (some (.ref xc0)))
    (nc1 : PySem.W.nsIn K mainGlobals "DecodeError" = some (some (.ref xc1)))
    (nc2 : PySem.W.nsIn K mainGlobals "NotationError" = some (some (.ref xc2)))
    (nc3 : PySem.W.nsIn K mainGlobals "NotStanding" = some (some (.ref xc3)))
    (nc4 : PySem.W.nsIn K mainGlobals "NotLying" = some (some (.ref xc4)))
    (nc5 : PySem.W.nsIn K mainGlobals "InvalidRow" = some (some (.ref xc5)))
    (nc6 : PySem.W.nsIn K mainGlobals "UnknownStone" = some (some (.ref xc6)))
    (nc7 : PySem.W.nsIn K mainGlobals "InvalidSide" = some (some (.ref xc7)))
    (nc8 : PySem.W.nsIn K mainGlobals "InvalidNumber" = some (some (.ref xc8)))
    (nc9 : PySem.W.nsIn K mainGlobals "Contradiction" = some (some (.ref xc9)))
    (nc10 : PySem.W.nsIn K mainGlobals "InvalidCount" = some (some (.ref xc10)))
    (gac2 : PySem.W.findIn K (.ref xc2) "__getattribute__" = some (some (.builtin "BaseException.__getattribute__")))
    (ggc2 : PySem.W.findIn K (.ref xc2) "__getattr__" = some none)
    (suc2 : PySem.W.subIn K (.ref xc2) (.type "BaseException") = some true)
    (hdc2 : PySem.W.hasDictIn K xc2 = true)
    (cac2 : PySem.W.findIn K (.ref xc2) "__class__" = some (some (.builtin "object.__class__")))
    (moc2 : PySem.W.mroIn K xc2 (.type "object") = some true)
    (ixc2 : PySem.W.findIn K (.ref xc2) "index" = some none)
    (sxc2 : PySem.W.findIn K (.ref xc2) "stone" = some none)
    (oxc2 : PySem.W.findIn K (.ref xc2) "offset" = some none)
    (lxc2 : PySem.W.findIn K (.ref xc2) "line" = some none)
    (wxc2 : PySem.W.findIn K (.ref xc2) "word" = some none)
    (sec2 : PySem.W.exmOne K (.ref xc2) (.ref xe) = some true)
    (q0c2 : PySem.W.kitOne K (.ref xc2) (.ref xc0) = some (2 == 0))
    (q1c2 : PySem.W.kitOne K (.ref xc2) (.ref xc1) = some (2 == 1))
    (q2c2 : PySem.W.kitOne K (.ref xc2) (.ref xc2) = some (2 == 2))
    (q3c2 : PySem.W.kitOne K (.ref xc2) (.ref xc3) = some (2 == 3))
    (q4c2 : PySem.W.kitOne K (.ref xc2) (.ref xc4) = some (2 == 4))
    (q5c2 : PySem.W.kitOne K (.ref xc2) (.ref xc5) = some (2 == 5))
    (q6c2 : PySem.W.kitOne K (.ref xc2) (.ref xc6) = some (2 == 6))
    (q7c2 : PySem.W.kitOne K (.ref xc2) (.ref xc7) = some (2 == 7))
    (q8c2 : PySem.W.kitOne K (.ref xc2) (.ref xc8) = some (2 == 8))
    (q9c2 : PySem.W.kitOne K (.ref xc2) (.ref xc9) = some (2 == 9))
    (q10c2 : PySem.W.kitOne K (.ref xc2) (.ref xc10) = some (2 == 10))
    (vec2 : PySem.W.kitOne K (.ref xc2) (.type "ValueError") = some true)
    (kpc2 : PySem.W.keepIn K (.ref xc2) = true)
    (tyc2 : PySem.W.typeIn K (.ref xc2) = some (.type "type"))
    (gac5 : PySem.W.findIn K (.ref xc5) "__getattribute__" = some (some (.builtin "BaseException.__getattribute__")))
    (ggc5 : PySem.W.findIn K (.ref xc5) "__getattr__" = some none)
    (suc5 : PySem.W.subIn K (.ref xc5) (.type "BaseException") = some true)
    (hdc5 : PySem.W.hasDictIn K xc5 = true)
    (cac5 : PySem.W.findIn K (.ref xc5) "__class__" = some (some (.builtin "object.__class__")))
    (moc5 : PySem.W.mroIn K xc5 (.type "object") = some true)
    (ixc5 : PySem.W.findIn K (.ref xc5) "index" = some none)
    (sxc5 : PySem.W.findIn K (.ref xc5) "stone" = some none)
    (oxc5 : PySem.W.findIn K (.ref xc5) "offset" = some none)
    (lxc5 : PySem.W.findIn K (.ref xc5) "line" = some none)
    (wxc5 : PySem.W.findIn K (.ref xc5) "word" = some none)
    (sec5 : PySem.W.exmOne K (.ref xc5) (.ref xe) = some true)
    (q0c5 : PySem.W.kitOne K (.ref xc5) (.ref xc0) = some (5 == 0))
    (q1c5 : PySem.W.kitOne K (.ref xc5) (.ref xc1) = some (5 == 1))
    (q2c5 : PySem.W.kitOne K (.ref xc5) (.ref xc2) = some (5 == 2))
    (q3c5 : PySem.W.kitOne K (.ref xc5) (.ref xc3) = some (5 == 3))
    (q4c5 : PySem.W.kitOne K (.ref xc5) (.ref xc4) = some (5 == 4))
    (q5c5 : PySem.W.kitOne K (.ref xc5) (.ref xc5) = some (5 == 5))
    (q6c5 : PySem.W.kitOne K (.ref xc5) (.ref xc6) = some (5 == 6))
    (q7c5 : PySem.W.kitOne K (.ref xc5) (.ref xc7) = some (5 == 7))
    (q8c5 : PySem.W.kitOne K (.ref xc5) (.ref xc8) = some (5 == 8))
    (q9c5 : PySem.W.kitOne K (.ref xc5) (.ref xc9) = some (5 == 9))
    (q10c5 : PySem.W.kitOne K (.ref xc5) (.ref xc10) = some (5 == 10))
    (vec5 : PySem.W.kitOne K (.ref xc5) (.type "ValueError") = some true)
    (kpc5 : PySem.W.keepIn K (.ref xc5) = true)
    (tyc5 : PySem.W.typeIn K (.ref xc5) = some (.type "type"))
    (opq : PySem.W.nsIn K PySem.cStatics "thirdparty.any" = some none)
    (tps : (l.prog.main.scope.names.lookup ("super" : Str)).isSome = false)
    (xlc2 : K.lookup xc2 = some (excClassObj nmc2 qc2 xc2 Nc2 bsc2 bmc2 true snc2 subc2 abc2 colc2 ddc2 m0c2 m1c2 m2c2 m3c2 m5c2 "ValueError.__new__"))
    (xrc2 : PySem.HandSPX.refsVE bmc2 = true)
    (sac2 : PySem.W.findIn K (.ref xc2) "__setattr__" = some (some (.builtin "object.__setattr__")))
    (a_i2 : PySem.W.findIn K (.ref xc2) "__init__" = some (some (.ref f_i2)))
    (t_i2 : PySem.W.typeIn K (.ref f_i2) = some (.type "function"))
    (l_i2 : K.lookup f_i2 = some ⟨oc_i2, od_i2, .func (PySem.W.fnX "__init__" "NotationError.__init__" (defArgs s_NotationError_init) (defBody s_NotationError_init) (defScope s_NotationError_init) [("__class__", g_i2)] .none kV_i2 dc_i2 pm_i2 an_i2 (.ref e_i2) ct_i2), sl_i2⟩)
    (c_i2 : PySem.W.codeIn K (.ref e_i2) "NotationError.__init__" = true)
    (g1_i2 : K.lookup g_i2 = some ⟨cg_i2, dg_i2, .cell (some (.ref xc2)), sg_i2⟩)
    (g2_i2 : PySem.W.clsIn K xc2 = some cdd_i2)
    (g3_i2 : PySem.W.mroIn K xc2 (.ref xc2) = some true)
    (g4_i2 : PySem.W.ks_superIn K xc2 xc2 "__init__" = some (some (.builtin "ValueError.__init__")))
    (g5_i2 : PySem.W.subIn K (.ref xc2) (.type "ValueError") = some true)
    (e1_i2 : K.lookup e_i2 = some ⟨ce_i2, de_i2, .fields vs_i2, se_i2⟩)
    (e2_i2 : vs_i2[2]? = some (.str fi_i2 tf_i2))
    (e3_i2 : ((l.prog.main.file : Str) == fi_i2) = true)
    (xlc5 : K.lookup xc5 = some (excClassObj nmc5 qc5 xc5 Nc5 bsc5 bmc5 true snc5 subc5 abc5 colc5 ddc5 m0c5 m1c5 m2c5 m3c5 m5c5 "ValueError.__new__"))
    (xrc5 : PySem.HandSPX.refsVE bmc5 = true)
    (sac5 : PySem.W.findIn K (.ref xc5) "__setattr__" = some (some (.builtin "object.__setattr__")))
    (a_i5 : PySem.W.findIn K (.ref xc5) "__init__" = some (some (.ref f_i5)))
    (t_i5 : PySem.W.typeIn K (.ref f_i5) = some (.type "function"))
    (l_i5 : K.lookup f_i5 = some ⟨oc_i5, od_i5, .func (PySem.W.fnX "__init__" "InvalidRow.__init__" (defArgs s_InvalidRow_init) (defBody s_InvalidRow_init) (defScope s_InvalidRow_init) [("__class__", g_i5)] .none kV_i5 dc_i5 pm_i5 an_i5 (.ref e_i5) ct_i5), sl_i5⟩)
    (c_i5 : PySem.W.codeIn K (.ref e_i5) "InvalidRow.__init__" = true)
    (g1_i5 : K.lookup g_i5 = some ⟨cg_i5, dg_i5, .cell (some (.ref xc5)), sg_i5⟩)
    (g2_i5 : PySem.W.clsIn K xc5 = some cdd_i5)
    (g3_i5 : PySem.W.mroIn K xc5 (.ref xc5) = some true)
    (g4_i5 : PySem.W.ks_superIn K xc5 xc5 "__init__" = some (some (.builtin "ValueError.__init__")))
    (g5_i5 : PySem.W.subIn K (.ref xc5) (.type "ValueError") = some true)
    (e1_i5 : K.lookup e_i5 = some ⟨ce_i5, de_i5, .fields vs_i5, se_i5⟩)
    (e2_i5 : vs_i5[2]? = some (.str fi_i5 tf_i5))
    (e3_i5 : ((l.prog.main.file : Str) == fi_i5) = true)
    (aP : PySem.W.nsIn K mainGlobals "GREATEST_PLACE" = some (some (.int 1000000000 tP)))
    (aH : PySem.W.nsIn K mainGlobals "GREATEST_HEIGHT" = some (some (.int 1000000000 tH)))
    (pg : PySem.W.plainGet K C Str.empty = true)
    (hd : PySem.W.hasDictIn K C = true)
    (po : PySem.W.plainOver K C = true)
    (sa : PySem.W.findIn K (.ref C) "__setattr__" = some (some (.builtin "object.__setattr__")))
    (mk : PySem.W.makesIn K C = true)
    (kc : PySem.W.keepIn K (.ref C) = true)
    (nQ : PySem.W.findIn K (.ref C) "_stones" = some none)
    (mM : PySem.W.findIn K (.ref C) "MAX_STONES" = some (some (.int 40 tM)))
    (gM : PySem.W.specialIn K (.int 40 tM) "__get__" = some none)
    (sf : PySem.W.selfFirst K C = true)
    (ca : PySem.W.findIn K (.ref C) "__class__" = some (some (.builtin "object.__class__")))
    (cn : PySem.W.specialIn K (.builtin "object.__class__") "__get__" = some (some (.builtin "getset_descriptor.__get__")))
    (ct : PySem.W.takesIn K (.builtin "object.__class__") = some true)
    (cm : PySem.W.mroIn K C (.type "object") = some true)
    (aFW : PySem.W.nsIn K mainGlobals "FIRST_WORD" = some (some (.str "stone" tFW)))
    (aWS : PySem.W.nsIn K mainGlobals "WORDS" = some (some (.int 3 tWS)))
    (aMF : PySem.W.nsIn K mainGlobals "MOST_FIGURES" = some (some (.int 10 tMF))) :
    LamX.LawAtS l w K CX0 8 63 "_law_script" mg fa h := by
  have e := hfa.symm.trans (PySem.W.mg_of X G a_law)
  obtain rfl : f_law = fa := by cases e; rfl
  have B : Blt mg := ⟨PySem.W.mg_none_of X G z_isinstance, PySem.W.mg_none_of X G z_int, PySem.W.mg_none_of X G z_bool, PySem.W.mg_none_of X G z_len, PySem.W.mg_none_of X G z_tuple, PySem.W.mg_none_of X G z_list, PySem.W.mg_none_of X G z_range, PySem.W.mg_none_of X G z_enumerate, PySem.W.mg_none_of X G z_abs, PySem.W.mg_none_of X G z_max, PySem.W.mg_none_of X G z_min, PySem.W.mg_none_of X G z_sorted⟩
  have F_ini := fun_mk (st := s_Row_init) l_ini c_ini k_ini
  have F_len := fun_mk (st := s_Row_len) l_len c_len k_len
  have b_len := F_len.binds (ps := ["self"]) fun _ _ _ _ _ _ us hl => match us, hl with | [_], _ => rfl
  have F_add := fun_mk (st := s_Row_add) l_add c_add k_add
  have b_add := F_add.binds (ps := ["self", "other"]) fun _ _ _ _ _ _ us hl => match us, hl with | [_, _], _ => rfl
  have F_get := fun_mk (st := s_Row_stones) l_get c_get k_get
  have b_get := F_get.binds (ps := ["self"]) fun _ _ _ _ _ _ us hl => match us, hl with | [_], _ => rfl
  have P_get : PropOf K C "stones" p_get f_get := ⟨pa_get, pb_get, pc_get, ⟨rs_get, pd_get⟩⟩
  have F_num := fun_mk (st := s_is_number) l_num c_num k_num
  have D_num : DefAt K mg "is_number" s_is_number ["value", "least", "greatest"] f_num _ := ⟨F_num, PySem.W.mg_of X G a_num, F_num.binds fun _ _ _ _ _ _ us hl => match us, hl with | [_, _, _], _ => rfl⟩
  have F_iss := fun_mk (st := s_is_stone) l_iss c_iss k_iss
  have D_iss : DefAt K mg "_is_stone" s_is_stone ["stone", "least_place"] f_iss _ := ⟨F_iss, PySem.W.mg_of X G a_iss, F_iss.binds fun _ _ _ _ _ _ us hl => match us, hl with | [_, _], _ => rfl⟩
  have F_fmt := fun_mk (st := s_format_row) l_fmt c_fmt k_fmt
  have D_fmt : DefAt K mg "format_row" s_format_row ["row"] f_fmt _ := ⟨F_fmt, PySem.W.mg_of X G a_fmt, F_fmt.binds fun _ _ _ _ _ _ us hl => match us, hl with | [_], _ => rfl⟩
  have F_par := fun_mk (st := s_parse_row) l_par c_par k_par
  have D_par : DefAt K mg "parse_row" s_parse_row ["text"] f_par _ := ⟨F_par, PySem.W.mg_of X G a_par, F_par.binds fun _ _ _ _ _ _ us hl => match us, hl with | [_], _ => rfl⟩
  have F_pst := fun_mk (st := s_parsed_stone) l_pst c_pst k_pst
  have D_pst : DefAt K mg "_parsed_stone" s_parsed_stone ["line", "number"] f_pst _ := ⟨F_pst, PySem.W.mg_of X G a_pst, F_pst.binds fun _ _ _ _ _ _ us hl => match us, hl with | [_, _], _ => rfl⟩
  have F_irw := fun_mk (st := s_is_right_word) l_irw c_irw k_irw
  have D_irw : DefAt K mg "_is_right_word" s_is_right_word ["word", "index"] f_irw _ := ⟨F_irw, PySem.W.mg_of X G a_irw, F_irw.binds fun _ _ _ _ _ _ us hl => match us, hl with | [_, _], _ => rfl⟩
  have F_inn := fun_mk (st := s_is_notation_of_number) l_inn c_inn k_inn
  have D_inn : DefAt K mg "_is_notation_of_number" s_is_notation_of_number ["word"] f_inn _ := ⟨F_inn, PySem.W.mg_of X G a_inn, F_inn.binds fun _ _ _ _ _ _ us hl => match us, hl with | [_], _ => rfl⟩
  have F_dic := fun_mk (st := s_law_dice) l_dic c_dic k_dic
  have D_dic : DefAt K mg "_law_dice" s_law_dice ["_law_script"] f_dic _ := ⟨F_dic, PySem.W.mg_of X G a_dic, F_dic.binds fun _ _ _ _ _ _ us hl => match us, hl with | [_], _ => rfl⟩
  have F_nex := fun_mk (st := s_law_next) l_nex c_nex k_nex
  have D_nex : DefAt K mg "_law_next" s_law_next ["_law_dice_here", "_law_many"] f_nex _ := ⟨F_nex, PySem.W.mg_of X G a_nex, F_nex.binds fun _ _ _ _ _ _ us hl => match us, hl with | [_, _], _ => rfl⟩
  have F_pic := fun_mk (st := s_law_pick) l_pic c_pic k_pic
  have D_pic : DefAt K mg "_law_pick" s_law_pick ["_law_d", "_law_some"] f_pic _ := ⟨F_pic, PySem.W.mg_of X G a_pic, F_pic.binds fun _ _ _ _ _ _ us hl => match us, hl with | [_, _], _ => rfl⟩
  have F_tol := fun_mk (st := s_law_told) l_tol c_tol k_tol
  have D_tol : DefAt K mg "_law_told" s_law_told ["_law_work"] f_tol _ := ⟨F_tol, PySem.W.mg_of X G a_tol, F_tol.binds fun _ _ _ _ _ _ us hl => match us, hl with | [_], _ => rfl⟩
  have F_sto := fun_mk (st := s_law_stones) l_sto c_sto k_sto
  have D_sto : DefAt K mg "_law_stones" s_law_stones ["_law_d", "_law_most"] f_sto _ := ⟨F_sto, PySem.W.mg_of X G a_sto, F_sto.binds fun _ _ _ _ _ _ us hl => match us, hl with | [_, _], _ => rfl⟩
  have F_mad := fun_mk (st := s_law_made) l_mad c_mad k_mad
  have D_mad : DefAt K mg "_law_made" s_law_made ["_law_stones_here"] f_mad _ := ⟨F_mad, PySem.W.mg_of X G a_mad, F_mad.binds fun _ _ _ _ _ _ us hl => match us, hl with | [_], _ => rfl⟩
  have F_fig := fun_mk (st := s_law_figures) l_fig c_fig k_fig
  have D_fig : DefAt K mg "_law_figures" s_law_figures ["_law_word"] f_fig _ := ⟨F_fig, PySem.W.mg_of X G a_fig, F_fig.binds fun _ _ _ _ _ _ us hl => match us, hl with | [_], _ => rfl⟩
  have F_psd := fun_mk (st := s_law_parsed) l_psd c_psd k_psd
  have D_psd : DefAt K mg "_law_parsed" s_law_parsed ["_law_lines"] f_psd _ := ⟨F_psd, PySem.W.mg_of X G a_psd, F_psd.binds fun _ _ _ _ _ _ us hl => match us, hl with | [_], _ => rfl⟩
  have L : Lims mg := ⟨⟨tP, PySem.W.mg_of X G aP⟩, ⟨tH, PySem.W.mg_of X G aH⟩⟩
  have R : RowC K mg C := ⟨⟨pg, hd, po, sa⟩, nQ, ⟨_, mM, ⟨tM, rfl⟩, gM, by decide⟩, PySem.W.mg_of X G aC, sf, ca, cn, ct, cm⟩
  have M : Mk K C f_ini := ⟨mk, a_ini, i_ini, kc⟩
  have YM : ExcMW mg ⟨xe, xc0, xc1, xc2, xc3, xc4, xc5, xc6, xc7, xc8, xc9, xc10⟩ := ⟨PySem.W.mg_of X G ne, PySem.W.mg_of X G nc0, PySem.W.mg_of X G nc1, PySem.W.mg_of X G nc2, PySem.W.mg_of X G nc3, PySem.W.mg_of X G nc4, PySem.W.mg_of X G nc5, PySem.W.mg_of X G nc6, PySem.W.mg_of X G nc7, PySem.W.mg_of X G nc8, PySem.W.mg_of X G nc9, PySem.W.mg_of X G nc10, PySem.W.mg_none_of X G z_VE⟩
  have x2 : ExcOfW K ⟨xe, xc0, xc1, xc2, xc3, xc4, xc5, xc6, xc7, xc8, xc9, xc10⟩ xc2 2 := ⟨⟨gac2, ggc2, suc2, hdc2, cac2, cn, ct, moc2⟩, ixc2, sxc2, oxc2, lxc2, wxc2, sec2, q0c2, q1c2, q2c2, q3c2, q4c2, q5c2, q6c2, q7c2, q8c2, q9c2, q10c2, vec2⟩
  have x5 : ExcOfW K ⟨xe, xc0, xc1, xc2, xc3, xc4, xc5, xc6, xc7, xc8, xc9, xc10⟩ xc5 5 := ⟨⟨gac5, ggc5, suc5, hdc5, cac5, cn, ct, moc5⟩, ixc5, sxc5, oxc5, lxc5, wxc5, sec5, q0c5, q1c5, q2c5, q3c5, q4c5, q5c5, q6c5, q7c5, q8c5, q9c5, q10c5, vec5⟩
  have T2 : OexC K xc2 := ⟨⟨_, _, _, _, _, _, _, _, _, _, _, _, _, _, _, xlc2, xrc2⟩, sac2, suc2, tyc2, kpc2⟩
  have S2 : SupX.SupD l.prog K g_i2 xc2 := ⟨⟨_, _, _, g1_i2⟩, ⟨_, g2_i2⟩, g3_i2, g4_i2, g5_i2, opq, tps⟩
  have T5 : OexC K xc5 := ⟨⟨_, _, _, _, _, _, _, _, _, _, _, _, _, _, _, xlc5, xrc5⟩, sac5, suc5, tyc5, kpc5⟩
  have S5 : SupX.SupD l.prog K g_i5 xc5 := ⟨⟨_, _, _, g1_i5⟩, ⟨_, g2_i5⟩, g3_i5, g4_i5, g5_i5, opq, tps⟩
  have empty := own cl Pt _ _ eC ddC vsC slC l_law rfl rfl lc lp
  have code := PySem.W.codeHd_of_K X ch
  refine ⟨PySem.W.fnOf "law" "law" (defArgs s_law) (defBody s_law) (defScope s_law) .none kV_law dc_law pm_law an_law (.ref cl) ct_law, [(cl, Pt)], spLaw K [(Pt, qL)], fun p hp => ?_, fun p hp => ?_, fun p hp => ?_, fun s v => .of_eq rfl, fun H a ns hn63 _ hT hS => ⟨a, ns, rfl, hS, hn63, fun p hp => ?_, fun _ => rfl⟩, fun base _ _ hB => ?_⟩
  · obtain rfl : p = (cl, Pt) := by simpa using hp
    exact empty
  · obtain rfl : p = (cl, Pt) := by simpa using hp
    exact np
  · obtain rfl : p = (cl, Pt) := by simpa using hp
    exact code
  · obtain rfl : p = (Pt, qL) := by simpa using hp
    exact LamX.TabS.nil (hT (cl, Pt) (by simp))
  have I2 : ExN l.prog w K mg base xc2 := ⟨T2, PySem.W.mg_of X G nc2, ⟨f_i2, _, a_i2, t_i2, ok_neInit l_i2 c_i2 S2 e1_i2 rfl e2_i2 e3_i2 (PySem.W.mg_none_of X G z_super) lxc2 wxc2, .all fun us hl => match us, hl with | [_, _, _], _ => rfl⟩⟩
  have I5 : ExI l.prog w K mg base "InvalidRow" "index" xc5 := ⟨T5, PySem.W.mg_of X G nc5, ⟨f_i5, _, a_i5, t_i5, ok_irInit l_i5 c_i5 S5 e1_i5 rfl e2_i5 e3_i5 (PySem.W.mg_none_of X G z_super) ixc5, .all fun us hl => match us, hl with | [_, _], _ => rfl⟩⟩
  have A_num := D_num.at (ok_num (P := l.prog) (w := w) (base := base) F_num B)
  have A_iss := D_iss.at (ok_isStone F_iss B L A_num)
  have G_ini := ok_init F_ini B R A_iss
  have G_inE := ok_initE F_ini B R I5 A_iss
  have G_len := toR (ok_len (P := l.prog) (w := w) (base := base) F_len B R) b_len
  have O_get := ok_get (P := l.prog) (w := w) (base := base) F_get R
  have TM : TxtM mg := ⟨⟨_, PySem.W.mg_of X G aFW⟩, ⟨_, PySem.W.mg_of X G aWS⟩, ⟨_, PySem.W.mg_of X G aMF⟩⟩
  have bs := PySem.W.mg_none_of X G z_str
  have A_inn := D_inn.at (ok_notN (P := l.prog) (w := w) (base := base) F_inn B TM)
  have A_irw := D_irw.at (ok_right F_irw B TM A_inn)
  have A_pst := D_pst.at (ok_stoneE F_pst B TM I2 A_irw)
  have A_par := D_par.at (ok_parseE F_par B bs R M G_ini G_inE A_pst)
  have A_fmt := D_fmt.at (ok_fmt F_fmt B TM R P_get O_get b_get)
  have A_dic := D_dic.at (ok_dice (P := l.prog) (w := w) (base := base) F_dic B)
  have A_nex := D_nex.at (ok_next (P := l.prog) (w := w) (base := base) F_nex B)
  have A_pic := D_pic.at (ok_pick F_pic B A_nex)
  have A_sto := D_sto.at (ok_stones F_sto B A_nex)
  have G_add := toR (ok_add F_add B R M G_ini) b_add
  have A_mad := D_mad.at (ok_made F_mad B R M G_ini G_add ⟨a_add, i_add⟩)
  have A_fig := D_fig.at (ok_fig (P := l.prog) (w := w) (base := base) F_fig B)
  have A_psd := D_psd.at (ok_parsed F_psd B A_fig)
  exact ok_law B bs R M G_ini ⟨a_len, i_len⟩ G_len P_get O_get b_get A_dic A_nex A_sto A_mad A_pic A_psd A_fmt A_par YM x2 x5 l_law c_law
    (PySem.W.mg_of X G a_tol) k_tol l_tol c_tol D_tol.b (hB (cl, Pt) (by simp)) (by simp) (fun p hp _ => by
      obtain rfl : p = (Pt, qL) := by simpa using hp
      rfl)
theorem walk {l : PySem.W.OpenLaw} {q : Program} {loose : List Str} {XP : (Str → Option Value) → Heap → Prop} {YP : World → Heap → Prop} {d : DefRec} {K : Params → PySem.W.Frag} (hn : l.most = some 63) (hdf : d.params.defaults = []) (hrec : ((recsOf q).any fun e => e.name == d.name) = true)
    (hY : ∀ (w : World) (h : Heap), YP w h → (K w.params).In h)
    (F : ∀ (w : World) (mg : Str → Option Value) (fa : Addr) (h : Heap), (K w.params).In h → h.Ns mainGlobals mg → mg d.name = some (.ref fa) → LamX.OwnTab (K w.params) fa h → LamX.LawAtS l w (K w.params) CX0 8 63 "_law_script" mg fa h) :
    PySem.W.WalkO q loose XP YP l.row.toRowW d [] (fun f vs => PySem.call f vs) :=
  LamX.walk_ofOwn (n := 63) (k := 8) (x := "_law_script") (CX := fun _ => CX0) hn (by decide) hdf ⟨rfl, by decide, by decide⟩ hrec hY (fun w mg fa h _ => F w mg fa h) fun _ _ _ _ _ z => z
end RD
end
open PySem PySem.W PyProof.Rows
set_option maxRecDepth 100000 in
set_option maxHeartbeats 0 in
theorem PySem.Challenge.cw_rowdominoes_k46_notation_holds : PySem.Challenge.rw_rowdominoes_k46_notation.Holds := by
  w_on; o_law; k_head; (case hw => w_witness2)
  k_fill
  refine RD.walk (l := PySem.Challenge.rw_rowdominoes_k46_notation) rfl rfl ?hrec (fun w h Y => PySem.W.km_in_of Y) ?F
  case hrec => decide +kernel
  case F =>
    intro w mg fa h KX G hmg own
    refine' RD.all_mk KX G hmg own ?aC ?a_ini ?i_ini ?l_ini ?c_ini ?k_ini ?a_len ?i_len ?l_len ?c_len ?k_len ?a_add ?i_add ?l_add ?c_add ?k_add ?pa_get ?pb_get ?pc_get ?pd_get ?l_get ?c_get ?k_get ?a_num ?l_num ?c_num ?k_num ?a_iss ?l_iss ?c_iss ?k_iss ?a_fmt ?l_fmt ?c_fmt ?k_fmt ?a_par ?l_par ?c_par ?k_par ?a_pst ?l_pst ?c_pst ?k_pst ?a_irw ?l_irw ?c_irw ?k_irw ?a_inn ?l_inn ?c_inn ?k_inn ?a_dic ?l_dic ?c_dic ?k_dic ?a_nex ?l_nex ?c_nex ?k_nex ?a_pic ?l_pic ?c_pic ?k_pic ?a_tol ?l_tol ?c_tol ?k_tol ?a_sto ?l_sto ?c_sto ?k_sto ?a_mad ?l_mad ?c_mad ?k_mad ?a_fig ?l_fig ?c_fig ?k_fig ?a_psd ?l_psd ?c_psd ?k_psd ?a_law ?l_law ?c_law ?k_law ?lc ?lp ?np ?ch ?z_isinstance ?z_int ?z_bool ?z_len ?z_tuple ?z_list ?z_range ?z_enumerate ?z_abs ?z_max ?z_min ?z_sorted ?z_str ?z_super ?z_VE ?ne ?nc0 ?nc1 ?nc2 ?nc3 ?nc4 ?nc5 ?nc6 ?nc7 ?nc8 ?nc9 ?nc10 ?gac2 ?ggc2 ?suc2 ?hdc2 ?cac2 ?moc2 ?ixc2 ?sxc2 ?oxc2 ?lxc2 ?wxc2 ?sec2 ?q0c2 ?q1c2 ?q2c2 ?q3c2 ?q4c2 ?q5c2 ?q6c2 ?q7c2 ?q8c2 ?q9c2 ?q10c2 ?vec2 ?kpc2 ?tyc2 ?gac5 ?ggc5 ?suc5 ?hdc5 ?cac5 ?moc5 ?ixc5 ?sxc5 ?oxc5 ?lxc5 ?wxc5 ?sec5 ?q0c5 ?q1c5 ?q2c5 ?q3c5 ?q4c5 ?q5c5 ?q6c5 ?q7c5 ?q8c5 ?q9c5 ?q10c5 ?vec5 ?kpc5 ?tyc5 ?opq ?tps ?xlc2 ?xrc2 ?sac2 ?a_i2 ?t_i2 ?l_i2 ?c_i2 ?g1_i2 ?g2_i2 ?g3_i2 ?g4_i2 ?g5_i2 ?e1_i2 ?e2_i2 ?e3_i2 ?xlc5 ?xrc5 ?sac5 ?a_i5 ?t_i5 ?l_i5 ?c_i5 ?g1_i5 ?g2_i5 ?g3_i5 ?g4_i5 ?g5_i5 ?e1_i5 ?e2_i5 ?e3_i5 ?aP ?aH ?pg ?hd ?po ?sa ?mk ?kc ?nQ ?mM ?gM ?sf ?ca ?cn ?ct ?cm ?aFW ?aWS ?aMF
    (case aC => k_is)
    (case a_ini => k_is)
    (case i_ini => k_is)
    (case l_ini => k_is)
    (case c_ini => k_is)
    (case k_ini => k_is)
    (case a_len => k_is)
    (case i_len => k_is)
    (case l_len => k_is)
    (case c_len => k_is)
    (case k_len => k_is)
    (case a_add => k_is)
    (case i_add => k_is)
    (case l_add => k_is)
    (case c_add => k_is)
    (case k_add => k_is)
    (case pa_get => k_is)
    (case pb_get => k_is)
    (case pc_get => k_is)
    (case pd_get => k_is)
    (case l_get => k_is)
    (case c_get => k_is)
    (case k_get => k_is)
    (case a_num => k_is)
    (case l_num => k_is)
    (case c_num => k_is)
    (case k_num => k_is)
    (case a_iss => k_is)
    (case l_iss => k_is)
    (case c_iss => k_is)
    (case k_iss => k_is)
    (case a_fmt => k_is)
    (case l_fmt => k_is)
    (case c_fmt => k_is)
    (case k_fmt => k_is)
    (case a_par => k_is)
    (case l_par => k_is)
    (case c_par => k_is)
    (case k_par => k_is)
    (case a_pst => k_is)
    (case l_pst => k_is)
    (case c_pst => k_is)
    (case k_pst => k_is)
    (case a_irw => k_is)
    (case l_irw => k_is)
    (case c_irw => k_is)
    (case k_irw => k_is)
    (case a_inn => k_is)
    (case l_inn => k_is)
    (case c_inn => k_is)
    (case k_inn => k_is)
    (case a_dic => k_is)
    (case l_dic => k_is)
    (case c_dic => k_is)
    (case k_dic => k_is)
    (case a_nex => k_is)
    (case l_nex => k_is)
    (case c_nex => k_is)
    (case k_nex => k_is)
    (case a_pic => k_is)
    (case l_pic => k_is)
    (case c_pic => k_is)
    (case k_pic => k_is)
    (case a_tol => k_is)
    (case l_tol => k_is)
    (case c_tol => k_is)
    (case k_tol => k_is)
    (case a_sto => k_is)
    (case l_sto => k_is)
    (case c_sto => k_is)
    (case k_sto => k_is)
    (case a_mad => k_is)
    (case l_mad => k_is)
    (case c_mad => k_is)
    (case k_mad => k_is)
    (case a_fig => k_is)
    (case l_fig => k_is)
    (case c_fig => k_is)
    (case k_fig => k_is)
    (case a_psd => k_is)
    (case l_psd => k_is)
    (case c_psd => k_is)
    (case k_psd => k_is)
    (case a_law => k_is)
    (case l_law => k_is)
    (case c_law => k_is)
    (case k_law => k_is)
    (case lc => k_is)
    (case lp => exact rfl)
    (case np => first | exact rfl | kernel_rfl | decide +kernel)
    (case ch => first | exact rfl | kernel_rfl | decide +kernel)
    (case z_isinstance => k_is)
    (case z_int => k_is)
    (case z_bool => k_is)
    (case z_len => k_is)
    (case z_tuple => k_is)
    (case z_list => k_is)
    (case z_range => k_is)
    (case z_enumerate => k_is)
    (case z_abs => k_is)
    (case z_max => k_is)
    (case z_min => k_is)
    (case z_sorted => k_is)
    (case z_str => k_is)
    (case z_super => k_is)
    (case z_VE => k_is)
    (case ne => k_is)
    (case nc0 => k_is)
    (case nc1 => k_is)
    (case nc2 => k_is)
    (case nc3 => k_is)
    (case nc4 => k_is)
    (case nc5 => k_is)
    (case nc6 => k_is)
    (case nc7 => k_is)
    (case nc8 => k_is)
    (case nc9 => k_is)
    (case nc10 => k_is)
    (case gac2 => k_is)
    (case ggc2 => k_is)
    (case suc2 => k_is)
    (case hdc2 => k_is)
    (case cac2 => k_is)
    (case moc2 => k_is)
    (case ixc2 => k_is)
    (case sxc2 => k_is)
    (case oxc2 => k_is)
    (case lxc2 => k_is)
    (case wxc2 => k_is)
    (case sec2 => first | exact rfl | kernel_rfl | decide +kernel)
    (case q0c2 => first | exact rfl | kernel_rfl | decide +kernel)
    (case q1c2 => first | exact rfl | kernel_rfl | decide +kernel)
    (case q2c2 => first | exact rfl | kernel_rfl | decide +kernel)
    (case q3c2 => first | exact rfl | kernel_rfl | decide +kernel)
    (case q4c2 => first | exact rfl | kernel_rfl | decide +kernel)
    (case q5c2 => first | exact rfl | kernel_rfl | decide +kernel)
    (case q6c2 => first | exact rfl | kernel_rfl | decide +kernel)
    (case q7c2 => first | exact rfl | kernel_rfl | decide +kernel)
    (case q8c2 => first | exact rfl | kernel_rfl | decide +kernel)
    (case q9c2 => first | exact rfl | kernel_rfl | decide +kernel)
    (case q10c2 => first | exact rfl | kernel_rfl | decide +kernel)
    (case vec2 => first | exact rfl | kernel_rfl | decide +kernel)
    (case kpc2 => k_is)
    (case tyc2 => k_is)
    (case gac5 => k_is)
    (case ggc5 => k_is)
    (case suc5 => k_is)
    (case hdc5 => k_is)
    (case cac5 => k_is)
    (case moc5 => k_is)
    (case ixc5 => k_is)
    (case sxc5 => k_is)
    (case oxc5 => k_is)
    (case lxc5 => k_is)
    (case wxc5 => k_is)
    (case sec5 => first | exact rfl | kernel_rfl | decide +kernel)
    (case q0c5 => first | exact rfl | kernel_rfl | decide +kernel)
    (case q1c5 => first | exact rfl | kernel_rfl | decide +kernel)
    (case q2c5 => first | exact rfl | kernel_rfl | decide +kernel)
    (case q3c5 => first | exact rfl | kernel_rfl | decide +kernel)
    (case q4c5 => first | exact rfl | kernel_rfl | decide +kernel)
    (case q5c5 => first | exact rfl | kernel_rfl | decide +kernel)
    (case q6c5 => first | exact rfl | kernel_rfl | decide +kernel)
    (case q7c5 => first | exact rfl | kernel_rfl | decide +kernel)
    (case q8c5 => first | exact rfl | kernel_rfl | decide +kernel)
    (case q9c5 => first | exact rfl | kernel_rfl | decide +kernel)
    (case q10c5 => first | exact rfl | kernel_rfl | decide +kernel)
    (case vec5 => first | exact rfl | kernel_rfl | decide +kernel)
    (case kpc5 => k_is)
    (case tyc5 => k_is)
    (case opq => first | exact rfl | kernel_rfl | decide +kernel | k_is)
    (case tps => first | exact rfl | decide +kernel)
    (case xlc2 => k_is)
    (case xrc2 => first | exact rfl | decide +kernel)
    (case sac2 => k_is)
    (case a_i2 => k_is)
    (case t_i2 => k_is)
    (case l_i2 => k_is)
    (case c_i2 => k_is)
    (case g1_i2 => k_is)
    (case g2_i2 => k_is)
    (case g3_i2 => first | exact rfl | kernel_rfl | decide +kernel | k_is)
    (case g4_i2 => first | exact rfl | kernel_rfl | decide +kernel | k_is)
    (case g5_i2 => k_is)
    (case e1_i2 => k_is)
    (case e2_i2 => first | exact rfl | decide +kernel)
    (case e3_i2 => first | exact rfl | decide +kernel)
    (case xlc5 => k_is)
    (case xrc5 => first | exact rfl | decide +kernel)
    (case sac5 => k_is)
    (case a_i5 => k_is)
    (case t_i5 => k_is)
    (case l_i5 => k_is)
    (case c_i5 => k_is)
    (case g1_i5 => k_is)
    (case g2_i5 => k_is)
    (case g3_i5 => first | exact rfl | kernel_rfl | decide +kernel | k_is)
    (case g4_i5 => first | exact rfl | kernel_rfl | decide +kernel | k_is)
    (case g5_i5 => k_is)
    (case e1_i5 => k_is)
    (case e2_i5 => first | exact rfl | decide +kernel)
    (case e3_i5 => first | exact rfl | decide +kernel)
    (case aP => k_is)
    (case aH => k_is)
    (case pg => k_is)
    (case hd => k_is)
    (case po => k_is)
    (case sa => k_is)
    (case mk => k_is)
    (case kc => k_is)
    (case nQ => k_is)
    (case mM => k_is)
    (case gM => k_is)
    (case sf => k_is)
    (case ca => k_is)
    (case cn => k_is)
    (case ct => k_is)
    (case cm => k_is)
    (case aFW => k_is)
    (case aWS => k_is)
    (case aMF => k_is)
#print axioms PySem.Challenge.cw_rowdominoes_k46_notation_holds
