import PyProof.Rows.All
import Wide.All
import OpenK.AllK
import Wide.FinOn
import KE.KOpsOwn
import KE.GoesMore
import KE.GoesEnum
import HandS.ForMost
import HandS.Star
import HandS.Conv
import HandS.Deep
import HandS.DictTup
import HandS.IsInst
import HandS.Walk
import HandS.SlotsOwn
import HandS.TupAny
import HandS.Property
import KE.KDflt
import HandS.Lambda
import HandS.EndTab
import HandS.Nested
import HandS.Words
import HandS.SetFor
import HandS.ExcIs
import HandS.ExcField
import KE.KExcIs
import HandS.More
import PyProof.InstEq
import KE.KItemsList
import KE.KDictWalk
import HandS.SortInts
import HandS.ListItems
import HandS.DictComp
import HandS.Iter
import HandS.Sort
import OpenK.KMeth
import HandS.Strs
import HandS.List
import HandS.Style
import PyProof.EqAt
import PyProof.EqKinds
import PyProof.TupleCall
import KE.KDictList
import HandS.Base
import HandS.Call
import HandS.Dict
import HandS.TupMul
import HandS.GenBody
import HandS.GenYield
import PyProof.GenComp
import HandS.GenList
import KE.KExcSuper
import KE.KSuper
import HandS.Exc
import HandS.ExcInit
import HandS.ClsMeth
import PyProof.FString3
import HandS.FStr
import HandS.Text
import HandS.Codes
import HandS.Bytes
import HandS.BytesMake
import HandS.StrMore
import HandS.MapJoin
import PyProof.Rows.StrSplitCount
import HandS.NoneIn
import HandS.OwnEq
import HandS.EndOwn
import KE.KNestM
import HandS.ExcSuper
import HandS.RaiseMore
import HandS.WordsExc
import HandS.TupSets
import HandS.GenCall
import HandS.Small
import HandS.Flow
import HandS.Finally
import PySem.Challenge.RW_rowdominoes_k20_whole_texts_bytes_and_su
set_option Elab.async false
set_option maxRecDepth 100000
section
set_option maxHeartbeats 4000000
/-! Own signs of own classes, as rules of the hand layer. -/
namespace Own
open PySem PySem.Spec PyProof.Rows L2

section
variable {X : Cx} {CX : CXT} {n : Nat} {C g : Addr} {sp : Sp} {E : XK}

/-- an instance of C, as the library's rules want it -/
theorem insAt {pins : List (Addr × Obj)} {sl : L2.St} {H : Hp} {st : Shared} {a dx : Addr} {fs : List (Str × V)} (inv : Inv X pins sl H st) (ea : H a = some (.ins C dx fs)) :
    ∃ od, PySem.W.InstAt st.heap a (PySem.W.instObj C dx) C (some od) := by
  obtain ⟨mm, ob, _⟩ := ins_get inv.hok ea
  obtain ⟨od, at1, _⟩ := ob.look
  exact ⟨od, at1⟩
/-- the def of a sign, called with the object and one more -/
theorem run2 {pins : List (Addr × Obj)} {sl : L2.St} {H : Hp} {st : Shared} {Q : VK} {a : Addr} {y : V} {u : Value} (F : FnR X.prog X.w X.K X.mg X.base CX n g sp) (hr : Room n X.A) (hx : Passes CX X E) (inv : Inv X pins sl H st) (ry : RelV y u)
    (h : sp [.ref a, y] H Q E) : wpAny (model X.prog X.w) X.A (call (.ref g) [.ref a, u]) (PySem.W.CmpBack (EP X pins sl Q)) X.xe st := by
  have go := wpAny_call (run_fnR (us := [.ref a, u]) (vs := [.ref a, y]) F hr hx inv (.cons rfl (.cons ry .nil)) h)
  refine wpAny_mono go (fun r st' z => ?_) fun _ _ z => z
  obtain ⟨z', H', inv', rz, qz⟩ := z
  exact SlX.cmpback rz ⟨z', H', inv', rz, qz⟩

/-- x op y: the class of x has the sign's def, y is an instance of it, too -/
def rBin (C : Addr) (sp : Sp) (E : XK) : R2 := fun x y H Q => ∃ a dx fs b dy gs, x = .ref a ∧ y = .ref b ∧ H a = some (.ins C dx fs) ∧ H b = some (.ins C dy gs) ∧ sp [x, y] H Q E
theorem op_bin {op : Operator} (hc : PySem.W.selfFirst X.K C = true) (hs : PySem.W.findIn X.K (.ref C) (PySem.dunder op.info.2) = some (some (.ref g))) (hf : PySem.W.isFn X.K (.ref g) = true)
    (F : FnR X.prog X.w X.K X.mg X.base CX n g sp) (hr : Room n X.A) (hx : Passes CX X E) : OpR X (binaryOp op) (rBin C sp E) := by
  intro pins st sl H x y v u Q inv rx ry h
  obtain ⟨a, dx, fs, b, dy, gs, rfl, rfl, ea, eb, h⟩ := h
  obtain rfl : v = Value.ref a := rx
  obtain rfl : u = Value.ref b := ry
  obtain ⟨_, ja⟩ := insAt inv ea
  obtain ⟨_, jb⟩ := insAt inv eb
  obtain ⟨_, fr⟩ := inv.fr
  exact PySem.W.binop_K fr inv.ok.mod.kin ja jb.type hc hs hf (run2 (y := .ref b) F hr hx inv rfl h)

/-- x op y: y an int, a bool, None or a text -/
def flatTy : V → Option String
  | .int _ => some "int"
  | .bl _ => some "bool"
  | .non => some "NoneType"
  | .str _ => some "str"
  | _ => none
theorem typeOf_flat {y : V} {u : Value} {t : String} (h : flatTy y = some t) (r : RelV y u) : typeOf u = pure (.type t) := by
  cases y with
  | int i => obtain ⟨k, rfl⟩ := r; cases h; rfl
  | bl i => cases r; cases h; rfl
  | non => cases r; cases h; rfl
  | str i => obtain ⟨k, rfl⟩ := r; cases h; rfl
  | byt i => cases h
  | flt i => cases h
  | ref i => cases h
  | ty i => cases h
def rBinF (K : PySem.W.Frag) (C : Addr) (nm : String) (sp : Sp) (E : XK) : R2 := fun x y H Q => ∃ a dx fs t fo ro, x = .ref a ∧ H a = some (.ins C dx fs) ∧ flatTy y = some t ∧
  PySem.W.findIn K (.type t) (PySem.dunder nm) = some fo ∧ PySem.W.findIn K (.type t) (dunderR nm) = some ro ∧ PySem.W.subIn K (.type t) (.ref C) = some false ∧ sp [x, y] H Q E

/-- len(x): the class of x has __len__ -/
def rLen (C : Addr) (sp : Sp) (E : XK) : List V → Hp → VK → Prop := fun xs H Q => ∃ a dx fs, xs = [.ref a] ∧ H a = some (.ins C dx fs) ∧ sp [.ref a] H (fun z H' => ∃ k : Int, z = .int k ∧ 0 ≤ k ∧ k < 2 ^ 63 ∧ Q z H') E
theorem call_len (hs : PySem.W.findIn X.K (.ref C) "__len__" = some (some (.ref g))) (hf : PySem.W.isFn X.K (.ref g) = true) (F : FnR X.prog X.w X.K X.mg X.base CX n g sp) (hr : Room (n + 1) X.A) (hx : Passes CX X E) :
    CallR X (.builtin "len") (rLen C sp E) := by
  intro pins st sl H xs us Q inv r h
  obtain ⟨a, dx, fs, rfl, ea, h⟩ := h
  obtain ⟨u, rfl, ru⟩ := r.one
  obtain rfl : u = Value.ref a := ru
  obtain ⟨_, ja⟩ := insAt inv ea
  obtain ⟨_, fr⟩ := inv.fr
  have go := wpAny_call (SlX.run_at (A := X.A.in1) (us := [.ref a]) (ws := [.ref a]) F hr.in1 inv.env0.in1 hx inv (.cons rfl .nil) h)
  refine PySem.W.len_K fr inv.ok.mod.kin ja hs hf (wpAny_mono go (fun v st' z => ?_) fun _ _ z => z)
  obtain ⟨z', H', inv', rz, k, rfl, h0, h1, qz⟩ := z
  obtain ⟨t, rfl⟩ := rz
  exact ⟨⟨h0, h1⟩, .int k, H', inv'.tok _, ⟨_, rfl⟩, qz⟩
end

/-! ### C(), C(e), C(*e) where __init__ has a star -/
section
variable {X : Cx} {CX : CXT} {k : Nat} {f C : Addr} {sp : Sp} {E : XK} {x : Str} {e : Expr} {te : TE} {p ps pos : Pos}
theorem pe_makeR0 (M : Mk X.K C f) (F : FnR X.prog X.w X.K X.mg X.base CX k f sp) (hr : Room (k + 1) X.A) (hg : Gl X x) (hm : X.mg x = some (.ref C)) (hx : Passes CX X E) (hdb : (x == ("__debug__" : Str)) = false := by decide) :
    PE X (.Call (.Name x p) [] [] pos) (StX.tMakeR C sp E tNil) := by
  refine ⟨fun pins st sl H Q inv h => wpAny_Call_Name_kw (ld_glob inv hg hm ?_ hdb)⟩
  exact PySem.W.callWith_K0 inv.kIn M.kp (StX.run_makeR (us := []) M F hr hx inv .nil h)
/-- C(*e) -/
def tMakeS (K : PySem.W.Frag) (C : Addr) (sp : Sp) (E : XK) (te : TE) : TE := fun sl H Q => te sl H fun y H1 => ∃ a xs, y = V.ref a ∧ (SqT K H1 a xs ∨ SqL K H1 a xs) ∧ ∀ z dz, H1 z = Option.none → H1 dz = Option.none → dz ≠ z →
  sp (V.ref z :: xs) (upd (upd H1 dz (.own z)) z (.ins C dz [])) (fun v H2 => v = .non ∧ Q (.ref z) H2) E
theorem pe_makeS (M : Mk X.K C f) (F : FnR X.prog X.w X.K X.mg X.base CX k f sp) (hr : Room (k + 1) X.A) (hg : Gl X x) (hm : X.mg x = some (.ref C)) (hx : Passes CX X E) (he : PE X e te) (hdb : (x == ("__debug__" : Str)) = false := by decide)
    (hst : starEach [.Starred e ps] X.env = [(true, eval e X.env)] := by rfl) : PE X (.Call (.Name x p) [.Starred e ps] [] pos) (tMakeS X.K C sp E te) := by
  refine ⟨fun pins st sl H Q inv h => wpAny_Call_Name_kw (ld_glob inv hg hm ?_ hdb)⟩
  refine PySem.W.callWith_S (h₀ := X.base) inv.ok.mod.kin M.kp (thn (he.run pins st sl H _ inv h) fun v s1 z => ?_) hst
  obtain ⟨y, H1, inv1, ry, a, xs, ey, hxs, q⟩ := z
  subst ey
  obtain rfl : v = Value.ref a := ry
  exact StX.star_any inv1 hxs fun us s2 inv2 rv => ⟨inv2.kIn, StX.run_makeR M F hr hx inv2 rv q⟩
end

/-! ### enumerate(tuple) -/
section
def Item (K : PySem.W.Frag) (a : Addr) : It :=
  ⟨fun i H => ∃ (xs : List V) (x : V), SqT K H a xs ∧ xs[i]? = some x, fun i H v H' => ∃ T x, v = .ref T ∧ H T = none ∧ H' = upd H T (.tup [.int (i : Nat), x]) ∧ ∀ ys, SqT K H a ys → ys[i]? = some x, fun i H => ∃ ys : List V, SqT K H a ys ∧ ys.length = i⟩
theorem walk_item {K : PySem.W.Frag} {a : Addr} {xs : List V} : Walk (Item K a) xs.length (fun H => SqT K H a xs) (YPair (fun i => some (.int (i : Nat))) (fun i => xs[i]?)) := by
  refine ⟨fun i _ hi q => ⟨xs, xs[i], q, by simp [hi]⟩, fun _ q => ⟨xs, q, rfl⟩, fun i H v H' _ q y => ?_⟩
  obtain ⟨T, x, e1, e2, e3, e4⟩ := y
  exact ⟨T, .int (i : Nat), x, e1, e2, e3, rfl, e4 xs q⟩
theorem two_cases {b en it : Addr} (hb : b ∈ [en, it]) : b = en ∨ b = it := by simpa using hb
theorem turn_item {P : Program} {w : World} {K : PySem.W.Frag} {elts : List Expr} {kk : Nat} {tpos : Pos} (a en it : Addr) (hat : a ≠ it) :
    Turn P w K (.Tuple elts kk tpos) (Item K a) [en, it] en (fun i h => (∃ old, IsEnum h en it ((i : Nat) : Int) old) ∧ h.IsTupleIter it a i ∧ en ≠ it ∧ en ≠ a) where
  mem := by simp
  obj := fun i h st b hb => by
    obtain ⟨⟨_, q⟩, ⟨oo, q1, _, q2⟩, _⟩ := st
    rcases two_cases hb with rfl | rfl
    · exact ⟨_, q, fun v z => nomatch z⟩
    · exact ⟨oo, q1, fun v z => by rw [q2] at z; cases z⟩
  keep := fun i h h' st k => let ⟨⟨old, q⟩, q1, q2⟩ := st; ⟨⟨old, k en (by simp) _ q⟩, q1.at fun o z => k it (by simp) o z, q2⟩
  item := by
    intro X hP hw hK hc i pins st sl H E inv free now hg
    subst hP hw hK
    obtain ⟨⟨old, q⟩, q1, q2, q3⟩ := now
    obtain ⟨xs, x, hq, hx⟩ := hg
    obtain ⟨its, rv, hp, _⟩ := inv.tuple hq
    obtain ⟨u, hu, ru⟩ := rv.get hx
    have lt1 : en < st.heap.objs.size := Heap.lt_size q
    have lt2 : it < st.heap.objs.size := by obtain ⟨_, z, _⟩ := q1; exact Heap.lt_size z
    have lt3 : a < st.heap.objs.size := by obtain ⟨_, z, _⟩ := hp; exact Heap.lt_size z
    have dr := Draws.tuple (prog := X.prog) (w := X.w) (A := X.A.in1) (show X.A.in1.handled = none from inv.ok.hd hc) it a hat its.toArray
    have hi : i < its.toArray.size := by
      have := (List.getElem?_eq_some_iff.mp hu).1
      simpa using this
    refine wpAny_pyNext_enum_itemD dr q ⟨q1, hp⟩ hi q2 (by simp [q2, q3]) fun x' h1 tk hx' ho hs1 hT hsz hk => ?_
    obtain rfl : x' = u := by
      have z : its.toArray[i]? = some u := by simpa using hu
      rw [z] at hx'
      exact (Option.some.inj hx').symm
    refine ⟨_, rfl, wpAny_letOwnedTupleGo_enum (s := { st with heap := h1, toks := tk + 1 }) ho fun h2 he2 sb => ?_⟩
    have hT2 : h2.get? st.heap.objs.size = some { cls := .type "tuple", data := .seq #[.int i tk, x'] } := (sb.2 _ (Nat.ne_of_gt lt1)).trans hT
    have pair : ObjOk X.prog X.w (upd H st.heap.objs.size (.tup [.int (i : Nat), x])) h2 st.heap.objs.size (.tup [.int (i : Nat), x]) :=
      ⟨by show 2 ≤ sizeLine; decide, [.int i tk, x'], .cons ⟨_, rfl⟩ (.cons ru .nil), ⟨_, hT2, rfl, _, rfl⟩⟩
    have inv2 : Inv X pins sl (upd H st.heap.objs.size (.tup [.int (i : Nat), x])) { st with heap := h2, toks := tk + 1 } :=
      inv.turnedNew (ch := [en, it]) (fun b ob hb z => (sb.2 b (fun y => hb (by simp [y]))).trans (hk b ob (fun y => hb (by simp [y])) (fun y => hb (by simp [y])) z)) free (Nat.le_refl _) pair
    refine ⟨.ref st.heap.objs.size, _, inv2, rfl, ⟨_, x, rfl, inv.hok.fresh (Nat.le_refl _), rfl, fun ys hy => by rw [inv.tuple_inj hy hq]; exact hx⟩, ⟨⟨x', ?_⟩, hs1.1.at fun o z => (sb.2 it (Ne.symm q2)).trans z, q2, q3⟩, fun b hb => ?_⟩
    · have e1 : ((i + 1 : Nat) : Int) = (i : Int) + 1 := by omega
      rw [e1]
      exact he2
    · have hb' : b < st.heap.objs.size := by
        rcases two_cases hb with rfl | rfl
        · exact lt1
        · exact lt2
      rw [upd_ne (Nat.ne_of_lt hb')]
      exact (free b hb).1
  done := by
    intro X hP hw hK hc i pins st sl H E inv free now hg
    subst hP hw hK
    obtain ⟨⟨old, q⟩, q1, q2, q3⟩ := now
    obtain ⟨xs, hq, hx⟩ := hg
    obtain ⟨its, rv, hp, _⟩ := inv.tuple hq
    obtain ⟨f0, f1, f2, f3, f4, f5⟩ := free it (by simp)
    have len := rv.length
    have dr := Draws.tuple (prog := X.prog) (w := X.w) (A := X.A.in1) (show X.A.in1.handled = none from inv.ok.hd hc) it a hat (its.toArray)
    have hn : i = its.toArray.size := by rw [List.size_toArray, ← len, hx]
    subst hn
    exact wpAny_pyNext_enum_endD dr q ⟨q1, hp⟩ fun h1 eb => ⟨rfl, inv.turned (t' := st.toks) (fun b o hb z => eb b o hb z) f0 f1 f3 f4 f5⟩
  self := fun A i s Q E now h => let ⟨⟨_, q⟩, _⟩ := now; wpAny_pyIter_enum q h

theorem new_enum {v : Value} {o : Obj} {G : Heap → Prop} (B : Begins v o G) :
    Meets (Builtin.«enumerate.__new__» ⟨[.type "enumerate", v], []⟩) (fun _ R st => G st.heap ∧
      R (.ok (.ret (.ref (st.heap.push o).objs.size))) { st with heap := (st.heap.push o).push { cls := .type "enumerate", data := .fields #[.none, .bool false, .ref st.heap.objs.size, rawInt 0, .none, .none] } }) :=
  .of_wp fun prog w A R st h => by
    obtain ⟨hp, g, d, tk, os⟩ := st; obtain ⟨h1, h⟩ := h
    have hsub := sub_enumerate
    have it1 : ∀ {A' : Around} {E : Value → Shared → Prop} {Q : Value → Shared → Prop}, Q (.ref hp.objs.size) ⟨hp.push o, g, d, tk, os⟩ → wpAny (model prog w) A' (pyIter v) Q E ⟨hp, g, d, tk, os⟩ :=
      fun z => B.iter prog w _ _ ⟨hp, g, d, tk, os⟩ _ h1 z
    wp_walk using it1
    refine wpAny_stack_any fun fs => wpAny_pure ?_
    split
    · rename_i c _ _ _ _ _
      cases (c == Value.type "enumerate")
      · wp_walk using it1
        exact ⟨_, rfl, h⟩
      · wp_walk using it1
        exact ⟨_, rfl, h⟩
    · wp_walk using it1
      exact ⟨_, rfl, h⟩
section
variable {prog : Program} {w : World} {A : Around} {E : Value → Shared → Prop} {st : Shared}
theorem call_enum {v : Value} {o : Obj} {G : Heap → Prop} {Q : Value → Shared → Prop} (B : Begins v o G) (h1 : G st.heap)
    (h : ∀ h', IsEnum h' (st.heap.objs.size + 1) st.heap.objs.size 0 .none → h'.get? st.heap.objs.size = some o → h'.objs.size = st.heap.objs.size + 2 →
      (∀ b u, st.heap.get? b = some u → h'.get? b = some u) → Q (.ref (st.heap.objs.size + 1)) { st with heap := h' }) :
    wpAny (model prog w) A (call (.type "enumerate") [v]) Q E st := by
  refine callType_new F.called_enumerate (by decide) (F.typeCall_enumerate_1 _) (F.newCall_enumerate_1 _) (fun obj => F.args_object_init_2 obj _) F.entry_enumerate_new (new_enum B) ⟨h1, ?_⟩
  have sz : (st.heap.push o).objs.size = st.heap.objs.size + 1 := Heap.size_push ..
  show _ ∧ _
  rw [sz]
  have en : IsEnum ((st.heap.push o).push { cls := .type "enumerate", data := .fields #[.none, .bool false, .ref st.heap.objs.size, rawInt 0, .none, .none] }) (st.heap.objs.size + 1) st.heap.objs.size 0 .none := by
    have z := Heap.get?_push_size (st.heap.push o) (o := { cls := .type "enumerate", data := .fields #[.none, .bool false, .ref st.heap.objs.size, rawInt 0, .none, .none] }) rfl
    rw [sz] at z
    exact z
  exact ⟨⟨_, en, rfl⟩, h _ en (Heap.get?_push_of_some _ (Heap.get?_push_size _ B.free)) (by rw [Heap.size_push, sz]) fun b u z => Heap.get?_push_of_some _ (Heap.get?_push_of_some _ z)⟩
end
def iEnumT (K : PySem.W.Frag) (ta : TA) : TI := fun sl H R => ta sl H fun vs H1 => ∃ a xs, vs = [.ref a] ∧ SqT K H1 a xs ∧ R (Item K a) H1
theorem pi_enumT {X : Cx} {e : Expr} {ta : TA} {p pos tpos : Pos} {elts : List Expr} {kk : Nat} (hg : Gl X "enumerate") (hm : X.mg "enumerate" = none) (ha : PA X [e] ta) (hs : starEach [e] X.env = [(false, eval e X.env)] := by rfl) :
    PI X (.Tuple elts kk tpos) (.Call (.Name "enumerate" p) [e] [] pos) (iEnumT X.K ta) := by
  refine ⟨fun pins st sl H R inv h => Call_ (ld_blt inv hg hm boot_enumerate (PyProof.Rows.callWith_type1 (thn (ha.run pos pins st sl H _ inv h) fun us s1 z => ?_) hs rfl))⟩
  obtain ⟨vs, H1, inv1, r1, a, xs, ex, hq, q⟩ := z
  subst ex
  obtain ⟨u, rfl, ru⟩ := r1.one
  obtain rfl : u = Value.ref a := ru
  obtain ⟨its, rv, hp, _⟩ := inv1.tuple hq
  have lt3 : a < s1.heap.objs.size := by obtain ⟨_, z, _⟩ := hp; exact Heap.lt_size z
  refine call_enum (begins_tuple a its.toArray) hp fun h' en hit hsz hk => wpAny_pyIter_enum en ?_
  have inv2 : Inv X pins sl H1 { s1 with heap := h' } := inv1.kept (t' := s1.toks) hk
  refine ⟨s1.heap.objs.size + 1, [s1.heap.objs.size + 1, s1.heap.objs.size], _, _, H1, rfl, inv2, turn_item a (s1.heap.objs.size + 1) s1.heap.objs.size (Nat.ne_of_lt lt3), ⟨⟨.none, en⟩, ⟨_, hit, rfl, rfl⟩, Nat.succ_ne_self _, Nat.ne_of_gt (Nat.lt_succ_of_lt lt3)⟩, fun b hb => ?_, q⟩
  have low : s1.heap.objs.size ≤ b := by
    rcases two_cases hb with rfl | rfl
    · exact Nat.le_add_right _ _
    · exact Nat.le_refl _
  exact inv1.fpOk low (inv1.hok.fresh low)
end

/-! ### list(range(a, b, -1)) -/
section
def dnV (a b : Int) : List V := (List.range (a - b).toNat).map fun i => V.int (a - (i : Nat))
theorem dnV_length (a b : Int) : (dnV a b).length = (a - b).toNat := by unfold dnV; simp
def tDown (ta : TA) : TE := fun sl H Q => ta sl H fun vs H1 => ∃ i j : Int, vs = [.int i, .int j, .int (-1)] ∧ -1000000 ≤ i ∧ i ≤ 1000000 ∧ -1000000 ≤ j ∧ j ≤ 1000000 ∧ ∀ q, H1 q = none → Q (.ref q) (upd H1 q (.lst (dnV i j)))
theorem pe_listDown {X : Cx} {a b c : Expr} {ta : TA} {p pos rp rpos : Pos} (hc : X.calm = true) (hg : Gl X "list") (hm : X.mg "list" = none) (hg2 : Gl X "range") (hm2 : X.mg "range" = none) (ha : PA X [a, b, c] ta)
    (hs : starEach [a, b, c] X.env = (false, eval a X.env) :: starEach [b, c] X.env := by rfl) (hpl : (backTo rpos (starEach [b, c] X.env)).any (·.1) = false := by rfl)
    (na : starEach [.Call (.Name "range" rp) [a, b, c] [] rpos] X.env = (false, eval (.Call (.Name "range" rp) [a, b, c] [] rpos) X.env) :: starEach [] X.env := by rfl) :
    PE X (.Call (.Name "list" p) [.Call (.Name "range" rp) [a, b, c] [] rpos] [] pos) (tDown ta) := by
  refine ⟨fun pins st sl H Q inv h => ?_⟩
  refine Call_ (ld_blt inv hg hm boot_list (PyProof.Rows.callWith_type1 (args_cons ?_ na) na))
  refine Call_ (ld_blt inv hg2 hm2 boot_range (PyProof.Rows.callWith_type1 (thn (ha.run rpos pins st sl H _ inv h) fun us s1 z => ?_) hs hpl))
  obtain ⟨vs, H1, inv1, r1, i, j, e, b1, b2, b3, b4, q⟩ := z
  subst e
  cases r1 with
  | cons r rr =>
    cases rr with
    | cons r' rr =>
      cases rr with
      | cons r'' rr =>
        cases rr
        obtain ⟨t, rfl⟩ := r
        obtain ⟨t', rfl⟩ := r'
        obtain ⟨t'', rfl⟩ := r''
        obtain ⟨c0, c1, c2, c3⟩ := RgC.neg (i := i) (j := j) (by omega) (by omega) (by omega) (by omega)
        refine call_range_3 c0 (args_nil ?_) (.inl (PyProof.noPylong_small c1))
        have inv2 : Inv X pins sl H1 { s1 with heap := s1.heap.push { cls := .type "range", data := .fields #[.int i t, .int j t', .int (-1) t''] } } := inv1.kept (t' := s1.toks) fun b o e => Heap.get?_push_of_some _ e
        refine call_list_range (n := (i - j).toNat) (inv2.ok.hd hc) (IsRange.new ..) c2 c3 (by omega) fun h' tk acc c' hk e' hi => ?_
        refine ⟨.ref _, upd H1 _ (.lst (dnV i j)), inv2.laid hk (Nat.le_refl _) (show ObjOk X.prog X.w _ _ _ (.lst (dnV i j)) from ⟨?_, acc.toList, c', ?_, ?_⟩), rfl, q _ (inv2.hok.fresh (Nat.le_refl _))⟩
        · rw [dnV_length, sizeLine_eq]; omega
        · have e : acc.toList.length = (i - j).toNat := by rw [Array.length_toList]; exact hi.1
          unfold dnV
          rw [← e]
          refine vals_of_get acc.toList _ fun k u hk => ?_
          obtain ⟨t, rfl⟩ := hi.2 k u (by rw [← hk, Array.getElem?_toList])
          exact ⟨t, by congr 1; omega⟩
        · rw [Array.toArray_toList]; exact e'
end
end Own

/-! Lambdas as values: made, kept in lists, handed to a def that calls them. -/
namespace LamV
open PySem PySem.Spec PyProof.Rows L2 LamX NdefX
/-- a lambda as it was made -/
structure LF where
  qual : Str
  params : Arguments
  body : Expr
  scope : Scope
  cl : List (Str × Addr)
  dV : Value
  c : Addr
abbrev LF.data (F : LF) (doc pm ctv : Value) : FuncData := PySem.W.kdv_fn "<lambda>" F.qual F.params (.expr F.body) F.scope F.cl F.dV doc pm (.ref F.c) ctv
/-- at f stands the lambda F -/
def LamO (f : Addr) (F : LF) : HO := .ext fun h => ∃ (doc pm ctv : Value), h.get? f = some ({ cls := .type "function", data := .func (F.data doc pm ctv) } : Obj)
theorem lamO_at {P : Program} {w : World} {H : Hp} {hp : Heap} {f : Addr} {F : LF} (ok : HOk P w H hp) (e : H f = some (LamO f F)) : ∃ (doc pm ctv : Value), hp.get? f = some ({ cls := .type "function", data := .func (F.data doc pm ctv) } : Obj) :=
  (ok f _ e).1
section
variable {X : Cx} {pins : List (Addr × Obj)} {sl : L2.St} {H : Hp} {st : Shared}
theorem lamO_laid {F : LF} {ob : Obj} {tk : Nat} {doc pm ctv : Value} (inv : Inv X pins sl H st) (eo : ob = { cls := .type "function", data := .func (F.data doc pm ctv) }) :
    Inv X pins sl (upd H st.heap.objs.size (LamO st.heap.objs.size F)) { st with heap := st.heap.push ob, toks := tk } := by
  subst eo
  have got : (st.heap.push ({ cls := .type "function", data := .func (F.data doc pm ctv) } : Obj)).get? st.heap.objs.size = some ({ cls := .type "function", data := .func (F.data doc pm ctv) } : Obj) := Heap.get?_push_size _ rfl
  exact inv.laid (a := st.heap.objs.size) (fun _ _ q => Heap.get?_push_of_some _ q) (Nat.le_refl _) ⟨⟨doc, pm, ctv, got⟩, ⟨_, got⟩, fun _ _ ⟨a, b, c, z⟩ k => ⟨a, b, c, k _ z⟩⟩
/-- what a new lambda leaves -/
def Born (T : List (Addr × Str)) (H : Hp) (Q : VK) (F : Addr → LF) : Prop :=
  ∀ (f c' : Addr) (H1 : Hp), ExtN H H1 → (∀ b, H1 b = none → H b = none) → Tabs T H1 → H f = none → H1 f = some (LamO f (F c')) → H1 c' = some (CodeO c' (F c').qual) → Q (.ref f) H1
theorem born {T : List (Addr × Str)} {c P : Addr} {params : Arguments} {body : Expr} {scope : Scope} {pos : Pos} {dV : Value} {Q : VK} (inv : Inv X pins sl H st) (TB : TabB X.base X.mg c P) (ec : X.env.code = .ref c)
    (inT : (P, X.env.qual ++ "<lambda>") ∈ T) (one : ∀ p ∈ T, p.1 = P → p.2 = X.env.qual ++ "<lambda>") (tabs : Tabs T H) (frees : ∀ y ∈ scope.names, y.2 = .free → ∃ c, X.env.cells.lookup y.1 = some c)
    (k : Born T H Q fun c' => ⟨X.env.qual ++ "<lambda>", params, body, scope, cloFrom X.env.cells scope.names [], dV, c'⟩) :
    wpAny (model X.prog X.w) X.A (makeTail "<lambda>" (X.env.qual ++ "<lambda>") params (.expr body) scope X.env dV .none none pos pos.line) (EP X pins sl Q) X.xe st := by
  obtain ⟨ps, eP, trip, all⟩ := tabs _ inT
  have bmP : st.heap.BuiltinsAt X.mg P := TB.bm.keeps inv.bk
  have atP : st.heap.get? P = some { cls := .none, data := .fields ps } := inv.hok P _ eP
  cases found : codeAmong pos ps.toList with
  | none =>
    refine PySem.W.kdv_makeTail (mg := X.mg) (c := c) (P := P) (ps := ps) (closure_ok frees) inv.ok.glob (inv.mod.glob.keeps inv.bk) ec (TB.code.keeps inv.bk) atP trip found TB.gP bmP fun c' ctv doc hp tk but ge lt rec tb => ?_
    obtain ⟨c2, oc, vs, t, e2, hoc, hd, hv⟩ := rec
    cases e2
    have nc : H c' = none := inv.hok.fresh ge
    have j1 := inv_table (t' := tk) (more := #[rawInt pos.line, rawInt pos.col, .ref c']) (h' := hp) inv eP (fun b o n q => but b o n q) tb ge ⟨oc, vs, t, hoc, hd, hv⟩
    have ex : ExtN H (upd (upd H P (.tbl (ps ++ #[rawInt pos.line, rawInt pos.col, .ref c']))) c' (CodeO c' (X.env.qual ++ "<lambda>"))) := fun b o q n => by
      rw [upd_ne (ne_of_none q nc), upd_ne (fun z => n ps (by rw [z, eP] at q; exact (Option.some.inj q).symm))]
      exact q
    have eL : (ps ++ #[rawInt pos.line, rawInt pos.col, .ref c']).toList = ps.toList ++ [rawInt pos.line, rawInt pos.col, .ref c'] := by simp
    have t1 : Tabs T (upd (upd H P (.tbl (ps ++ #[rawInt pos.line, rawInt pos.col, .ref c']))) c' (CodeO c' (X.env.qual ++ "<lambda>"))) := fun p hp => by
      by_cases same : p.1 = P
      · rw [one p hp same, same]
        refine ⟨_, by rw [upd_ne (ne_of_none eP nc), upd_same], by rw [eL]; exact PySem.TriplesOk_snoc _ _ _ _ trip, fun p' cv q => ?_⟩
        rw [eL] at q
        rcases among_app _ trip q with z | z
        · obtain ⟨c0, q1, q2⟩ := all p' cv z
          exact ⟨c0, q1, ex _ _ q2 codeO_ne⟩
        · exact ⟨c', z, upd_same⟩
      · obtain ⟨ps', q1, q2, q3⟩ := tabs p hp
        refine ⟨ps', by rw [upd_ne (ne_of_none q1 nc), upd_ne same]; exact q1, q2, fun p' cv q => ?_⟩
        obtain ⟨c0, r1, r2⟩ := q3 p' cv q
        exact ⟨c0, r1, ex _ _ r2 codeO_ne⟩
    have nf := j1.hok.fresh (Nat.le_refl _)
    have j2 := lamO_laid (F := ⟨X.env.qual ++ "<lambda>", params, body, scope, cloFrom X.env.cells scope.names [], dV, c'⟩) (tk := tk) (doc := doc) (pm := (X.mg "__name__").getD .none) (ctv := ctv) j1 rfl
    refine ⟨.ref hp.objs.size, _, j2, rfl, k hp.objs.size c' _ (fun b o q n => ?_) (fun b q => upd_none (upd_none (upd_none q))) (fun p hp => (t1 p hp).ext fun b o q => ?_) (inv.hok.fresh (Nat.le_trans ge (Nat.le_of_lt lt))) upd_same ?_⟩
    · have q1 := ex b o q n
      exact (upd_ne (ne_of_none q1 nf)).trans q1
    · exact (upd_ne (ne_of_none q nf)).trans q
    · exact (upd_ne (Nat.ne_of_lt lt)).trans upd_same
  | some cv =>
    obtain ⟨c', ecv, known⟩ := all pos cv found
    subst ecv
    refine PySem.W.kdv_makeTailHit (mg := X.mg) (c := c) (P := P) (ps := ps) (closure_ok frees) inv.ok.glob (inv.mod.glob.keeps inv.bk) ec (TB.code.keeps inv.bk) atP trip found bmP fun ctv doc hp tk keep sz => ?_
    have j1 : Inv X pins sl H { st with heap := hp, toks := tk } := inv.kept keep
    have nf : H hp.objs.size = none := j1.hok.fresh (Nat.le_refl _)
    have j2 := lamO_laid (F := ⟨X.env.qual ++ "<lambda>", params, body, scope, cloFrom X.env.cells scope.names [], dV, c'⟩) (tk := tk) (doc := doc) (pm := (X.mg "__name__").getD .none) (ctv := ctv) j1 rfl
    refine ⟨.ref hp.objs.size, _, j2, rfl, k hp.objs.size c' _ (fun b o q n => ?_) (fun b q => upd_none q) (fun p hp => (tabs p hp).ext fun b o q => ?_) nf upd_same ?_⟩
    · exact (upd_ne (ne_of_none q nf)).trans q
    · exact (upd_ne (ne_of_none q nf)).trans q
    · exact (upd_ne (ne_of_none known nf)).trans known
/-! ### the expression -/
def tLamN (T : List (Addr × Str)) (F : Addr → LF) : TE := fun _ H Q => Tabs T H ∧ Born T H Q F
def tLamD (T : List (Addr × Str)) (te : TE) (F : Addr → Addr → LF) : TE := fun sl H Q => te sl H fun v H1 => Tabs T H1 ∧ ∀ t, H1 t = none → Born T (upd H1 t (.tup [v])) Q (F t)
theorem pe_lam0 {T : List (Addr × Str)} {c P : Addr} {params : Arguments} {body : Expr} {scope : Scope} {pos : Pos} (TB : TabB X.base X.mg c P) (ec : X.env.code = .ref c) (inT : (P, X.env.qual ++ "<lambda>") ∈ T)
    (one : ∀ p ∈ T, p.1 = P → p.2 = X.env.qual ++ "<lambda>") (frees : ∀ y ∈ scope.names, y.2 = .free → X.env.scope.names.lookup y.1 = some .cell ∨ X.env.scope.names.lookup y.1 = some .free) (nod : defaultsOf params X.env = ([], [])) :
    PE X (.Lambda params body scope pos) (tLamN T fun c' => ⟨X.env.qual ++ "<lambda>", params, body, scope, cloFrom X.env.cells scope.names [], .none, c'⟩) := by
  refine ⟨fun pins st sl H Q inv h => PySem.W.kla_eval nod ?_⟩
  rw [makeFunction_eq]
  simp only [List.zip_nil_right, List.filterMap_nil, List.isEmpty_nil, if_true, pure_bind]
  exact born inv TB ec inT one h.1 (fun y hy e => (frees y hy e).elim (fun z => inv.ok.has _ (.inl z)) fun z => inv.ok.has _ (.inr z)) h.2
theorem pe_lam1 {T : List (Addr × Str)} {c P : Addr} {params : Arguments} {body e : Expr} {scope : Scope} {pos : Pos} {te : TE} (TB : TabB X.base X.mg c P) (ec : X.env.code = .ref c) (inT : (P, X.env.qual ++ "<lambda>") ∈ T)
    (one : ∀ p ∈ T, p.1 = P → p.2 = X.env.qual ++ "<lambda>") (frees : ∀ y ∈ scope.names, y.2 = .free → X.env.scope.names.lookup y.1 = some .cell ∨ X.env.scope.names.lookup y.1 = some .free) (ed : params.defaults = [e]) (ek : params.kw_defaults = []) (he : PE X e te) :
    PE X (.Lambda params body scope pos) (tLamD T te fun t c' => ⟨X.env.qual ++ "<lambda>", params, body, scope, cloFrom X.env.cells scope.names [], .ref t, c'⟩) := by
  refine ⟨fun pins st sl H Q inv h => PySem.W.kdv_lam (by rw [ed]; rfl) ek ?_⟩
  rw [ed]
  refine PySem.W.kdv_all1 (wpAny_mono (he.run pins st sl H _ inv h) (fun u s1 q => PySem.W.kdv_all0 ?_) fun _ _ z => z)
  obtain ⟨v, H1, i1, rv, tabs, k⟩ := q
  rw [makeFunction_eq]
  simp only [List.zip_nil_right, List.filterMap_nil, List.isEmpty_nil, if_true, pure_bind, List.isEmpty_cons, Bool.false_eq_true, if_false]
  refine wpAny_bind (wpAny_newTextTuple ?_)
  have nt : H1 s1.heap.objs.size = none := i1.hok.fresh (Nat.le_refl _)
  have i2 : Inv X pins sl (upd H1 s1.heap.objs.size (.tup [v])) { s1 with heap := s1.heap.push { cls := .type "tuple", data := .seq [u].toArray }, toks := s1.toks } :=
    i1.laid (fun _ _ z => Heap.get?_push_of_some _ z) (Nat.le_refl _) ⟨by show 1 ≤ sizeLine; decide, [u], .cons rv .nil, ⟨_, Heap.get?_push_size _ rfl, rfl, _, rfl⟩⟩
  exact born i2 TB ec inT one (fun p hp => (tabs p hp).ext fun b o z => (upd_ne (ne_of_none z nt)).trans z) (fun y hy e => (frees y hy e).elim (fun z => i2.ok.has _ (.inl z)) fun z => i2.ok.has _ (.inr z)) (k _ nt)
end
/-! ### the body -/
/-- captured names, globals, and own names that the maker's frame has not -/
structure LamN (N : List Str) (sc scope : Scope) : Prop where
  kind : scope.kind = .function
  co : scope.isCoroutine = false
  gen : scope.isGenerator = false
  own : ∀ y ∈ scope.names, y.2 ≠ .cell ∧ (y.2 = .local → y.1 ∉ N)
  free : ∀ y ∈ scope.names, y.2 = .free → sc.names.lookup y.1 = some .cell ∨ sc.names.lookup y.1 = some .free
def lamNB (N : List Str) (sc scope : Scope) : Bool :=
  decide (scope.kind = .function) && !scope.isCoroutine && !scope.isGenerator && scope.names.all fun y => !decide (y.2 = .cell) && (!decide (y.2 = .local) || !N.contains y.1) && (!decide (y.2 = .free) || decide (sc.names.lookup y.1 = some .cell) || decide (sc.names.lookup y.1 = some .free))
theorem lamN_by {N : List Str} {sc scope : Scope} (h : lamNB N sc scope = true) : LamN N sc scope := by
  unfold lamNB at h
  simp only [Bool.and_eq_true, Bool.or_eq_true, Bool.not_eq_true', decide_eq_true_eq, decide_eq_false_iff_not, List.all_eq_true] at h
  obtain ⟨⟨⟨a, b⟩, c⟩, d⟩ := h
  refine ⟨a, b, c, fun y hy => ⟨(d y hy).1.1, fun e z => ?_⟩, fun y hy e => ?_⟩
  · rcases (d y hy).1.2 with q | q
    · exact q e
    · rw [List.contains_iff_mem.mpr z] at q
      cases q
  · rcases (d y hy).2 with (q | q) | q
    · exact absurd e q
    · exact .inl q
    · exact .inr q
/-- the maker's cells stand as they stood -/
def Kept (X : Cx) (h0 : Heap) (HZ : Hp) (h : Heap) : Prop := ∀ y c, X.env.cells.lookup y = some c → HZ c = none ∧ ∀ o, h0.get? c = some o → ∃ sl, h.get? c = some { o with slots := sl }
section
variable {X : Cx} {pins : List (Addr × Obj)} {sl : L2.St} {H HZ : Hp} {st s1 : Shared}
theorem enter {A : Around} {outer : List Env} {E : XK} {scope : Scope} {f c' : Addr} {h1 : Heap} {tk : Nat} {bs : List (Str × Value)} (inv : Inv X pins sl H st) (L : LamN X.N X.env.scope scope) (e0 : Env0 X.prog X.w X.K X.mg X.base A outer s1 HZ) (hd : A.handled = none)
    (kept : Kept X st.heap HZ s1.heap) (ns : h1.Ns s1.heap.objs.size fun y => bs.reverse.lookup y) (grow : ∀ b o, s1.heap.get? b = some o → h1.get? b = some o) :
    Inv (lamCx X A outer s1 HZ E scope f c') [] sl HZ { s1 with heap := h1, toks := tk } := by
  have frees : ∀ y ∈ scope.names, y.2 = .free → ∃ c, X.env.cells.lookup y.1 = some c := fun y hy e => (L.free y hy e).elim (fun z => inv.ok.has _ (.inl z)) fun z => inv.ok.has _ (.inr z)
  have same : ∀ {y c}, (cloFrom X.env.cells scope.names []).lookup y = some c → X.env.cells.lookup y = some c := fun {y c} e => clo_cm frees e
  have cell : ∀ {y : Str} {c : Addr} {v : Option Value}, X.env.cells.lookup y = some c → st.heap.IsCell c v → h1.IsCell c v := fun {y c v} q ⟨o, ho, hv⟩ => by
    obtain ⟨sl, z⟩ := (kept y c q).2 o ho
    exact ⟨_, grow _ _ z, hv⟩
  have noex : ∀ b : Addr, b ∉ (lamCx X A outer s1 HZ E scope f c').ex := fun b z => absurd (show b ∈ ([] : List Addr) from z) (by simp)
  refine ⟨⟨e0.mod, L.kind, rfl, rfl, Nat.le_refl _, fun y z c a b => inv.ok.inj y z c (same a) (same b), fun y hy => ?_, fun y c z _ => ?_, fun _ => hd, Around.frames_deeper e0.frames, .inr ⟨rfl, rfl⟩, fun b z => absurd z (noex b), e0.bs, e0.bsz, fun b _ _ => noex b,
      fun b z => absurd z (noex b), e0.funs, e0.frf⟩,
    rfl, e0.bare, Un.kept grow, ⟨_, ns, fun i y v a b d => ?_⟩, fun y c e => ?_, e0.hok.fresh (Nat.le_refl _), fun y c e => (kept y c (same e)).1, fun q hq => absurd (show q ∈ ([] : List (Addr × Obj)) ++ [] from hq) (by simp), e0.hok.kept grow, inv.len⟩
  · have hy : scope.names.lookup y = some .cell ∨ scope.names.lookup y = some .free := hy
    rcases hy with z | z
    · exact absurd rfl (L.own _ (PySem.mem_of_lookup z)).1
    · obtain ⟨c, q⟩ := frees _ (PySem.mem_of_lookup z) rfl
      exact ⟨c, clo_has frees (PySem.mem_of_lookup z) q⟩
  · have z : false = true := z
    cases z
  · have d : Vis scope y := d
    have a : X.N[i]? = some y := a
    rcases d with k | k | k
    · exact absurd (List.mem_of_getElem? a) ((L.own _ (PySem.mem_of_lookup k)).2 rfl)
    · exact absurd rfl (L.own _ (PySem.mem_of_lookup k)).1
    · obtain ⟨m, hn, look⟩ := inv.loc
      have fr := L.free _ (PySem.mem_of_lookup k) rfl
      obtain ⟨u, r, q⟩ := look i y v a b (fr.elim (fun z => .inr (.inl z)) fun z => .inr (.inr z))
      obtain ⟨c1, h1'⟩ := frees _ (PySem.mem_of_lookup k) rfl
      refine ⟨u, r, .inr ⟨.inr k, c1, clo_has frees (PySem.mem_of_lookup k) h1', ?_⟩⟩
      rcases q with ⟨k', _⟩ | ⟨_, c2, q1, q2⟩
      · have k' : X.env.scope.names.lookup y = some .local := k'
        rcases fr with z | z <;> rw [show X.env.scope.names.lookup y = _ from z] at k' <;> cases k'
      · have e : c2 = c1 := Option.some.inj (q1.symm.trans h1')
        subst e
        exact cell h1' q2
  · obtain ⟨w', z⟩ := inv.cell y c (same e)
    exact ⟨w', cell (same e) z⟩
/-- a call without arguments finds its bindings -/
def Bound (P : Program) (w : World) (F : LF) (D : Hp → Prop) : Prop := ∀ (s : Shared) (H : Hp), HOk P w H s.heap → D H → ∀ doc pm ctv, ∃ bs, BindsTo s (F.data doc pm ctv) ⟨[], []⟩ bs ∧ ∀ y ∈ bs, F.scope.names.lookup y.1 = some .local
/-- v(), in the def that got the lambda: that def's context, entered at s1 with H1 -/
theorem pe_act {CXg : CXT} {Eg : XK} {Ng : List Str} {qg : Str} {sg : Scope} {g f : Addr} {cdg : Value} {F : LF} {D : Hp → Prop} {k i : Nat} {a : Str} {pn : List (Addr × Obj)} {xe : Value → Shared → Prop} {W : WX} {E : XK} {tb : TE} {p1 p2 : Pos} {H1 : Hp}
    (inv : Inv X pins sl H st) (eq : F.qual = X.env.qual ++ "<lambda>") (ec : F.cl = cloFrom X.env.cells F.scope.names []) (L : LamN X.N X.env.scope F.scope) (bd : Bound X.prog X.w F D) (kept : Kept X st.heap H1 s1.heap)
    (tk : Takes ((cxOf CXg X.prog X.w X.K X.mg X.base Ng qg sg g cdg X.A X.stack s1 H1 Eg).tr pn xe) W) (hW : ∀ cls d σ' H', E cls d H' → W cls d σ' H') (hr : Room (k + 1) (X.A.deeper (envOfC qg sg s1.heap.objs.size g cdg)))
    (hbody : ∀ (A : Around) (outer : List Env) (s : Shared) (H : Hp), Room k (A.deeper (lamEnv X F.scope s.heap.objs.size f F.c)) → PE (lamCx X A outer s H E F.scope f F.c) F.body tb)
    (hN : Ng[i]? = some a) (hv : Vis sg a) (hd : (a == ("__debug__" : Str)) = false := by decide) (hcd : (a == ("__classdict__" : Str)) = false := by decide) :
    PE ((cxOf CXg X.prog X.w X.K X.mg X.base Ng qg sg g cdg X.A X.stack s1 H1 Eg).tr pn xe) (.Call (.Name a p1) [] [] p2)
      (fun σZ HZ Q => σZ[i]? = some (some (.ref f)) ∧ HZ f = some (LamO f F) ∧ HZ F.c = some (CodeO F.c F.qual) ∧ D HZ ∧ tb sl HZ Q) := by
  refine ⟨fun pinsZ sZ σZ HZ Q IZ h => ?_⟩
  obtain ⟨at_, isF, isC, dv, go⟩ := h
  refine wpAny_Call_Name_kw (thn ((pe_var (pos := p1) (i := i) hN hv hd hcd).run pinsZ sZ σZ HZ (fun v H2 => v = .ref f ∧ H2 = HZ) IZ ⟨.ref f, at_, rfl, rfl⟩) fun u s2 ⟨v, H2, J, rv, qv⟩ => ?_)
  obtain ⟨ev, eH⟩ := qv
  subst ev
  rw [eH] at J
  obtain rfl : u = Value.ref f := rv
  obtain ⟨doc, pm, ctv, ob⟩ := lamO_at J.hok isF
  refine PySem.W.callWith_F0 ⟨_, _, _, _, ob⟩ ?_
  have un : Un (frs X.stack) [] H1 HZ s1.heap s2.heap := J.base
  have kept2 : Kept X st.heap HZ s2.heap := fun y c q => by
    obtain ⟨n1, k1⟩ := kept y c q
    obtain ⟨v0, o0, ho0, _⟩ := inv.cell y c q
    obtain ⟨sl0, z0⟩ := k1 o0 ho0
    refine ⟨un.free c _ z0 n1 (by simp), fun o ho => ?_⟩
    obtain ⟨sl1, z1⟩ := k1 o ho
    obtain ⟨sl2, z2⟩ := un.any z1 n1 (by simp)
    exact ⟨sl2, z2⟩
  obtain ⟨bs, bto, bl⟩ := bd s2 HZ J.hok dv doc pm ctv
  have rc : codeAny (model X.prog X.w) (X.A.deeper (envOfC qg sg s1.heap.objs.size g cdg)) (.call (.ref f) ⟨[], []⟩) (CR (L2.CX X.prog X.w) (envOfC qg sg s1.heap.objs.size g cdg :: X.stack) X.prog X.w HZ s2 Q E) s2 := by
    refine PySem.W.kla_callFunE hr.depth ob rfl L.co L.gen rfl (codeO_at J.hok isC) (bto _ _ _ _ ?_)
    refine wpAny_newFunctionEnv (fun y hy => (L.own y hy).1) bl (fun h1 ns sb => ⟨J.nolimit.fresh _ sb, ?_⟩) L.kind
    have grow : ∀ b o, s2.heap.get? b = some o → h1.get? b = some o := fun b o e => sb.extBut b o (Nat.ne_of_lt (Heap.lt_size e)) (Heap.get?_push_of_some _ e)
    have start : Inv (lamCx X (X.A.deeper (envOfC qg sg s1.heap.objs.size g cdg)) (envOfC qg sg s1.heap.objs.size g cdg :: X.stack) s2 HZ E F.scope f F.c) [] sl HZ { s2 with heap := h1, toks := s2.toks + bs.length } :=
      enter inv L J.env0 hr.hd kept2 ns grow
    show codeAny _ _ (.expr F.body (PySem.W.envX F.qual F.scope s2.heap.objs.size f (.ref F.c) F.cl)) _ _
    rw [eq, ec]
    refine PySem.W.kla_codeExpr (wpAny_mono ((hbody _ _ s2 HZ (hr.deeper _)).run [] _ _ HZ Q start go) (fun v s' q => ?_) fun e s' q => q)
    obtain ⟨u', H', J', rv', q'⟩ := q
    exact ⟨u', H', J'.os, J'.bare, J'.base, J'.hok, rv', q'⟩
  have ps : Passes (L2.CX X.prog X.w) ((cxOf CXg X.prog X.w X.K X.mg X.base Ng qg sg g cdg X.A X.stack s1 H1 Eg).tr pn xe) E := passes_call tk hW
  refine wpAny_call (codeAny_mono rc fun r s' q => ?_)
  match r, q with
  | .error e, q => exact ps pinsZ σZ HZ s2 e s' J q
  | .ok (.ret u), q => exact J.after q
  | .ok .next, q => exact False.elim q
  | .ok .brk, q => exact False.elim q
  | .ok .cont, q => exact False.elim q
/-- the def that calls what it got, at the first slot: TT tells what it makes of the lambda's reading -/
def Gives (X : Cx) (Ng : List Str) (x : Str) (sg : Scope) (g : Addr) (cdg : Value) (bg : List Stmt) (a : Str) (TT : (XK → Hp → VK → Prop) → Hp → VK → Prop) : Prop :=
  ∀ (f : Addr) (is : Hp → Prop) (s : Shared) (H : Hp) (Q : VK) (tl : XK → Hp → VK → Prop),
    (∀ (W : WX) (pn : List (Addr × Obj)) (xe : Value → Shared → Prop) (E : XK) (p1 p2 : Pos), Takes ((cxOf CX0 X.prog X.w X.K X.mg X.base Ng x sg g cdg X.A X.stack s H E0).tr pn xe) W → (∀ cls d σ' H', E cls d H' → W cls d σ' H') →
      PE ((cxOf CX0 X.prog X.w X.K X.mg X.base Ng x sg g cdg X.A X.stack s H E0).tr pn xe) (.Call (.Name a p1) [] [] p2) (fun σZ HZ Q => σZ[0]? = some (some (.ref f)) ∧ is HZ ∧ tl E HZ Q)) →
    is H → TT tl H Q →
    ∃ t, PSs (cxOf CX0 X.prog X.w X.K X.mg X.base Ng x sg g cdg X.A X.stack s H E0).nox bg t ∧ t { nx := fun _ H' => Q .non H', rt := Q } (L2.start Ng [.ref f]) H
/-- a written lambda's place in the maker's frame: its words, and its body's reading -/
structure Form where
  params : Arguments
  body : Expr
  scope : Scope
  t : XK → TE
def LF.is (F : LF) (f : Addr) (D : Hp → Prop) (HZ : Hp) : Prop := HZ f = some (LamO f F) ∧ HZ F.c = some (CodeO F.c F.qual) ∧ D HZ
/-- F is the lambda of these words, made here -/
structure LF.Of (F : LF) (X : Cx) (o : Form) (D : Hp → Prop) (k : Nat) : Prop where
  qual : F.qual = X.env.qual ++ "<lambda>"
  body : F.body = o.body
  scope : F.scope = o.scope
  cl : F.cl = cloFrom X.env.cells F.scope.names []
  names : LamN X.N X.env.scope F.scope
  bound : Bound X.prog X.w F D
  reads : ∀ (A : Around) (outer : List Env) (s : Shared) (H : Hp) (E : XK) (f c' : Addr), Room k (A.deeper (lamEnv X o.scope s.heap.objs.size f c')) → PE (lamCx X A outer s H E o.scope f c') o.body (o.t E)
theorem code_give {x a : Str} {g f : Addr} {k : Nat} {pg : Arguments} {bg : List Stmt} {sg : Scope} {dV kV doc pm cdv ct oc : Value} {an od : Option Addr} {osl : Array (Option Value)} {Ng : List Str} {TT : (XK → Hp → VK → Prop) → Hp → VK → Prop}
    {F : LF} {o : Form} {D : Hp → Prop} {H1 : Hp} {Q : VK} (inv : Inv X pins sl H st) (of : F.Of X o D k)
    (lk : X.K.lookup g = some ⟨oc, od, .func (PySem.W.fnOf x x pg bg sg dV kV doc pm an cdv ct), osl⟩) (hcg : PySem.W.codeIn X.K cdv x = true) (hb : L2.Binds X.K (PySem.W.fnOf x x pg bg sg dV kV doc pm an cdv ct) [a] []) (Sg : FnScope Ng [a] sg) (hNg : Ng[0]? = some a) (hva : Vis sg a)
    (hG : Gives X Ng x sg g cdv bg a TT) (hr : Room (k + 2) X.A) (e0 : Env0 X.prog X.w X.K X.mg X.base X.A X.stack s1 H1) (kept : Kept X st.heap H1 s1.heap) (is : F.is f D H1) (go : TT (fun E H' Q' => o.t E sl H' Q') H1 Q)
    (hd : (a == ("__debug__" : Str)) = false := by decide) (hcd : (a == ("__classdict__" : Str)) = false := by decide) :
    codeAny (model X.prog X.w) X.A (.call (.ref g) ⟨[.ref f], []⟩) (CR CX0 X.stack X.prog X.w H1 s1 Q E0) s1 := by
  refine run_ofS (N := Ng) (ps := [a]) (us := [.ref f]) (vs := [.ref f]) lk hcg Sg hr e0 (hb s1 [.ref f] (e0.mod.kin.keeps fun b o e => (e0.bs b o e).1) rfl) (.cons rfl .nil) rfl fun hr' => ?_
  obtain ⟨eq, eb, es, ec, L, bd, hbody⟩ := of
  have hb' : ∀ (E : XK) (A : Around) (outer : List Env) (s : Shared) (H : Hp), Room k (A.deeper (lamEnv X F.scope s.heap.objs.size f F.c)) → PE (lamCx X A outer s H E F.scope f F.c) F.body (o.t E) := by
    rw [es, eb]
    exact fun E A outer s H r => hbody A outer s H E f F.c r
  obtain ⟨t', ht', hq'⟩ := hG f (F.is f D) s1 H1 Q (fun E H' Q' => o.t E sl H' Q') (fun W pn xe E p1 p2 tk hW => ⟨fun pinsZ sZ σZ HZ Q' IZ h =>
    (pe_act (i := 0) inv eq ec L bd kept tk hW hr' (hb' E) hNg hva hd hcd).run pinsZ sZ σZ HZ Q' IZ ⟨h.1, h.2.1.1, h.2.1.2.1, h.2.1.2.2, h.2.2⟩⟩) is go
  exact ⟨t', ht'.nox, hq'⟩
theorem Kept.here (inv : Inv X pins sl H st) : Kept X st.heap H st.heap := fun y c q => ⟨inv.freeC y c q, fun o ho => ⟨o.slots, ho⟩⟩
/-- back from the call -/
theorem back {Y : Cx} {pinsY : List (Addr × Obj)} {slY : L2.St} {HY : Hp} {sY : Shared} {Q : VK} {v : Value} {args : Args} (J : Inv Y pinsY slY HY sY)
    (rc : codeAny (model Y.prog Y.w) Y.A (.call v args) (CR CX0 Y.stack Y.prog Y.w HY sY Q E0) sY) : wpAny (model Y.prog Y.w) Y.A (call v args.pos args.kw) (EP Y pinsY slY Q) Y.xe sY := by
  refine wpAny_call (codeAny_mono rc fun r s' q => ?_)
  match r, q with
  | .ok (.ret u), q => exact J.after q
  | .error e, q => exact False.elim q
  | .ok .brk, q => exact False.elim q
  | .ok .cont, q => exact False.elim q
  | .ok .next, q => exact False.elim q
/-- the reading of x(e), e a lambda made in the frame of X at the slots sl -/
def tGive (X : Cx) (k : Nat) (TT : (XK → Hp → VK → Prop) → Hp → VK → Prop) (ta : TA) (sl : L2.St) : TE := fun slY H Q => ta slY H fun vs H1 =>
  ∃ (f : Addr) (F : LF) (o : Form) (D : Hp → Prop), vs = [.ref f] ∧ F.Of X o D k ∧ F.is f D H1 ∧ TT (fun E H' Q' => o.t E sl H' Q') H1 Q
theorem pe_give {x a : Str} {g : Addr} {k : Nat} {pg : Arguments} {bg : List Stmt} {sg : Scope} {dV kV doc pm cdv ct oc : Value} {an od : Option Addr} {osl : Array (Option Value)} {Ng : List Str} {TT : (XK → Hp → VK → Prop) → Hp → VK → Prop} {e : Expr} {ta : TA} {p pos : Pos}
    (hg : Gl X x) (hm : X.mg x = some (.ref g)) (hk : PySem.W.keepIn X.K (.ref g) = true)
    (lk : X.K.lookup g = some ⟨oc, od, .func (PySem.W.fnOf x x pg bg sg dV kV doc pm an cdv ct), osl⟩) (hcg : PySem.W.codeIn X.K cdv x = true) (hb : L2.Binds X.K (PySem.W.fnOf x x pg bg sg dV kV doc pm an cdv ct) [a] []) (Sg : FnScope Ng [a] sg) (hNg : Ng[0]? = some a) (hva : Vis sg a)
    (hG : Gives X Ng x sg g cdv bg a TT) (hr : Room (k + 2) X.A) (ha : PA X [e] ta) (he : starEach [e] X.env = [(false, eval e X.env)] := by rfl)
    (hdb : (x == ("__debug__" : Str)) = false := by decide) (hd : (a == ("__debug__" : Str)) = false := by decide) (hcd : (a == ("__classdict__" : Str)) = false := by decide) :
    PE X (.Call (.Name x p) [e] [] pos) (fun sl H Q => tGive X k TT ta sl sl H Q) := by
  refine ⟨fun pins st sl H Q inv h => wpAny_Call_Name_kw (ld_glob inv hg hm ?_ hdb)⟩
  refine PySem.W.callWith_K (h₀ := X.base) inv.ok.mod.kin hk (thn (ha.run pos pins st sl H _ inv h) fun us s1 ⟨vs, H1, J, r, q⟩ => ⟨J.kIn, ?_⟩) he (by rfl)
  obtain ⟨f, F, o, D, rfl, of, is, go⟩ := q
  obtain ⟨u, rfl, ru⟩ : ∃ u, us = [u] ∧ RelV (.ref f) u := by
    cases r with
    | cons a b => cases b; exact ⟨_, rfl, a⟩
  obtain rfl : u = .ref f := ru
  exact back (args := ⟨[.ref f], []⟩) J (code_give J of lk hcg hb Sg hNg hva hG hr J.env0 (Kept.here J) is go hd hcd)
/-- .. in a block of the frame of X -/
theorem pe_giveB {x a : Str} {g : Addr} {k : Nat} {pg : Arguments} {bg : List Stmt} {sg : Scope} {dV kV doc pm cdv ct oc : Value} {an od : Option Addr} {osl : Array (Option Value)} {Ng : List Str} {TT : (XK → Hp → VK → Prop) → Hp → VK → Prop} {e : Expr} {ta : TA} {p pos : Pos}
    {scope : Scope} {cenv : Env} {fp : List Addr} (inv : Inv X pins sl H st) (nfp : ∀ b ∈ fp, ∀ y c, X.env.cells.lookup y = some c → c ≠ b) (hg : Gl (X.blk st H scope cenv fp) x) (hm : X.mg x = some (.ref g)) (hk : PySem.W.keepIn X.K (.ref g) = true)
    (lk : X.K.lookup g = some ⟨oc, od, .func (PySem.W.fnOf x x pg bg sg dV kV doc pm an cdv ct), osl⟩) (hcg : PySem.W.codeIn X.K cdv x = true) (hb : L2.Binds X.K (PySem.W.fnOf x x pg bg sg dV kV doc pm an cdv ct) [a] []) (Sg : FnScope Ng [a] sg) (hNg : Ng[0]? = some a) (hva : Vis sg a)
    (hG : Gives X Ng x sg g cdv bg a TT) (hr : Room (k + 2) X.A) (ha : PA (X.blk st H scope cenv fp) [e] ta) (he : starEach [e] cenv = [(false, eval e cenv)] := by rfl)
    (hdb : (x == ("__debug__" : Str)) = false := by decide) (hd : (a == ("__debug__" : Str)) = false := by decide) (hcd : (a == ("__classdict__" : Str)) = false := by decide) :
    PE (X.blk st H scope cenv fp) (.Call (.Name x p) [e] [] pos) (tGive X k TT ta sl) := by
  refine ⟨fun pinsY sY slY HY Q invY h => wpAny_Call_Name_kw (ld_glob invY hg hm ?_ hdb)⟩
  refine PySem.W.callWith_K (h₀ := X.base) invY.ok.mod.kin hk (thn (ha.run pos pinsY sY slY HY _ invY h) fun us s1 ⟨vs, H1, J, r, q⟩ => ⟨J.kIn, ?_⟩) he (by rfl)
  obtain ⟨f, F, o, D, rfl, of, is, go⟩ := q
  obtain ⟨u, rfl, ru⟩ : ∃ u, us = [u] ∧ RelV (.ref f) u := by
    cases r with
    | cons a b => cases b; exact ⟨_, rfl, a⟩
  obtain rfl : u = .ref f := ru
  have un := J.base
  have kept : Kept X st.heap H1 s1.heap := fun y c q => by
    have out : c ∉ fp := fun z => nfp c z y c q rfl
    obtain ⟨v0, o0, ho0, _⟩ := inv.cell y c q
    have n0 := inv.freeC y c q
    exact ⟨un.free c _ ho0 n0 out, fun o ho => un.any ho n0 out⟩
  exact back (Y := X.blk st H scope cenv fp) (args := ⟨[.ref f], []⟩) J (code_give (X := X) inv of lk hcg hb Sg hNg hva hG hr J.env0 kept is go hd hcd)
/-! ### a comprehension that keeps nothing, its test told of the frame as it stands -/
def tNone (wi : TI) (g : TG) (tt : L2.St → TT) (vs : List Nat) : TE := fun sl H Q => wi sl H fun J H1 => ∀ D, H1 D = none → ∃ W : Nat → Nat → Hp → Prop, (∃ m, W 0 m (upd H1 D (.lst []))) ∧
  ∀ i m G, W i m G → (J.stop i G ∧ Q (.ref D) G) ∨ (J.go i G ∧ ∀ x G1, J.yld i G x G1 → g x (wipe sl vs) G1 fun s2 G2 => wipe s2 vs = wipe sl vs ∧ tt sl s2 G2 fun b G3 => b = false ∧ ∃ m', m' < m ∧ W (i + 1) m' G3)
theorem pe_none {elt tg iter : Expr} {ifs : List Expr} {scope : Scope} {own : List (Str × Nat)} {pos : Pos} {wi : TI} {g : TG} {tt : L2.St → TT} (calm : X.calm = true) (nd : X.N.Nodup) (hi : PI X tg iter wi) (ok : BlkOk X.N X.env.scope scope own)
    (hg : ∀ (s : Shared) (H : Hp) (C : Addr) (cl : List (Str × Addr)) (fp : List Addr), PG (X.blk s H scope (compEnvC scope cl C X.env) fp) tg g)
    (ht : ∀ (pins : List (Addr × Obj)) (st : Shared) (sl : L2.St) (H : Hp) (C : Addr) (cl : List (Str × Addr)) (fp : List Addr), Inv X pins sl H st → (∀ b ∈ fp, ∀ y c, X.env.cells.lookup y = some c → c ≠ b) → PTs (X.blk st H scope (compEnvC scope cl C X.env) fp) ifs (tt sl))
    (hs : ∀ x, foldedSetIterable iter X.env x = pure x := by intro _; rfl) : PE X (.ListComp elt [⟨tg, iter, ifs, 0⟩] scope pos) (tNone wi g tt (own.map (·.2))) := by
  refine ⟨fun pins st sl H Q inv h => ?_⟩
  rw [eval_ListComp]
  have frees : ∀ y ∈ scope.names, y.2 = .free → ∃ c, X.env.cells.lookup y.1 = some c := fun y hy e => (ok.free y hy e).elim (fun z => inv.ok.has _ (.inl z)) fun z => inv.ok.has _ (.inr z)
  refine wpAny_comprehension_free (use := none) rfl hs (closure_ok frees) ok.kind (fun y hy e => (ok.uniq y hy).trans (by rw [e])) (thn (hi.run pins st sl H _ inv h) fun _ _ go => thn go fun _ sa found => ?_)
  obtain ⟨it, fp, tn, J, H1, rfl, ia, T, ta, fa, more⟩ := found
  refine wpAny_newObj_type (newEnv_comp ?_) (by show 0 ≤ sizeLine; decide)
  have nD : H1 sa.heap.objs.size = none := ia.hok.fresh (Nat.le_refl _)
  obtain ⟨W, ⟨m0, w0⟩, each⟩ := more _ nD
  generalize eD : sa.heap.objs.size = D at nD w0 each ⊢
  have small : ∀ b ∈ fp, b < sa.heap.objs.size := fun b hb => let ⟨_, e, _⟩ := T.obj _ _ ta b hb; Heap.lt_size e
  -- the new list is laid
  obtain ⟨sb, esb⟩ : ∃ sb : Shared, sb = { sa with heap := sa.heap.push { cls := .type "list", data := .seq ([] : List Value).toArray } } := ⟨_, rfl⟩
  have grow1 : ∀ b o, sa.heap.get? b = some o → sb.heap.get? b = some o := fun b o e => by rw [esb]; exact Heap.get?_push_of_some _ e
  have ib : Inv X pins sl (upd H1 D (.lst [])) sb := by
    rw [esb, ← eD]
    exact ia.laid (t' := sa.toks) (fun _ _ e => Heap.get?_push_of_some _ e) (Nat.le_refl _) ⟨Nat.zero_le _, [], 0, .nil, Heap.get?_push_size _ rfl⟩
  have fb : ∀ b ∈ fp, FpOk X pins (upd H1 D (.lst [])) b ∧ b < sb.heap.objs.size := fun b hb => by
    have lt := small b hb
    refine ⟨⟨(upd_ne (by rw [← eD]; exact Nat.ne_of_lt lt)).trans (fa b hb).1, (fa b hb).2⟩, ?_⟩
    rw [esb, Heap.size_push]
    exact Nat.lt_succ_of_lt lt
  rw [← esb]
  -- the block
  have ic := block_start ib ok nd fb
  generalize eC : sb.heap.objs.size = C at ic ⊢
  generalize eG : upd H1 D (.lst []) = G at ib fb ic w0
  have pg := hg sb G C (cellsFrom (C + 1) scope.names (cloFrom X.env.cells scope.names [])) fp
  have pt := ht pins sb sl G C (cellsFrom (C + 1) scope.names (cloFrom X.env.cells scope.names [])) fp ib fun b hb y c e => (fb b hb).1.2.2.2.2.1 y c e
  generalize eE : compEnvC scope (cellsFrom (C + 1) scope.names (cloFrom X.env.cells scope.names [])) C X.env = ce at ic pg pt
  have lE : ce.locals = C := by rw [← eE]; rfl
  generalize esc : ({ sb with heap := pushCells (sb.heap.push { cls := .type "dict", data := .dict #[] }) scope.names } : Shared) = sc at ic
  have tc : tn 0 sc.heap := T.keep _ _ _ ta fun b _ o e => by rw [← esc]; exact pushCells_keeps _ _ _ _ (Heap.get?_push_of_some _ (grow1 b o e))
  have held : ∀ {s2 : L2.St} {G2 : Hp} {t2 : Shared}, Inv (X.blk sb G scope ce fp) [] s2 G2 t2 → (∀ b ∈ fp, G2 b = none) → ∀ b ∈ fp, FpOk (X.blk sb G scope ce fp) [] G2 b := fun iv nb b hb =>
    ⟨nb b hb, (iv.ok.exf b hb).1, iv.ok.exfs b hb, .inl hb, fun y c e => (iv.ok.exf b hb).2 y c e, fun p hp => absurd (show p ∈ ([] : List (Addr × Obj)) ++ [] from hp) (by simp)⟩
  have turns : codeAny (model X.prog X.w) X.A (.compLoop (.ListComp elt [⟨tg, iter, ifs, 0⟩] scope pos) 0 (.ref it) (.ref D) ce) (compPost (model X.prog X.w) X.A X.xe none (EP X pins sl Q) (.ref D) C) sc := by
    refine compLoop_any (fun m t => ∃ i G2, Inv (X.blk sb G scope ce fp) [] (wipe sl (own.map (·.2))) G2 t ∧ tn i t.heap ∧ (∀ b ∈ fp, G2 b = none) ∧ W i m G2) ?_ m0 ⟨0, G, ic, tc, fun b hb => (fb b hb).1.1, w0⟩
    rintro m t ⟨i, G2, i2, t2, n2, w2⟩
    cases each i m G2 w2 with
    | inl stop =>
      refine thnF (T.done (X.blk sb G scope ce fp) rfl rfl rfl calm i [] t _ G2 (fun _ _ => False) i2 (held i2 n2) t2 stop.1) fun r t3 done => ?_
      obtain ⟨rfl, i3⟩ := done
      have i4 : Inv X pins sl G2 t3 := ib.call' (ch := fp) i3.os i3.base i3.hok i3.bare fun b hb => ⟨(fb b hb).1.2.2.2.1, (fb b hb).1.2.1, (fb b hb).1.2.2.2.2.1, (fb b hb).1.2.2.2.2.2⟩
      have nC : G2 C = none := by rw [← lE]; exact i3.free
      obtain ⟨names, hn, _⟩ := i3.loc
      have hn : t3.heap.Ns ce.locals names := hn
      rw [lE] at hn
      obtain ⟨f0, f1, f2, f3, f4, f5⟩ := ib.fpOk (Nat.le_of_eq eC) nC
      exact ⟨names, hn, fun hp sbt => ⟨.ref D, G2, i4.turned (t' := t3.toks) (fun b o nb e => (sbt.2 b nb).trans e) f0 f1 f3 f4 f5, rfl, stop.2⟩⟩
    | inr next =>
      refine thnF (T.item (X.blk sb G scope ce fp) rfl rfl rfl calm i [] t _ G2 (fun _ _ => False) i2 (held i2 n2) t2 next.1) fun r t3 came => ?_
      obtain ⟨u, rfl, kept⟩ := came
      refine thnF kept fun _ t4 got => ?_
      obtain ⟨x, G4, i4, r4, y4, tn4, n4⟩ := got
      refine thnF (pg.run _ t4 _ G4 x u _ (i4.pinned (held i4 n4) (T.obj _ _ tn4)) r4 (next.2 x G4 y4)) fun _ t5 put => ?_
      obtain ⟨s5, G5, i5, e5, q5⟩ := put
      refine thnF (pt.run _ t5 s5 G5 _ i5 q5) fun b t6 told => ?_
      obtain ⟨G6, i6, eb, m', lt, w6⟩ := told
      subst eb
      have pin : ∀ b ∈ fp, ∀ o, t4.heap.get? b = some o → t6.heap.get? b = some o ∧ G6 b = none := fun b hb o e =>
        have z := i6.pin (b, o) (List.mem_append_right _ (List.mem_append_right _ (mem_pinsAt hb e)))
        ⟨z.1, z.2.1⟩
      simp only [Bool.false_eq_true, if_false]
      refine ⟨m', lt, i + 1, G6, (i6.unpinned (pins := [])).weak (by rw [← e5, wipe_length]) (fun j v e => ?_), T.keep _ _ _ tn4 fun b hb o e => (pin b hb o e).1, fun b hb => ?_, w6⟩
      · rw [← e5] at e
        exact (wipe_some e).1
      · obtain ⟨o, e, _⟩ := T.obj _ _ tn4 b hb
        exact (pin b hb o e).2
  have fine := codeAny_compStart_list turns (T.self X.A 0 _ _ _ tc turns)
  rw [← eE] at fine
  subst eC
  exact fine
end
end LamV

namespace LamV
open PySem PySem.Spec PyProof.Rows L2
/-! ### list.count over nested data, isinstance of a caught exception with or without fields -/
def rCountD (K : PySem.W.Frag) : V → List V → Hp → VK → Prop := fun x xs H Q => ∃ (a : Addr) (y : V) (d : PyData) (ds : List PyData), x = .ref a ∧ xs = [y] ∧ Dp K H (.ref a) (.list ds) ∧ Dp K H y d ∧ SeqAt.shaped (.list ds) = true ∧ SeqAt.shaped d = true ∧ Q (.int (ds.countP fun z => PyData.eqv z d : Nat)) H
section
variable {X : Cx}
theorem mt_countD (hu : X.A.units + 65 < cLine) : MtR X "list.count" (rCountD X.K) := by
  intro pins st sl H x xs v us Q inv rx rxs h
  obtain ⟨a, y, d, ds, rfl, rfl, dl, dy, sh, sd, q⟩ := h
  obtain rfl : v = .ref a := rx
  obtain ⟨uy, rfl, ry⟩ := rxs.one
  obtain ⟨bs, r1⟩ := Dp.reads inv d y uy dy ry
  have lay : PyData.canLayAll0 ds = true := SeqAt.canLay_of_shaped sh
  cases dl with
  | lst hs ha =>
    obtain ⟨its, rv, ⟨⟨cls, dd, data, sls⟩, n, ho, hc, _, hdt⟩, _⟩ := inv.list hs
    simp only at hc hdt
    subst hc hdt
    obtain ⟨as, reads⟩ := Dp.readsAll inv ds _ its ha rv
    have em : its.map (SeqAt.readOf st.heap) = ds := SeqAt.readsAll_map ds its as lay reads
    refine call_meets PySem.F.slot_list_count ⟨_, ho, rfl⟩ PySem.F.entry_list_count (PySem.F.args_list_count_2 _ _) (SeqAt.list_countAt a its.toArray n dd sls uy (fun u => PyData.eqv (SeqAt.readOf st.heap u) d)) ⟨ho, SeqAt.items_eqAt (vs := its.toArray) reads r1 lay (SeqAt.canLay_of_shaped sd) (room_in_shaped sd hu), ?_⟩
    refine ⟨.int (ds.countP fun z => PyData.eqv z d : Nat), H, inv.tok _, ⟨st.toks, ?_⟩, q⟩
    rw [← em, List.countP_map]
    rfl
/-- isinstance(e, c), e the caught exception of the class D, its dict at d if it has one -/
def rIsD (K : PySem.W.Frag) (D a : Addr) (d : Option Addr) : List V → Hp → VK → Prop := fun xs H Q => ∃ (c : V) (cv : Value) (b : Bool), xs = [.ref a, c] ∧ (∀ u, RelV c u → u = cv) ∧ PySem.W.kitOne K (.ref D) cv = some b ∧ (∀ dd, d = some dd → ∃ fs, H dd = some (.xd fs)) ∧ Q (.bl b) H
theorem call_isD {a D : Addr} {oe : Obj} {d : Option Addr} {pn : List (Addr × Obj)} (C : ExcC X.K D) (hz : Zc (.ref D) d oe) (hf : ∃ vs, oe.data = .fields vs) : CallR (X.suite a ((a, oe) :: pn)) (.builtin "isinstance") (rIsD X.K D a d) := by
  intro pins st sl H xs us Q inv r h
  obtain ⟨c, cv, b, rfl, one, is, dict, q⟩ := h
  cases r with
  | cons rx rr =>
    obtain ⟨ut, rfl, rt⟩ := Vals.one rr
    obtain rfl := one _ rt
    obtain rfl := (show _ = Value.ref a from rx)
    obtain ⟨got, _⟩ := inv.pin (a, oe) (List.mem_append.mpr (.inl List.mem_cons_self))
    obtain ⟨vs, hv⟩ := hf
    have fin : ∀ tk, EP (X.suite a ((a, oe) :: pn)) pins sl Q (.bool b) { st with toks := tk } := fun tk => ⟨.bl b, H, inv.kept (t' := tk) fun _ _ z => z, rfl, q⟩
    have nc : PySem.W.notCls oe = true := by
      unfold PySem.W.notCls
      rw [hv] <;> rfl
    cases d with
    | none => exact PySem.W.kia_one (PySem.W.handS_kitx_exc C.hg C.hk C.hs C.hd C.ha C.hn C.ht C.hm) inv.kIn (show PySem.W.InstAt st.heap a oe D none from ⟨got, hz.1, nc, by rw [hz.2]; trivial⟩) is (fun z => nomatch z) fin
    | some dd =>
      obtain ⟨fs, ed⟩ := dict dd rfl
      obtain ⟨mA, ns, _⟩ := (show ObjOk X.prog X.w H st.heap dd (.xd fs) from inv.hok dd _ ed)
      obtain ⟨od, ho, _⟩ := lookIn_ns ns
      exact PySem.W.kia_one (PySem.W.kitx_exc (by obtain ⟨cd, e, _⟩ := PySem.W.any_some C.hd; rw [e]; rfl) C.hg C.hk C.hs C.ha C.hn C.ht C.hm) inv.kIn (show PySem.W.InstAt st.heap a oe D (some od) from ⟨got, hz.1, nc, by rw [hz.2]; exact ho⟩) is (fun z => nomatch z) fin
end
end LamV

/-! x != y and x == y of instances whose class has its own __eq__ alone. -/
namespace Own
open PySem PySem.Spec PyProof.Rows L2
section
variable {prog : Program} {w : World} {A : Around} {E : Value → Shared → Prop} {s : Shared} {K : PySem.W.Frag} {x y C g : Addr} {ox oy : Obj} {od od' : Option Obj}
/-- object.__ne__ asks __eq__ -/
theorem ne_body {Q : Fin → Shared → Prop} (hu : A.units < cLine) (KX : K.In s.heap) (I : PySem.W.InstAt s.heap x ox C od) (hs : PySem.W.findIn K (.ref C) "__eq__" = some (some (.ref g))) (hf : PySem.W.isFn K (.ref g) = true)
    (h : wpAny (model prog w) A (call (.ref g) [.ref x, .ref y]) (fun v s' => ∃ b, v = .bool b ∧ Q (.done (.ret (.bool !b))) s') E s) : wpAny (model prog w) A (Builtin.«object.__ne__» ⟨[.ref x, .ref y], []⟩) Q E s := by
  unfold Builtin.«object.__ne__»
  refine wpAny_bind (wpAny_of_eq (a := ((Value.ref x : Value), [Value.ref y])) (by first | rfl | (simp only [slotArgs]; rfl)) ?_)
  refine wpAny_bind (wpAny_cRoomFor hu ?_)
  refine wpAny_bind (PySem.W.ifBound_K (args := [.ref y]) KX I hs hf (wpAny_mono h (fun v s' z => ?_) fun _ _ z => z))
  obtain ⟨b, rfl, q⟩ := z
  exact wpAny_bind (wpAny_pure (wpAny_pure q))
theorem rich_ne {Q : Value → Shared → Prop} (hu : A.units + 1 < cLine) (KX : K.In s.heap) (I : PySem.W.InstAt s.heap x ox C od) (J : PySem.W.InstAt s.heap y oy C od') (hn : PySem.W.findIn K (.ref C) "__ne__" = some (some (.builtin "object.__ne__")))
    (ho : PySem.W.subIn K (.ref C) (.type "object") = some true) (hs : PySem.W.findIn K (.ref C) "__eq__" = some (some (.ref g))) (hf : PySem.W.isFn K (.ref g) = true)
    (h : wpAny (model prog w) A.in1 (call (.ref g) [.ref x, .ref y]) (fun v s' => ∃ b, v = .bool b ∧ Q (.bool !b) s') E s) : wpAny (model prog w) A (richCompare .NotEq (.ref x) (.ref y)) Q E s := by
  have one : wpAny (model prog w) A (tryCompare (.ref x) "__ne__" (.ref y)) (fun r s' => ∃ v, r = some v ∧ Q v s') E s := by
    unfold tryCompare
    have sub : PySem.W.Looks (model prog w) s.heap (isInstance (.ref x) (.type "object")) true := (I.type).andThen (PySem.W.looks_subIn KX ho)
    have run : wpAny (model prog w) A (call (.builtin "object.__ne__") [.ref x, .ref y]) (fun v s' => ∃ b, v = .bool b ∧ Q (.bool b) s') E s := by
      refine wpAny_call (codeAny_call_builtin PySem.F.cmp_object.ne.plain PySem.F.cmpEntry_ne (PySem.W.check_slot PySem.F.cmpKind_ne PySem.F.cmpSplit_ne sub (PySem.F.cmpArgs_ne _ _) ?_))
      refine ne_body (A := A.in1) (by show A.units + 1 < cLine; exact hu) KX I hs hf (wpAny_mono h (fun v s' z => ?_) fun _ _ z => z)
      obtain ⟨b, rfl, q⟩ := z
      exact ⟨b, rfl, _, rfl, q⟩
    refine wpAny_bind ?_
    simp only [callSpecialIfBound?, bindSpecialIfBound?]
    refine wpAny_holding (wpAny_bind (wpAny_bind (wpAny_bind (I.type.here ((PySem.W.looks_findIn KX hn).here ?_)))))
    refine wpAny_bind (wpAny_askSetting (wpAny_ite ?_))
    have fin : wpAny (model prog w) A (call (.builtin "object.__ne__") ([.ref x] ++ [.ref y]) >>= fun v => pure (some v)) (fun r s' => wpAny (model prog w) A (match r with | some .notImplemented | none => pure none | some v => pure (some v) : Sem (Option Value)) (fun r s' => ∃ v, r = some v ∧ Q v s') E s') E s :=
      wpAny_bind (wpAny_mono run (fun v s' z => by obtain ⟨b, rfl, q⟩ := z; exact wpAny_pure (wpAny_pure ⟨_, rfl, q⟩)) fun _ _ z => z)
    split
    · rw [PySem.F.cmp_object.ne.bind (.ref x)]
      exact wpAny_bind (wpAny_pure (wpAny_pure fin))
    · rw [PySem.F.cmp_object.ne.bind (.ref x)]
      exact wpAny_tryCatch (wpAny_bind (wpAny_pure (wpAny_pure fin)))
  unfold richCompare
  simp only [PySem.oneThing_ref]
  refine wpAny_holding (wpAny_bind (wpAny_cRoomFor (by omega) (wpAny_bind (I.type.here (wpAny_bind (J.type.here ?_))))))
  rw [if_neg (by simp)]
  refine wpAny_bind (wpAny_pure ?_)
  simp only [Bool.false_eq_true, if_false]
  refine wpAny_bind (wpAny_mono one (fun r s' z => ?_) fun _ _ e => e)
  obtain ⟨v, rfl, q⟩ := z
  exact wpAny_pure q
end
section
variable {X : Cx} {CX : CXT} {n : Nat} {C g : Addr} {sp : Sp} {E : XK}
/-- x == y, x != y: instances of C that hold attributes; the own __eq__ answers with a truth value -/
def rOwnEq (neg : Bool) (C : Addr) (sp : Sp) (E : XK) : R2 := fun x y H Q => ∃ a dx fs b dy gs, x = .ref a ∧ y = .ref b ∧ H a = some (.ins C dx fs) ∧ H b = some (.ins C dy gs) ∧ sp [x, y] H (fun v H' => ∃ r, v = .bl r ∧ Q (.bl (if neg then !r else r)) H') E
theorem op_neOwn (hn : PySem.W.findIn X.K (.ref C) "__ne__" = some (some (.builtin "object.__ne__"))) (ho : PySem.W.subIn X.K (.ref C) (.type "object") = some true) (hs : PySem.W.findIn X.K (.ref C) "__eq__" = some (some (.ref g))) (hf : PySem.W.isFn X.K (.ref g) = true)
    (F : FnR X.prog X.w X.K X.mg X.base CX n g sp) (hr : Room (n + 1) X.A) (hx : Passes CX X E) : OpR X (compareOp .NotEq) (rOwnEq true C sp E) := by
  intro pins st sl H x y v u Q inv rx ry h
  obtain ⟨a, dx, fs, b, dy, gs, rfl, rfl, ea, eb, q⟩ := h
  obtain rfl := (show v = Value.ref a from rx)
  obtain rfl := (show u = Value.ref b from ry)
  obtain ⟨oa, ia⟩ := insAt inv ea
  obtain ⟨ob, ib⟩ := insAt inv eb
  show wpAny _ _ (richCompare .NotEq (.ref a) (.ref b)) _ _ _
  refine rich_ne (hu_of hr) inv.kIn ia ib hn ho hs hf (wpAny_mono (wpAny_call (SlX.run_at (us := [.ref a, .ref b]) (ws := [.ref a, .ref b]) F (Room.in1 hr) inv.env0.in1 hx inv (.cons rfl (.cons rfl .nil)) q)) (fun w s' z => ?_) fun _ _ z => z)
  obtain ⟨z', H', inv', rz, r, ez, qz⟩ := z
  subst ez
  obtain rfl := (show w = Value.bool r from rz)
  exact ⟨r, rfl, .bl (!r), H', inv', rfl, qz⟩
/-- o.m(), m a def with a star -/
theorem pe_methR0 {k : Nat} {f : Addr} {m : Str} {o : Expr} {ta : TE} {apos pos : Pos} {pl : Sem Bool} (he : PE X o ta) (c : Cls X.K C) (hm : Meth X.K C m f) (F : FnR X.prog X.w X.K X.mg X.base CX k f sp) (hr : Room k X.A) (hx : Passes CX X E)
    (ht : eval (.Call (.Attribute o m apos) [] [] pos) X.env = (do let ov ← eval o X.env; standAt apos.atName; let (f, first) ← holding [ov] (getMethod ov m pl); callWith pos f first (backTo pos (starEach [] X.env)) (backToKw pos (keywordEach [] X.env))) := by rfl) :
    PE X (.Call (.Attribute o m apos) [] [] pos) (tMethR C m sp E ta tNil) := by
  refine ⟨fun pins st sl H Q inv h => PySem.W.methodCall_KW (pl := pl) (thn (he.run pins st sl H _ inv h) fun u s1 got => ?_) ht⟩
  obtain ⟨x, H1, i1, rx, a, dx, fs, rfl, ea, lk, q⟩ := got
  obtain rfl := (show u = Value.ref a from rx)
  refine getmeth_ok i1 ea c hm lk ?_
  exact PySem.W.callWith_K0 (first := [.ref a]) i1.kIn hm.kp (wpAny_call (run_fnR (us := [.ref a]) (vs := [.ref a]) F hr hx i1 (.cons rfl .nil) q))
end
end Own

/-! Dicts with int keys: sorted, min, max of them; sorted(d.items()) of ints; x not in a tuple of data. -/
namespace DictI
open PySem PySem.Spec PyProof.Rows L2
section
variable {X : Cx}
theorem keyInt {knd : Bool} {i : Int} {v : Value} (h : keyIs (Sum.inl i : Key) v = true) : ∃ t, v = .int i t := by
  have r : RelV (.int i) v := relV_key h
  exact r
theorem ints_at {vs : List (Key × Value)} {acc : List Value} {ns : List Int} (hkeys : vs.map (·.1) = ns.map Sum.inl) (hal : acc.length = ns.length)
    (hv : ∀ (j : Nat) (v : Value), acc[j]? = some v → ∃ k x, vs[j]? = some (k, x) ∧ keyIs k v = true) : IntsAre acc ns := by
  have each : ∀ v ∈ acc, ∃ i t, v = Value.int i t := fun v hv' => by
    obtain ⟨j, hj⟩ := List.mem_iff_getElem?.mp hv'
    obtain ⟨k, x, e1, e2⟩ := hv j v hj
    have e3 : (vs.map (·.1))[j]? = some k := by rw [List.getElem?_map, e1]; rfl
    rw [hkeys, List.getElem?_map] at e3
    cases e4 : ns[j]? with
    | none => rw [e4] at e3; cases e3
    | some i =>
      rw [e4] at e3
      obtain rfl : Sum.inl i = k := Option.some.inj e3
      obtain ⟨t, rfl⟩ := keyInt (knd := true) e2
      exact ⟨i, t, rfl⟩
  have e : acc.map SrtO.iv = ns := by
    apply List.ext_getElem?
    intro j
    rw [List.getElem?_map]
    cases ha : acc[j]? with
    | none =>
      have : ns.length ≤ j := by rw [← hal]; exact List.getElem?_eq_none_iff.mp ha
      rw [List.getElem?_eq_none_iff.mpr this]
      rfl
    | some v =>
      obtain ⟨k, x, e1, e2⟩ := hv j v ha
      have e3 : (vs.map (·.1))[j]? = some k := by rw [List.getElem?_map, e1]; rfl
      rw [hkeys, List.getElem?_map] at e3
      cases e4 : ns[j]? with
      | none => rw [e4] at e3; cases e3
      | some i =>
        rw [e4] at e3
        obtain rfl : Sum.inl i = k := Option.some.inj e3
        obtain ⟨t, rfl⟩ := keyInt (knd := true) e2
        rfl
  have := SrtO.ints_iv each
  rwa [e] at this
def rSortedDI : List V → Hp → VK → Prop := fun xs H Q => ∃ (a : Addr) (kvs : List (Key × V)) (ns : List Int), xs = [.ref a] ∧ Rd H a (.dK kvs) ∧ kvs.map (·.1) = ns.map Sum.inl ∧
    ∀ (ys : List Int) (p : Addr), ys.Perm ns → ys.Pairwise (· ≤ ·) → H p = none → Q (.ref p) (upd H p (.lst (ys.map V.int)))
/-- sorted(d), d's keys ints -/
theorem cr_sortedDI (hcalm : X.calm = true) : CallR X (.builtin "sorted") rSortedDI := by
  intro pins s σ H xs us Q I r q
  obtain ⟨a, kvs, ns, ex, hd, hks, q⟩ := q
  subst ex
  obtain ⟨u, eu, rx⟩ := vals1 r
  subst eu
  cases rx
  obtain ⟨z, lo, vs, rel, dd⟩ := dk_rd I.hok hd
  obtain ⟨ep, hat⟩ := dd.dictAt
  have hkeys : vs.map (·.1) = ns.map Sum.inl := rel.keys.symm.trans hks
  have hl : vs.length = ns.length := by
    have e := congrArg List.length hkeys
    rw [List.length_map, List.length_map] at e
    exact e
  have h16 : vs.length ≤ sizeLine := by rw [← Paired.length rel]; exact z
  refine Calls.call_function_entry PyProof.Rows.kind_sorted PyProof.Rows.plain_sorted PyProof.Rows.entry_sorted (PyProof.Rows.args_sorted1 _) ?_
  unfold Builtin.«sorted»
  refine wpAny_bind (m := checkCount "sorted" 1 1 _) (wpAny_pure ?_)
  refine wpAny_bind (PySem.W.kdu_collect (A := X.A.in1) (PySem.W.kdl_dict (knd := mixKind X.prog X.w) (kvs := vs) (ep := ep) lo) (I.ok.hd hcalm) hat h16 fun h' tk acc hk hacc => ?_)
  have hal : acc.toList.length = ns.length := by rw [Array.length_toList, hacc.1, hl]
  have hi : IntsAre acc.toList ns := ints_at hkeys hal fun j v e => hacc.2 j v (by rw [← Array.getElem?_toList]; exact e)
  have I1 : Inv X pins σ H { s with heap := h', toks := tk } := I.kept hk
  have hz : acc.toList.length ≤ sizeLine := by rw [hal, ← hl]; exact h16
  refine wpAny_bind (wpAny_newList ?_ hz)
  have hoL : (h'.push (seqObj "list" acc.toList.toArray 0)).get? h'.objs.size = some (seqObj "list" acc.toList.toArray 0) := Heap.get?_push_size _ rfl
  show wpAny _ _ _ _ _ { s with heap := h'.push (seqObj "list" acc.toList.toArray 0), toks := tk }
  refine wpAny_bind (wpAny_holding (wpAny_call_entry PyProof.Rows.slot_list_sort ⟨_, hoL, rfl⟩ PyProof.Rows.entry_list_sort
    (SrtO.list_sort_ord SrtO.swo_int hoL hz (fun h2 => SrtO.ints_sortable hi h2) fun out h1 h2 => ⟨_, rfl, ?_⟩) (PyProof.Rows.args_list_sort _)))
  obtain ⟨k1, k2, k3⟩ := SrtO.ints_out hi h1 h2
  obtain ⟨e', he'⟩ := PyProof.Rows.sortedHeap_at (vs := acc.toList) (out := out.toArray) hoL
  have hlen : ((out.map SrtO.iv).map V.int).length ≤ sizeLine := by
    rw [List.length_map, k2.length_eq, ← hl]
    exact h16
  refine wpAny_pure ⟨_, rfl, .ref h'.objs.size, upd H h'.objs.size (.lst ((out.map SrtO.iv).map V.int)), I1.laid (t' := tk) (fun b u e => ?_) (Nat.le_refl _)
    (show ObjOk X.prog X.w _ _ _ (.lst ((out.map SrtO.iv).map V.int)) from ⟨hlen, out, e', vals_of_ints k1, he'⟩), rfl, q _ _ k2 k3 (I1.hok.fresh (Nat.le_refl _))⟩
  have hb : b < h'.objs.size := Heap.lt_size e
  rw [PyProof.Rows.sortedHeap_old (Nat.ne_of_lt hb) (by rw [size_push']; exact Nat.lt_succ_of_lt hb)]
  exact Heap.get?_push_of_some _ e
def rBestDI (le : Int → Int → Prop) : List V → Hp → VK → Prop := fun xs H Q => ∃ (a : Addr) (kvs : List (Key × V)) (ns : List Int), xs = [.ref a] ∧ Rd H a (.dK kvs) ∧ kvs.map (·.1) = ns.map Sum.inl ∧ 0 < ns.length ∧
    ∀ m, m ∈ ns → (∀ y ∈ ns, le m y) → Q (.int m) H
theorem key_at {vs : List (Key × Value)} {ns : List Int} (hkeys : vs.map (·.1) = ns.map Sum.inl) {i : Nat} {v : Value} (h : ∃ k x, vs[i]? = some (k, x) ∧ keyIs k v = true) : ∃ t, v = .int (ns.getD i 0) t := by
  obtain ⟨k, x, e1, e2⟩ := h
  have e3 : (vs.map (·.1))[i]? = some k := by rw [List.getElem?_map, e1]; rfl
  rw [hkeys, List.getElem?_map] at e3
  cases e4 : ns[i]? with
  | none => rw [e4] at e3; cases e3
  | some j =>
    rw [e4] at e3
    obtain rfl : Sum.inl j = k := Option.some.inj e3
    rw [List.getD_eq_getElem?_getD, e4]
    exact keyInt (knd := true) e2
theorem getD_in {ns : List Int} {i : Nat} (h : i < ns.length) : ns.getD i 0 ∈ ns := by
  rw [List.getD_eq_getElem?_getD, List.getElem?_eq_getElem h]
  exact List.getElem_mem h
theorem in_getD {ns : List Int} {y : Int} (h : y ∈ ns) : ∃ j, j < ns.length ∧ ns.getD j 0 = y := by
  obtain ⟨j, hj, e⟩ := List.mem_iff_getElem.mp h
  exact ⟨j, hj, by rw [List.getD_eq_getElem?_getD, List.getElem?_eq_getElem hj]; exact e⟩
/-- min(d), d's keys ints -/
theorem cr_minDI (hc : X.calm = true) : CallR X (.builtin "min") (rBestDI (· ≤ ·)) := by
  intro pins s σ H xs us Q I r h
  obtain ⟨a, kvs, ns, rfl, hd, hks, hne, q⟩ := h
  rw [Vals.ref1 r]
  obtain ⟨z, lo, vs, rel, dd⟩ := dk_rd I.hok hd
  obtain ⟨ep, hat⟩ := dd.dictAt
  have hkeys : vs.map (·.1) = ns.map Sum.inl := rel.keys.symm.trans hks
  have hl : vs.length = ns.length := by
    have e := congrArg List.length hkeys
    rw [List.length_map, List.length_map] at e
    exact e
  have ha : a < s.heap.objs.size := hat.lt_size
  refine call_min_walk (wpAny_pyIter_dict lo hat ?_)
  refine ⟨_, _, _, _, _, _, fun i j => decide (ns.getD i 0 < ns.getD j 0), rfl, Walks.dictKeys (A := X.A.in1) (I.ok.hd hc) _ a (Nat.ne_of_lt ha) vs ep, ⟨⟨_, Heap.get?_push_size _ rfl, rfl, rfl⟩, hat.push _⟩, fun b hb => ?_, by omega, CmpOf.ints_lt (fun i => ns.getD i 0) (fun i v z => key_at hkeys z), fun v h' tk hv' hk => ?_⟩
  · show b < (s.heap.push _).objs.size
    rw [size_push']
    rcases List.mem_cons.mp hb with z | z
    · rw [z]
      exact Nat.lt_succ_self _
    · rw [List.mem_singleton.mp z]
      exact Nat.lt_succ_of_lt ha
  · obtain ⟨t, rfl⟩ := key_at hkeys hv'
    obtain ⟨m1', m2'⟩ := argBest_lt (fun i => ns.getD i 0) (vs.length - 1)
    refine ⟨.int _, H, I.kept fun b o e => hk b o (fun z => ?_) (Heap.get?_push_of_some _ e), ⟨t, rfl⟩, q _ (getD_in (by omega)) fun y hy => ?_⟩
    · rw [List.mem_singleton.mp z] at e
      exact absurd (Heap.lt_size e) (Nat.lt_irrefl _)
    · obtain ⟨j, hj, rfl⟩ := in_getD hy
      exact m2' j (by omega)
/-- max(d), d's keys ints -/
theorem cr_maxDI (hc : X.calm = true) : CallR X (.builtin "max") (rBestDI (· ≥ ·)) := by
  intro pins s σ H xs us Q I r h
  obtain ⟨a, kvs, ns, rfl, hd, hks, hne, q⟩ := h
  rw [Vals.ref1 r]
  obtain ⟨z, lo, vs, rel, dd⟩ := dk_rd I.hok hd
  obtain ⟨ep, hat⟩ := dd.dictAt
  have hkeys : vs.map (·.1) = ns.map Sum.inl := rel.keys.symm.trans hks
  have hl : vs.length = ns.length := by
    have e := congrArg List.length hkeys
    rw [List.length_map, List.length_map] at e
    exact e
  have ha : a < s.heap.objs.size := hat.lt_size
  refine call_max_walk (wpAny_pyIter_dict lo hat ?_)
  refine ⟨_, _, _, _, _, _, fun i j => decide (ns.getD i 0 > ns.getD j 0), rfl, Walks.dictKeys (A := X.A.in1) (I.ok.hd hc) _ a (Nat.ne_of_lt ha) vs ep, ⟨⟨_, Heap.get?_push_size _ rfl, rfl, rfl⟩, hat.push _⟩, fun b hb => ?_, by omega, CmpOf.ints_gt (fun i => ns.getD i 0) (fun i v z => key_at hkeys z), fun v h' tk hv' hk => ?_⟩
  · show b < (s.heap.push _).objs.size
    rw [size_push']
    rcases List.mem_cons.mp hb with z | z
    · rw [z]
      exact Nat.lt_succ_self _
    · rw [List.mem_singleton.mp z]
      exact Nat.lt_succ_of_lt ha
  · obtain ⟨t, rfl⟩ := key_at hkeys hv'
    obtain ⟨m1', m2'⟩ := argBest_gt (fun i => ns.getD i 0) (vs.length - 1)
    refine ⟨.int _, H, I.kept fun b o e => hk b o (fun z => ?_) (Heap.get?_push_of_some _ e), ⟨t, rfl⟩, q _ (getD_in (by omega)) fun y hy => ?_⟩
    · rw [List.mem_singleton.mp z] at e
      exact absurd (Heap.lt_size e) (Nat.lt_irrefl _)
    · obtain ⟨j, hj, rfl⟩ := in_getD hy
      exact m2' j (by omega)
/-- x not in a tuple of data -/
def rNotInT (K : PySem.W.Frag) : R2 := fun x y H Q => ∃ d ds, Dp K H x d ∧ Dp K H y (.tuple ds) ∧ SeqAt.shaped d = true ∧ SeqAt.shaped (.list ds) = true ∧ Q (.bl (!ds.any fun z => PyData.eqv z d)) H
theorem op_notInT (hu : X.A.units + 65 < cLine) : OpR X (compareOp .NotIn) (rNotInT X.K) := by
  intro pins s σ H x y v u Q I rx ry h
  obtain ⟨d, ds, hd, he, sd, se, q⟩ := h
  obtain ⟨as, r1⟩ := Dp.reads I d x v hd rx
  obtain ⟨bs, r2⟩ := Dp.reads I (.tuple ds) y u he ry
  exact SeqAt.notIn_tuple_reads r2 r1 (SeqAt.canLay_of_shaped se) (SeqAt.canLay_of_shaped sd) (room_in_shaped sd hu) ⟨.bl _, H, I, rfl, q⟩
/-- d.items() as a value, d's keys ints or texts -/
def rItemsK : V → List V → Hp → VK → Prop := fun x xs H Q => ∃ (a : Addr) (kvs : List (Key × V)), x = .ref a ∧ xs = [] ∧ H a = some (.dK kvs) ∧ ∀ p, H p = none → Q (.ref p) (upd H p (DX.itemsO p a))
theorem mt_itemsK : MtR X "dict.items" rItemsK := by
  intro pins s σ H x xs v us Q I rx rxs h
  obtain ⟨a, kvs, rfl, rfl, ha, q⟩ := h
  cases rx
  cases rxs
  obtain ⟨z, hs0, vs, kv, hdo⟩ := I.hok a _ ha
  refine call_meetsIn F.slot_dict_items hdo.typeIs F.entry_dict_items (F.args_dict_items_1 _) (meets_dict_items (mixKind X.prog X.w) a hs0) ⟨⟨vs, hdo⟩, ?_⟩
  have hf : H s.heap.objs.size = none := I.hok.fresh (Nat.le_refl _)
  exact ⟨.ref s.heap.objs.size, upd H s.heap.objs.size (DX.itemsO s.heap.objs.size a), I.laid (t' := s.toks) (fun b u e => Heap.get?_push_of_some _ e) (Nat.le_refl _) (DX.itemsO_ok (Heap.get?_push_size _ rfl)), rfl, q _ hf⟩
abbrev entI (e : Int × Int) : Key × V := (Sum.inl e.1, V.int e.2)
def addrV : Value → Addr
  | .ref b => b
  | _ => 0
/-- sorted(d.items()), keys and values ints -/
def rSortIK : List V → Hp → VK → Prop := fun vs H Q => ∃ (p a : Addr) (fs : List (Int × Int)), vs = [.ref p] ∧ H p = some (DX.itemsO p a) ∧ H a = some (.dK (fs.map entI)) ∧
  ∀ (H' : Hp) (l : Addr) (ts : List Addr) (ys : List (Int × Int)), (∀ b o, H b = some o → H' b = some o) → H l = none → ys.Perm fs → ys.Pairwise (fun x y => SrtO.lexB y x = false) → H' l = some (.lst (ts.map V.ref)) →
    Paired (fun (t : Addr) (y : Int × Int) => H' t = some (.tup [.int y.1, .int y.2])) ts ys → Q (.ref l) H'
theorem paired_map {α β γ : Type} {F : α → β → Prop} (f : γ → α) (g : γ → β) : ∀ {l : List γ}, (∀ x ∈ l, F (f x) (g x)) → Paired F (l.map f) (l.map g)
  | [], _ => .nil
  | x :: l, h => .cons (h x (by simp)) (paired_map f g fun z hz => h z (by simp [hz]))
theorem cr_sortedIK (hc : X.calm = true) : CallR X (.builtin "sorted") rSortIK := by
  intro pins s σ H xs us Q I r h
  obtain ⟨p, a, fs, rfl, hp, ha, q⟩ := h
  obtain rfl := Vals.ref1 r
  have view : s.heap.IsItemsView p a := (show ObjOk X.prog X.w H s.heap p (DX.itemsO p a) from I.hok p _ hp).1
  obtain ⟨z, lo, vs, rel, dd⟩ := dk_of I.hok ha
  obtain ⟨ep, hat⟩ := dd.dictAt
  have l1 : (fs.map entI).length = vs.length := Paired.length rel
  rw [List.length_map] at l1 z
  have hh : X.A.handled = none := I.ok.hd hc
  refine Calls.call_function_entry PyProof.Rows.kind_sorted PyProof.Rows.plain_sorted PyProof.Rows.entry_sorted (PyProof.Rows.args_sorted1 _) ?_
  unfold Builtin.«sorted»
  refine wpAny_bind (m := checkCount "sorted" 1 1 _) (wpAny_pure ?_)
  obtain ⟨es, ep', raw, esz, eat⟩ := dd.raw
  refine wpAny_bind (DT.collectI (A := X.A.in1) (es := es) (ep := ep') hh view raw (by omega) fun h' tk as hk hlt0 hl hG => ?_)
  have hz : (as.map Value.ref).length ≤ sizeLine := by rw [List.length_map, hl]; omega
  refine wpAny_bind (wpAny_newList ?_ hz)
  have laf : as.length = fs.length := by omega
  have nd : as.Nodup := hG.rise.imp (fun h => Nat.ne_of_lt h)
  -- the pairs that were made
  have pr : ∀ (j : Nat) (b : Addr), as[j]? = some b → ∃ (e : Int × Int) (t u : Tok), fs[j]? = some e ∧ h'.get? b = some { cls := .type "tuple", data := .seq #[Value.int e.1 t, Value.int e.2 u] } := by
    intro j b hj
    obtain ⟨en, he, f3⟩ := hG.pairs j b hj
    obtain ⟨hjs, rfl⟩ := Array.getElem?_eq_some_iff.mp he
    obtain ⟨⟨k, x⟩, f1⟩ : ∃ p, vs[j]? = some p := ⟨vs[j]'(by omega), by simp⟩
    obtain ⟨f2, fx⟩ := eat j hjs k x f1
    obtain ⟨qv, g1, g2, g3⟩ := DX.pget rel f1
    have g3 : RelV qv.2 x := g3
    rw [← fx] at g3
    rw [List.getElem?_map] at g1
    cases hfj : fs[j]? with
    | none => rw [hfj] at g1; cases g1
    | some e =>
      rw [hfj] at g1
      obtain rfl : entI e = qv := Option.some.inj g1
      have f2' : keyIs (Sum.inl e.1 : Key) es[j].key = true := by
        have : (entI e).1 = k := g2
        rw [← this] at f2
        exact f2
      obtain ⟨t, et⟩ := keyInt (knd := true) f2'
      obtain ⟨u, eu⟩ : ∃ u, es[j].val = Value.int e.2 u := g3
      rw [et, eu] at f3
      exact ⟨e, t, u, rfl, f3⟩
  -- each pair's ints
  let k : Value → Int × Int := fun v => fs.getD (as.idxOf (addrV v)) (0, 0)
  have k_at : ∀ (j : Nat) (b : Addr) (e : Int × Int), as[j]? = some b → fs[j]? = some e → k (.ref b) = e := fun j b e hj he => by
    obtain ⟨hlt, rfl⟩ := List.getElem?_eq_some_iff.mp hj
    show fs.getD (as.idxOf as[j]) (0, 0) = e
    rw [nd.idxOf_getElem, List.getD_eq_getElem?_getD, he]
    rfl
  -- the heap of the sort
  have hoL : (h'.push (seqObj "list" (as.map Value.ref).toArray 0)).get? h'.objs.size = some (seqObj "list" (as.map Value.ref).toArray 0) := Heap.get?_push_size _ rfl
  have ka : ∀ b o, h'.get? b = some o → (h'.push (seqObj "list" (as.map Value.ref).toArray 0)).get? b = some o := fun b o e => Heap.get?_push_of_some _ e
  have ne0 : ∀ b o, h'.get? b = some o → b ≠ h'.objs.size := fun b o e => Nat.ne_of_lt (Heap.lt_size e)
  have hls : h'.objs.size < (h'.push (seqObj "list" (as.map Value.ref).toArray 0)).objs.size := by rw [size_push']; exact Nat.lt_succ_self _
  show wpAny _ _ _ _ _ { s with heap := h'.push (seqObj "list" (as.map Value.ref).toArray 0), toks := tk }
  generalize h'.push (seqObj "list" (as.map Value.ref).toArray 0) = h2 at hoL ka hls ⊢
  have hp2 : ∀ v ∈ as.map Value.ref, Srt.IsPair h2 v (k v).1 (k v).2 := fun v hv => by
    obtain ⟨b, hb, rfl⟩ := List.mem_map.mp hv
    obtain ⟨j, hj⟩ := List.mem_iff_getElem?.mp hb
    obtain ⟨e, t, u, he, hg⟩ := pr j b hj
    rw [k_at j b e hj he]
    exact ⟨b, _, t, u, 0, rfl, ka _ _ hg, rfl, rfl⟩
  refine wpAny_bind (wpAny_holding (wpAny_call_entry PyProof.Rows.slot_list_sort ⟨_, hoL, rfl⟩ PyProof.Rows.entry_list_sort
    (SrtO.list_sort_ord (s := { s with heap := h2, toks := tk }) (SrtO.swo_lex k) hoL hz (fun hlen => SrtO.pairs_sortableO (by omega) hp2 fun o e => ?_) fun out o1 o2 => ⟨_, rfl, ?_⟩) (PyProof.Rows.args_list_sort _)))
  · have e' : some o = some (seqObj "list" (as.map Value.ref).toArray 0) := e.symm.trans hoL
    cases e'
    intro c
    exact absurd (Value.type.inj c) (by decide)
  -- what came out
  have back : ∀ l : List Addr, (l.map Value.ref).map addrV = l := fun l => by rw [List.map_map]; exact List.map_id _
  have tsp : (out.map addrV).Perm as := by
    have := o2.perm.map addrV
    rwa [back] at this
  have outE : out = (out.map addrV).map Value.ref := by
    rw [List.map_map]
    refine ((List.map_id _).symm).trans (List.map_congr_left fun v hv => ?_)
    obtain ⟨b, _, rfl⟩ := List.mem_map.mp (o2.perm.mem_iff.mp hv)
    rfl
  generalize out.map addrV = ts at tsp outE
  subst outE
  have hperm : (ts.map fun b => k (.ref b)).Perm fs := by
    refine (tsp.map fun b => k (.ref b)).trans (.of_eq ?_)
    apply List.ext_getElem?
    intro j
    rw [List.getElem?_map]
    cases hj : as[j]? with
    | none =>
      have : fs.length ≤ j := by rw [← laf]; exact List.getElem?_eq_none_iff.mp hj
      rw [List.getElem?_eq_none_iff.mpr this]
      rfl
    | some b =>
      obtain ⟨e, _, _, he, _⟩ := pr j b hj
      rw [he]
      exact congrArg some (k_at j b e hj he)
  have hsort : (ts.map fun b => k (.ref b)).Pairwise (fun x y => SrtO.lexB y x = false) := by
    rw [List.pairwise_map]
    have := o1
    unfold SrtO.Srtd at this
    rw [List.pairwise_map] at this
    exact this
  have kF : ∀ b o, b ≠ h'.objs.size → h2.get? b = some o → (sortedHeap h2 h'.objs.size (as.map Value.ref) (ts.map Value.ref).toArray).get? b = some o := fun b o hb e => (PyProof.Rows.sortedHeap_old hb (Heap.lt_size e)).trans e
  have kS : ∀ b o, s.heap.get? b = some o → (sortedHeap h2 h'.objs.size (as.map Value.ref) (ts.map Value.ref).toArray).get? b = some o := fun b o e => kF b o (ne0 _ _ (hk b o e)) (ka _ _ (hk b o e))
  obtain ⟨eF, heF⟩ := PyProof.Rows.sortedHeap_at (vs := as.map Value.ref) (out := (ts.map Value.ref).toArray) hoL
  have I1 : Inv X pins σ H { s with heap := sortedHeap h2 h'.objs.size (as.map Value.ref) (ts.map Value.ref).toArray, toks := tk } := I.kept (t' := tk) kS
  have hlt : s.heap.objs.size ≤ h'.objs.size := Nat.le_of_lt hlt0
  have hn0 : H h'.objs.size = none := I.hok.fresh hlt
  have hlen : (ts.map V.ref).length ≤ sizeLine := by rw [List.length_map, tsp.length_eq, ← List.length_map (f := Value.ref)]; exact hz
  have I2 : Inv X pins σ (upd H h'.objs.size (.lst (ts.map V.ref))) { s with heap := sortedHeap h2 h'.objs.size (as.map Value.ref) (ts.map Value.ref).toArray, toks := tk } :=
    I1.take (h' := sortedHeap h2 h'.objs.size (as.map Value.ref) (ts.map Value.ref).toArray) (t' := tk) (fun b ob _ e => e) (I.fpOk hlt hn0) ⟨hlen, ts.map Value.ref, eF, LiI.vals_refs ts, heF⟩
  obtain ⟨H2, I3, g, qt⟩ := DX.takeT (P := fun b vs => vs = [.int (k (.ref b)).1, .int (k (.ref b)).2]) I as _ I2 nd fun b hb => by
    obtain ⟨j, hj⟩ := List.mem_iff_getElem?.mp hb
    obtain ⟨e, t, u, he, hg⟩ := pr j b hj
    have hbl : s.heap.objs.size ≤ b := Nat.le_of_lt (hG.above b hb)
    refine ⟨hbl, ?_, _, rfl, fun H3 => ⟨(by rw [sizeLine_eq]; show 2 ≤ 16777216; omega), [Value.int e.1 t, Value.int e.2 u], ?_, ⟨_, kF _ _ (ne0 _ _ hg) (ka _ _ hg), rfl, 0, rfl⟩⟩⟩
    · rw [upd_ne (ne0 _ _ hg)]
      exact I.hok.fresh hbl
    · rw [k_at j b e hj he]
      exact .cons ⟨_, rfl⟩ (.cons ⟨_, rfl⟩ .nil)
  have gr : ∀ b o, H b = some o → H2 b = some o := fun b o e => g b o (by rw [upd_ne (ne_of_none e hn0)]; exact e)
  refine wpAny_pure ⟨_, rfl, .ref h'.objs.size, H2, I3, rfl, q H2 h'.objs.size ts (ts.map fun b => k (.ref b)) gr hn0 hperm hsort (g _ _ upd_same) ?_⟩
  have := paired_map (F := fun (t : Addr) (y : Int × Int) => H2 t = some (.tup [.int y.1, .int y.2])) (fun b : Addr => b) (fun b => k (.ref b)) (l := ts) fun b hb => by
    obtain ⟨vs, rfl, hv⟩ := qt b (tsp.mem_iff.mp hb)
    exact hv
  rwa [List.map_id'] at this
end
/-- {k: v for x in ..}: over whatever is walked -/
theorem dc_it {J : It} {n : Nat} {G : Hp → Prop} {Y : Nat → Hp → V → Hp → Prop} (w : Walk J n G Y) {g : TG} {tt : TT} {tk tv : TE} {vs : List Nat} {σ : L2.St} {H1 : Hp} {D : Addr} {Qd : Hp → Prop} (Pv : Nat → Hp → Prop) (h0 : Pv 0 (upd H1 D (.dK []))) (hG : ∀ i H, i ≤ n → Pv i H → G H)
    (hs : ∀ i x H H', i < n → Pv i H → Y i H x H' → g x (wipe σ vs) H' fun σ2 H2 => wipe σ2 vs = wipe σ vs ∧ tt σ2 H2 fun b H3 =>
      if b = true then tk σ2 H3 fun y H4 => tv σ2 H4 fun z H5 => ∃ kvs k, y = kV k ∧ H5 D = some (.dK kvs) ∧ kvs.length < sizeLine ∧ Pv (i + 1) (upd H5 D (.dK (putK kvs k z))) else Pv (i + 1) H3) (hd : ∀ H, Pv n H → Qd H) :
    ∃ W : Nat → Nat → Hp → Prop, (∃ m, W 0 m (upd H1 D (.dK []))) ∧ ∀ i m H, W i m H →
      (J.stop i H ∧ Qd H) ∨ (J.go i H ∧ ∃ Nx : Hp → Prop, (∀ H', Nx H' → ∃ m', m' < m ∧ W (i + 1) m' H') ∧ ∀ x H', J.yld i H x H' → g x (wipe σ vs) H' fun σ2 H2 => wipe σ2 vs = wipe σ vs ∧ tt σ2 H2 fun b H3 =>
        if b = true then tk σ2 H3 fun y H4 => tv σ2 H4 fun z H5 => ∃ kvs k, y = kV k ∧ H5 D = some (.dK kvs) ∧ kvs.length < sizeLine ∧ Nx (upd H5 D (.dK (putK kvs k z))) else Nx H3) := by
  refine ⟨fun i m H => m = n - i ∧ i ≤ n ∧ Pv i H, ⟨n, by simp, Nat.zero_le _, h0⟩, ?_⟩
  rintro i m H ⟨rfl, hi, p⟩
  have q := hG i H hi p
  by_cases hlt : i < n
  · exact .inr ⟨w.goes i H hlt q, Pv (i + 1), fun H' p' => ⟨n - (i + 1), by omega, rfl, hlt, p'⟩, fun x H' y => hs i x H H' hlt p (w.yields i H x H' hlt q y)⟩
  · have e : i = n := by omega
    subst e
    exact .inl ⟨w.stops H q, hd H p⟩
section
variable {X : Cx} {a b c d : Expr} {ta tb tc td : TE} {pos : Pos}
/-- a op1 b op2 c op3 d, as a test -/
def tChain3 (r r' r'' : R2) (ta tb tc td : TE) : TT := fun σ H Q => ta σ H fun x H1 => tb σ H1 fun y H2 => r x y H2 fun e H3 => ∃ k, e = .bl k ∧
  (if k = true then tc σ H3 fun z H4 => r' y z H4 fun e' H5 => ∃ k', e' = .bl k' ∧ (if k' = true then td σ H5 fun u H6 => r'' z u H6 fun e'' H7 => ∃ k'', e'' = .bl k'' ∧ Q k'' H7 else Q false H5) else Q false H3)
theorem pt_chain3 {op op' op'' : CmpOp} {r r' r'' : R2} (ho : OpR X (compareOp op) r) (ho' : OpR X (compareOp op') r') (ho'' : OpR X (compareOp op'') r'') (ha : PE X a ta) (hb : PE X b tb) (hc : PE X c tc) (hd : PE X d td)
    (hm : lastMarks [op, op', op''] [b, c, d] = false := by with_unfolding_all rfl) : PT X (.Compare a [op, op', op''] [b, c, d] pos) (tChain3 r r' r'' ta tb tc td) := by
  refine ⟨fun pins s σ H Q I h => ?_⟩
  refine isTrue_chain (thn (ha.run pins s σ H _ I h) fun v s1 ⟨x, H1, I1, r1, q1⟩ => test_link (thn (hb.run pins s1 σ H1 _ I1 q1) fun u s2 ⟨y, H2, I2, r2, q2⟩ =>
    thn (ho pins s2 σ H2 x y v u _ I2 r1 r2 q2) fun d s3 ⟨z, H3, I3, r3, k, e, q3⟩ => ?_)) hm
  subst e
  cases r3
  refine wpAny_truthy_bool ?_
  cases k with
  | false => exact ite_ff ⟨H3, I3, q3⟩
  | true =>
    refine ite_tt (test_link (thn (hc.run pins s3 σ H3 _ I3 q3) fun w' s4 ⟨z', H4, I4, r4, q4⟩ => thn (ho' pins s4 σ H4 y z' u w' _ I4 r2 r4 q4) fun d' s5 ⟨z2, H5, I5, r5, k2, e2, q5⟩ => ?_))
    subst e2
    cases r5
    refine wpAny_truthy_bool ?_
    cases k2 with
    | false => exact ite_ff ⟨H5, I5, q5⟩
    | true =>
      refine ite_tt (test_last (thn (hd.run pins s5 σ H5 _ I5 q5) fun w'' s6 ⟨z'', H6, I6, r6, q6⟩ => thn (ho'' pins s6 σ H6 z' z'' w' w'' _ I6 r4 r6 q6) fun d'' s7 ⟨z3, H7, I7, r7, k3, e3, q7⟩ => ?_))
      subst e3
      cases r7
      exact wpAny_truthy_bool ⟨H7, I7, q7⟩
end
end DictI

/-! # own subscripts, and ranges kept in a name (own work) -/
open PySem PyProof PyProof.Rows L2
namespace Cut
section
variable {X : Cx} {CX : CXT} {n : Nat} {C g : Addr} {sp : Sp} {E : XK}
/-- x[y]: the class of x has __getitem__ -/
def rSub (C : Addr) (sp : Sp) (E : XK) : R2 := fun x y H Q => ∃ a dx fs, x = .ref a ∧ H a = some (.ins C dx fs) ∧ sp [x, y] H Q E
theorem pe_sub {a b : Expr} {ta tb : TE} {pos : Pos} (hs : PySem.W.findIn X.K (.ref C) "__getitem__" = some (some (.ref g))) (hf : PySem.W.fnIn X.K g = true) (hfn : PySem.W.isFn X.K (.ref g) = true)
    (F : FnR X.prog X.w X.K X.mg X.base CX n g sp) (hr : Room (n + 1) X.A) (hx : Passes CX X E) (ha : PE X a ta) (hb : PE X b tb)
    (hsl : ∀ x i, subscripted b true (.ref x) i = runValue (.builtin "lifetime.subscript" ⟨[.ref x, i], []⟩)) : PE X (.Subscript a b pos) (tOp (rSub C sp E) ta tb) := by
  refine ⟨fun pins s σ H Q I h => ?_⟩
  refine Subscript_ (binT ha hb I h fun v u s2 x y H2 I2 rx ry q => ?_)
  obtain ⟨a', dx, fs, rfl, ea, q⟩ := q
  obtain rfl : v = Value.ref a' := rx
  obtain ⟨_, ja⟩ := Own.insAt I2 ea
  obtain ⟨_, fr⟩ := I2.fr
  have go := wpAny_call (SlX.run_at (A := X.A.in1) (us := [.ref a', u]) (ws := [.ref a', y]) F hr.in1 I2.env0.in1 hx I2 (.cons rfl (.cons ry .nil)) q)
  exact PySem.W.sub_K fr I2.ok.mod.kin ja hs hf hfn (wpAny_mono go (fun v st' z => z) fun _ _ z => z) (hsl _ _)
/-- a range that stands in a name, walked -/
def iRngO (te : TE) : TI := fun sl H R => te sl H fun x H1 => ∃ a lo hi, x = .ref a ∧ H1 a = some (.rng lo hi) ∧ (-(2 ^ 62) ≤ lo ∧ lo < 2 ^ 62 ∧ -(2 ^ 62) ≤ hi ∧ hi < 2 ^ 62) ∧ R (Itr lo (hi - lo).toNat) H1
theorem pi_rngO {tg l : Expr} {tl : TE} (hl : PE X l tl) : PI X tg l (iRngO tl) := by
  refine ⟨fun pins s σ H R I h => ?_⟩
  refine thn (hl.run pins s σ H _ I h) fun v s1 ⟨x, H1, I1, r1, q1⟩ => ?_
  obtain ⟨a, lo, hi, rfl, ha, ⟨h1, h2, h3, h4⟩, q⟩ := q1
  obtain rfl : v = Value.ref a := r1
  obtain ⟨t, u, w', ho⟩ := I1.hok a _ ha
  refine wpAny_pyIter_range (a := lo) (b := hi) (c := 1) ho (small_one h1 h2 h3 h4) ?_
  refine ⟨s1.heap.objs.size, [s1.heap.objs.size], _, _, H1, rfl, I1.kept (t' := s1.toks) fun b o e => Heap.get?_push_of_some _ e, turn_range _ lo (hi - lo).toNat, ?_, fun b hb => ?_, q⟩
  · have e1 : lo + ((0 : Nat) : Int) * 1 = lo := by simp
    have e2 : (((hi - lo).toNat : Nat) : Int) - ((0 : Nat) : Int) = Builtin.Range.rangeSize lo hi 1 := by rw [rangeSize_one]; split <;> omega
    show IsRangeIter _ _ (lo + ((0 : Nat) : Int) * 1) ((((hi - lo).toNat : Nat) : Int) - ((0 : Nat) : Int)) 1
    rw [e1, e2]
    exact Heap.get?_push_size _ rfl
  · have e : b = s1.heap.objs.size := by simpa using hb
    subst e
    exact I1.fpOk (Nat.le_refl _) (I1.hok.fresh (Nat.le_refl _))
end
end Cut

/-! # set(xs), xs a list of ints (own work) -/
open PySem PySem.Spec PyProof.Rows L2
namespace SetL
abbrev frO (w : World) : Obj := { cls := .type "set", dict := none, data := .set #[] 0 (.fresh 0 0 (!w.params.followText "set-order")) }
section
variable {P : Program} {w : World} {A : Around} {E : Value → Shared → Prop} {s : Shared}
theorem init_list {l : Addr} {items : Array Value} (ns : List Int) {R : Value → Shared → Prop} (hh : A.handled = none) (hl : s.heap.IsList l items) (hit : IntsAre items.toList ns) (few : ns.length + 1 < scanBound)
    (hR : ∀ (h' : Heap) (tk c : Nat), SetR w h' s.heap.objs.size (fun j => decide (j ∈ ns)) c → c ≤ ns.length → (∀ b o, s.heap.get? b = some o → h'.get? b = some o) → R .none { s with heap := h', toks := tk }) :
    codeAny (model P w) A (.call (.builtin "set.__init__") ⟨[.ref s.heap.objs.size, .ref l], []⟩) (wants R E) { s with heap := s.heap.push (frO w) } := by
  have eS : (s.heap.push (frO w)).get? s.heap.objs.size = some (frO w) := Heap.get?_push_size _ rfl
  have tS : Shared.TypeIs { s with heap := s.heap.push (frO w) } (.ref s.heap.objs.size) "set" := ⟨_, eS, rfl⟩
  have el : items.size = ns.length := by have z := IntsAre.length hit; rwa [Array.length_toList] at z
  refine codeAny_call_builtin F.called_set.init.plain F.entry_set_init (check_set_init_1 tS ?_)
  obtain ⟨⟨k1, k2, k3, k4⟩, gl, ck, kn, dk⟩ := hl
  dsimp only at ck dk
  subst ck
  subst dk
  have gl2 : (s.heap.push (frO w)).get? l = some ⟨.type "list", k2, .seq items kn, k4⟩ := Heap.get?_push_of_some _ gl
  have ll : (s.heap.push (frO w)).IsList l items := ⟨_, gl2, rfl, kn, rfl⟩
  have lt : l < s.heap.objs.size := Heap.lt_size gl
  have sz : (s.heap.push (frO w)).objs.size = s.heap.objs.size + 1 := Heap.size_push ..
  have q1 := F.sub_list_set
  have q2 := F.sub_list_frozenset
  have q3 : (Value.type "list" == Value.type "dict") = false := by decide
  unfold Builtin.«set.__init__» noKeywords Builtin.Frozenset.updateFrom
  generalize hp : pyIter = it
  wp_walk
  subst hp
  refine wpAny_pyIter_list ll (wpAny_bind (wpAny_runValue ?_))
  have nfp : s.heap.objs.size ∉ [(s.heap.push (frO w)).objs.size, l] := fun hm => by
    rcases List.mem_cons.mp hm with e | e
    · rw [sz] at e
      exact Nat.ne_of_lt (Nat.lt_succ_self _) e
    · exact Nat.ne_of_gt lt (List.mem_singleton.mp e)
  have nI : l ≠ (s.heap.push (frO w)).objs.size := by
    rw [sz]
    exact Nat.ne_of_lt (Nat.lt_succ_of_lt lt)
  refine set_update_ints (Walks.list (by simp [hh]) _ l nI items).toS s.heap.objs.size nfp ns el few (fun i v hv => ?val) _ 0 _ rfl (Nat.zero_le _) ⟨⟨_, Heap.get?_push_size _ rfl, rfl, rfl⟩, ll.push _⟩ ⟨0, Nat.le_refl 0, setR_new_at (Heap.get?_push_of_some _ eS)⟩ fun s' c mv hc hS => ?fin
  case val =>
    have hi : i < items.size := (Array.getElem?_eq_some_iff.mp hv).1
    obtain ⟨t, e⟩ := IntsAre.int_at hit i v (by rw [Array.getElem?_toList]; exact hv)
    exact ⟨ns.getD i 0, t, by simp [List.getD, show i < ns.length by omega], e⟩
  case fin =>
    have e1 : s' = { s with heap := s'.heap, toks := s'.toks } := by
      have a1 := mv.gens
      have a2 := mv.drawn
      have a3 := mv.os
      cases s'
      cases s
      simp only at a1 a2 a3
      subst a1 a2 a3
      rfl
    show wpAny _ _ (pure ()) _ _ s'
    refine wpAny_pure ?_
    show wpAny _ _ (ret Value.none) _ _ s'
    rw [e1]
    refine wpAny_pure (hR s'.heap s'.toks c hS (by omega) fun b o e => ?_)
    have hb : b < s.heap.objs.size := Heap.lt_size e
    refine mv.heap b o ?_ (Heap.get?_push_of_some _ (Heap.get?_push_of_some _ e))
    intro hm
    rcases List.mem_cons.mp hm with q | q
    · exact Nat.ne_of_lt hb q
    · have q := List.mem_singleton.mp q
      rw [sz] at q
      exact Nat.ne_of_lt (Nat.lt_succ_of_lt hb) q
theorem call_setL {l : Addr} {items : Array Value} (ns : List Int) {Q : Value → Shared → Prop} (hh : A.handled = none) (hl : s.heap.IsList l items) (hit : IntsAre items.toList ns) (few : ns.length + 1 < scanBound)
    (hQ : ∀ (h' : Heap) (tk c : Nat), SetR w h' s.heap.objs.size (fun j => decide (j ∈ ns)) c → c ≤ ns.length → (∀ b o, s.heap.get? b = some o → h'.get? b = some o) → Q (.ref s.heap.objs.size) { s with heap := h', toks := tk }) :
    wpAny (model P w) A (call (.type "set") [.ref l]) Q E s := by
  obtain ⟨c, tl, m1⟩ := F.called_set.mro
  have m2 := F.called_set.made
  have m3 := F.called_set.sub
  have m4 := F.called_set.notType
  have m5 := F.called_set.canCreate
  have m6 := F.typeCall_set_1 (.ref l)
  refine wpAny_call (codeAny_of_tree (show wpAny _ _ (callAny (.type "set") _) _ _ _ from wpAny_pure ⟨Code.quiet_builtin _ (by decide +kernel), codeAny_builtin F.entry_type_call ?_⟩))
  rw [Around.under_plain (weight_type_call_type "set" [.ref l] []) rfl]
  repeat any_goals first | assumption | wp_step
  refine codeAny_mono (code_set_led1 (.ref l) (E := E) (Q₁ := fun v u => v = .ref s.heap.objs.size ∧ u = { s with heap := s.heap.push (frO w) }) ⟨rfl, rfl⟩) fun r u hr => ?_
  match r, hr with
  | .error e, hr => exact hr
  | .ok (.ret v), hr =>
    obtain ⟨rfl, rfl⟩ := hr
    have tS : Shared.TypeIs { s with heap := s.heap.push (frO w) } (.ref s.heap.objs.size) "set" := ⟨_, Heap.get?_push_size _ rfl, rfl⟩
    have m7 := F.called_set.init.lookup
    have m8 := F.called_set.init.bind (.ref s.heap.objs.size)
    repeat any_goals first | assumption | wp_step
    refine codeAny_mono (init_list (E := E) (R := fun v u => v = .none ∧ Q (.ref s.heap.objs.size) u) ns ?_ hl hit few fun h' tk c a b d => ⟨rfl, hQ h' tk c a b d⟩) fun r2 u2 hr2 => ?_
    · simp [hh]
    match r2, hr2 with
    | .error e, hr2 => exact hr2
    | .ok (.ret v2), hr2 =>
      obtain ⟨rfl, q⟩ := hr2
      repeat any_goals first | assumption | wp_step
end
section
variable {X : Cx}
/-- set(xs), xs a list of ints -/
def rSetL (K : PySem.W.Frag) (w : World) : List V → Hp → VK → Prop := fun xs H Q => ∃ (l : Addr) (ns : List Int), xs = [V.ref l] ∧ SqL K H l (ns.map V.int) ∧ ns.length ≤ 1000 ∧ ∀ a c, H a = none → c ≤ ns.length → Q (.ref a) (upd H a (SetO w a (fun j => decide (j ∈ ns)) c))
theorem cr_setL (hc : X.calm = true) : CallR X (.type "set") (rSetL X.K X.w) := by
  intro pins s sl H xs us Q inv r h
  obtain ⟨l, ns, rfl, hl, few, q⟩ := h
  rw [Vals.ref1 r]
  obtain ⟨its, rv, pl, _⟩ := inv.list hl
  have fresh : H s.heap.objs.size = none := inv.hok.fresh (Nat.le_refl _)
  refine call_setL ns (inv.ok.hd hc) pl.isList (ints_of_vals rv) (by unfold scanBound; omega) fun h' tk c R lc k => ?_
  exact ⟨.ref s.heap.objs.size, upd H s.heap.objs.size (SetO X.w s.heap.objs.size (fun j => decide (j ∈ ns)) c), inv.laid (t' := tk) k (Nat.le_refl _) (setO_new R), rfl, q _ c fresh lc⟩
end
end SetL

/-! ~x of instances whose class has its own __invert__. -/
namespace Own
open PySem PySem.Spec PyProof.Rows L2
section
variable {X : Cx} {CX : CXT} {n : Nat} {C g : Addr} {sp : Sp} {E : XK}
def rInvO (C : Addr) (sp : Sp) (E : XK) : V → Hp → VK → Prop := fun x H Q => ∃ a dx fs, x = .ref a ∧ H a = some (.ins C dx fs) ∧ sp [x] H Q E
theorem un_invO (hs : PySem.W.findIn X.K (.ref C) "__invert__" = some (some (.ref g))) (hf : PySem.W.isFn X.K (.ref g) = true) (F : FnR X.prog X.w X.K X.mg X.base CX n g sp) (hr : Room n X.A) (hx : Passes CX X E) : UnR X (unaryOp .Invert) (rInvO C sp E) := by
  intro pins st sl H x v Q inv rx h
  obtain ⟨a, dx, fs, rfl, ea, h⟩ := h
  obtain rfl : v = Value.ref a := rx
  obtain ⟨_, ja⟩ := insAt inv ea
  have go := wpAny_call (run_fnR (us := [.ref a]) (vs := [.ref a]) F hr hx inv (.cons rfl .nil) h)
  unfold unaryOp
  refine wpAny_holding ?_
  show wpAny _ _ (callSpecial? (.ref a) "__invert__" >>= fun r => match r with | some r => pure r | none => _) _ _ _
  refine wpAny_bind (PySem.W.special_fn inv.kIn ja hs (beq_iff_eq.mp hf) (wpAny_mono go (fun v st' z => ?_) fun _ _ z => z))
  exact wpAny_pure z
end
end Own

/-! t[::-1], t a tuple. -/
namespace TRev
open PySem PySem.Spec PyProof PyProof.Rows L2 HT
open PySem.SeqAt
open PySem.AutoSeq1 (wpAny_loadPart')
open PySem.MeetsSeq PySem.MeetsSeq2 PySem.MeetsSeq3
theorem fm_congr {α β : Type} {f g : α → Option β} : ∀ {l : List α}, (∀ x ∈ l, f x = g x) → l.filterMap f = l.filterMap g
  | [], _ => rfl
  | x :: l, h => by
    rw [List.filterMap_cons, List.filterMap_cons, h x List.mem_cons_self, fm_congr fun y hy => h y (List.mem_cons_of_mem _ hy)]
section
variable {prog : Program} {w : World} {A : Around} {E : Value → Shared → Prop} {s : Shared}
theorem applied_rev {sl : Addr} {vl vu vs : Value} {n : Nat} {Q : Int × Int × Nat → Shared → Prop} (hs : s.heap.IsSliceOf sl vl vu vs) (pl : IsPart vl none) (pu : IsPart vu none) (ps : IsPart vs (some (-1)))
    (h : Q ((n : Int) - 1, -1, n) s) : wpAny (model prog w) A (Builtin.Slice.sliceApplied (.ref sl) (pure (n : Int))) Q E s := by
  obtain ⟨os, hos, hcs, hds⟩ := id hs
  unfold Builtin.Slice.sliceApplied Builtin.Slice.sliceFields
  refine wpAny_bind (wpAny_bind (wpAny_field hos hds (x := vl) rfl (wpAny_bind (wpAny_field hos hds (x := vu) rfl (wpAny_bind (wpAny_field hos hds (x := vs) rfl (wpAny_pure ?_)))))))
  refine wpAny_bind (slicePart_ ps ?_)
  show wpAny _ _ (if ((-1 : Int) == 0) = true then _ else _) _ _ s
  rw [if_neg (by decide)]
  refine wpAny_bind (slicePart_ pl (wpAny_bind (slicePart_ pu (wpAny_bind (wpAny_pure ?_)))))
  show wpAny _ _ (pure ((n : Int) - 1, (-1 : Int), Builtin.Slice.slicePlaces ((n : Int) - 1) (-1) (-1))) _ _ s
  have e : Builtin.Slice.slicePlaces ((n : Int) - 1) (-1) (-1) = n := by
    unfold Builtin.Slice.slicePlaces
    rw [if_neg (by decide)]
    split
    · have : (-(-1) : Int) = 1 := by decide
      rw [this, Int.ediv_one]
      omega
    · omega
  rw [e]
  exact wpAny_pure h
theorem pick_rev (xs : Array Value) : ((List.range xs.size).filterMap fun (m : Nat) => xs[((xs.size : Int) - 1 + (m : Int) * (-1)).toNat]?).toArray = xs.toList.reverse.toArray := by
  congr 1
  have e : (List.range xs.size).filterMap (fun (m : Nat) => xs[((xs.size : Int) - 1 + (m : Int) * (-1)).toNat]?) = (List.range xs.size).filterMap (fun (m : Nat) => xs.toList.reverse[m]?) := by
    refine fm_congr fun m hm => ?_
    have hm := List.mem_range.mp hm
    rw [List.getElem?_reverse (by rw [Array.length_toList]; exact hm), Array.getElem?_toList, Array.length_toList]
    congr 1
    omega
  rw [e]
  have l : xs.size = xs.toList.reverse.length := by simp
  rw [l]
  generalize xs.toList.reverse = ys
  refine List.ext_getElem? fun k => ?_
  have : (List.range ys.length).filterMap (fun m => ys[m]?) = ys := by
    induction ys with
    | nil => rfl
    | cons y ys ih =>
      rw [List.length_cons, List.range_succ_eq_map, List.filterMap_cons]
      simp only [List.getElem?_cons_zero]
      rw [List.filterMap_map]
      congr 1
  rw [this]
theorem getItem_rev {t sl : Addr} {items : Array Value} {vl vu vs : Value} {Q : Value → Shared → Prop} (ht : IsTup s.heap t items) (hs : s.heap.IsSliceOf sl vl vu vs) (pl : IsPart vl none) (pu : IsPart vu none) (ps : IsPart vs (some (-1)))
    (h : Q (.ref s.heap.objs.size) { s with heap := s.heap.push { cls := .type "tuple", data := .seq items.toList.reverse.toArray } })
    (hsz : items.size ≤ sizeLine) : wpAny (model prog w) A (getItem (.ref t) (.ref sl)) Q E s := by
  have htake : sizeOk (.seq items.toList.reverse.toArray) := by
    show items.toList.reverse.toArray.size ≤ sizeLine
    rw [List.size_toArray, List.length_reverse, Array.length_toList]
    omega
  obtain ⟨os, hos, hcs, hds⟩ := id hs
  have hTs : s.TypeIs (.ref sl) "slice" := ⟨os, hos, hcs⟩
  unfold getItem
  try with_reducible refine wpAny_holding ?_
  first | refine wpAny_bind (wpAny_pure ?_) | skip
  refine wpAny_bind (wpAny_sequenceKey ht.typeIs (by decide) ?_)
  refine wpAny_bind (wpAny_callSpecial?_slot (name := Str.ofString "__getitem__") ht.typeIs PyProof.Rows.slot_tuple_getitem
    (wpAny_call_entry PyProof.Rows.slot_tuple_getitem ht.typeIs entry_tuple_getitem ?_ (args_tuple_getitem _ _)))
  show wpAny _ _ (Builtin.Tuple.tupleItemsOf (.ref t) >>= _) _ _ s
  refine wpAny_bind (tupleItemsOf_ ht ?_)
  refine wpAny_bind (wpAny_typeOf hTs ?_)
  rw [if_pos (by decide)]
  refine wpAny_bind (applied_rev hs pl pu ps ?_)
  show wpAny _ _ (if (((items.size : Int) - 1) == 0 && (-1 : Int) == 1 && items.size == items.size) = true then _ else _) _ _ s
  rw [if_neg (by rw [show ((-1 : Int) == 1) = false from rfl, Bool.and_false, Bool.false_and]; exact Bool.false_ne_true), pick_rev]
  first
    | exact wpAny_bind (m := Builtin.Tuple.tupleExact _) (wpAny_newObj_type (wpAny_pure ⟨_, rfl, wpAny_pure h⟩) htake)
    | exact wpAny_bind (m := Builtin.Tuple.tupleExact _) (wpAny_newObj_type (wpAny_bind (wpAny_pure (wpAny_pure ⟨_, rfl, wpAny_pure h⟩))) htake)
    | exact wpAny_bind (wpAny_bind (m := Builtin.Tuple.tupleExact _) (wpAny_newObj_type (wpAny_pure (wpAny_pure ⟨_, rfl, wpAny_pure h⟩)) htake))
    | exact wpAny_bind (wpAny_bind (m := Builtin.Tuple.tupleExact _) (wpAny_newObj_type (wpAny_pure ⟨_, rfl, wpAny_pure h⟩) htake))
end
section
variable {X : Cx}
def tRevT (K : PySem.W.Frag) (te : TE) : TE := fun σ H Q => te σ H fun x H1 => ∃ a xs, x = .ref a ∧ SqT K H1 a xs ∧ ∀ p, H1 p = none → Q (.ref p) (upd H1 p (.tup xs.reverse))
theorem pe_revT {e : Expr} {te : TE} {k : Nat} {p1 p2 p3 pos : Pos} (he : PE X e te) : PE X (.Subscript e (.Slice none none (some (.UnaryOp .USub (.Constant (.int 1) k p1) p2)) p3) pos) (tRevT X.K te) := by
  refine ⟨fun pins s σ H Q I h => ?_⟩
  refine Subscript_ (thn (he.run pins s σ H _ I h) fun v s1 ⟨x, H1, I1, r1, q1⟩ => ?_)
  obtain ⟨a, xs, ex, hx, q⟩ := q1
  subst ex
  cases r1
  have hst : PO X (some (.UnaryOp .USub (.Constant (.int 1) k p1) p2)) (tPart (tUn (rU fun i => .int (-i)) (tC (.int 1)))) := po_some (pe_un un_neg pe_int)
  refine wpAny_Slice (thn (po_none.run pins s1 σ H1 (fun o H2 => o = none ∧ H2 = H1) I1 ⟨rfl, rfl⟩) fun vl s2 ⟨l, H2, I2, pl, el, e2⟩ => ?_)
  subst el e2
  refine thn (po_none.run pins s2 σ H2 (fun o H3 => o = none ∧ H3 = H2) I2 ⟨rfl, rfl⟩) fun vu s3 ⟨u, H3, I3, pu, eu, e3⟩ => ?_
  subst eu e3
  refine thn (hst.run pins s3 σ H3 (fun o H4 => o = some (-1) ∧ H4 = H3) I3 ⟨1, rfl, -1, rfl, rfl, rfl⟩) fun vs s4 ⟨o, H4, I4, ps, eo, e4⟩ => ?_
  subst eo e4
  have I5 : Inv X pins σ H4 { s4 with heap := s4.heap.push { cls := .type "slice", data := .fields #[vl, vu, vs] } } := I4.kept (t' := s4.toks) fun b ob q => Heap.get?_push_of_some _ q
  obtain ⟨its, r, ht, hz⟩ := I5.tuple hx
  show wpAny (model X.prog X.w) X.A (subscriptTail e (.Slice none none (some (.UnaryOp .USub (.Constant (.int 1) k p1) p2)) p3) (.ref a) (.ref s4.heap.objs.size)) (EP X pins σ Q) X.xe _
  refine tail_any (ops := [.ref a, .ref s4.heap.objs.size]) ht.typeIs PyProof.Rows.slot_tuple_getitem.lookup ?_ (by with_unfolding_all rfl)
  have hlen : its.toArray.size = xs.length := by rw [List.size_toArray]; exact r.length.symm
  refine getItem_rev ht (Heap.IsSliceOf.new _ vl vu vs) pl pu ps ?_ (by rw [hlen]; exact hz)
  refine ⟨.ref _, _, I5.laid (t' := s4.toks) (o := .tup xs.reverse) (fun b ob q => Heap.get?_push_of_some _ q) (Nat.le_refl _) ?_, rfl, q _ (I5.hok.fresh (Nat.le_refl _))⟩
  exact ⟨by rw [List.length_reverse]; exact hz, _, r.reverse, IsTup.new _ _⟩
end
end TRev

/-! x op y: the class of x has the sign's def and no reflected one, y is an int. -/
namespace Own
open PySem PySem.Spec PyProof.Rows L2
section
variable {prog : Program} {w : World} {A : Around} {E : Value → Shared → Prop} {s : Shared} {K : PySem.W.Frag} {x C L f : Addr} {h₀ : Heap} {m : Str → Option Value} {ox : Obj} {od : Option Obj}
theorem binop_I {op : Operator} {i : Int} {t : Tok} {fo ro : Value} {Q : Value → Shared → Prop} (X : K.In s.heap) (I : PySem.W.InstAt s.heap x ox C od) (hc : PySem.W.selfFirst K C = true)
    (hs : PySem.W.findIn K (.ref C) (PySem.dunder op.info.2) = some (some (.ref f))) (hf : PySem.W.isFn K (.ref f) = true) (hr : PySem.W.findIn K (.ref C) (PySem.dunderR op.info.2) = some none) (ho : PySem.W.subIn K (.type "int") (.ref C) = some false)
    (h1 : PySem.W.findIn K (.type "int") (PySem.dunder op.info.2) = some (some fo)) (h2 : PySem.W.findIn K (.type "int") (PySem.dunderR op.info.2) = some (some ro)) (n1 : isSeqSlot (some fo) = false)
    (h : wpAny (model prog w) A (call (.ref f) [.ref x, .int i t]) (PySem.W.CmpBack Q) E s) : wpAny (model prog w) A (binaryOp op (.ref x) (.int i t)) Q E s := by
  obtain ⟨cd, hcd, hm⟩ := PySem.W.any_some hc
  obtain ⟨rest, hm⟩ : ∃ rest, cd.mro = .ref C :: rest := by
    cases q : cd.mro with
    | nil => rw [q] at hm; cases hm
    | cons a r => rw [q] at hm; exact ⟨r, by rw [List.head?_cons] at hm; cases (beq_iff_eq.mp hm); rfl⟩
  unfold binaryOp
  refine wpAny_holding (wpAny_bind ?_)
  unfold binaryOp1
  refine wpAny_bind (I.type.here (wpAny_bind ?_))
  show wpAny _ _ (pure (Value.type "int") : Sem Value) _ _ _
  refine wpAny_pure (wpAny_bind ((PySem.W.fills_K X hcd hm hs).here ?_))
  have ne : ((Value.ref C) == (Value.type "int")) = false := rfl
  rw [ne]
  simp only [Bool.false_eq_true, if_false, if_true]
  refine wpAny_bind ?_
  have right : PySem.W.Looks (model prog w) s.heap (fillsNumberSlot (.type "int") op.info.2) true := by
    intro A Q E s k q
    unfold fillsNumberSlot
    refine wpAny_bind (PySem.W.looks_findIn X h1 A _ E s k ?_)
    refine wpAny_bind (PySem.W.looks_findIn X h2 A _ E s k ?_)
    refine wpAny_pure ?_
    rw [n1]
    exact q
  refine right.here ?_
  simp only [Bool.and_self, if_true]
  refine wpAny_bind ((PySem.W.looks_subIn X ho).here ?_)
  simp only [Bool.false_eq_true, if_false]
  have mine : PySem.W.Looks (model prog w) s.heap (numberSlotInPython (.ref C) op.info.2) true := by
    intro A Q E s k q
    unfold numberSlotInPython
    refine wpAny_bind (PySem.W.looks_findIn X hs A _ E s k ?_)
    refine wpAny_bind (m := calledByName _ _ _) ?_
    unfold calledByName
    refine wpAny_pure ?_
    refine wpAny_bind (PySem.W.looks_findIn X hr A _ E s k ?_)
    refine wpAny_bind (wpAny_pure ?_)
    exact wpAny_pure q
  refine wpAny_bind (mine.here ?_)
  simp only [if_true]
  refine wpAny_bind (m := numberSlotInPython (.type "int") _) ?_
  unfold numberSlotInPython
  refine wpAny_pure ?_
  simp only [Bool.not_false, if_true]
  refine wpAny_bind ((PySem.W.looks_findIn X h2).here ?_)
  refine wpAny_bind (m := tryMethod (.ref x) _ (.int i t)) ?_
  unfold tryMethod
  refine wpAny_bind (PySem.W.special_fn X I hs (beq_iff_eq.mp hf) (wpAny_mono h (fun v s' hv => ?_) fun _ _ e => e))
  cases v <;> first | exact hv.elim | exact wpAny_pure (wpAny_pure (wpAny_pure hv))
end
section
variable {X : Cx} {CX : CXT} {n : Nat} {C g : Addr} {sp : Sp} {E : XK}
def rBinI (C : Addr) (sp : Sp) (E : XK) : R2 := fun x y H Q => ∃ a dx fs i, x = .ref a ∧ y = .int i ∧ H a = some (.ins C dx fs) ∧ sp [x, y] H Q E
theorem op_binI {op : Operator} {fo ro : Value} (hc : PySem.W.selfFirst X.K C = true) (hs : PySem.W.findIn X.K (.ref C) (PySem.dunder op.info.2) = some (some (.ref g))) (hf : PySem.W.isFn X.K (.ref g) = true) (hr' : PySem.W.findIn X.K (.ref C) (PySem.dunderR op.info.2) = some none)
    (ho : PySem.W.subIn X.K (.type "int") (.ref C) = some false) (h1 : PySem.W.findIn X.K (.type "int") (PySem.dunder op.info.2) = some (some fo)) (h2 : PySem.W.findIn X.K (.type "int") (PySem.dunderR op.info.2) = some (some ro)) (n1 : isSeqSlot (some fo) = false)
    (F : FnR X.prog X.w X.K X.mg X.base CX n g sp) (hr : Room n X.A) (hx : Passes CX X E) : OpR X (binaryOp op) (rBinI C sp E) := by
  intro pins st sl H x y v u Q inv rx ry h
  obtain ⟨a, dx, fs, i, rfl, rfl, ea, h⟩ := h
  obtain rfl : v = Value.ref a := rx
  obtain ⟨t, rfl⟩ := ry
  obtain ⟨_, ja⟩ := insAt inv ea
  exact binop_I inv.kIn ja hc hs hf hr' ho h1 h2 n1 (run2 (y := .int i) F hr hx inv ⟨t, rfl⟩ h)
end
end Own

/-! list(d.values()). -/
namespace LiV
open PySem PySem.Spec PyProof.Rows L2
def tListVals (te : TE) : TE := fun σ H Q => te σ H fun x H1 => ∃ (d : Addr) (kvs : List (Key × V)), x = .ref d ∧ H1 d = some (.dK kvs) ∧ ∀ p, H1 p = none → Q (.ref p) (upd H1 p (.lst (kvs.map (·.2))))
theorem vals_get {kvs : List (Key × V)} {vs : List (Key × Value)} {acc : List Value} (kv : KV kvs vs) (hl : acc.length = vs.length) (h : ∀ (j : Nat) (v : Value), acc[j]? = some v → ∃ k, vs[j]? = some (k, v)) : Vals (kvs.map (·.2)) acc := by
  induction kv generalizing acc with
  | nil => cases acc with
    | nil => exact .nil
    | cons _ _ => cases hl
  | @cons a b l1 l2 r t ih =>
    cases acc with
    | nil => cases hl
    | cons x acc =>
      obtain ⟨k, e⟩ := h 0 x rfl
      have e : b = (k, x) := by simpa using e
      subst e
      refine .cons r.2 (ih (by simpa using hl) fun j v q => ?_)
      obtain ⟨k', e'⟩ := h (j + 1) v (by simpa using q)
      exact ⟨k', by simpa using e'⟩
section
variable {X : Cx} {e : Expr} {te : TE} {p apos cpos pos : Pos}
theorem pe_listVals (hc : X.calm = true) (he : PE X e te) (hg : Gl X "list") (hm : X.mg "list" = none) (hv : bootBuiltins "list" = some (.type "list")) (hbase : attributeBase e "values" X.env (eval e X.env) = eval e X.env := by rfl) (hline : (apos.endLine == cpos.line) = true := by rfl)
    (hs : starEach [.Call (.Attribute e "values" apos) [] [] cpos] X.env = (false, eval (.Call (.Attribute e "values" apos) [] [] cpos) X.env) :: starEach [] X.env := by rfl) :
    PE X (.Call (.Name "list" p) [.Call (.Attribute e "values" apos) [] [] cpos] [] pos) (tListVals te) := by
  refine ⟨fun pins s σ H Q I hq => ?_⟩
  refine wpAny_Call_Name_kw (ld_blt I hg hm hv ?_)
  refine PyProof.Rows.callWith_type1 ?_ hs rfl
  rw [hs]
  show wpAny _ _ (spliced ((false, eval (.Call (.Attribute e "values" apos) [] [] cpos) X.env) :: backTo pos (starEach [] X.env))) _ _ s
  refine Calls.spliced_cons ?_
  refine wpAny_Call_method (T := "dict") (id := "dict.values") hbase rfl hline F.plainAttrs_dict F.slot_dict_values F.type_dict_values (thn (he.run pins s σ H _ I hq) fun u s1 ⟨x, H1, I1, rx, d, kvs, ex, hd, q⟩ => ?_)
  subst ex
  obtain rfl : u = Value.ref d := rx
  obtain ⟨hz, hs0, vs, kv, hdo⟩ := I1.hok d _ hd
  obtain ⟨ep, hat⟩ := hdo.dictAt
  have lk : kvs.length = vs.length := Paired.length kv
  have I2 : Inv X pins σ H1 { s1 with heap := s1.heap.push { cls := .type "dict_values", data := .fields #[.ref d] } } := I1.kept (t' := s1.toks) fun b ob q => Heap.get?_push_of_some _ q
  refine ⟨hdo.typeIs, hdo.mapOf.noDict, ?_⟩
  show wpAny _ _ (callWith cpos (.builtin "dict.values") [.ref d] [] []) _ X.xe s1
  refine method_meetsIn F.slot_dict_values F.entry_dict_values rfl (PySem.evalArgs_none ⟨rfl, hdo.typeIs, F.args_dict_values_1 _, _, meets_dict_values (mixKind X.prog X.w) d hs0, ⟨vs, hdo⟩, ?_⟩)
  refine Calls.spliced_nil ?_
  refine PySem.W.kdl_call (PySem.W.kdl_values (knd := mixKind X.prog X.w) (d := d) (kvs := vs) (ep := ep)) (I1.ok.hd hc) ⟨⟨_, Heap.get?_push_size _ rfl, rfl, rfl⟩, hat.push _⟩ (by omega) fun h' tk acc c' hk hD hacc => ?_
  have hvv : Vals (kvs.map (·.2)) acc.toList := vals_get kv (by rw [Array.length_toList]; exact hacc.1) fun j v e => hacc.2 j v (by rw [← Array.getElem?_toList]; exact e)
  exact ⟨.ref _, upd H1 _ (.lst (kvs.map (·.2))), I2.laid (t' := tk) hk (Nat.le_refl _) (show ObjOk X.prog X.w _ _ _ (.lst (kvs.map (·.2))) from ⟨by rw [List.length_map]; exact hz, acc.toList, c', hvv, by rw [Array.toArray_toList]; exact hD⟩), rfl, q _ (I2.hok.fresh (Nat.le_refl _))⟩
end
end LiV

/-! (v,) * k, k from 0 on. -/
namespace TOne
open PySem PySem.Spec PyProof.Rows L2
open PySem.AutoSeq1 (wpAny_loadPart')
theorem mul_one (l : Addr) (items : Array Value) (n : Nat) (dd : Option Addr) (sl : Array (Option Value)) (u : Tok) :
    Meets (Builtin.«tuple.__mul__» ⟨[.ref l, .int 1 u], []⟩) (fun _ R s => s.heap.get? l = some { cls := .type "tuple", dict := dd, data := .seq items n, slots := sl } ∧ R (.ok (.ret (.ref l))) s) :=
  .of_wp fun prog w A R s h => by
    obtain ⟨hp, g, d, tk, os⟩ := s
    obtain ⟨hl, h⟩ := h
    have f1 := AutoSeq1.idx_int
    have c1 : (items.isEmpty || (1 : Int) == 1) = true := by simp
    wp_walk using wpAny_loadPart' hl
    exact ⟨_, rfl, h⟩
theorem mul_zero (l : Addr) (items : Array Value) (n : Nat) (dd : Option Addr) (sl : Array (Option Value)) (u : Tok) (hi : items.isEmpty = false) :
    Meets (Builtin.«tuple.__mul__» ⟨[.ref l, .int 0 u], []⟩) (fun _ R s => s.heap.get? l = some { cls := .type "tuple", dict := dd, data := .seq items n, slots := sl } ∧
      R (.ok (.ret (Value.ref s.heap.objs.size))) { s with heap := s.heap.push { cls := Value.type "tuple", data := Data.seq #[] }, toks := s.toks }) :=
  .of_wp fun prog w A R s h => by
    obtain ⟨hp, g, d, tk, os⟩ := s
    obtain ⟨hl, h⟩ := h
    have f1 := AutoSeq1.idx_int
    have c1 : (items.isEmpty || (0 : Int) == 1) = false := by rw [hi]; rfl
    have c2 : (decide ((0 : Int) ≤ 0) || items.isEmpty) = true := by simp
    wp_walk using wpAny_loadPart' hl
    repeat (first
      | (refine wpAny_ite_false (decide_eq_false (by rw [c1]; exact Bool.false_ne_true)) ?_; wp_walk using wpAny_loadPart' hl)
      | (refine wpAny_ite_true (decide_eq_true c2) ?_; wp_walk using wpAny_loadPart' hl))
    exact ⟨_, rfl, h⟩
def rRep1 (K : PySem.W.Frag) : R2 := fun x y H Q => ∃ (l : Addr) (k : Nat) (v : V), x = .ref l ∧ y = .int (k : Nat) ∧ SqT K H l [v] ∧ k ≤ 1000 ∧ ∀ p H', Same H H' → SqT K H' p (List.replicate k v) → Q (.ref p) H'
section
variable {X : Cx}
theorem op_rep1 : OpR X (binaryOp .Mult) (rRep1 X.K) := by
  intro pins s σ H x y v u Q I rx ry h
  obtain ⟨l, k, v0, rfl, rfl, hT, hz, q⟩ := h
  by_cases h2 : 2 ≤ k
  · refine op_repT pins s σ H _ _ v u Q I rx ry ⟨l, (k : Nat), [v0], rfl, rfl, hT, (fun z => nomatch z), by omega, by omega, by simp, fun p hp => q p _ (fun b o e => by rw [upd_ne (fun z => by rw [z, hp] at e; cases e)]; exact e) (SqT.of ?_)⟩
    rw [upd_same, Int.toNat_natCast]
    congr 2
    clear h2 q hz ry
    induction k with
    | zero => rfl
    | succ k ih => rw [List.replicate_succ, List.flatten_cons, ih, List.replicate_succ]; rfl
  · cases rx
    obtain ⟨t, rfl⟩ := ry
    obtain ⟨its, r, ⟨⟨cls, dd, data, sl⟩, ho, hc, n, hd⟩, hs⟩ := I.tuple hT
    simp only at hc hd
    subst hc hd
    have hle : its.length = 1 := r.length.symm
    have hi : its.toArray.isEmpty = false := by
      cases its with
      | nil => cases hle
      | cons a b => rfl
    match k, h2, q with
    | 1, _, q =>
      refine wpAny_binaryOp_repeat_ref (T := "tuple") (U := "int") (by decide) ⟨_, ho, rfl⟩ (fun s' => typeIs_int s' 1 t) noFill_tuple_mul F.fills_int_mul F.slot_int_rmul repeat_tuple F.slot_int_index.lookup
        (call_meets F.slot_int_rmul (typeIs_int s 1 t) F.entry_int_rmul (F.args_int_rmul_2 _ _) (int_rmul_tuple 1 t l its.toArray n dd sl)
          ⟨ho, rfl, ⟨_, ho, rfl⟩, call_meets F.slot_tuple_mul ⟨_, ho, rfl⟩ F.entry_tuple_mul (F.args_tuple_mul_2 _ _) (mul_one l its.toArray n dd sl t) ⟨ho, ?_⟩⟩)
      exact ⟨.ref l, _, I, rfl, q l H (fun _ _ e => e) hT⟩
    | 0, _, q =>
      refine wpAny_binaryOp_repeat_ref (T := "tuple") (U := "int") (by decide) ⟨_, ho, rfl⟩ (fun s' => typeIs_int s' 0 t) noFill_tuple_mul F.fills_int_mul F.slot_int_rmul repeat_tuple F.slot_int_index.lookup
        (call_meets F.slot_int_rmul (typeIs_int s 0 t) F.entry_int_rmul (F.args_int_rmul_2 _ _) (int_rmul_tuple 0 t l its.toArray n dd sl)
          ⟨ho, rfl, ⟨_, ho, rfl⟩, call_meets F.slot_tuple_mul ⟨_, ho, rfl⟩ F.entry_tuple_mul (F.args_tuple_mul_2 _ _) (mul_zero l its.toArray n dd sl t hi) ⟨ho, ?_⟩⟩)
      have np : H s.heap.objs.size = none := I.hok.fresh (Nat.le_refl _)
      refine ⟨.ref s.heap.objs.size, _, I.laid (t' := s.toks) (o := .tup []) (fun b ob e => Heap.get?_push_of_some _ e) (Nat.le_refl _) ?_, rfl, q _ _ (fun b o e => by rw [upd_ne (fun z => by rw [z, np] at e; cases e)]; exact e) (SqT.of upd_same)⟩
      exact ⟨by show 0 ≤ sizeLine; decide, _, .nil, IsTup.new _ _⟩
    | k + 2, h2, _ => exact absurd (Nat.le_add_left 2 k) h2
end
end TOne

/-! x in o, x not in o: o an instance whose class has its own __contains__ that gives a bool. -/
namespace Own
open PySem PySem.Spec PyProof.Rows L2
section
variable {M : Model} {A : Around} {E : Value → Shared → Prop} {s : Shared} {K : PySem.W.Frag} {a C g : Addr} {ox : Obj} {od : Option Obj} {v : Value}
theorem contains_own {Q : Bool → Shared → Prop} (X : K.In s.heap) (I : PySem.W.InstAt s.heap a ox C od) (hs : PySem.W.findIn K (.ref C) "__contains__" = some (some (.ref g))) (hf : PySem.W.isFn K (.ref g) = true)
    (h : wpAny M A (call (.ref g) [.ref a, v]) (fun r s' => ∃ b, r = .bool b ∧ Q b s') E s) : wpAny M A (contains (.ref a) v) Q E s := by
  have sp : ∀ {R : Option Value → Shared → Prop}, R (some (.ref g)) s → wpAny M A (specialOf (.ref a) "__contains__") R E s := fun {R} r => wpAny_bind (I.type.here ((PySem.W.looks_findIn X hs).here r))
  unfold contains
  refine wpAny_holding ?_
  refine wpAny_bind (sp ?_)
  rw [if_neg (show ¬ ((some (Value.ref g) == some Value.none) = true) from Bool.false_ne_true)]
  have call' : wpAny M A (callSpecialUnlessNone? (.ref a) "__contains__" [v] (do rule "in.none"; raiseError "TypeError" s!"'{← typeNameOf (.ref a)}' object is not a container")) (fun r s' => ∃ b, r = some (Value.bool b) ∧ Q b s') E s := by
    simp only [callSpecialUnlessNone?]
    refine wpAny_bind (sp ?_)
    refine wpAny_holding ?_
    refine wpAny_bind ((PySem.W.bind_fn X _ (beq_iff_eq.mp hf)).here ?_)
    show wpAny _ _ (if (Value.ref g == Value.none) = true then _ else _) _ _ _
    rw [if_neg (show ¬ ((Value.ref g == Value.none) = true) from Bool.false_ne_true)]
    refine wpAny_bind (wpAny_mono h (fun r s' z => ?_) fun _ _ z => z)
    obtain ⟨b, rfl, q⟩ := z
    exact wpAny_pure ⟨b, rfl, q⟩
  show wpAny M A (callSpecialUnlessNone? (.ref a) "__contains__" [v] _ >>= _) Q E s
  refine wpAny_bind (wpAny_mono call' (fun r s' z => ?_) fun _ _ z => z)
  obtain ⟨b, rfl, q⟩ := z
  exact wpAny_truthy_bool q
end
section
variable {X : Cx} {CX : CXT} {n : Nat} {C g : Addr} {sp : Sp} {E : XK}
def rInO (neg : Bool) (C : Addr) (sp : Sp) (E : XK) : V → V → Hp → VK → Prop := fun x y H Q => ∃ a dx fs, y = .ref a ∧ H a = some (.ins C dx fs) ∧ sp [y, x] H (fun v H' => ∃ b, v = .bl b ∧ Q (.bl (if neg then !b else b)) H') E
theorem in_run (hs : PySem.W.findIn X.K (.ref C) "__contains__" = some (some (.ref g))) (hf : PySem.W.isFn X.K (.ref g) = true) (F : FnR X.prog X.w X.K X.mg X.base CX n g sp) (hr : Room n X.A) (hx : Passes CX X E)
    {pins : List (Addr × Obj)} {st : Shared} {sl : L2.St} {H : Hp} {x : V} {a dx : Addr} {fs : List (Str × V)} {u : Value} {Q : Bool → Hp → Prop} {R : Bool → Shared → Prop} (inv : Inv X pins sl H st) (rx : RelV x u) (ea : H a = some (.ins C dx fs))
    (h : sp [.ref a, x] H (fun v H' => ∃ b, v = .bl b ∧ Q b H') E) (go : ∀ b st' H', Inv X pins sl H' st' → Q b H' → R b st') : wpAny (model X.prog X.w) X.A (contains (.ref a) u) R X.xe st := by
  obtain ⟨_, ja⟩ := insAt inv ea
  refine contains_own inv.kIn ja hs hf (wpAny_mono (wpAny_call (run_fnR (us := [.ref a, u]) (vs := [.ref a, x]) F hr hx inv (.cons rfl (.cons rx .nil)) h)) (fun r st' z => ?_) fun _ _ z => z)
  obtain ⟨y, H', inv', ry, b, rfl, q⟩ := z
  obtain rfl : r = Value.bool b := ry
  exact ⟨b, rfl, go b st' H' inv' q⟩
theorem op_inO (hs : PySem.W.findIn X.K (.ref C) "__contains__" = some (some (.ref g))) (hf : PySem.W.isFn X.K (.ref g) = true) (F : FnR X.prog X.w X.K X.mg X.base CX n g sp) (hr : Room n X.A) (hx : Passes CX X E) : OpR X (compareOp .In) (rInO false C sp E) := by
  intro pins st sl H x y v u Q inv rx ry h
  obtain ⟨a, dx, fs, rfl, ea, h⟩ := h
  obtain rfl : u = Value.ref a := ry
  show wpAny _ _ (contains (.ref a) v >>= fun b => pure (Value.bool b)) _ _ _
  refine wpAny_bind (in_run hs hf F hr hx inv rx ea h fun b st' H' inv' q => wpAny_pure ⟨.bl b, H', inv', rfl, q⟩)
theorem op_notInO (hs : PySem.W.findIn X.K (.ref C) "__contains__" = some (some (.ref g))) (hf : PySem.W.isFn X.K (.ref g) = true) (F : FnR X.prog X.w X.K X.mg X.base CX n g sp) (hr : Room n X.A) (hx : Passes CX X E) : OpR X (compareOp .NotIn) (rInO true C sp E) := by
  intro pins st sl H x y v u Q inv rx ry h
  obtain ⟨a, dx, fs, rfl, ea, h⟩ := h
  obtain rfl : u = Value.ref a := ry
  show wpAny _ _ (contains (.ref a) v >>= fun b => pure (Value.bool (!b))) _ _ _
  refine wpAny_bind (in_run hs hf F hr hx inv rx ea h fun b st' H' inv' q => wpAny_pure ⟨.bl (!b), H', inv', rfl, q⟩)
end
end Own

/-! GenFor: for in a generator def's body. -/
namespace GenW2
open PySem
section
variable {M : Model} {A : Around} {R : GenEnd} {Y : Protocol} {n : Nat} {s₀ : Shared} {c : Code} {fs : List Frame} {s : Shared} {env : Env}
  {K : Flow → Sem Fin} {H : Value → Sem Fin} {gd : Bool → Bool} {lv : List Value → List Value}
theorem seg_For {target iter : Expr} {body : List Stmt} {pos : Pos}
    (h : wpAny M (A.over c fs) (eval iter env) (fun x s₁ => wpAny M (A.over c fs) (pyIter x) (fun it s₂ => ∀ p, Seg M A R Y n s₀ (.forLoop target it body [] env) (M.den (.forLoop target it body [] env))
      (.ret (fun r => ((match r with | .ok f => (.pure f : Sem Flow) | .error e => .raise e).onRaise fun (x : Value) => do
        if (← field x 1) == Value.none then unsupported "frame.own-activation:exception-without-traceback"
        setFlight x env.frame).wrap K H gd lv) none (gd false) (lv []) c p [] :: fs) s₂) (fun e s' => Seg M A R Y n s₀ c (H e) fs s') s₁) (fun e s' => Seg M A R Y n s₀ c (H e) fs s') s)
    (hs : ∀ x, foldedSetIterable iter env x = pure x := by intro _; rfl) :
    Seg M A R Y n s₀ c ((exec (.For target iter body [] pos) env).wrap K H gd lv) fs s := by
  rw [exec_For]
  refine seg_bind_wrap (wpAny_standAt ?_)
  refine seg_bind_wrap (wpAny_mono h (fun x s₁ h₁ => ?_) (fun e s' he => he))
  refine seg_bind_wrap (wpAny_of_eq (hs x) ?_)
  refine seg_bind_wrap (wpAny_standAt ?_)
  refine seg_bind_wrap (wpAny_holding (wpAny_mono h₁ (fun it s₂ h₂ => ?_) fun _ _ z => z))
  exact seg_call h₂
end
section
variable {prog : Program} {w : World} {A : Around} {R : GenEnd} {Y : Protocol} {n : Nat} {s₀ : Shared} {fs : List Frame} {s : Shared} {env : Env}
theorem seg_forLoop {target : Expr} {it : Value} {body : List Stmt}
    (h : wpAny (model prog w) (A.over (.forLoop target it body [] env) fs) (pyNext it) (fun r s' => match r with
        | none => Seg (model prog w) A R Y n s₀ (.block [] env) ((model prog w).den (.block [] env)) fs s'
        | some v => wpAny (model prog w) (A.over (.forLoop target it body [] env) fs) (letOwnedTupleGo target it v) (fun _ s₁ => wpAny (model prog w) (A.over (.forLoop target it body [] env) fs) (assign target env v) (fun _ s₂ =>
          Seg (model prog w) A R Y n s₀ (.forLoop target it body [] env) ((execs body env).wrap (fun f => match f with
            | .next | .cont => .pure (.again (.forLoop target it body [] env))
            | .brk => .pure (.done .next)
            | .ret v => .pure (.done (.ret v))) (fun e => (do noteFrame e env; theTreesLotGoes e : Sem Unit).wrap (fun _ => .raise e) .raise id id) id id) fs s₂)
            (fun x s' => Seg (model prog w) A R Y n s₀ (.forLoop target it body [] env) ((do noteFrame x env; theTreesLotGoes x : Sem Unit).wrap (fun _ => .raise x) .raise id id) fs s') s₁)
            (fun x s' => Seg (model prog w) A R Y n s₀ (.forLoop target it body [] env) ((do noteFrame x env; theTreesLotGoes x : Sem Unit).wrap (fun _ => .raise x) .raise id id) fs s') s')
      (fun x s' => Seg (model prog w) A R Y n s₀ (.forLoop target it body [] env) ((do noteFrame x env; theTreesLotGoes x : Sem Unit).wrap (fun _ => .raise x) .raise id id) fs s') s) :
    Seg (model prog w) A R Y n s₀ (.forLoop target it body [] env) ((model prog w).den (.forLoop target it body [] env)) fs s := by
  show Seg _ A R Y n s₀ _ ((forTurn target it body [] env).onRaise (fun x => do noteFrame x env; theTreesLotGoes x)) fs s
  have ex : ∀ {x s'}, Seg (model prog w) A R Y n s₀ (.forLoop target it body [] env) ((do noteFrame x env; theTreesLotGoes x : Sem Unit).wrap (fun _ => .raise x) .raise id id) fs s' →
      Seg (model prog w) A R Y n s₀ (.forLoop target it body [] env) ((do noteFrame x env; theTreesLotGoes x : Sem Unit).bind fun _ => (.raise x : Sem Fin)) fs s' := fun {x s'} hx => by
    rw [Sem.bind_eq_wrap]; exact hx
  unfold forTurn
  rw [Sem.onRaise_eq_wrap]
  refine seg_bind_wrap (wpAny_standAt ?_)
  refine seg_bind_wrap (wpAny_onRaise (wpAny_mono h (fun r s₁ h₁ => ?_) fun e s' he => wpAny_standAt (ex he)))
  cases r with
  | none => exact seg_again rfl h₁
  | some v =>
    refine seg_bind_wrap (wpAny_mono h₁ (fun _ s₂ h₂ => ?_) fun e s' he => ex he)
    refine seg_bind_wrap (wpAny_mono h₂ (fun _ s₃ h₃ => ?_) fun e s' he => ex he)
    rw [Sem.bind_eq_wrap', Sem.wrap_wrap]
    rw [Sem.wrap_congr (execs body env) _ _ (K' := fun f => match f with
            | .next | .cont => .pure (.again (.forLoop target it body [] env))
            | .brk => .pure (.done .next)
            | .ret v => .pure (.done (.ret v))) (H' := (fun e => (do noteFrame e env; theTreesLotGoes e : Sem Unit).wrap (fun _ => .raise e) .raise id id))
        (fun f => by cases f <;> rfl)
        (fun e => by first | exact Sem.bind_eq_wrap _ _ | (show (do noteFrame e env; theTreesLotGoes e : Sem Unit).bind (fun _ => .raise e) = _; rw [Sem.bind_eq_wrap]))]
    exact h₃
end
end GenW2
namespace L2
open PySem PySem.Spec PyProof.Rows GenW
section
variable {X : Cx}
/-- the reading of a generator's for: W tells what is out too -/
def tGFor (wi : TI) (g : TG) (tb : TGn) : TGn := fun D ys σ H => wi σ H fun J H1 => ∃ W : Nat → Nat → List V → St → Hp → Prop, (∃ m, W 0 m ys σ H1) ∧ ∀ i m ys σ H, W i m ys σ H →
  (J.stop i H ∧ D.nx ys σ H) ∨ (J.go i H ∧ ∃ N : List V → St → Hp → Prop, (∀ ys' σ' H', N ys' σ' H' → ∃ m', m' < m ∧ W (i + 1) m' ys' σ' H') ∧ ∀ x H', J.yld i H x H' → g x σ H' fun σ2 H2 => tb { D with nx := N, ct := N, bk := D.nx } ys σ2 H2)
theorem gs_for {tg iter : Expr} {body : List Stmt} {wi : TI} {g : TG} {tb : TGn} {pos : Pos} (hp : PassesOwn (model X.prog X.w) X.A X.env X.xe) (hc : X.calm = true) (hi : PI X tg iter wi) (hg : PG X tg g) (hb : GSs X body tb)
    (hs : ∀ x, foldedSetIterable iter X.env x = pure x := by intro _; rfl) : GS X (.For tg iter body [] pos) (tGFor wi g tb) := by
  refine ⟨fun A S ip R n ys s₀ c fs K J0 gd lv s σ H D gc hn k hI ht => ?_⟩
  obtain ⟨acc0, cc0, r0, I⟩ := hI
  refine GenW2.seg_For ?_ hs
  rw [gc.over]
  refine wpAny_mono (hi.run _ s σ H _ I ht) (fun v s1 h1 => wpAny_mono h1 (fun itv s2 h2 => ?_) fun x s' hx => k.exc n s₀ x s' hx) fun x s' hx => k.exc n s₀ x s' hx
  obtain ⟨it, fp, tn, J, H2, e, I2, T, st2, f2, W, ⟨m0, w0⟩, turn⟩ := h2
  subst e
  intro p
  have hS : ∀ b ∈ fp, b ≠ S := fun b hb z => (f2 b hb).2.2.2.2.2 (S, lstObj acc0 cc0) (List.mem_append_right _ List.mem_cons_self) z.symm
  have stat : ∀ {H' : Hp} (acc : Array Value) (cc : Nat), (∀ b ∈ fp, H' b = none) → ∀ b ∈ fp, FpOk X ((S, lstObj acc cc) :: ip) H' b := fun acc cc hn b hb => by
    obtain ⟨_, a1, a2, a3, a4, a5⟩ := f2 b hb
    refine ⟨hn b hb, a1, a2, a3, a4, fun q hq => ?_⟩
    rcases List.mem_append.mp hq with hq | hq
    · exact a5 q (List.mem_append_left _ hq)
    · rcases List.mem_cons.mp hq with hq | hq
      · rw [hq]
        exact fun z => hS b hb z.symm
      · exact a5 q (List.mem_append_right _ (List.mem_cons_of_mem _ hq))
  have gl := fun (kk : Result → Sem PySem.Fin) => gc_loop (k := kk) (c' := .forLoop tg (.ref it) body [] X.env) (l := lv []) (kp := []) (p := p) gc rfl rfl
  have gb := fun (kk : Result → Sem PySem.Fin) => gc_loop (k := kk) (c' := .block [] X.env) (l := lv []) (kp := []) (p := p) gc rfl rfl
  have loop : ∀ (m i n : Nat) (ys : List V) (s₀ s : Shared) (σ : St) (H : Hp), n + ys.length = sizeLine → W i m ys σ H → GI X S ip ys σ H s → tn i s.heap → (∀ b ∈ fp, H b = none) →
      Seg (model X.prog X.w) A R (GY X S) n s₀ (.forLoop tg (.ref it) body [] X.env) ((model X.prog X.w).den (.forLoop tg (.ref it) body [] X.env))
        (.ret (fun r => ((match r with | .ok f => (.pure f : Sem Flow) | .error e => .raise e).onRaise (cameBack X.env)).wrap K J0 gd lv) none (gd false) (lv []) c p [] :: fs) s := by
    intro m
    induction m using Nat.strongRecOn with
    | ind m ih =>
      intro i n ys s₀ s3 σ3 H3 hn w3 hI st3 fr3
      have ee : ∀ (n : Nat) (s₀ : Shared) (x : Value) (s' : Shared), X.xe x s' → Seg (model X.prog X.w) A R (GY X S) n s₀ (.forLoop tg (.ref it) body [] X.env)
          ((do noteFrame x X.env; theTreesLotGoes x : Sem Unit).wrap (fun _ => .raise x) .raise id id)
          (.ret (fun r => ((match r with | .ok f => (.pure f : Sem Flow) | .error e => .raise e).onRaise (cameBack X.env)).wrap K J0 gd lv) none (gd false) (lv []) c p [] :: fs) s' := fun n s₀ x s' hx => by
        refine seg_wrap ?_
        rw [(gl _).over]
        refine wpAny_bind (wpAny_mono (hp x s' hx) (fun _ s'' hcb => wpAny_theTreesLotGoes ?_) fun y s'' hcb => ?_)
        · exact seg_leaf (.error x) (seg_cameBack gc k hcb)
        · exact seg_leaf (.error y) (seg_cameBack gc k hcb)
      refine GenW2.seg_forLoop ?_
      rw [(gl _).over]
      obtain ⟨acc, cc, r, I3⟩ := hI
      rcases turn i m ys σ3 H3 w3 with ⟨stop, qn⟩ | ⟨go, N, hN, step⟩
      · refine wpAny_mono (T.done X rfl rfl rfl hc i _ s3 σ3 H3 X.xe I3 (stat acc cc fr3) st3 stop) (fun r0 s4 ⟨hr, I4⟩ => ?_) fun x s' hx => ee n s₀ x s' hx
        subst hr
        exact seg_leaf (.ok .next) (k.ok n ys s₀ s4 .next hn ⟨σ3, H3, ⟨acc, cc, r, I4⟩, qn⟩)
      · refine wpAny_mono (T.item X rfl rfl rfl hc i _ s3 σ3 H3 X.xe I3 (stat acc cc fr3) st3 go) (fun r0 s4 ⟨u, hr, h4⟩ => ?_) fun x s' hx => ee n s₀ x s' hx
        subst hr
        refine wpAny_mono h4 (fun _ s5 ⟨x, H5, I5, r5, y5, st5, fr5⟩ => ?_) fun x s' hx => ee n s₀ x s' hx
        have I5' := I5.pinned (stat acc cc fr5) (T.obj _ _ st5)
        refine wpAny_mono (hg.run _ s5 σ3 H5 x u _ I5' r5 (step x H5 y5)) (fun _ s6 ⟨σ6, H6, I6, q6⟩ => ?_) fun x s' hx => ee n s₀ x s' hx
        have gcb : GC X S (ip ++ pinsAt fp s5.heap) A (.forLoop tg (.ref it) body [] X.env) (.ret (fun r => ((match r with | .ok f => (.pure f : Sem Flow) | .error e => .raise e).onRaise (cameBack X.env)).wrap K J0 gd lv) none (gd false) (lv []) c p [] :: fs) id :=
          { gl _ with ip := fun q hq => (List.mem_append.mp hq).elim (fun z => gc.ip q z) fun z => hS _ (of_pinsAt z).1 }
        have back : ∀ {ys7 : List V} {σ7 : St} {H7 : Hp} {s7 : Shared}, GI X S (ip ++ pinsAt fp s5.heap) ys7 σ7 H7 s7 → GI X S ip ys7 σ7 H7 s7 := fun {ys7 σ7 H7 s7} ⟨a7, c7, r7, I7⟩ => ⟨a7, c7, r7, Inv.unpinned (pins := (S, lstObj a7 c7) :: ip) I7⟩
        have again : ∀ {n' : Nat} {s₀' : Shared} {ys7 : List V} {σ7 : St} {H7 : Hp} {s7 : Shared}, n' + ys7.length = sizeLine → GI X S (ip ++ pinsAt fp s5.heap) ys7 σ7 H7 s7 → N ys7 σ7 H7 →
            Seg (model X.prog X.w) A R (GY X S) n' s₀' (.forLoop tg (.ref it) body [] X.env) ((model X.prog X.w).den (.forLoop tg (.ref it) body [] X.env))
              (.ret (fun r => ((match r with | .ok f => (.pure f : Sem Flow) | .error e => .raise e).onRaise (cameBack X.env)).wrap K J0 gd lv) none (gd false) (lv []) c p [] :: fs) s7 := fun {n' s₀' ys7 σ7 H7 s7} hn7 g7 n7 => by
          obtain ⟨m', hm, w7⟩ := hN ys7 σ7 H7 n7
          obtain ⟨a7, c7, r7, I7⟩ := g7
          refine ih m' hm (i + 1) n' ys7 s₀' s7 σ7 H7 hn7 w7 (back ⟨a7, c7, r7, I7⟩) (T.keep _ _ _ st5 fun b hb o e => (I7.pin (b, o) (List.mem_append_right _ (List.mem_cons_of_mem _ (List.mem_append_right _ (mem_pinsAt hb e))))).1) fun b hb => ?_
          obtain ⟨o, e, d⟩ := T.obj _ _ st5 b hb
          exact (I7.pin (b, o) (List.mem_append_right _ (List.mem_cons_of_mem _ (List.mem_append_right _ (mem_pinsAt hb e))))).2.1
        refine hb.run A S (ip ++ pinsAt fp s5.heap) R n ys s₀ _ _ _ _ id id s6 σ6 H6 { D with nx := N, ct := N, bk := D.nx } gcb hn ⟨fun n' ys' s₀' s7 f hn' hs => ?_, fun n' s₀' x s7 hx => ee n' s₀' x s7 hx⟩ ⟨acc, cc, r, I6⟩ q6
        cases f with
        | next =>
          obtain ⟨σ7, H7, I7, n7⟩ := hs
          exact seg_again rfl (again hn' I7 n7)
        | cont =>
          obtain ⟨σ7, H7, I7, n7⟩ := hs
          exact seg_again rfl (again hn' I7 n7)
        | brk =>
          obtain ⟨σ7, H7, I7, n7⟩ := hs
          exact seg_leaf (.ok .next) (k.ok n' ys' s₀' s7 .next hn' ⟨σ7, H7, back I7, n7⟩)
        | ret v =>
          obtain ⟨v7, σ7, H7, I7, r7, n7⟩ := hs
          exact seg_leaf (.ok (.ret v)) (k.ok n' ys' s₀' s7 (.ret v) hn' ⟨v7, σ7, H7, back I7, r7, n7⟩)
  exact loop m0 0 n ys s₀ s2 σ H2 hn w0 ⟨acc0, cc0, r0, I2⟩ st2 fun b hb => (f2 b hb).1
end
end L2

/-! GenStar: a generator def with a star. -/
namespace GSt
open PySem PySem.Spec PyProof.Rows GenW L2
section
variable {P : Program} {w : World} {K : PySem.W.Frag} {mg : Str → Option Value} {base : Heap} {k : Nat} {f : Addr} {name qual : Str} {params : Arguments} {body : List Stmt} {scope : Scope} {dV kV doc pm cdv ct oc : Value} {an od : Option Addr}
  {osl : Array (Option Value)} {N ps : List Str} {A : Around} {outer : List Env} {s s1 s2 : Shared} {H : Hp} {E : XK} {us : List Value} {vs : List V} {Q : List V → Hp → Prop} {go : Obj} {S : Addr}
abbrev Made (s s1 : Shared) (qual : Str) (scope : Scope) (f : Addr) (cdv : Value) (ps : List Str) (us : List Value) : Prop :=
  InCallC s s.heap.objs.size (bindL (envOfC qual scope s.heap.objs.size f cdv).kindOf (ps.zip us) fun _ => none) (cellsFrom (s.heap.objs.size + 1) scope.names []) (bindC (envOfC qual scope s.heap.objs.size f cdv).kindOf (ps.zip us) fun _ => none) s1
/-- what is laid after the frame is none of the frame's -/
theorem young {pn : List (Addr × Obj)} (I : Inv (gcxOf P w K mg base N qual scope f cdv A outer s H E pn) [] (start N vs) H s1) {b : Addr} (hb : s1.heap.objs.size ≤ b) :
    H b = none ∧ b ≠ s.heap.objs.size ∧ b ∉ frs outer ∧ s.heap.objs.size ≤ b ∧ ∀ y c, (cellsFrom (s.heap.objs.size + 1) scope.names []).lookup y = some c → c ≠ b := by
  have lt : s.heap.objs.size < s1.heap.objs.size := I.lt
  refine ⟨I.hok.fresh hb, Nat.ne_of_gt (Nat.lt_of_lt_of_le lt hb), I.nofs hb, Nat.le_of_lt (Nat.lt_of_lt_of_le lt hb), fun y c e z => ?_⟩
  obtain ⟨v, q⟩ := I.cell y c e
  exact absurd (Nat.lt_of_lt_of_le q.lt (z ▸ hb)) (Nat.lt_irrefl _)
/-- the body begins: the generator's own object is pinned, the consumer's list is empty -/
theorem gi_begin (S0 : GScope N ps scope) (hd : A.handled = none) (e0 : Env0 P w K mg base A outer s H) (hl : vs.length = ps.length) (r : Vals vs us) (x : Made s s1 qual scope f cdv ps us) (hos : s2.os = s.os) (hba : AllBare s2.gens)
    (kp : ∀ b o, s1.heap.get? b = some o → s2.heap.get? b = some o) (hS : s1.heap.objs.size < S) (hSo : ∃ c, s2.heap.get? S = some (lstObj #[] c)) (hg : s2.heap.get? s1.heap.objs.size = some go) (hgd : ∀ v, go.data ≠ .cell v) :
    GI (gcxOf P w K mg base N qual scope f cdv A outer s H E [(s1.heap.objs.size, go)]) S [] [] (start N vs) H s2 ∧ Apart (gcxOf P w K mg base N qual scope f cdv A outer s H E [(s1.heap.objs.size, go)]) S := by
  have I1 := inv_startG (E := E) S0 hd e0 hl r x
  obtain ⟨h1, tk, es1, hk1⟩ := x.done
  have I2 : Inv (gcxOf P w K mg base N qual scope f cdv A outer s H E []) [] (start N vs) H s2 :=
    I1.call' (ch := []) (by rw [hos, es1]) (Un.kept kp) (I1.hok.kept kp) hba fun b z => absurd z (by simp)
  obtain ⟨c, hSo⟩ := hSo
  have yg := young I1 (Nat.le_refl _)
  have yS := young I1 (Nat.le_of_lt hS)
  refine ⟨⟨#[], c, .nil, Inv.pinnedG I2 fun p hp => ?_⟩, yS.2.2.2.1, yS.2.1, yS.2.2.2.2⟩
  have hp : p = (s1.heap.objs.size, go) ∨ p = (S, lstObj #[] c) := by simpa using hp
  rcases hp with rfl | rfl
  · exact ⟨hg, yg.1, yg.2.1, yg.2.2.1, hgd⟩
  · exact ⟨hSo, yS.1, yS.2.1, yS.2.2.1, fun v q => nomatch q⟩
theorem gi_pin {a : Addr} {ip : List (Addr × Obj)} {ys : List V} {σ : L2.St} {H' : Hp} {s' : Shared} (h : GI (gcxOf P w K mg base N qual scope f cdv A outer s H E [(a, go)]) S ip ys σ H' s') : s'.heap.get? a = some go ∧ s'.os = s.os ∧ AllBare s'.gens ∧ s'.heap.NoLimit := by
  obtain ⟨acc, c, _, J⟩ := h
  exact ⟨(J.pin (a, go) (List.mem_append_left _ (List.mem_singleton.mpr rfl))).1, J.os, J.bare, J.nolimit⟩
/-- the body run to its end -/
theorem seg_body {a g : Nat} {t : TGn} (hgen : ∀ h : Heap, h.get? a = some go → h.IsGen a g) (hne : a ≠ S) (hG : GI (gcxOf P w K mg base N qual scope f cdv A outer s H E [(a, go)]) S [] [] (start N vs) H s2)
    (hA : Apart (gcxOf P w K mg base N qual scope f cdv A outer s H E [(a, go)]) S) (ht : GSs (gcxOf P w K mg base N qual scope f cdv A outer s H E [(a, go)]) body t)
    (hq : t { nx := fun ys _ H' => Q ys H', rt := fun ys v H' => v = .non ∧ Q ys H' } [] (start N vs) H) :
    Seg (model P w) A (REnd P w outer H s [] S a g Q E) (YItem s S a g) sizeLine s2 (.func body (envOfC qual scope s.heap.objs.size f cdv)) ((model P w).den (.func body (envOfC qual scope s.heap.objs.size f cdv))) [] s2 := by
  refine seg_func (seg_imp (R := GR (gcxOf P w K mg base N qual scope f cdv A outer s H E [(a, go)]) S (fun ys v H' => v = .non ∧ Q ys H') fun e s' => CX P w outer H s E e s' ∧ s'.heap.get? a = some go)
    (Y := GY (gcxOf P w K mg base N qual scope f cdv A outer s H E [(a, go)]) S) (fun n s₀ r s1' hR => ?_) (fun n s₀ v s1' kap kap' hkk hY => ?_) sizeLine ?_)
  · cases r with
    | error e => exact .inr ⟨e, rfl, hR.1, hgen _ hR.2⟩
    | ok fl =>
      cases fl with
      | next => exact hR.elim
      | brk => exact hR.elim
      | cont => exact hR.elim
      | ret u =>
        obtain ⟨ys, v, ip, σ', H', hn, hI, rv, rfl, hQ⟩ := hR
        obtain rfl : u = Value.none := rv
        obtain ⟨h1, _, _, acc, cc, ra, ea⟩ := hI.at
        have hp := gi_pin hI
        obtain ⟨_, _, _, J⟩ := hI
        exact .inl ⟨.inl rfl, H', ys, acc, cc, hp.2.1, hp.2.2.1, J.base, J.hok, h1, ea, ra, by omega, hQ⟩
  · obtain ⟨ys, xx, ip, σ', H', hn, rx, hI, h3⟩ := hY
    obtain ⟨_, _, _, acc, cc, ra, ea⟩ := hI.at
    have hp := gi_pin hI
    have e1 : ys.length = acc.size := by rw [ra.length]; simp
    exact ⟨hp.2.1, hp.2.2.1, hp.2.2.2, hgen _ hp.1, ⟨acc, cc, ea, by omega⟩, fun s' z => hkk _ _ (h3 s' z)⟩
  · refine ht.run A S [] _ sizeLine [] s2 _ [] _ _ id id s2 (start N vs) H _ ⟨fun p hp => ?_, fun p hp => absurd hp (by simp), hA, over_func, rfl, rfl, rfl⟩ rfl ⟨fun n ys s₀ s' fl hn hs => ?_, fun n s₀ e s' hx => ?_⟩ hG hq
    · rw [List.mem_singleton.mp hp]
      exact hne
    · cases fl with
      | next =>
        obtain ⟨σ', H', hI, hQ⟩ := hs
        exact seg_end (.ok (.ret .none)) ⟨ys, .non, [], σ', H', hn, hI, rfl, rfl, hQ⟩
      | brk => exact hs.choose_spec.choose_spec.2.elim
      | cont => exact hs.choose_spec.choose_spec.2.elim
      | ret u =>
        obtain ⟨v, σ', H', hI, rv, rfl, hQ⟩ := hs
        exact seg_end (.ok (.ret u)) ⟨ys, .non, [], σ', H', hn, hI, rv, rfl, hQ⟩
    · refine seg_wrap ?_
      rw [over_func]
      refine wpAny_mono (show wpAny (model P w) (A.deeper (envOfC qual scope s.heap.objs.size f cdv)) (leaving (envOfC qual scope s.heap.objs.size f cdv) e) (fun _ s'' => CX P w outer H s E e s'' ∧ ∀ p ∈ [(a, go)], s''.heap.get? p.1 = some p.2) (fun _ _ => False) s' from hx) (fun _ s'' q => ?_) fun _ s'' q => q.elim
      exact seg_end (.error e) ⟨q.1, q.2 (a, go) (List.mem_singleton.mpr rfl)⟩
/-- what a call of a generator def gives, once its arguments are bound -/
theorem gmade {t : ∀ (A : Around) (pn : List (Addr × Obj)), TGn} (S0 : GScope N ps scope) (mod : Mod K mg base) (bs : ∀ b o, base.get? b = some o → s.heap.get? b = some o ∧ H b = none) (bsz : base.objs.size ≤ s.heap.objs.size) (funs : s.heap.FunFrames base outer) (frf : ∀ b ∈ frs outer, H b = none) (hok : HOk P w H s.heap) (bare : AllBare s.gens) (lim : s.heap.NoLimit)
    (hl : vs.length = ps.length) (r : Vals vs us) (x : Made s s1 qual scope f cdv ps us) (n0 q0 : Value) (tk2 : Nat) (eg : go = { cls := .type "generator", data := .fields #[.int s1.gens.size 0, n0, q0] })
    (hbody : ∀ (A : Around) (pn : List (Addr × Obj)), Room k (A.deeper (envOfC qual scope s.heap.objs.size f cdv)) → GSs (gcxOf P w K mg base N qual scope f cdv A outer s H E pn) body (t A pn) ∧ t A pn { nx := fun ys _ H' => Q ys H', rt := fun ys v H' => v = .non ∧ Q ys H' } [] (start N vs) H) :
    GMade P w (k + 1) outer H s [] Q E (.ref s1.heap.objs.size) { s1 with gens := s1.gens.push (.fresh (.func body (envOfC qual scope s.heap.objs.size f cdv))), toks := tk2, heap := s1.heap.push go } := by
  have lim1 : s1.heap.NoLimit := lim.keeps x.toInCall.keep
  have lt1 : s.heap.objs.size < s1.heap.objs.size := x.toInCall.ns.lt
  have kp1 : ∀ b o, s.heap.get? b = some o → s1.heap.get? b = some o := x.toInCall.keep
  obtain ⟨h1, tk, es1, hk1⟩ := id x.done
  have hp : (s1.heap.push go).get? s1.heap.objs.size = some go := Heap.get?_push_size _ (by rw [eg]; rfl)
  have hgen : ∀ h : Heap, h.get? s1.heap.objs.size = some go → h.IsGen s1.heap.objs.size s1.gens.size := fun h e => ⟨go, n0, q0, e, by rw [eg], by rw [eg], by rw [eg]⟩
  have hsz : (s1.heap.push go).objs.size = s1.heap.objs.size + 1 := Heap.size_push ..
  refine ⟨s1.heap.objs.size, s1.gens.size, _, rfl, Nat.le_of_lt lt1, by rw [hsz]; exact Nat.lt_succ_self _, hgen _ hp, Array.getElem?_push_size .., by rw [es1], AllBare.push (by rw [es1]; exact bare) rfl, lim1.keeps fun b o e => Heap.get?_push_of_some _ e, fun b o e => Heap.get?_push_of_some _ (kp1 b o e), ?_⟩
  intro Aw Sx s2 hrw hfr hSx hk2 hSo hos hba
  have hS : s1.heap.objs.size < Sx := by
    have hSx : (s1.heap.push go).objs.size ≤ Sx := hSx
    rw [hsz] at hSx
    exact hSx
  have e0 : Env0 P w K mg base Aw outer s H := ⟨hfr, mod, bs, bsz, funs, frf, hok, bare⟩
  obtain ⟨ht, hq⟩ := hbody Aw [(s1.heap.objs.size, go)] (hrw.deeper _)
  obtain ⟨hG, hA⟩ := gi_begin (E := E) S0 hrw.hd e0 hl r x hos hba (fun b o e => hk2 b o (Heap.get?_push_of_some _ e)) hS hSo (hk2 _ _ hp) (fun v q => by rw [eg] at q; cases q)
  exact seg_body hgen (Nat.ne_of_lt hS) hG hA ht hq
end
/-- a generator def's promise by positional values: its own tuple may have been laid -/
def GFnR (P : Program) (w : World) (K : PySem.W.Frag) (mg : Str → Option Value) (base : Heap) (k : Nat) (f : Addr) (sp : SpG) : Prop :=
  ∀ (A : Around) (outer : List Env) (s : Shared) (H : Hp) (us : List Value) (vs : List V) (Q : List V → Hp → Prop) (E : XK), Room k A → Env0 P w K mg base A outer s H → Vals vs us → sp vs H Q E →
    codeAny (model P w) A (.call (.ref f) ⟨us, []⟩) (fun r s' => match r with | .ok (.ret u) => ∃ (H2 : Hp) (s2 : Shared), (∀ (X : Cx) (pins : List (Addr × Obj)) (σ : L2.St), X.prog = P → X.w = w → Inv X pins σ H s → Inv X pins σ H2 s2) ∧ GMade P w k outer H2 s2 [] Q E u s' | _ => False) s
section
variable {P : Program} {w : World} {K : PySem.W.Frag} {mg : Str → Option Value} {base : Heap} {k : Nat} {f : Addr} {name qual : Str} {params : Arguments} {body : List Stmt} {scope : Scope} {dV kV doc pm cdv ct oc : Value} {an od : Option Addr}
  {osl : Array (Option Value)} {N ps : List Str} {sp : SpG}
/-- THE RULE: a generator def with a star, by its body -/
theorem gfn_star {pv : Str} (lk : K.lookup f = some ⟨oc, od, .func (PySem.W.fnOf name qual params body scope dV kV doc pm an cdv ct), osl⟩) (hcd : PySem.W.codeIn K cdv qual = true) (S : GScope N (ps ++ [pv]) scope)
    (hb : ∀ us rest : List Value, us.length = ps.length → bindArgs (PySem.W.fnOf name qual params body scope dV kV doc pm an cdv ct) ⟨us ++ rest, []⟩ = (newTuple rest >>= fun t => pure (ps.zip us ++ [(pv, t)])))
    (hbody : ∀ (A : Around) (outer : List Env) (s : Shared) (H : Hp) (vs : List V) (Q : List V → Hp → Prop) (E : XK) (pn : List (Addr × Obj)), Room k (A.deeper (envOfC qual scope s.heap.objs.size f cdv)) → sp vs H Q E →
      ∃ t, GSs (gcxOf P w K mg base N qual scope f cdv A outer s H E pn) body t ∧ t { nx := fun ys _ H' => Q ys H', rt := fun ys v H' => v = .non ∧ Q ys H' } [] (start N vs) H) :
    GFnR P w K mg base (k + 1) f (fun vs H Q E => ∃ ws rest, vs = ws ++ rest ∧ ws.length = ps.length ∧ rest.length ≤ sizeLine ∧ ∀ p, H p = Option.none → sp (ws ++ [V.ref p]) (upd H p (.tup rest)) Q E) := by
  intro A outer s H us vs Q E hr e0 r hsp
  obtain ⟨ws, rest, ev, hl, hz, hq⟩ := hsp
  subst ev
  obtain ⟨u1, u2, eu, r1, r2⟩ := StX.vals_split r
  subst eu
  have hn : H s.heap.objs.size = Option.none := e0.hok.fresh (Nat.le_refl _)
  have hl1 : u1.length = ps.length := by rw [← r1.length]; exact hl
  have hl2 : u2.length ≤ sizeLine := by rw [← r2.length]; exact hz
  have KX : K.In s.heap := e0.mod.kin.keeps fun b o e => (e0.bs b o e).1
  refine codeAny_call_generator hr.depth (KX _ _ lk) rfl S.co S.gen rfl (PySem.W.codeRec_of KX hcd) ?_
  rw [hb u1 u2 hl1]
  refine wpAny_bind (wpAny_newTuple (wpAny_pure ?_) hl2)
  have new : ObjOk P w (upd H s.heap.objs.size (.tup rest)) (s.heap.push ({ cls := .type "tuple", data := .seq u2.toArray } : Obj)) s.heap.objs.size (.tup rest) := ⟨hz, u2, r2, ⟨_, Heap.get?_push_size _ rfl, rfl, _, rfl⟩⟩
  have e2 := StX.env0_laid e0 new
  have conv : ∀ (X : Cx) (pins : List (Addr × Obj)) (σ : L2.St), X.prog = P → X.w = w → Inv X pins σ H s → Inv X pins σ (upd H s.heap.objs.size (.tup rest)) { s with heap := s.heap.push ({ cls := .type "tuple", data := .seq u2.toArray } : Obj) } := fun X pins σ eP ew I => by
    subst eP ew
    exact I.laid (t' := s.toks) (fun b o q => Heap.get?_push_of_some _ q) (Nat.le_refl _) new
  have hq := hq _ hn
  have rr : Vals (ws ++ [V.ref s.heap.objs.size]) (u1 ++ [Value.ref s.heap.objs.size]) := r1.append (.cons rfl .nil)
  have ll : (ws ++ [V.ref s.heap.objs.size]).length = (ps ++ [pv]).length := by rw [List.length_append, List.length_append, hl] <;> rfl
  have ez : ps.zip u1 ++ [(pv, Value.ref s.heap.objs.size)] = (ps ++ [pv]).zip (u1 ++ [Value.ref s.heap.objs.size]) := by rw [List.zip_append hl1.symm] <;> rfl
  rw [ez]
  generalize hs2 : ({ s with heap := s.heap.push ({ cls := .type "tuple", data := .seq u2.toArray } : Obj) } : Shared) = s2 at e2 conv
  have hkind : ∀ y ∈ (ps ++ [pv]).zip (u1 ++ [Value.ref s.heap.objs.size]), scope.names.lookup y.1 = some .local ∨ (scope.names.lookup y.1 = some .cell ∧ ((cellsFrom (s2.heap.objs.size + 1) scope.names []).lookup y.1).isSome = true) := fun y hy => by
    rcases S.par y.1 (List.of_mem_zip hy).1 with q | q
    · exact .inl q
    · exact .inr ⟨q, PySem.W.cellsFrom_some _ _ _ (.inl q)⟩
  have lim2 : s2.heap.NoLimit := e2.mod.nolimit.keeps fun b o e => (e2.bs b o e).1
  refine wpAny_newFunctionEnv_cells (s := s2) S.kind hkind fun env he s1 x => ?_
  subst he
  refine ⟨lim2.keeps x.toInCall.keep, _, s2, conv, ?_⟩
  classical
  refine gmade (t := fun A' pn => if h : Room k (A'.deeper (envOfC qual scope s2.heap.objs.size f cdv)) then (hbody A' outer s2 _ _ Q E pn h hq).choose else fun _ _ _ _ => True) S e2.mod e2.bs e2.bsz e2.funs e2.frf e2.hok e2.bare lim2 ll rr x _ _ _ rfl fun A' pn h => ?_
  rw [dif_pos h]
  exact (hbody A' outer s2 _ _ Q E pn h hq).choose_spec
end
section
variable {X : Cx} {k : Nat} {f : Addr} {sp : SpG} {E : XK} {e : Expr} {es : List Expr} {t : TA} {x : Str} {p pos' : Pos}
/-- f(e, ..) of a generator def with a star -/
theorem pgen_callR (F : GFnR X.prog X.w X.K X.mg X.base k f sp) (hr : Room k X.A) (hg : Gl X x) (hm : X.mg x = some (.ref f)) (hk : PySem.W.keepIn X.K (.ref f) = true)
    (ha : PA X (e :: es) t) (hdb : (x == ("__debug__" : Str)) = false := by decide) (he : starEach (e :: es) X.env = (false, eval e X.env) :: starEach es X.env := by rfl) (hpl : (backTo pos' (starEach es X.env)).any (·.1) = false := by rfl) :
    PGen X k (.Call (.Name x p) (e :: es) [] pos') (tCallG sp [] E t) E := by
  refine ⟨fun pins s σ H cont I h => ?_⟩
  refine wpAny_Call_Name_kw (ld_glob I hg hm ?_ hdb)
  refine PySem.W.callWith_K (h₀ := X.base) I.ok.mod.kin hk (thn (ha.run pos' pins s σ H _ I h) fun us s1 ⟨vs, H1, I1, r, q⟩ => ⟨I1.kIn, ?_⟩) he hpl
  have q : sp (vs ++ []) H1 cont E := q
  rw [List.append_nil] at q
  refine wpAny_call (codeAny_mono (F X.A X.stack s1 H1 us vs cont E hr I1.env0 r q) fun r s' hq => ?_)
  cases r with
  | error e => exact False.elim hq
  | ok fl =>
    cases fl with
    | ret u =>
      obtain ⟨H2, s2, conv, hG⟩ := hq
      exact ⟨H2, s2, [], conv X pins σ rfl rfl I1, .nil, hG⟩
    | next => exact False.elim hq
    | brk => exact False.elim hq
    | cont => exact False.elim hq
end
/-- a generator's for over what walks: Pv by the turn, what is out, the slots and the heap -/
theorem gfor_it {J : It} {n : Nat} {G : Hp → Prop} {Y : Nat → Hp → V → Hp → Prop} (w : Walk J n G Y) {g : TG} {tb : TGn} {D : GEnds} {ys : List V} {σ : L2.St} {H : Hp} (Pv : Nat → List V → L2.St → Hp → Prop) (h0 : Pv 0 ys σ H) (hG : ∀ i ys σ H, i ≤ n → Pv i ys σ H → G H)
    (hs : ∀ i x ys σ H H', i < n → Pv i ys σ H → Y i H x H' → g x σ H' fun σ2 H2 => tb { D with nx := Pv (i + 1), ct := Pv (i + 1), bk := D.nx } ys σ2 H2) (hd : ∀ ys σ H, Pv n ys σ H → D.nx ys σ H) :
    ∃ W : Nat → Nat → List V → L2.St → Hp → Prop, (∃ m, W 0 m ys σ H) ∧ ∀ i m ys σ H, W i m ys σ H →
      (J.stop i H ∧ D.nx ys σ H) ∨ (J.go i H ∧ ∃ N : List V → L2.St → Hp → Prop, (∀ ys' σ' H', N ys' σ' H' → ∃ m', m' < m ∧ W (i + 1) m' ys' σ' H') ∧ ∀ x H', J.yld i H x H' → g x σ H' fun σ2 H2 => tb { D with nx := N, ct := N, bk := D.nx } ys σ2 H2) := by
  refine ⟨fun i m ys σ H => m = n - i ∧ i ≤ n ∧ Pv i ys σ H, ⟨n, rfl, Nat.zero_le _, h0⟩, ?_⟩
  rintro i m ys σ H ⟨rfl, hi, p⟩
  have q := hG i ys σ H hi p
  rcases Nat.lt_or_ge i n with hlt | hge
  · exact .inr ⟨w.goes i H hlt q, Pv (i + 1), fun ys' σ' H' p' => ⟨n - (i + 1), by omega, rfl, hlt, p'⟩, fun x H' y => hs i x ys σ H H' hlt p (w.yields i H x H' hlt q y)⟩
  · obtain rfl : i = n := by omega
    exact .inl ⟨w.stops H q, hd ys σ H p⟩
end GSt

/-! SupX: a def of an own exception class whose first statement is super().__init__(e). -/
namespace SupX
open PySem PySem.Spec PyProof.Rows L2 NdefX

theorem fs_lt {X : Cx} (ok : X.Ok) {b : Addr} (hb : b ∈ X.fs) : b < X.s_0.heap.objs.size := by
  obtain ⟨_, o, e, _⟩ := ok.funs.mem hb
  exact Heap.lt_size e
/-- a new object is pinned -/
theorem inv_pinNew {X : Cx} {pins : List (Addr × Obj)} {σ : L2.St} {H : Hp} {s : Shared} {h' : Heap} {a : Addr} {o : Obj} {t' : Nat} (I : Inv X pins σ H s) (k : ∀ b u, s.heap.get? b = some u → h'.get? b = some u) (ha : s.heap.objs.size ≤ a) (e : h'.get? a = some o) (hd : ∀ v, o.data ≠ .cell v) :
    Inv X (pins ++ [(a, o)]) σ H { s with heap := h', toks := t' } := by
  have J : Inv X pins σ H { s with heap := h', toks := t' } := I.kept k
  refine J.pins_of fun p hp => (List.mem_append.mp hp).elim (fun z => J.pin p (List.mem_append_right _ z)) fun z => ?_
  obtain rfl : p = (a, o) := by simpa using z
  refine ⟨e, I.hok.fresh ha, fun z => ?_, fun z => ?_, hd⟩
  · have z' : a = X.env.locals := z
    exact absurd I.lt (by rw [← z']; exact Nat.not_lt.mpr ha)
  · exact absurd (show a < X.s_0.heap.objs.size from fs_lt I.ok z) (Nat.not_lt.mpr (Nat.le_trans I.sz ha))
/-- what the written part says of super() in the class D -/
structure SupD (P : Program) (K : PySem.W.Frag) (cc D : Addr) : Prop where
  cell : ∃ cl cld csl, K.lookup cc = some ⟨cl, cld, .cell (some (.ref D)), csl⟩
  is : ∃ cdD, PySem.W.clsIn K D = some cdD
  mro : PySem.W.mroIn K D (.ref D) = some true
  sup : PySem.W.ks_superIn K D D "__init__" = some (some (.builtin "ValueError.__init__"))
  sub : PySem.W.subIn K (.ref D) (.type "ValueError") = some true
  opq : PySem.W.nsIn K cStatics "thirdparty.any" = some none
  top : (P.main.scope.names.lookup ("super" : Str)).isSome = false
/-- the reading of super().__init__(e): nothing of it is told -/
def tSup (K : PySem.W.Frag) (D : Addr) (ta : TA) : TS := fun En σ H => ∃ a : Addr, σ[0]? = some (some (.ref a)) ∧ H a = some (exo a D none) ∧ ta σ H fun vs H1 => vs.length ≤ 1000 ∧ H1 a = some (exo a D none) ∧ OexC K D ∧ En.nx σ H1
section
variable {X : Cx} {cc D : Addr}
open PySem.W in
/-- the call of the wrapper -/
theorem call_mw {pins : List (Addr × Obj)} {σ : L2.St} {H : Hp} {s : Shared} {E : Value → Shared → Prop} {Q : Value → Shared → Prop} {u a : Addr} {us : List Value} (T : OexC X.K D) (I : Inv X pins σ H s) (hu : s.heap.get? u = some (kxs_mw "ValueError.__init__" a)) (e : H a = some (exo a D none)) (hl : us.length ≤ sizeLine)
    (h : ∀ s', Inv X pins σ H s' → Q .none s') : wpAny (model X.prog X.w) X.A (call (.ref u) us) Q E s := by
  obtain ⟨nm, q, N, bs, bm, sn, sub, ab, col, dd, k0, k1, k2, k3, k5, hC, hbm⟩ := T.cls
  obtain ⟨t1, ho⟩ := exo_at I.hok e
  have hC' := I.kIn _ _ hC
  have fin : ∀ (h' : Heap) (t2 : Addr), (∀ b o, b ≠ a → s.heap.get? b = some o → h'.get? b = some o) → h'.get? a = some (excObj D t2 none .none) → Q .none { s with heap := h' } := fun h' t2 k hx => by
    have J := I.write (t' := s.toks) (x := a) (e := a) (o := exo a D none) (by rw [e]; exact True.intro) (.inl rfl) k ⟨_, hx⟩ (exo_ok hx)
    have eu : upd H a (exo a D none) = H := by
      funext b
      by_cases hb : b = a
      · rw [hb, upd_same, e]
      · rw [upd_ne hb]
    rw [eu] at J
    exact h _ J
  obtain ⟨hh, g, d, tk, os⟩ := s
  refine wpAny_call (codeAny_of_tree ?_)
  show wpAny _ X.A.in1 (callAny (.ref u) ⟨us, []⟩) _ _ _
  simp only [callAny]
  refine wpAny_bind (wpAny_load hu ?_)
  simp only [kxs_mw, show (Value.type "method-wrapper" == Value.type "method" || Value.type "method-wrapper" == Value.type "builtin_function_or_method" || Value.type "method-wrapper" == Value.type "method-wrapper") = true by decide, if_true]
  refine KFB.if_so (by decide) ?_
  refine wpAny_bind (check_bound_init PySem.F.excBase_ValueError.toExcCallFacts hC' ho rfl ?_)
  refine wpAny_bind (wpAny_pure (wpAny_pure ?_))
  refine ⟨plainId_quiet PySem.F.excBase_ValueError.init.plain _, codeAny_builtin PySem.F.excBase_ValueError.initEntry ?_⟩
  exact exc_init_tree (cls := .ref D) (t0 := t1) (dv := none) (c2 := .none) (c3 := .none) (b4 := .bool false) ho hl fun h' k hx _ => fin h' _ k hx

/-- super().__init__(e) as the first statement of the def's body -/
theorem at_sup {pins : List (Addr × Obj)} {σ : L2.St} {H : Hp} {s : Shared} {En : Ends} {body : List Stmt} {f cd : Addr} {fo : Obj} {fd : FuncData} {ar : Arg} {e : Expr} {ta : TA} {p0 p1 p2 p3 p4 : Pos} {pl : Sem Bool} {file : Str} {vs : Array Value} {tf : Tok} {lf : Obj} {R : Flow → Shared → Prop}
    (Z : SupD X.prog X.K cc D) (hfu : X.env.func = some f) (lk : X.K.lookup f = some fo) (hfd : fo.data = .func fd) (hp : (fd.params.posonlyargs ++ fd.params.args).head? = some ar) (hco : X.env.code = .ref cd) (lc : X.K.lookup cd = some lf) (hlf : lf.data = .fields vs) (hv2 : vs[2]? = some (.str file tf)) (hfile : ((X.prog.main.file : Str) == file) = true)
    (hcl : X.env.cells.lookup ("__class__" : Str) = some cc) (hks : X.env.kindOf ("super" : Str) = some .globalImplicit) (hkc : X.env.kindOf ("__class__" : Str) = some .free) (hm : X.mg ("super" : Str) = none) (hN : X.N[0]? = some ar.arg) (hka : X.env.scope.names.lookup ar.arg = some .local)
    (ha : PA X [e] ta) (hint : interactive X.env = false) (I : Inv X pins σ H s) (h : tSup X.K D ta En σ H) (hR : ∀ s', SP X pins En .next s' → R .next s')
    (hs : swapsWith (.Call (.Attribute (.Call (.Name "super" p0) [] [] p1) "__init__" p2) [e] [] p3) none p4.line X.env = pure false := by rfl)
    (he : starEach [e] X.env = (false, eval e X.env) :: starEach [] X.env := by rfl)
    (hev : eval (.Call (.Attribute (.Call (.Name "super" p0) [] [] p1) "__init__" p2) [e] [] p3) X.env = (do
      let ov ← attributeBase (.Call (.Name "super" p0) [] [] p1) "__init__" X.env (eval (.Call (.Name "super" p0) [] [] p1) X.env)
      standAt p2.atName
      let (f, first) ← holding [ov] (getMethod ov "__init__" pl)
      callWith p3 f first (backTo p3 (starEach [e] X.env)) []) := by rfl) :
    _root_.PySem.wpAt (model X.prog X.w) X.A (.func body X.env) (exec (.Expr (.Call (.Attribute (.Call (.Name "super" p0) [] [] p1) "__init__" p2) [e] [] p3) p4) X.env) R X.xe s := by
  obtain ⟨a, hσ, h⟩ := h
  obtain ⟨cl, cld, csl, hcell⟩ := Z.cell
  obtain ⟨cdD, hD⟩ := Z.is
  have KI := I.kIn
  obtain ⟨oD, hD1, hD2⟩ : ∃ oD, s.heap.get? D = some oD ∧ oD.data = .cls cdD := by
    unfold PySem.W.clsIn at hD
    split at hD
    · rename_i c d cd' sl ho
      cases hD
      exact ⟨_, KI _ _ ho, rfl⟩
    · cases hD
  obtain ⟨m, hn, hl⟩ := I.loc
  obtain ⟨u, ru, hlook⟩ := hl 0 ar.arg (.ref a) hN hσ (.inl hka)
  obtain rfl : u = Value.ref a := ru
  have hma : m ar.arg = some (.ref a) := by
    rcases hlook with ⟨_, z⟩ | ⟨z, _⟩
    · exact z
    · have z' : X.env.scope.names.lookup ar.arg = some .cell ∨ X.env.scope.names.lookup ar.arg = some .free := z
      rw [hka] at z'
      rcases z' with z' | z' <;> cases z'
  refine ks_wpAt_Expr_any (ks_wpAt_MethodCall (pl := pl) ?_ hev) hint hs
  refine ks_wpAt_super_base (f := f) (cc := cd) hks hkc (by decide) hfu (KI _ _ lk) hfd hp hco (KI _ _ lc) hlf hv2 hfile Z.top ?_
  obtain ⟨mb, h1, h2⟩ := I.mod.blt
  refine PySem.W.ks_loadName_global I.ok.kind hks (Calls.loadGlobal_builtin (by rw [I.ok.glob]; exact I.mod.glob.keeps I.bk) hm (by rw [I.ok.blt]; exact h1.keeps I.bk) ((h2 "super" (by decide)).trans PyProof.Rows.Boot.«super») ⟨rfl, ?_⟩)
  refine wpAny_loadName_free I.ok.kind hkc hcl ⟨_, KI _ _ hcell, rfl⟩ ?_
  refine wpAny_loadName_local I.ok.kind hka hn hma ?_
  refine ks_wpAny_isType_cls hD1 hD2 ⟨rfl, ?_⟩
  obtain ⟨t1, ho⟩ := exo_at I.hok h.1
  have hta := h.2
  have hsup := Z.sup
  unfold PySem.W.ks_superIn at hsup
  rw [hD] at hsup
  obtain ⟨hh, g, d, tk, os⟩ := s
  refine ks_wpAny_call_super hD1 hD2 ho rfl (fun c z => nomatch z) (PySem.W.looks_mroIn KI Z.mro) (fun h' eso k => ?_)
  have I1 : Inv X pins σ H ⟨h', g, d, tk, os⟩ := I.kept (t' := tk) k
  have IA : PySem.W.InstAt h' a { cls := .ref D, dict := none, data := .fields #[.ref t1, .none, .none, .none, .bool false, .none] } D none := ⟨k _ _ ho, rfl, rfl, True.intro⟩
  refine PySem.W.kxs_getMethod PySem.W.kxs_ValueError eso (PySem.W.looks_opaque I1.kIn Z.opq) (l₀ := cdD.mro) (fun A Q E s k q => wpAny_bind ((PySem.W.looks_clsIn I1.kIn hD) A _ E s k (wpAny_pure q))) rfl I1.kIn hsup (IA.type.andThen (PySem.W.looks_subIn I1.kIn Z.sub)) (PySem.W.ks_ne I1.kIn IA hD) (by decide) ?_
  have I2 := inv_pinNew (t' := tk + 1) (o := PySem.W.kxs_mw "ValueError.__init__" a) (a := h'.objs.size) (h' := h'.push (PySem.W.kxs_mw "ValueError.__init__" a)) I1 (fun b o e => Heap.get?_push_of_some _ e) (Nat.le_refl _) (Heap.get?_push_size _ rfl) (fun v z => nomatch z)
  refine PySem.W.kxs_callWith (i := "ValueError.__init__") (x := a) (by rw [he]; rfl) ?_
  have hrun := ha.run p3 _ _ σ H _ I2 hta
  rw [he] at hrun ⊢
  refine Calls.evalArgs_plain (thn hrun fun us s1 ⟨vs1, H1, I3, r1, hlen, ea, T, q⟩ => ?_)
  have hpin := (I3.pin (h'.objs.size, PySem.W.kxs_mw "ValueError.__init__" a) (List.mem_append_right _ (List.mem_append_right _ (List.mem_singleton.mpr rfl)))).1
  refine ⟨hpin, call_mw T I3 hpin ea ?_ fun s' J => hR s' ⟨σ, H1, J.unpinned, q⟩⟩
  rw [List.nil_append, ← Paired.length r1, sizeLine_eq]
  omega
end
open PySem.W in
/-- THE RULE: a def whose first statement is super().__init__(e), by its body -/
theorem fn_sup {CX : CXT} {P : Program} {w : World} {K : PySem.W.Frag} {mg : Str → Option Value} {base : Heap} {k : Nat} {f cc D cd : Addr} {name qual : Str} {params : Arguments} {scope : Scope} {rest : List Stmt} {dV kV doc pm ct oc : Value} {an od : Option Addr}
    {osl : Array (Option Value)} {N ps : List Str} {sp : Sp} {ar : Arg} {lf : Obj} {vs0 : Array Value} {file : Str} {tf : Tok} {e : Expr} {p0 p1 p2 p3 p4 : Pos} {pl : Env → Sem Bool}
    (lk : K.lookup f = some ⟨oc, od, .func (fnX name qual params (.Expr (.Call (.Attribute (.Call (.Name "super" p0) [] [] p1) "__init__" p2) [e] [] p3) p4 :: rest) scope [("__class__", cc)] dV kV doc pm an (.ref cd) ct), osl⟩) (hcd : codeIn K (.ref cd) qual = true)
    (Z : SupD P K cc D) (S : NScope N ps ["__class__"] scope) (hp : (params.posonlyargs ++ params.args).head? = some ar) (lc : K.lookup cd = some lf) (hlf : lf.data = .fields vs0) (hv2 : vs0[2]? = some (.str file tf)) (hfile : ((P.main.file : Str) == file) = true)
    (hks : scope.names.lookup ("super" : Str) = some .globalImplicit) (hm : mg ("super" : Str) = none) (hN : N[0]? = some ar.arg) (hka : scope.names.lookup ar.arg = some .local)
    (len : ∀ vs H Q E, sp vs H Q E → vs.length = ps.length)
        (hev : ∀ env : Env, eval (.Call (.Attribute (.Call (.Name "super" p0) [] [] p1) "__init__" p2) [e] [] p3) env = (do
      let ov ← attributeBase (.Call (.Name "super" p0) [] [] p1) "__init__" env (eval (.Call (.Name "super" p0) [] [] p1) env)
      standAt p2.atName
      let (f, first) ← holding [ov] (getMethod ov "__init__" (pl env))
      callWith p3 f first (backTo p3 (starEach [e] env)) []))
    (hstar : ∀ env : Env, starEach [e] env = (false, eval e env) :: starEach [] env)
    (hbody : ∀ (A : Around) (outer : List Env) (s : Shared) (H : Hp) (vs : List V) (Q : VK) (E : XK), Room k (A.deeper (envF ⟨name, qual, params, .Expr (.Call (.Attribute (.Call (.Name "super" p0) [] [] p1) "__init__" p2) [e] [] p3) p4 :: rest, scope, [("__class__", cc)], cd⟩ f s.heap.objs.size)) → sp vs H Q E →
      ∃ ta t, PA (ncx CX P w K mg base N ⟨name, qual, params, .Expr (.Call (.Attribute (.Call (.Name "super" p0) [] [] p1) "__init__" p2) [e] [] p3) p4 :: rest, scope, [("__class__", cc)], cd⟩ f A outer s H E) [e] ta ∧
        PSs (ncx CX P w K mg base N ⟨name, qual, params, .Expr (.Call (.Attribute (.Call (.Name "super" p0) [] [] p1) "__init__" p2) [e] [] p3) p4 :: rest, scope, [("__class__", cc)], cd⟩ f A outer s H E) rest t ∧
        tSup K D ta { nx := t { nx := fun _ H' => Q .non H', rt := Q }, rt := fun _ _ => False } (startF N vs [none]) H) :
    FnOk P w K mg base CX (k + 1) f (fnX name qual params (.Expr (.Call (.Attribute (.Call (.Name "super" p0) [] [] p1) "__init__" p2) [e] [] p3) p4 :: rest) scope [("__class__", cc)] dV kV doc pm an (.ref cd) ct) ps sp := by
  refine ⟨len, fun A outer s H args us vs Q E hr e0 hb r hsp => ?_⟩
  have hl := len _ _ _ _ hsp
  have KX : K.In s.heap := e0.mod.kin.keeps fun b o e => (e0.bs b o e).1
  have lim : s.heap.NoLimit := e0.mod.nolimit.keeps fun b o e => (e0.bs b o e).1
  obtain ⟨cl, cld, csl, hcell⟩ := Z.cell
  have hbc := e0.bs _ _ (e0.mod.kin _ _ hcell)
  have look1 : ∀ {y : Str} {c : Addr}, List.lookup y [(("__class__" : Str), cc)] = some c → y = "__class__" ∧ c = cc := fun {y c} z => by
    rw [List.lookup_cons] at z
    split at z
    · rename_i q
      exact ⟨by simpa using q, (Option.some.inj z).symm⟩
    · cases z
  have C : CellsAt [(("__class__" : Str), cc)] ["__class__"] [none] s.heap H := ⟨rfl, fun y c z => by
      obtain ⟨_, rfl⟩ := look1 z
      exact ⟨hbc.2, _, _, hbc.1, rfl⟩, fun x y c z1 z2 => (look1 z1).1.trans (look1 z2).1.symm, fun i y z => by
      cases i with
      | zero =>
        cases z
        exact ⟨cc, rfl, fun v z => by cases z⟩
      | succ i => cases z⟩
  refine ks_codeAny_call_defAt (binds := ps.zip us) hr.depth (KX _ _ lk) rfl lim (codeRec_of KX hcd) rfl hb S.nocell (fun ⟨n, _⟩ hy => S.par n (List.of_mem_zip hy).1) (fun h₁ hns kp => ?_) S.co S.gen S.kind
  obtain ⟨ta, t, hta, ht, hq⟩ := hbody A outer s H vs Q E (hr.deeper _) hsp
  have I : Inv (ncx CX P w K mg base N ⟨name, qual, params, .Expr (.Call (.Attribute (.Call (.Name "super" p0) [] [] p1) "__init__" p2) [e] [] p3) p4 :: rest, scope, [("__class__", cc)], cd⟩ f A outer s H E) [] (startF N vs [none]) H { s with heap := h₁, toks := s.toks + (ps.zip us).length } := inv_startN S hr.hd e0 hl r C hns kp
  refine ks_wpAt_execs_cons ?_
  refine at_sup (X := ncx CX P w K mg base N ⟨name, qual, params, .Expr (.Call (.Attribute (.Call (.Name "super" p0) [] [] p1) "__init__" p2) [e] [] p3) p4 :: rest, scope, [("__class__", cc)], cd⟩ f A outer s H E) (En := { nx := t { nx := fun _ H' => Q .non H', rt := Q }, rt := fun _ _ => False }) (cc := cc) Z rfl lk rfl hp rfl lc hlf hv2 hfile rfl hks (S.frk _ (List.mem_singleton.mpr rfl)) hm hN hka hta (by unfold interactive; rw [show (Cx.env (ncx CX P w K mg base N ⟨name, qual, params, .Expr (.Call (.Attribute (.Call (.Name "super" p0) [] [] p1) "__init__" p2) [e] [] p3) p4 :: rest, scope, [("__class__", cc)], cd⟩ f A outer s H E)).scope.kind = .function from S.kind]; rfl) I hq (fun s' hs => ?_) rfl (hstar _) (hev _)
  obtain ⟨σ1, H1, I1, q1⟩ := hs
  refine wpAt_of_wpAny (wpAny_mono (ht.run [] _ σ1 H1 _ I1 q1) (fun fl s' hs => ?_) fun e s' hs => hs)
  have fin : ∀ {σ' : L2.St} {H' : Hp} {v : V} {u : Value}, Inv (ncx CX P w K mg base N ⟨name, qual, params, .Expr (.Call (.Attribute (.Call (.Name "super" p0) [] [] p1) "__init__" p2) [e] [] p3) p4 :: rest, scope, [("__class__", cc)], cd⟩ f A outer s H E) [] σ' H' s' → L2.RelV v u → Q v H' → CE outer P w H s Q u s' :=
    fun {σ' H' v u} J rv q => ⟨v, H', J.os, J.bare, J.base, J.hok, rv, q⟩
  cases fl with
  | ret u =>
    obtain ⟨v, σ', H', J, rv, q⟩ := hs
    exact fin J rv q
  | next =>
    obtain ⟨σ', H', J, q⟩ := hs
    exact fin (v := V.non) (u := Value.none) J rfl q
  | brk =>
    obtain ⟨_, _, _, q⟩ := hs
    exact False.elim q
  | cont =>
    obtain ⟨_, _, _, q⟩ := hs
    exact False.elim q
end SupX

/-! ClsV: an instance made of a class that a slot holds; o.m( *e), e a list or a tuple. -/
namespace ClsV
open PySem PySem.Spec PyProof.Rows L2
section
variable {X : Cx} {CX : CXT} {k i : Nat} {f C g : Addr} {fd : FuncData} {ps : List Str} {ds : List Value} {dvs : List V} {sp : Sp} {E : XK} {x m : Str} {p pos apos : Pos} {e o : Expr} {es : List Expr} {t : TA} {ta te : TE}
def tMakeV (i : Nat) (C : Addr) (sp : Sp) (dvs : List V) (E : XK) (t : TA) : TE := fun σ H Q => σ[i]? = some (some (.ref C)) ∧ tMake C sp dvs E t σ H Q
theorem pe_makeV (M : Mk X.K C f) (F : FnOk X.prog X.w X.K X.mg X.base CX k f fd ps sp) (hr : Room (k + 1) X.A) (hN : X.N[i]? = some x) (hv : Vis X.env.scope x) (hb : Binds X.K fd ps ds) (hd : Vals dvs ds) (hx : Passes CX X E)
    (ha : PA X (e :: es) t) (hdb : (x == ("__debug__" : Str)) = false := by decide) (hcd : (x == ("__classdict__" : Str)) = false := by decide) (he : starEach (e :: es) X.env = (false, eval e X.env) :: starEach es X.env := by rfl) (hpl : (backTo pos (starEach es X.env)).any (·.1) = false := by rfl) :
    PE X (.Call (.Name x p) (e :: es) [] pos) (tMakeV i C sp dvs E t) := by
  refine ⟨fun pins s σ H Q I h => ?_⟩
  obtain ⟨at_, h⟩ := h
  refine wpAny_Call_Name_kw (thn ((pe_var (pos := p) (i := i) hN hv hdb hcd).run pins s σ H (fun v H2 => v = .ref C ∧ H2 = H) I ⟨.ref C, at_, rfl, rfl⟩) fun u s2 ⟨v, H2, J, rv, qv⟩ => ?_)
  obtain ⟨ev, eH⟩ := qv
  subst ev
  rw [eH] at J
  obtain rfl : u = Value.ref C := rv
  refine PySem.W.callWith_K (h₀ := X.base) J.ok.mod.kin M.kp (thn (ha.run pos pins s2 σ H _ J h) fun us s1 ⟨vs, H1, I1, r, q⟩ => ⟨I1.kIn, ?_⟩) he hpl
  exact run_make M F hr hb hd hx I1 r q
def tMethSA (K : PySem.W.Frag) (C : Addr) (m : Str) (g : Addr) (sp : Sp) (E : XK) (ta te : TE) : TE := fun σ H Q => ta σ H fun x H1 => ∃ a dx fs, x = .ref a ∧ H1 a = some (.ins C dx fs) ∧ fs.lookup m = none ∧
  ∀ q, H1 q = none → te σ (upd H1 q (.met g a)) fun y H2 => ∃ b vs, y = .ref b ∧ (SqT K H2 b vs ∨ SqL K H2 b vs) ∧ H2 q = some (.met g a) ∧ sp (.ref a :: vs) H2 Q E
theorem pe_methSA (he : PE X o ta) (c : Cls X.K C) (b : BMeth X.K C m g) (F : FnR X.prog X.w X.K X.mg X.base CX k g sp) (hr : Room k X.A)
    (hx : Passes CX X E) (ha : PE X e te) (hbase : attributeBase o m X.env (eval o X.env) = eval o X.env := by rfl) : PE X (.Call (.Attribute o m apos) [.Starred e p] [] pos) (tMethSA X.K C m g sp E ta te) := by
  refine ⟨fun pins s σ H Q I h => ?_⟩
  refine starcall_of hbase (thn (he.run pins s σ H _ I h) fun u s1 ⟨x, H1, I1, rx, a, dx, fs, ex, ea, l, q⟩ => ?_)
  subst ex
  obtain rfl : u = Value.ref a := rx
  refine getbound_ok I1 ea c b l fun q1 s2 hq1 I2 => ?_
  refine PySem.W.ks_call (P := PySem.W.MethP X.K q1 g (.ref a)) rfl (PySem.W.keeps_M b.fi) (PySem.W.ks_lone ?_)
  refine thn (ha.run pins s2 σ _ _ I2 (q q1 hq1)) fun v s3 ⟨y, H2, I3, ry, t, vs, ey, ht, hm, hsp⟩ => ?_
  subst ey
  obtain rfl : v = Value.ref t := ry
  refine StX.star_any I3 ht fun us s4 I4 rv => ⟨met_P I4 hm, ?_⟩
  exact wpAny_call (PySem.W.method_call (met_P I4 hm).1 (run_fnR (us := Value.ref a :: us) (vs := V.ref a :: vs) F hr hx I4 (.cons rfl rv) hsp))
end
end ClsV

/-! FmtS: {e:>N}, {e:>N,} of ints and texts in an f-string. -/
namespace FmtS
open PySem PySem.Spec PyProof.Rows L2 PySem.Builtin PySem.Builtin.Str PySem.Builtin.Int PySem.Builtin.Float
def spec (w : Nat) (g : Bool) : FormatSpec := { align := 62, width := some w, grouping := if g then some ',' else none }
theorem gives_cut_int {a : Int} {t : Tok} {k : String → Sem PySem.Fin} {m : Made} (g : ∀ n, Gives (k n) m) : Gives (do let n ← typeNameOfCut 200 (.int a t); k n) m := by
  intro prog w A R s hm
  exact wpAny_bind (wpAny_typeNameOfCut_int (g "int" prog w A R s hm))
theorem gives_cut_str {a : PySem.Str} {t : Tok} {k : String → Sem PySem.Fin} {m : Made} (g : ∀ n, Gives (k n) m) : Gives (do let n ← typeNameOfCut 200 (.str a t); k n) m := by
  intro prog w A R s hm
  exact wpAny_bind (W.KXf.cut_str (g "str" prog w A R s hm))
def digs (a : Int) : List Nat := List.map (fun c => c.toNat) (Nat.toDigits 10 a.natAbs)
def sgn (a : Int) : List Nat := if decide (a < 0) = true then [45] else []
def grp := groupsFromRight'
def dsOf (g : Bool) (a : Int) : List Nat :=
  if (digs a).isEmpty = true then [] else if g then grp 3 44 ((digs a).length + 0 + 1) (digs a).reverse 0 [] else digs a
def fldR (w : Nat) (sg ds : List Nat) : PySem.Str := ⟨(List.replicate ((w : Int) - (sg.length : Int) - (ds.length : Int)).toNat 32 ++ sg ++ ds).toArray⟩
theorem grp_of {f : Nat → Nat → Nat → List Nat → Int → List Nat → List Nat} (h0 : ∀ a b d r o, f a b 0 d r o = o)
    (h1 : ∀ size sep turns digits (room : Int) out, f size sep (turns + 1) digits room out =
      if ((List.drop (min size (max (max (digits.length : Int) room) 1).toNat) digits).isEmpty && decide (room - (min size (max (max (digits.length : Int) room) 1).toNat : Nat) ≤ 0)) = true
        then List.replicate ((min size (max (max (digits.length : Int) room) 1).toNat) - digits.length) 48 ++ (List.take (min size (max (max (digits.length : Int) room) 1).toNat) digits).reverse ++ out
        else f size sep turns (List.drop (min size (max (max (digits.length : Int) room) 1).toNat) digits) (room - (min size (max (max (digits.length : Int) room) 1).toNat : Nat) - 1)
          (sep :: (List.replicate ((min size (max (max (digits.length : Int) room) 1).toNat) - digits.length) 48 ++ (List.take (min size (max (max (digits.length : Int) room) 1).toNat) digits).reverse ++ out))) :
    ∀ a b n d r o, f a b n d r o = grp a b n d r o := by
  intro a b n
  induction n with
  | zero => intro d r o; rw [h0]; rfl
  | succ n ih =>
    intro d r o
    rw [h1, ih]
    rfl
theorem gives_of_fld {w : Nat} {g : Bool} {a : Int} {ds : List Nat} {t : Sem PySem.Fin} (e : t = retStr (fldR w (sgn a) ds)) (h : ds = dsOf g a) : Gives t (.str (fldR w (sgn a) (dsOf g a))) := by
  subst h
  exact .of_eq e
theorem fld_eq {w : Nat} {sg ds : List Nat} {l : List Nat} (h : l = List.replicate ((w : Int) - ((sg.length : Int) + 0 + 0) - (ds.length : Int)).toNat 32 ++ sg ++ [] ++ List.replicate 0 32 ++ ds ++ [] ++ List.replicate 0 32) :
    (⟨l.toArray⟩ : PySem.Str) = fldR w sg ds := by
  subst h
  unfold fldR
  simp
theorem gives_int_fmt (sp : PySem.Str) (w : Nat) (g : Bool) (a : Int) (t u : Tok) (h : a.natAbs.log2 < 1920) (hw : w ≤ 1000) (hne : (sp.length == 0) = false)
    (ha : ((sp.cps.toList.drop 1).any (fun c => decide (c ≥ 128)) || (decide (sp.cps.getD 0 0 ≥ 128) && !([60, 62, 61, 94] : List Nat).contains (sp.cps.getD 1 0))) = false) (hb : (sp.cps.back? == some 0) = false)
    (hp : ∀ name, parseFormatSpec sp.cps.toList name 62 = .ok (spec w g)) :
    Gives («int.__format__» ⟨[.int a t, .str sp u], []⟩) (.str (fldR w (sgn a) (dsOf g a))) := by
  show Gives (do let _kind ← typeNameOf (.str sp u); _) _
  refine gives_after_typeNameOf (T := "str") (fun s => typeIs_str s _ _) (by decide) fun _ => ?_
  show Gives (if (sp.length == 0) = true then _ else _) _
  rw [hne]
  show Gives (if ((sp.cps.toList.drop 1).any (fun c => decide (c ≥ 128)) || (decide (sp.cps.getD 0 0 ≥ 128) && !([60, 62, 61, 94] : List Nat).contains (sp.cps.getD 1 0))) = true then _ else _) _
  rw [ha]
  refine gives_cut_int fun name => ?_
  rw [hp name]
  have hb' : (if (sp.cps.back? == some 0) = true then (0 : Nat) else 100) = 100 := by rw [hb]; rfl
  dsimp only
  rw [hb']
  show Gives (do let r ← overDigitLimit? a; _) _
  rw [PySem.overDigitLimit_small h]
  show Gives (if w > 100000 then _ else _) _
  rw [if_neg (show ¬ w > 100000 by omega)]
  cases g
  all_goals
    apply gives_of_fld
    · apply congrArg retStr
      conv => lhs; whnf
      have c1 : ((spec w true).fill == 48 && (spec w true).align == 61) = false := rfl
      have c2 : ((spec w true).type.getD 100 == 88) = ((100 : Nat) == 88) := rfl
      have c3 : ((spec w false).fill == 48 && (spec w false).align == 61) = false := rfl
      have c4 : ((spec w false).type.getD 100 == 88) = ((100 : Nat) == 88) := rfl
      have c5 : ((10 : Nat) == 10) = true := rfl
      simp only [c1, c2, c3, c4, c5]
      dsimp only [spec]
      simp only [Bool.false_eq_true, if_false, if_true]
      exact fld_eq rfl
    · first
        | (show ite _ _ _ = ite _ _ _
           congr 1
           exact grp_of (fun _ _ _ _ _ => rfl) (fun _ _ _ _ _ _ => rfl) 3 44 _ _ _ _)
        | (show ite _ _ _ = ite _ _ _
           congr 1
           simp <;> rfl)

theorem retSame {x : PySem.Str} {t : Tok} : Gives (ret (.str x t)) (.val (.str x t)) := .of_eq rfl
theorem gives_str_fmt (sp : PySem.Str) (w : Nat) (x : PySem.Str) (t u : Tok) (hx : x.length < w) (hw : w ≤ 1000) (hne : (sp.length == 0) = false)
    (ha : ((sp.cps.toList.drop 1).any (fun c => decide (c ≥ 128)) || (decide (sp.cps.getD 0 0 ≥ 128) && !([60, 62, 61, 94] : List Nat).contains (sp.cps.getD 1 0))) = false) (hb : (sp.cps.back? == some 0) = false)
    (hp : ∀ name, parseFormatSpec sp.cps.toList name 60 = .ok (spec w false)) :
    Gives («str.__format__» ⟨[.str x t, .str sp u], []⟩) (.str (padded x (w - x.length) 0 32)) := by
  show Gives (do let _kind ← typeNameOf (.str sp u); _) _
  refine gives_after_typeNameOf (T := "str") (fun s => typeIs_str s _ _) (by decide) fun _ => ?_
  show Gives (if (sp.length == 0) = true then _ else _) _
  rw [hne]
  show Gives (if ((sp.cps.toList.drop 1).any (fun c => decide (c ≥ 128)) || (decide (sp.cps.getD 0 0 ≥ 128) && !([60, 62, 61, 94] : List Nat).contains (sp.cps.getD 1 0))) = true then _ else _) _
  rw [ha]
  refine gives_cut_str fun name => ?_
  rw [hp name]
  have ht : tooLong w = false := by
    unfold tooLong
    have : 1000 ≤ sizeLine := by decide
    exact decide_eq_false (by omega)
  have h0 : strSub x 0 x.length = x := by
    unfold strSub
    show (⟨x.cps.extract 0 x.cps.size⟩ : PySem.Str) = x
    rw [Array.extract_size]
  have hs : strField x (spec w false) name = .ok (some (padded x (w - x.length) 0 32)) := by
    show (if (decide (w ≤ x.length) && true) = true then (pure none : Except String (Option PySem.Str)) else pure (some (padded (strSub x 0 x.length) (w - (strSub x 0 x.length).length) (w - (strSub x 0 x.length).length - (w - (strSub x 0 x.length).length)) 32))) = _
    rw [h0, if_neg (by simp; omega), Nat.sub_self]
    rfl
  have hc : ∀ f : FormatSpec, (if ((spec w false).type.isNone && sp.cps.back? == some 0) = true then f else spec w false) = spec w false := fun f => by rw [hb, Bool.and_false]; rfl
  have e : (do
      let f ← (Except.ok (spec w false) : Except String FormatSpec)
      if tooLong ((if (f.type.isNone && sp.cps.back? == some 0) = true then { f with type := some 0 } else f).width.getD 0) = true then pure none
      else do
        let r ← strField x (if (f.type.isNone && sp.cps.back? == some 0) = true then { f with type := some 0 } else f) name
        pure (some r)) = (Except.ok (some (some (padded x (w - x.length) 0 32))) : Except String (Option (Option PySem.Str))) := by
    show (if tooLong ((if ((spec w false).type.isNone && sp.cps.back? == some 0) = true then { (spec w false) with type := some 0 } else spec w false).width.getD 0) = true then (pure none : Except String (Option (Option PySem.Str))) else do
        let r ← strField x (if ((spec w false).type.isNone && sp.cps.back? == some 0) = true then { (spec w false) with type := some 0 } else spec w false) name
        pure (some r)) = _
    rw [hc]
    show (if tooLong w = true then (pure none : Except String (Option (Option PySem.Str))) else _) = _
    rw [ht, hs]
    rfl
  dsimp only at e ⊢
  rw [e]
  exact .of_eq rfl
def SpecOk (sp : PySem.Str) (w : Nat) (g : Bool) (al : Nat) : Prop :=
  (sp.length == 0) = false ∧ w ≤ 1000 ∧ ((sp.cps.toList.drop 1).any (fun c => decide (c ≥ 128)) || (decide (sp.cps.getD 0 0 ≥ 128) && !([60, 62, 61, 94] : List Nat).contains (sp.cps.getD 1 0))) = false ∧
  (sp.cps.back? == some 0) = false ∧ ∀ name, parseFormatSpec sp.cps.toList name al = .ok (spec w g)
theorem spec2 : SpecOk (Str.ofString ">2") 2 false 62 := ⟨by decide +kernel, by decide, by decide +kernel, by decide +kernel, fun _ => rfl⟩
theorem spec13 : SpecOk (Str.ofString ">13,") 13 true 62 := ⟨by decide +kernel, by decide, by decide +kernel, by decide +kernel, fun _ => rfl⟩
theorem spec3 : SpecOk (Str.ofString ">3") 3 false 62 := ⟨by decide +kernel, by decide, by decide +kernel, by decide +kernel, fun _ => rfl⟩
theorem spec3s : SpecOk (Str.ofString ">3") 3 false 60 := ⟨by decide +kernel, by decide, by decide +kernel, by decide +kernel, fun _ => rfl⟩
def FmtOf (sp : PySem.Str) (v : V) (y : PySem.Str) : Prop :=
  (∃ (a : Int) (w : Nat) (g : Bool), v = .int a ∧ a.natAbs.log2 < 1920 ∧ SpecOk sp w g 62 ∧ y = fldR w (sgn a) (dsOf g a)) ∨
    ∃ (x : PySem.Str) (w : Nat), v = .str x ∧ x.length < w ∧ SpecOk sp w false 60 ∧ y = padded x (w - x.length) 0 32
def tFmtS (sp : PySem.Str) (te : TE) : TE := fun σ H Q => te σ H fun v H1 => ∃ y, FmtOf sp v y ∧ y.length ≤ sizeLine ∧ Q (.str y) H1
theorem pe_fmtS {X : Cx} {e spe : Expr} {te : TE} {sp : PySem.Str} {pos : Pos} (he : PE X e te) (hs : PE X spe (tC (V.str sp))) (hz : sp.length ≤ sizeLine) :
    PE X (.FormattedValue e (-1) (some spe) pos) (tFmtS sp te) := ⟨by
  intro pins s σ H Q I h
  refine wpAny_FormattedValue_spec (thn (he.run pins s σ H _ I h) fun u s1 ⟨x, H1, I1, r1, y, f, hy, q⟩ => thn (hs.run pins s1 σ H1 (fun z H2 => z = .str sp ∧ H2 = H1) I1 ⟨rfl, rfl⟩) fun v s2 ⟨z, H2, I2, r2, e1, e2⟩ => ?_)
  subst e1 e2
  obtain ⟨t, rfl⟩ := r2
  rcases f with ⟨a, w, g, rfl, hl, ⟨h1, h2, h3, h4, h5⟩, rfl⟩ | ⟨x, w, rfl, hl, ⟨h1, h2, h3, h4, h5⟩, rfl⟩
  · obtain ⟨t1, rfl⟩ := r1
    exact ⟨sp, t, rfl, wpAny_formatField_spec (T := "int") h1 (fun s' => typeIs_int s' _ _) F.slot_int_format F.entry_int_format F.args_int_format_2 (fun u => gives_int_fmt sp w g a _ u hl h2 h1 h3 h4 h5)
      ⟨.str _, H2, I2.kept (t' := _) fun _ _ z => z, ⟨_, rfl⟩, q⟩ hz hy⟩
  · obtain ⟨t1, rfl⟩ := r1
    exact ⟨sp, t, rfl, wpAny_formatField_spec (T := "str") h1 (fun s' => typeIs_str s' _ _) F.slot_str_format F.entry_str_format F.args_str_format_2 (fun u => gives_str_fmt sp w x _ u hl h2 h1 h3 h4 h5)
      ⟨.str _, H2, I2.kept (t' := _) fun _ _ z => z, ⟨_, rfl⟩, q⟩ hz hy⟩⟩
def rSMul : R2 := fun x y H Q => ∃ (z : PySem.Str) (i : Int), x = .str z ∧ y = .int i ∧ MulOk z i ∧ Q (.str (Txt.mul z i)) H
theorem op_smul {X : Cx} : OpR X (binaryOp .Mult) rSMul := by
  intro pins s σ H x y v u Q I rx ry h
  obtain ⟨z, i, rfl, rfl, ok, q⟩ := h
  obtain ⟨t1, rfl⟩ := rx
  obtain ⟨t2, rfl⟩ := ry
  exact SB.mul ok fun t' k => ⟨.str _, H, I.kept (t' := k) fun _ _ z => z, ⟨_, rfl⟩, q⟩
end FmtS

/-! TxtG: numbers with commas, fields of a line. -/
namespace TxtG
open PySem PySem.Spec PyProof.Rows L2 FmtS PySem.Builtin.Str
def T (l : List Nat) : PySem.Str := ⟨l.toArray⟩
theorem T_app (a b : List Nat) : T a ++ T b = T (a ++ b) := by
  show (⟨a.toArray ++ b.toArray⟩ : PySem.Str) = ⟨(a ++ b).toArray⟩
  simp
theorem T_len (a : List Nat) : (T a).length = a.length := by
  show a.toArray.size = _
  simp
theorem T_nil : PySem.Str.empty = T [] := rfl
theorem T_of (z : PySem.Str) : z = T z.cps.toList := by
  cases z
  rfl
theorem T_str (m : Nat) : PySem.Str.ofString (toString (m : Int)) = T (digs (m : Int)) := by
  rw [T_of (PySem.Str.ofString (toString (m : Int))), W.KIN.signs_num]
  rfl
theorem digs_ne (a : Int) : digs a ≠ [] := by
  unfold digs
  intro z
  have := List.map_eq_nil_iff.mp z
  have h2 : (Nat.toDigits 10 a.natAbs).length ≠ 0 := by
    have := @Nat.length_toDigits_pos 10 a.natAbs
    omega
  exact h2 (by rw [this]; rfl)
theorem digs_len {a : Int} (h : 0 ≤ a) (h2 : a < 10 ^ 10) : (digs a).length ≤ 10 := by
  unfold digs
  rw [List.length_map]
  exact W.KXf.digits_le h h2
def com : Nat → List Nat → List Nat → List Nat
  | 0, w, o => w ++ o
  | n + 1, w, o => if w.length ≤ 3 then w ++ o else com n (w.take (w.length - 3)) (44 :: (w.drop (w.length - 3) ++ o))
theorem com_len : ∀ n w o, (com n w o).length ≤ w.length + o.length + n
  | 0, w, o => by simp [com]
  | n + 1, w, o => by
    unfold com
    split
    · simp
    · have := com_len n (w.take (w.length - 3)) (44 :: (w.drop (w.length - 3) ++ o))
      simp at this
      omega
theorem grp_succ (n : Nat) (d : List Nat) (room : Int) (o : List Nat) : grp 3 44 (n + 1) d room o =
    if ((List.drop (min 3 (max (max (d.length : Int) room) 1).toNat) d).isEmpty && decide (room - (min 3 (max (max (d.length : Int) room) 1).toNat : Nat) ≤ 0)) = true
      then List.replicate ((min 3 (max (max (d.length : Int) room) 1).toNat) - d.length) 48 ++ (List.take (min 3 (max (max (d.length : Int) room) 1).toNat) d).reverse ++ o
      else grp 3 44 n (List.drop (min 3 (max (max (d.length : Int) room) 1).toNat) d) (room - (min 3 (max (max (d.length : Int) room) 1).toNat : Nat) - 1)
        (44 :: (List.replicate ((min 3 (max (max (d.length : Int) room) 1).toNat) - d.length) 48 ++ (List.take (min 3 (max (max (d.length : Int) room) 1).toNat) d).reverse ++ o)) := rfl
theorem grp_com : ∀ n w (room : Int) o, w ≠ [] → room ≤ 0 → w.length ≤ n → grp 3 44 n w.reverse room o = com n w o
  | 0, w, _, _, h, _, l => absurd (List.length_eq_zero_iff.mp (by omega)) h
  | n + 1, w, room, o, h, hr, l => by
    have h1 : 1 ≤ w.length := List.length_pos_iff.mpr h
    rw [grp_succ]
    have e : min 3 (max (max (w.reverse.length : Int) room) 1).toNat = min 3 w.length := by
      rw [List.length_reverse]
      omega
    rw [e]
    unfold com
    by_cases h3 : w.length ≤ 3
    · rw [if_pos h3]
      have e2 : min 3 w.length = w.length := by omega
      rw [e2, if_pos ?_]
      · rw [List.length_reverse, Nat.sub_self, List.take_of_length_le (by rw [List.length_reverse]; omega), List.reverse_reverse]
        rfl
      · rw [List.drop_eq_nil_of_le (by rw [List.length_reverse]; omega)]
        rw [Bool.and_eq_true]
        exact ⟨rfl, decide_eq_true (by omega)⟩
    · rw [if_neg h3]
      have e2 : min 3 w.length = 3 := by omega
      rw [e2, if_neg ?_]
      · have d1 : List.drop 3 w.reverse = (w.take (w.length - 3)).reverse := by rw [List.drop_reverse]
        have d2 : (List.take 3 w.reverse).reverse = w.drop (w.length - 3) := by rw [List.take_reverse, List.reverse_reverse]
        have d3 : 3 - w.reverse.length = 0 := by rw [List.length_reverse]; omega
        rw [d1, d2, d3, grp_com n _ _ _ ?_ (by omega) ?_]
        · rfl
        · intro z
          have := congrArg List.length z
          rw [List.length_take] at this
          simp at this
          omega
        · rw [List.length_take]
          omega
      · rw [Bool.and_eq_true]
        intro z
        have := List.isEmpty_iff.mp z.1
        have := congrArg List.length this
        rw [List.length_drop, List.length_reverse] at this
        simp at this
        omega
/-- a number with commas -/
def comT (a : Int) : List Nat := com ((digs a).length + 1) (digs a) []
theorem dsOf_com (a : Int) : dsOf true a = comT a := by
  unfold dsOf comT
  rw [if_neg (fun z => digs_ne a (List.isEmpty_iff.mp z)), if_pos rfl]
  exact grp_com _ _ _ _ (digs_ne a) (Int.le_refl 0) (by omega)
theorem dsOf_plain (a : Int) : dsOf false a = digs a := by
  unfold dsOf
  rw [if_neg (fun z => digs_ne a (List.isEmpty_iff.mp z)), if_neg Bool.false_ne_true]
theorem comT_len {a : Int} (h : 0 ≤ a) (h2 : a < 10 ^ 10) : (comT a).length ≤ 21 := by
  have := com_len ((digs a).length + 1) (digs a) []
  have := digs_len h h2
  unfold comT
  simp at *
  omega
def fillL (w : Nat) (l : List Nat) : List Nat := List.replicate ((w : Int) - (l.length : Int)).toNat 32 ++ l
theorem fillL_len (w : Nat) (l : List Nat) : (fillL w l).length ≤ w + l.length := by
  unfold fillL
  simp
theorem fld_fill (w : Nat) {a : Int} (h : 0 ≤ a) (g : Bool) : fldR w (sgn a) (dsOf g a) = T (fillL w (dsOf g a)) := by
  have e : sgn a = [] := by
    unfold sgn
    rw [if_neg]
    simp
    omega
  rw [e]
  unfold fldR fillL T
  simp
theorem padded_fill (w : Nat) (l : List Nat) : padded (T l) (w - (T l).length) 0 32 = T (fillL w l) := by
  rw [T_len]
  unfold padded T fillL
  have : ((w : Int) - (l.length : Int)).toNat = w - l.length := by omega
  rw [this]
  simp
theorem mul_sp (n : Int) : Txt.mul (T [32]) n = T (List.replicate n.toNat 32) := by
  unfold Txt.mul
  split
  · have : n.toNat = 0 := by omega
    rw [this]
    rfl
  · split
    · rename_i h1 h2
      have : n = 1 := by
        have h2 : (n == 1 || (1 : Nat) == 0) = true := h2
        simp at h2
        exact h2
      subst this
      rfl
    · rename_i h1 h2
      generalize n.toNat = m
      have : ∀ (m : Nat) (a : List Nat), (List.foldl (fun x1 x2 => x1 ++ x2) a.toArray (List.replicate m (T [32]).cps)) = (a ++ List.replicate m 32).toArray := by
        intro m
        induction m with
        | zero => intro a; simp
        | succ m ih =>
          intro a
          rw [List.replicate_succ, List.foldl_cons]
          have : a.toArray ++ (T [32]).cps = (a ++ [32]).toArray := by unfold T; simp
          rw [this, ih]
          rw [List.replicate_succ]
          simp
      exact congrArg PySem.Str.mk (this m [])
theorem mul_ok {n : Int} (h : -1000 ≤ n) (h2 : n ≤ 1000) : MulOk (T [32]) n := by
  refine ⟨?_, fun h3 _ => ?_, fun h3 _ => ?_⟩
  · rw [Bool.or_eq_false_iff]
    exact ⟨decide_eq_false (by omega), decide_eq_false (by omega)⟩
  · have e : (((T [32]).length : Nat) : Int) = 1 := rfl
    rw [e]
    have : 1 ≤ (2 ^ 63 - 1) / n := (Int.le_ediv_iff_mul_le (by omega)).mpr (by omega)
    omega
  · have e : (T [32]).length = 1 := rfl
    rw [e]
    unfold tooLong
    have : 1000 ≤ sizeLine := by decide
    exact decide_eq_false (by omega)
theorem cut_tail (l : List Nat) (h : 3 < l.length) : cutS (T l) (some (-3)) none = T (l.drop (l.length - 3)) := by
  have e : HT.sIx l.length 0 (some (-3)) = l.length - 3 := by
    show (if (-3 : Int) < 0 then ((-3 : Int) + (l.length : Int)).toNat else min (-3 : Int).toNat l.length) = _
    rw [if_pos (by decide)]
    omega
  have e2 : HT.sIx l.length l.length none = l.length := rfl
  unfold cutS
  show (⟨_⟩ : PySem.Str) = ⟨_⟩
  rw [T_len, e, e2]
  show (⟨(List.take _ (List.drop _ l)).toArray⟩ : PySem.Str) = _
  rw [List.take_of_length_le (by rw [List.length_drop]; omega)]
theorem cut_head (l : List Nat) (h : 3 < l.length) : cutS (T l) none (some (-3)) = T (l.take (l.length - 3)) := by
  have e : HT.sIx l.length l.length (some (-3)) = l.length - 3 := by
    show (if (-3 : Int) < 0 then ((-3 : Int) + (l.length : Int)).toNat else min (-3 : Int).toNat l.length) = _
    rw [if_pos (by decide)]
    omega
  have e2 : HT.sIx l.length 0 none = 0 := rfl
  unfold cutS
  show (⟨_⟩ : PySem.Str) = ⟨_⟩
  rw [T_len, e, e2]
  rfl
/-- a line of a chart -/
def lineT (k : Nat) (x : Int × Int) (t : List Nat) : PySem.Str := T (fillL 2 (digs (k : Int)) ++ [32] ++ fillL 13 (comT x.1) ++ [32] ++ fillL 13 (comT x.2) ++ [32] ++ fillL 3 t)
theorem lineT_len {k : Nat} {x : Int × Int} {t : List Nat} (hk : k < 1000) (h1 : 0 ≤ x.1) (h2 : x.1 ≤ 1000000000) (h3 : 0 ≤ x.2) (h4 : x.2 ≤ 1000000000) (ht : t.length ≤ 20) : (lineT k x t).length ≤ 200 := by
  unfold lineT
  rw [T_len]
  have a1 := fillL_len 2 (digs (k : Int))
  have a2 := fillL_len 13 (comT x.1)
  have a3 := fillL_len 13 (comT x.2)
  have a4 := fillL_len 3 t
  have b1 := digs_len (a := (k : Int)) (by omega) (by omega)
  have b2 := comT_len h1 (by omega)
  have b3 := comT_len h3 (by omega)
  simp only [List.length_append, List.length_singleton]
  omega
end TxtG

/-! ByL: list(bytes). -/
namespace ByL
open PySem PySem.Spec PyProof.Rows L2
def bytV (x : Array UInt8) : List V := x.toList.map fun c => V.int ((c.toNat : Nat) : Int)
theorem vals_byt : ∀ (l : List UInt8) (us : List Value), us.length = l.length → (∀ (j : Nat) (v : Value), us[j]? = some v → ∃ c u, l[j]? = some c ∧ v = .int ((c.toNat : Nat) : Int) u) → Vals (l.map fun c => V.int ((c.toNat : Nat) : Int)) us
  | [], [], _, _ => .nil
  | [], _ :: _, h, _ => by simp at h
  | _ :: _, [], h, _ => by simp at h
  | c :: l, u :: us, h, k => .cons (by
      obtain ⟨c', t, e, rfl⟩ := k 0 u rfl
      cases e
      exact ⟨t, rfl⟩) (vals_byt l us (by simpa using h) fun j v e => by
      obtain ⟨c', t, e', r⟩ := k (j + 1) v (by simpa using e)
      exact ⟨c', t, by simpa using e', r⟩)
variable {X : Cx}
theorem call_list_byt (hc : X.calm = true) : CallR X (.type "list") (fun xs H Q => ∃ x : Array UInt8, xs = [.byt x] ∧ x.size ≤ sizeLine ∧ ∀ p, H p = none → Q (.ref p) (upd H p (.lst (bytV x)))) := by
  intro pins s σ H xs us Q I r h
  obtain ⟨x, rfl, hz, q⟩ := h
  obtain ⟨t, rfl⟩ : ∃ t, us = [.bytes x t] := by
    cases r with
    | cons a b =>
      cases b
      obtain ⟨t, rfl⟩ := a
      exact ⟨t, rfl⟩
  refine ZB.call_list_bytes (I.ok.hd hc) hz fun h' tk acc c hk hD hacc => ?_
  have hvv : Vals (bytV x) acc.toList := vals_byt x.toList acc.toList (by rw [Array.length_toList, Array.length_toList]; exact hacc.1) fun j v e => by
    obtain ⟨c, u, e1, e2⟩ := hacc.2 j v (by rw [← Array.getElem?_toList]; exact e)
    exact ⟨c, u, by rw [Array.getElem?_toList]; exact e1, e2⟩
  exact ⟨.ref _, upd H _ (.lst (bytV x)), I.laid (t' := tk) hk (Nat.le_refl _) (show ObjOk X.prog X.w _ _ _ (.lst (bytV x)) from ⟨by unfold bytV; rw [List.length_map, Array.length_toList]; exact hz, acc.toList, c, hvv, by rw [Array.toArray_toList]; exact hD⟩), rfl, q _ (I.hok.fresh (Nat.le_refl _))⟩
theorem bytV_len (x : Array UInt8) : (bytV x).length = x.size := by
  unfold bytV
  rw [List.length_map, Array.length_toList]
theorem bytV_arr {ns : List Int} (h : B8 ns) : bytV (byteArr ns) = ns.map V.int := by
  unfold bytV byteArr
  show (((ns.map fun n => n.toNat.toUInt8).toArray).toList.map fun c => V.int ((c.toNat : Nat) : Int)) = _
  rw [List.toList_toArray, List.map_map]
  refine List.map_congr_left fun n hn => ?_
  obtain ⟨h0, h1⟩ := h n hn
  show V.int ((n.toNat.toUInt8.toNat : Nat) : Int) = V.int n
  have : n.toNat.toUInt8.toNat = n.toNat := by
    show (UInt8.ofNat n.toNat).toNat = n.toNat
    rw [UInt8.toNat_ofNat']
    omega
  rw [this]
  congr 1
  omega
theorem byteArr_size (ns : List Int) : (byteArr ns).size = ns.length := by
  unfold byteArr
  simp
theorem byteArr_get {ns : List Int} (h : B8 ns) {i : Nat} {n : Int} (e : ns[i]? = some n) : (((byteArr ns).toList.getD i 0).toNat : Int) = n := by
  have l : (byteArr ns).toList = ns.map fun n => n.toNat.toUInt8 := by unfold byteArr; simp
  rw [l, List.getD_eq_getElem?_getD, List.getElem?_map, e]
  obtain ⟨h0, h1⟩ := h n (List.mem_of_getElem? e)
  show ((n.toNat.toUInt8.toNat : Nat) : Int) = n
  have : n.toNat.toUInt8.toNat = n.toNat := by
    show (UInt8.ofNat n.toNat).toNat = n.toNat
    rw [UInt8.toNat_ofNat']
    omega
  rw [this]
  omega
end ByL

/-! SplS: texts cut at a sign, and put together. -/
namespace SplS
open PySem PySem.Spec PyProof.Rows L2 PySem.Builtin PySem.Builtin.Str
open TxtG (T T_app T_len T_of)
def splitL (c : Nat) : List Nat → List (List Nat)
  | [] => [[]]
  | a :: l => if a = c then [] :: splitL c l else match splitL c l with
    | [] => [[a]]
    | p :: ps => (a :: p) :: ps
def joinL (c : Nat) : List (List Nat) → List Nat
  | [] => []
  | [p] => p
  | p :: q :: ps => p ++ c :: joinL c (q :: ps)
theorem splitL_app (c : Nat) : ∀ (p l : List Nat), c ∉ p → splitL c (p ++ c :: l) = p :: splitL c l
  | [], l, _ => by simp [splitL]
  | a :: p, l, h => by
    have h1 : a ≠ c := fun e => h (by simp [e])
    have ih := splitL_app c p l (fun e => h (by simp [e]))
    show (if a = c then _ else match splitL c (p ++ c :: l) with | [] => [[a]] | p :: ps => (a :: p) :: ps) = _
    rw [if_neg h1, ih]
theorem splitL_one (c : Nat) : ∀ (p : List Nat), c ∉ p → splitL c p = [p]
  | [], _ => rfl
  | a :: p, h => by
    have h1 : a ≠ c := fun e => h (by simp [e])
    have ih := splitL_one c p (fun e => h (by simp [e]))
    show (if a = c then _ else _) = _
    rw [if_neg h1, ih]
theorem splitL_join (c : Nat) : ∀ (ps : List (List Nat)), ps ≠ [] → (∀ p ∈ ps, c ∉ p) → splitL c (joinL c ps) = ps
  | [], h, _ => absurd rfl h
  | [p], _, h => splitL_one c p (h p (by simp))
  | p :: q :: ps, _, h => by
    show splitL c (p ++ c :: joinL c (q :: ps)) = _
    rw [splitL_app c p _ (h p (by simp)), splitL_join c (q :: ps) (by simp) fun x hx => h x (by simp at hx ⊢; exact .inr hx)]
theorem count_join (c : Nat) : ∀ (ps : List (List Nat)), ps ≠ [] → (joinL c ps).count c + 1 = (ps.map (·.count c)).sum + ps.length
  | [], h => absurd rfl h
  | [p], _ => by simp [joinL]
  | p :: q :: ps, _ => by
    have ih := count_join c (q :: ps) (by simp)
    show (p ++ c :: joinL c (q :: ps)).count c + 1 = _
    rw [List.count_append, List.count_cons_self]
    simp only [List.map_cons, List.sum_cons, List.length_cons] at ih ⊢
    omega
theorem strJoin_T (c : Nat) : ∀ (ps : List (List Nat)), PySem.Str.join (T [c]) (ps.map T) = T (joinL c ps)
  | [] => rfl
  | [p] => rfl
  | p :: q :: ps => by
    have ih := strJoin_T c (q :: ps)
    show T p ++ T [c] ++ PySem.Str.join (T [c]) ((q :: ps).map T) = T (p ++ c :: joinL c (q :: ps))
    rw [ih, T_app, T_app]
    simp
theorem txtJoin_T (c : Nat) (ps : List (List Nat)) : Txt.join (T [c]) (ps.map T) = T (joinL c ps) := by
  rw [← strJoin_T]
  exact StrLaws.glued_eq_join _ _
theorem T_inj {a b : List Nat} (h : T a = T b) : a = b := by
  have := congrArg (fun s : PySem.Str => s.cps.toList) h
  simpa [T] using this
theorem T_cps (a : List Nat) : (T a).cps.toList = a := by simp [T]
theorem cnt_count (c : Nat) : ∀ l : List Nat, cnt c l = ((l.count c : Nat) : Int)
  | [] => rfl
  | n :: l => by
    rw [cnt_cons, cnt_count c l, List.count_cons]
    by_cases h : n = c
    · simp [h]
      omega
    · simp [h]
theorem sum_zero : ∀ {l : List Nat}, l.sum = 0 → ∀ n ∈ l, n = 0
  | [], _, _, h => nomatch h
  | a :: l, e, n, h => by
    rw [List.sum_cons] at e
    rcases List.mem_cons.mp h with rfl | h
    · omega
    · exact sum_zero (by omega) n h
theorem split_T (c : Nat) (x : List Nat) : Txt.split (T x) (T [c]) = (splitL c x).map T := by
  have h1 := StrLaws.join_split (T x) (T [c])
  have h2 := split_len (T x) c
  rw [cnt_count, T_cps] at h2
  have e : Txt.split (T x) (T [c]) = ((Txt.split (T x) (T [c])).map fun s => s.cps.toList).map T := by
    rw [List.map_map]
    conv => lhs; rw [← List.map_id (Txt.split (T x) (T [c]))]
    exact List.map_congr_left fun s _ => T_of s
  have h3 : (Txt.split (T x) (T [c])).length = 1 + x.count c := by
    have h2 : ((Txt.split (T x) (T [c])).length : Int) = 1 + ((x.count c : Nat) : Int) := h2
    omega
  rw [e] at h1 h3 ⊢
  generalize (Txt.split (T x) (T [c])).map (fun s => s.cps.toList) = qs at h1 h3 ⊢
  rw [List.length_map] at h3
  rw [strJoin_T] at h1
  have h4 := T_inj h1
  have ne : qs ≠ [] := fun z => by rw [z] at h3; simp at h3; omega
  have h5 := count_join c qs ne
  rw [h4] at h5
  have h6 : (qs.map (·.count c)).sum = 0 := by omega
  have h7 : ∀ p ∈ qs, c ∉ p := fun p hp hc => by
    have := sum_zero h6 _ (List.mem_map.mpr ⟨p, hp, rfl⟩)
    have := List.count_pos_iff.mpr hc
    omega
  rw [← h4, splitL_join c qs ne h7]
theorem split_join {c : Nat} {ps : List (List Nat)} (ne : ps ≠ []) (h : ∀ p ∈ ps, c ∉ p) : Txt.split (T (joinL c ps)) (T [c]) = ps.map T := by rw [split_T, splitL_join c ps ne h]
end SplS

namespace RD
open PySem PySem.Spec PyProof.Rows L2
def top (i : Nat) : Stmt := PySem.Challenge.pw_rowdominoes_k20_whole_texts_bytes_and_su.main.body.getD i (.Pass ⟨0, 0, 0, 0⟩)
abbrev s_InvalidRow_init : Stmt := inClass (top 3) 0
abbrev s_NotationError_init : Stmt := inClass (top 7) 0
abbrev s_DecodeError_init : Stmt := inClass (top 9) 0
abbrev s_is_number : Stmt := top 12
abbrev s_check_number : Stmt := top 13
abbrev s_check_stone : Stmt := top 14
abbrev s_check_side : Stmt := top 15
abbrev s_stones_beside : Stmt := top 19
abbrev s_felled_by : Stmt := top 20
abbrev s_is_stone : Stmt := top 21
abbrev s_Row_init : Stmt := inClass (top 22) 1
abbrev s_Row_stones : Stmt := inClass (top 22) 3
abbrev s_Row_places : Stmt := inClass (top 22) 4
abbrev s_Row_len : Stmt := inClass (top 22) 5
abbrev s_Row_getitem : Stmt := inClass (top 22) 6
abbrev s_Row_iter : Stmt := inClass (top 22) 7
abbrev s_Row_contains : Stmt := inClass (top 22) 8
abbrev s_Row_add : Stmt := inClass (top 22) 9
abbrev s_Row_rshift : Stmt := inClass (top 22) 10
abbrev s_Row_invert : Stmt := inClass (top 22) 11
abbrev s_Row_eq : Stmt := inClass (top 22) 12
abbrev s_Row_call : Stmt := inClass (top 22) 13
abbrev s_Row_without : Stmt := inClass (top 22) 14
abbrev s_fall_ticks : Stmt := top 24
abbrev s_reaches : Stmt := top 25
abbrev s_format_row : Stmt := top 30
abbrev s_parse_row : Stmt := top 31
abbrev s_parsed_stone : Stmt := top 32
abbrev s_is_right_word : Stmt := top 33
abbrev s_is_notation_of_number : Stmt := top 34
abbrev s_chart : Stmt := top 35
abbrev s_pack_bytes : Stmt := top 41
abbrev s_unpack_bytes : Stmt := top 42
abbrev s_encode_row : Stmt := top 43
abbrev s_groups : Stmt := top 44
abbrev s_checksum : Stmt := top 45
abbrev s_decode_row : Stmt := top 46
abbrev s_byte_at : Stmt := top 47
abbrev s_read_number : Stmt := top 48
abbrev s_check_end : Stmt := top 49
abbrev s_law_taken : Stmt := top 51
abbrev s_law_great : Stmt := top 52
abbrev s_law_stones : Stmt := top 53
abbrev s_law_row : Stmt := top 54
abbrev s_law_number : Stmt := top 55
abbrev s_law_is_chart : Stmt := top 56
abbrev s_law : Stmt := top 57
abbrev n_is_number : List Str := ["value", "least", "greatest"]
theorem sc_is_number : FnScope ["value", "least", "greatest"] ["value", "least", "greatest"] (defScope s_is_number) := ⟨rfl, rfl, rfl, by decide +kernel, rfl, by decide +kernel, by decide +kernel⟩
abbrev n_check_number : List Str := ["value", "least", "greatest"]
theorem sc_check_number : FnScope ["value", "least", "greatest"] ["value", "least", "greatest"] (defScope s_check_number) := ⟨rfl, rfl, rfl, by decide +kernel, rfl, by decide +kernel, by decide +kernel⟩
abbrev n_check_stone : List Str := ["stone", "count"]
theorem sc_check_stone : FnScope ["stone", "count"] ["stone", "count"] (defScope s_check_stone) := ⟨rfl, rfl, rfl, by decide +kernel, rfl, by decide +kernel, by decide +kernel⟩
abbrev n_check_side : List Str := ["side"]
theorem sc_check_side : FnScope ["side"] ["side"] (defScope s_check_side) := ⟨rfl, rfl, rfl, by decide +kernel, rfl, by decide +kernel, by decide +kernel⟩
abbrev n_stones_beside : List Str := ["stone", "side", "count"]
theorem sc_stones_beside : FnScope ["stone", "side", "count"] ["stone", "side", "count"] (defScope s_stones_beside) := ⟨rfl, rfl, rfl, by decide +kernel, rfl, by decide +kernel, by decide +kernel⟩
abbrev n_felled_by : List Str := ["stones", "standing", "stone", "side", "start", "reach", "felled", "other", "place", "height", "distance"]
theorem sc_felled_by : FnScope ["stones", "standing", "stone", "side", "start", "reach", "felled", "other", "place", "height", "distance"] ["stones", "standing", "stone", "side"] (defScope s_felled_by) := ⟨rfl, rfl, rfl, by decide +kernel, rfl, by decide +kernel, by decide +kernel⟩
abbrev n_is_stone : List Str := ["stone", "least_place", "place", "height"]
theorem sc_is_stone : FnScope ["stone", "least_place", "place", "height"] ["stone", "least_place"] (defScope s_is_stone) := ⟨rfl, rfl, rfl, by decide +kernel, rfl, by decide +kernel, by decide +kernel⟩
abbrev n_Row_init : List Str := ["self", "stones", "least_place", "index", "stone"]
theorem sc_Row_init : FnScope ["self", "stones", "least_place", "index", "stone"] ["self", "stones"] (defScope s_Row_init) := ⟨rfl, rfl, rfl, by decide +kernel, rfl, by decide +kernel, by decide +kernel⟩
abbrev n_Row_stones : List Str := ["self"]
theorem sc_Row_stones : FnScope ["self"] ["self"] (defScope s_Row_stones) := ⟨rfl, rfl, rfl, by decide +kernel, rfl, by decide +kernel, by decide +kernel⟩
abbrev n_Row_places : List Str := ["self", "place", "_"]
theorem sc_Row_places : FnScope ["self", "place", "_"] ["self"] (defScope s_Row_places) := ⟨rfl, rfl, rfl, by decide +kernel, rfl, by decide +kernel, by decide +kernel⟩
abbrev n_Row_len : List Str := ["self"]
theorem sc_Row_len : FnScope ["self"] ["self"] (defScope s_Row_len) := ⟨rfl, rfl, rfl, by decide +kernel, rfl, by decide +kernel, by decide +kernel⟩
abbrev n_Row_getitem : List Str := ["self", "stone"]
theorem sc_Row_getitem : FnScope ["self", "stone"] ["self", "stone"] (defScope s_Row_getitem) := ⟨rfl, rfl, rfl, by decide +kernel, rfl, by decide +kernel, by decide +kernel⟩
abbrev n_Row_iter : List Str := ["self"]
theorem sc_Row_iter : FnScope ["self"] ["self"] (defScope s_Row_iter) := ⟨rfl, rfl, rfl, by decide +kernel, rfl, by decide +kernel, by decide +kernel⟩
abbrev n_Row_contains : List Str := ["self", "place"]
theorem sc_Row_contains : FnScope ["self", "place"] ["self", "place"] (defScope s_Row_contains) := ⟨rfl, rfl, rfl, by decide +kernel, rfl, by decide +kernel, by decide +kernel⟩
abbrev n_Row_add : List Str := ["self", "other", "stones"]
theorem sc_Row_add : FnScope ["self", "other", "stones"] ["self", "other"] (defScope s_Row_add) := ⟨rfl, rfl, rfl, by decide +kernel, rfl, by decide +kernel, by decide +kernel⟩
abbrev n_Row_rshift : List Str := ["self", "distance", "stones", "place", "height"]
theorem sc_Row_rshift : FnScope ["self", "distance", "stones", "place", "height"] ["self", "distance"] (defScope s_Row_rshift) := ⟨rfl, rfl, rfl, by decide +kernel, rfl, by decide +kernel, by decide +kernel⟩
abbrev n_Row_invert : List Str := ["self", "places", "stones", "place", "height"]
theorem sc_Row_invert : FnScope ["self", "places", "stones", "place", "height"] ["self"] (defScope s_Row_invert) := ⟨rfl, rfl, rfl, by decide +kernel, rfl, by decide +kernel, by decide +kernel⟩
abbrev n_Row_eq : List Str := ["self", "other"]
theorem sc_Row_eq : FnScope ["self", "other"] ["self", "other"] (defScope s_Row_eq) := ⟨rfl, rfl, rfl, by decide +kernel, rfl, by decide +kernel, by decide +kernel⟩
abbrev n_Row_call : List Str := ["self", "stone", "side", "standing", "felled"]
theorem sc_Row_call : FnScope ["self", "stone", "side", "standing", "felled"] ["self", "stone", "side"] (defScope s_Row_call) := ⟨rfl, rfl, rfl, by decide +kernel, rfl, by decide +kernel, by decide +kernel⟩
abbrev n_Row_without : List Str := ["self", "stones", "count", "stone", "kept"]
theorem sc_Row_without : FnScope ["self", "stones", "count", "stone", "kept"] ["self", "stones"] (defScope s_Row_without) := ⟨rfl, rfl, rfl, by decide +kernel, rfl, by decide +kernel, by decide +kernel⟩
abbrev n_fall_ticks : List Str := ["row", "stone", "side", "stones", "ticks", "other", "hits", "fallen"]
theorem sc_fall_ticks : FnScope ["row", "stone", "side", "stones", "ticks", "other", "hits", "fallen"] ["row", "stone", "side"] (defScope s_fall_ticks) := ⟨rfl, rfl, rfl, by decide +kernel, rfl, by decide +kernel, by decide +kernel⟩
abbrev n_reaches : List Str := ["stone", "other", "place", "height"]
theorem sc_reaches : FnScope ["stone", "other", "place", "height"] ["stone", "other"] (defScope s_reaches) := ⟨rfl, rfl, rfl, by decide +kernel, rfl, by decide +kernel, by decide +kernel⟩
abbrev n_format_row : List Str := ["row", "place", "height"]
theorem sc_format_row : FnScope ["row", "place", "height"] ["row"] (defScope s_format_row) := ⟨rfl, rfl, rfl, by decide +kernel, rfl, by decide +kernel, by decide +kernel⟩
abbrev n_parse_row : List Str := ["text", "stones", "number", "line"]
theorem sc_parse_row : FnScope ["text", "stones", "number", "line"] ["text"] (defScope s_parse_row) := ⟨rfl, rfl, rfl, by decide +kernel, rfl, by decide +kernel, by decide +kernel⟩
abbrev n_parsed_stone : List Str := ["line", "number", "words", "index", "word"]
theorem sc_parsed_stone : FnScope ["line", "number", "words", "index", "word"] ["line", "number"] (defScope s_parsed_stone) := ⟨rfl, rfl, rfl, by decide +kernel, rfl, by decide +kernel, by decide +kernel⟩
abbrev n_is_right_word : List Str := ["word", "index"]
theorem sc_is_right_word : FnScope ["word", "index"] ["word", "index"] (defScope s_is_right_word) := ⟨rfl, rfl, rfl, by decide +kernel, rfl, by decide +kernel, by decide +kernel⟩
abbrev n_is_notation_of_number : List Str := ["word"]
theorem sc_is_notation_of_number : FnScope ["word"] ["word"] (defScope s_is_notation_of_number) := ⟨rfl, rfl, rfl, by decide +kernel, rfl, by decide +kernel, by decide +kernel⟩
abbrev n_chart : List Str := ["row", "stone", "side", "ticks", "lines", "number", "place", "height", "tick"]
theorem sc_chart : FnScope ["row", "stone", "side", "ticks", "lines", "number", "place", "height", "tick"] ["row", "stone", "side"] (defScope s_chart) := ⟨rfl, rfl, rfl, by decide +kernel, rfl, by decide +kernel, by decide +kernel⟩
abbrev n_pack_bytes : List Str := ["values", "value"]
theorem sc_pack_bytes : FnScope ["values", "value"] ["values"] (defScope s_pack_bytes) := ⟨rfl, rfl, rfl, by decide +kernel, rfl, by decide +kernel, by decide +kernel⟩
abbrev n_unpack_bytes : List Str := ["data"]
theorem sc_unpack_bytes : FnScope ["data"] ["data"] (defScope s_unpack_bytes) := ⟨rfl, rfl, rfl, by decide +kernel, rfl, by decide +kernel, by decide +kernel⟩
abbrev n_encode_row : List Str := ["row", "values", "place_before", "place", "height"]
theorem sc_encode_row : FnScope ["row", "values", "place_before", "place", "height"] ["row"] (defScope s_encode_row) := ⟨rfl, rfl, rfl, by decide +kernel, rfl, by decide +kernel, by decide +kernel⟩
abbrev n_groups : List Str := ["number", "values", "rest", "group"]
theorem sc_groups : FnScope ["number", "values", "rest", "group"] ["number"] (defScope s_groups) := ⟨rfl, rfl, rfl, by decide +kernel, rfl, by decide +kernel, by decide +kernel⟩
abbrev n_checksum : List Str := ["values", "checksum", "value"]
theorem sc_checksum : FnScope ["values", "checksum", "value"] ["values"] (defScope s_checksum) := ⟨rfl, rfl, rfl, by decide +kernel, rfl, by decide +kernel, by decide +kernel⟩
abbrev n_decode_row : List Str := ["data", "count", "stones", "place", "offset", "stone", "least_distance", "distance", "height"]
theorem sc_decode_row : FnScope ["data", "count", "stones", "place", "offset", "stone", "least_distance", "distance", "height"] ["data"] (defScope s_decode_row) := ⟨rfl, rfl, rfl, by decide +kernel, rfl, by decide +kernel, by decide +kernel⟩
abbrev n_byte_at : List Str := ["data", "offset"]
theorem sc_byte_at : FnScope ["data", "offset"] ["data", "offset"] (defScope s_byte_at) := ⟨rfl, rfl, rfl, by decide +kernel, rfl, by decide +kernel, by decide +kernel⟩
abbrev n_read_number : List Str := ["data", "start", "least", "greatest", "number", "weight", "offset", "byte"]
theorem sc_read_number : FnScope ["data", "start", "least", "greatest", "number", "weight", "offset", "byte"] ["data", "start", "least", "greatest"] (defScope s_read_number) := ⟨rfl, rfl, rfl, by decide +kernel, rfl, by decide +kernel, by decide +kernel⟩
abbrev n_check_end : List Str := ["data", "offset"]
theorem sc_check_end : FnScope ["data", "offset"] ["data", "offset"] (defScope s_check_end) := ⟨rfl, rfl, rfl, by decide +kernel, rfl, by decide +kernel, by decide +kernel⟩
abbrev n_law_taken : List Str := ["_law_row_here", "_law_many", "_law_found", "_law_cell"]
theorem sc_law_taken : FnScope ["_law_row_here", "_law_many", "_law_found", "_law_cell"] ["_law_row_here", "_law_many"] (defScope s_law_taken) := ⟨rfl, rfl, rfl, by decide +kernel, rfl, by decide +kernel, by decide +kernel⟩
abbrev n_law_great : List Str := ["_law_row_here", "_law_many"]
theorem sc_law_great : FnScope ["_law_row_here", "_law_many"] ["_law_row_here", "_law_many"] (defScope s_law_great) := ⟨rfl, rfl, rfl, by decide +kernel, rfl, by decide +kernel, by decide +kernel⟩
abbrev n_law_stones : List Str := ["_law_row_here", "_law_most", "_law_found", "_law_place", "_law_k"]
theorem sc_law_stones : FnScope ["_law_row_here", "_law_most", "_law_found", "_law_place", "_law_k"] ["_law_row_here", "_law_most"] (defScope s_law_stones) := ⟨rfl, rfl, rfl, by decide +kernel, rfl, by decide +kernel, by decide +kernel⟩
abbrev n_law_row : List Str := ["_law_stones_here", "_law_row_here", "_law_stone"]
theorem sc_law_row : FnScope ["_law_stones_here", "_law_row_here", "_law_stone"] ["_law_stones_here"] (defScope s_law_row) := ⟨rfl, rfl, rfl, by decide +kernel, rfl, by decide +kernel, by decide +kernel⟩
abbrev n_law_number : List Str := ["_law_text", "_law_figures", "_law_sign"]
theorem sc_law_number : FnScope ["_law_text", "_law_figures", "_law_sign"] ["_law_text"] (defScope s_law_number) := ⟨rfl, rfl, rfl, by decide +kernel, rfl, by decide +kernel, by decide +kernel⟩
abbrev n_law_is_chart : List Str := ["_law_one", "_law_stone", "_law_side", "_law_lines", "_law_ticks", "_law_k", "_law_line", "_law_told"]
theorem sc_law_is_chart : FnScope ["_law_one", "_law_stone", "_law_side", "_law_lines", "_law_ticks", "_law_k", "_law_line", "_law_told"] ["_law_one", "_law_stone", "_law_side"] (defScope s_law_is_chart) := ⟨rfl, rfl, rfl, by decide +kernel, rfl, by decide +kernel, by decide +kernel⟩
abbrev n_law : List Str := ["_law_script", "_law_row_here", "_law_turn", "_law_times", "_law_first", "_law_place", "_law_height", "_law_by", "_law_later", "_law_one", "_law_two", "_law_both", "_law_back", "_law_k", "_law_some", "_law_values"]
theorem sc_law : FnScope ["_law_script", "_law_row_here", "_law_turn", "_law_times", "_law_first", "_law_place", "_law_height", "_law_by", "_law_later", "_law_one", "_law_two", "_law_both", "_law_back", "_law_k", "_law_some", "_law_values"] ["_law_script"] (defScope s_law) := ⟨rfl, rfl, rfl, by decide +kernel, rfl, by decide +kernel, by decide +kernel⟩
/-! ### the built-in names that the program leaves as they are -/
structure Blt (mg : Str → Option Value) : Prop where
  isinstance : mg "isinstance" = none
  int : mg "int" = none
  bool : mg "bool" = none
  len : mg "len" = none
  tuple : mg "tuple" = none
  list : mg "list" = none
  range : mg "range" = none
  enumerate : mg "enumerate" = none
  abs : mg "abs" = none
  max : mg "max" = none
  min : mg "min" = none
  sorted : mg "sorted" = none
/-! ### numbers and checks -/
/-- values whose kind is known -/
def Known (K : PySem.W.Frag) (H : Hp) : V → Prop
  | .int _ => True
  | .bl _ => True
  | .non => True
  | .str _ => True
  | .ref a => TyX K H (.ref a) (.type "tuple") ∨ TyX K H (.ref a) (.type "list")
  | _ => False
def numB : V → Int → Int → Bool
  | .int i, lo, hi => decide (lo ≤ i) && decide (i ≤ hi)
  | _, _, _ => false
def spNum (K : PySem.W.Frag) : Sp := fun vs H Q _ => ∃ v lo hi, vs = [v, .int lo, .int hi] ∧ Known K H v ∧ Q (.bl (numB v lo hi)) H
theorem known_ty {K : PySem.W.Frag} {H : Hp} {v : V} (h : Known K H v) : ∃ (t : String) (b c : Bool), TyX K H v (.type t) ∧ PySem.W.kitOne K (.type t) (.type "int") = some b ∧ PySem.W.kitOne K (.type t) (.type "bool") = some c ∧
    ((b = true ∧ c = false ∧ ∃ i, v = .int i) ∨ ((b = false ∨ c = true) ∧ ∀ i, v ≠ .int i)) := by
  cases v with
  | int i => exact ⟨"int", true, false, .base (.int i), kit_ty (by decide +kernel), kit_ty (by decide +kernel), .inl ⟨rfl, rfl, i, rfl⟩⟩
  | bl i => exact ⟨"bool", true, true, .base (.bl i), kit_ty (by decide +kernel), kit_ty (by decide +kernel), .inr ⟨.inr rfl, fun i z => nomatch z⟩⟩
  | non => exact ⟨"NoneType", false, false, .base .non, kit_ty (by decide +kernel), kit_ty (by decide +kernel), .inr ⟨.inl rfl, fun i z => nomatch z⟩⟩
  | str i => exact ⟨"str", false, false, .base (.str i), kit_ty (by decide +kernel), kit_ty (by decide +kernel), .inr ⟨.inl rfl, fun i z => nomatch z⟩⟩
  | ref a =>
    rcases h with h | h
    · exact ⟨"tuple", false, false, h, kit_ty (by decide +kernel), kit_ty (by decide +kernel), .inr ⟨.inl rfl, fun i z => nomatch z⟩⟩
    · exact ⟨"list", false, false, h, kit_ty (by decide +kernel), kit_ty (by decide +kernel), .inr ⟨.inl rfl, fun i z => nomatch z⟩⟩
  | byt _ => exact h.elim
  | flt _ => exact h.elim
  | ty _ => exact h.elim
theorem numB_no {v : V} {lo hi : Int} (h : ∀ i, v ≠ .int i) : numB v lo hi = false := by
  cases v with
  | int i => exact absurd rfl (h i)
  | _ => rfl
section
variable {P : Program} {w : World} {K : PySem.W.Frag} {mg : Str → Option Value} {base : Heap}
theorem ok_num {f : Addr} {fd : FuncData} (F : Fun K "is_number" "is_number" s_is_number f fd) (B : Blt mg) : FnOk P w K mg base CX0 1 f fd ["value", "least", "greatest"] (spNum K) := by
  refine F.ok sc_is_number (fun vs H Q E h => ?_) (fun cdv A outer s H vs Q E hr h => ?_)
  · obtain ⟨v, lo, hi, rfl, _⟩ := h
    rfl
  · obtain ⟨v, lo, hi, rfl, kn, h⟩ := h
    refine ⟨_, pss_one (ps_ret (pe_and (pe_callB call_isi (by rfl) B.isinstance boot_isinstance (pa_cons (pv 0) (pa_cons (pe_bltn (v := .ty "int") (by rfl) B.int boot_int rfl) pa_nil)))
      (pe_and (pe_not (pe_callB call_isi (by rfl) B.isinstance boot_isinstance (pa_cons (pv 0) (pa_cons (pe_bltn (v := .ty "bool") (by rfl) B.bool boot_bool rfl) pa_nil))))
      (pe_one (pe_chain op_le op_le (pv 1) (pv 0) (pv 2)))))), ?_⟩
    obtain ⟨t, b, c, ty, k1, k2, alt⟩ := known_ty kn
    refine ⟨_, rfl, _, _, _, _, b, rfl, .ty "int", ty, k1, b, rfl, ?_⟩
    rcases alt with ⟨rfl, rfl, i, rfl⟩ | ⟨alt, no⟩
    · refine iteT ⟨_, rfl, _, _, _, _, false, rfl, .ty "bool", ty, k2, false, rfl, true, rfl, ?_⟩
      refine iteT ⟨_, rfl, _, rfl, lo, i, rfl, rfl, _, rfl, ?_⟩
      refine ite2 (fun q => ?_) (fun q => ?_)
      · refine ⟨_, rfl, i, hi, rfl, rfl, ?_⟩
        have e : numB (.int i) lo hi = decide (i ≤ hi) := by
          show (decide (lo ≤ i) && decide (i ≤ hi)) = _
          rw [q, Bool.true_and]
        rw [e] at h
        exact h
      · have e : numB (.int i) lo hi = false := by
          show (decide (lo ≤ i) && decide (i ≤ hi)) = _
          rw [Bool.eq_false_iff.mpr q, Bool.false_and]
        rw [e] at h
        exact h
    · rw [numB_no no] at h
      cases b with
      | false => exact iteF h
      | true =>
        rcases alt with z | rfl
        · cases z
        · refine iteT ⟨_, rfl, _, _, _, _, true, rfl, .ty "bool", ty, k2, true, rfl, false, rfl, ?_⟩
          exact iteF h
end
/-! ### defs as they stand, and how they are called -/
structure DefAt (K : PySem.W.Frag) (mg : Str → Option Value) (x : Str) (st : Stmt) (ps : List Str) (f : Addr) (fd : FuncData) : Prop where
  fn : Fun K x x st f fd
  m : mg x = some (.ref f)
  b : Binds K fd ps []
structure At (P : Program) (w : World) (K : PySem.W.Frag) (mg : Str → Option Value) (base : Heap) (CX : CXT) (k : Nat) (x : Str) (ps : List Str) (sp : Sp) (f : Addr) (fd : FuncData) : Prop where
  ok : FnOk P w K mg base CX k f fd ps sp
  m : mg x = some (.ref f)
  kp : PySem.W.keepIn K (.ref f) = true
  b : Binds K fd ps []
theorem DefAt.at {P : Program} {w : World} {K : PySem.W.Frag} {mg : Str → Option Value} {base : Heap} {CX : CXT} {k : Nat} {x : Str} {st : Stmt} {ps : List Str} {sp : Sp} {f : Addr} {fd : FuncData} (D : DefAt K mg x st ps f fd)
    (ok : FnOk P w K mg base CX k f fd ps sp) : At P w K mg base CX k x ps sp f fd := ⟨ok, D.m, D.fn.kp, D.b⟩
section
variable {X : Cx} {k : Nat} {x : Str} {ps : List Str} {sp : Sp} {f : Addr} {fd : FuncData} {p pos : Pos} {e : Expr} {es : List Expr} {t : TA}
theorem pe_at (G : At X.prog X.w X.K X.mg X.base CX0 k x ps sp f fd) (hr : Room k X.A) (ha : PA X (e :: es) t) (hg : Gl X x := by rfl) (hdb : (x == ("__debug__" : Str)) = false := by decide)
    (he : starEach (e :: es) X.env = (false, eval e X.env) :: starEach es X.env := by rfl) (hpl : (backTo pos (starEach es X.env)).any (·.1) = false := by rfl) :
    PE X (.Call (.Name x p) (e :: es) [] pos) (tCall sp [] E0 t) := pe_call G.ok hr hg G.m G.kp G.b .nil pass0 ha hdb he hpl
end
/-! ### heaps that only grow -/
theorem sqT_same {K : PySem.W.Frag} {H H' : Hp} {a : Addr} {xs : List V} (h : SqT K H a xs) (e : Same H H') : SqT K H' a xs := SqT.ext h e
theorem same_new {H : Hp} {p : Addr} {o : HO} (h : H p = none) : Same H (upd H p o) := fun b u e => by rw [upd_ne (ne_of_none e h)]; exact e
/-- all but what stands at l is as it was -/
def But (l : Addr) (H H' : Hp) : Prop := ∀ b o, b ≠ l → H b = some o → H' b = some o
theorem Same.but {H H' : Hp} (e : Same H H') (l : Addr) : But l H H' := fun b o _ h => e b o h
theorem But.trans {l : Addr} {H H1 H2 : Hp} (a : But l H H1) (b : But l H1 H2) : But l H H2 := fun c o n h => b c o n (a c o n h)
theorem but_upd {H : Hp} {l : Addr} {o : HO} : But l H (upd H l o) := fun b u n e => by rw [upd_ne n]; exact e
theorem But.new {H H1 : Hp} {l p : Addr} {o : HO} (a : But l H H1) (h : H1 p = none) : But l H (upd H1 p o) := a.trans (Same.but (same_new h) l)
/-- laid ahead of which the heap was as H -/
theorem But.same {H H1 : Hp} {l : Addr} (a : But l H H1) (h : H l = none) : Same H H1 := fun b o e => a b o (ne_of_none e h) e

/-! ### stones: pairs of a place and a height -/
def StonesAt (K : PySem.W.Frag) (H : Hp) (vs : List V) (xs : List (Int × Int)) : Prop :=
  vs.length = xs.length ∧ ∀ (k : Nat) (x : Int × Int), xs[k]? = some x → ∃ a : Addr, vs[k]? = some (V.ref a) ∧ SqT K H a [.int x.1, .int x.2]
theorem StonesAt.same {K : PySem.W.Frag} {H H' : Hp} {vs : List V} {xs : List (Int × Int)} (h : StonesAt K H vs xs) (e : Same H H') : StonesAt K H' vs xs :=
  ⟨h.1, fun k x q => let ⟨a, q1, q2⟩ := h.2 k x q; ⟨a, q1, sqT_same q2 e⟩⟩
theorem StonesAt.nil {K : PySem.W.Frag} {H : Hp} : StonesAt K H [] [] := ⟨rfl, fun k x q => by simp at q⟩
theorem StonesAt.append {K : PySem.W.Frag} {H : Hp} {vs us : List V} {xs ys : List (Int × Int)} (h : StonesAt K H vs xs) (g : StonesAt K H us ys) : StonesAt K H (vs ++ us) (xs ++ ys) := by
  refine ⟨by rw [List.length_append, List.length_append, h.1, g.1], fun k x q => ?_⟩
  by_cases hk : k < xs.length
  · rw [List.getElem?_append_left hk] at q
    rw [List.getElem?_append_left (by rw [h.1]; exact hk)]
    exact h.2 k x q
  · rw [List.getElem?_append_right (by omega)] at q
    rw [List.getElem?_append_right (by rw [h.1]; omega), h.1]
    exact g.2 _ x q
theorem StonesAt.one {K : PySem.W.Frag} {H : Hp} {a : Addr} {x : Int × Int} (h : SqT K H a [.int x.1, .int x.2]) : StonesAt K H [.ref a] [x] := by
  refine ⟨rfl, fun k y q => ?_⟩
  cases k with
  | zero => simp at q; subst q; exact ⟨a, rfl, h⟩
  | succ k => simp at q
/-! ### sides -/
def sideS : Bool → Str
  | true => "right"
  | false => "left"
/-- the numbers beside a stone, the nearest one first -/
def beside (r : Bool) (i n : Nat) : List Nat := if r then (List.range (n - (i + 1))).map (fun k => i + 1 + k) else (List.range i).map (fun k => i - 1 - k)
def ivs (ns : List Nat) : List V := ns.map fun (k : Nat) => V.int (k : Int)
def spBeside : Sp := fun vs H Q _ => ∃ (i n : Nat) (r : Bool), vs = [.int i, .str (sideS r), .int n] ∧ i < n ∧ n ≤ 100 ∧ ∀ q, H q = none → Q (.ref q) (upd H q (.lst (ivs (beside r i n))))
def spCheckStone : Sp := fun vs H Q _ => ∃ (i n : Nat), vs = [.int i, .int n] ∧ i < n ∧ Q .non H
def spCheckSide : Sp := fun vs H Q _ => ∃ r : Bool, vs = [.str (sideS r)] ∧ Q .non H
section
variable {P : Program} {w : World} {K : PySem.W.Frag} {mg : Str → Option Value} {base : Heap}
theorem ok_checkStone {f g : Addr} {fd gd : FuncData} (F : Fun K "check_stone" "check_stone" s_check_stone f fd) (N : At P w K mg base CX0 1 "is_number" ["value", "least", "greatest"] (spNum K) g gd) :
    FnOk P w K mg base CX0 2 f fd ["stone", "count"] spCheckStone := by
  refine F.ok sc_check_stone (fun vs H Q E h => ?_) (fun cdv A outer s H vs Q E hr h => ?_)
  · obtain ⟨i, n, rfl, _⟩ := h
    rfl
  · obtain ⟨i, n, rfl, hi, h⟩ := h
    refine ⟨_, pss_one (ps_if (pt_not (pt_val (pe_at N hr (pa_cons (pv 0) (pa_cons (pe_int) (pa_cons (pe_op op_sub (pv 1) (pe_int)) pa_nil)))))) (pss_one ps_never) pss_nil), ?_⟩
    refine ⟨_, rfl, _, rfl, _, _, rfl, rfl, _, _, _, rfl, True.intro, _, rfl, ?_⟩
    have e : numB (.int (i : Int)) 0 ((n : Int) - 1) = true := by
      show (decide (0 ≤ (i : Int)) && decide ((i : Int) ≤ (n : Int) - 1)) = true
      simp; omega
    rw [e]
    exact iteF h
theorem sides_in {r : Bool} {ys : List V} (h : ys = [V.str "left", V.str "right"]) : inV (.str (sideS r)) ys = true := by
  subst h
  cases r <;> decide +kernel
theorem ok_checkSide {f S : Addr} {fd : FuncData} (F : Fun K "check_side" "check_side" s_check_side f fd) (mS : mg "SIDES" = some (.ref S)) (hS : ∀ H, SqT K H S [.str "left", .str "right"]) : FnOk P w K mg base CX0 1 f fd ["side"] spCheckSide := by
  refine F.ok sc_check_side (fun vs H Q E h => ?_) (fun cdv A outer s H vs Q E hr h => ?_)
  · obtain ⟨r, rfl, _⟩ := h
    rfl
  · obtain ⟨r, rfl, h⟩ := h
    refine ⟨_, pss_one (ps_if (pt_cmpR (op_notIn_seq) (pv 0) (pe_glob (v := .ref S) (by rfl) mS rfl) (by rfl)) (pss_one ps_never) pss_nil), ?_⟩
    refine ⟨_, rfl, S, _, rfl, .inr (hS H), rfl, rfl, _, rfl, ?_⟩
    rw [if_pos rfl, sides_in rfl]
    exact iteF h
theorem right_eq {r : Bool} : decide (V.str (sideS r) = V.str "right") = r := by cases r <;> decide +kernel
theorem beside_right {i n : Nat} (h : i < n) : Own.dnV 0 0 = [] ∧ rgV ((i : Int) + 1) (n : Int) = ivs (beside true i n) := by
  refine ⟨rfl, ?_⟩
  unfold rgV ivs beside
  rw [if_pos rfl, List.map_map]
  have e : ((n : Int) - ((i : Int) + 1)).toNat = n - (i + 1) := by omega
  rw [e]
  exact List.map_congr_left fun k _ => congrArg V.int (show (i : Int) + 1 + (k : Int) = ((i + 1 + k : Nat) : Int) by omega)
theorem beside_left {i n : Nat} : Own.dnV ((i : Int) - 1) (-1) = ivs (beside false i n) := by
  unfold Own.dnV ivs beside
  rw [if_neg (by decide), List.map_map]
  have e : ((i : Int) - 1 - (-1)).toNat = i := by omega
  rw [e]
  exact List.map_congr_left fun k hk => by have := List.mem_range.mp hk; exact congrArg V.int (show (i : Int) - 1 - (k : Int) = ((i - 1 - k : Nat) : Int) by omega)
theorem ok_beside {f : Addr} {fd : FuncData} (F : Fun K "stones_beside" "stones_beside" s_stones_beside f fd) (B : Blt mg) : FnOk P w K mg base CX0 1 f fd ["stone", "side", "count"] spBeside := by
  refine F.ok sc_stones_beside (fun vs H Q E h => ?_) (fun cdv A outer s H vs Q E hr h => ?_)
  · obtain ⟨i, n, r, rfl, _⟩ := h
    rfl
  · obtain ⟨i, n, r, rfl, hi, hn, h⟩ := h
    refine ⟨_, pss_cons (ps_if (pt_cmpR (op_eq) (pv 1) (pe_str) (nomark _)) (pss_one (ps_ret (pe_listRg rfl (by rfl) B.list (prg_2 (by rfl) B.range (pe_op op_add (pv 0) (pe_int)) (pv 2))))) pss_nil)
      (pss_one (ps_ret (Own.pe_listDown rfl (by rfl) B.list (by rfl) B.range (pa_cons (pe_op op_sub (pv 0) (pe_int)) (pa_cons (pe_un un_neg pe_int) (pa_cons (pe_un un_neg pe_int) pa_nil)))))), ?_⟩
    refine ⟨_, rfl, rfl, _, rfl, ?_⟩
    rw [right_eq]
    cases r with
    | true =>
      refine iteT ⟨_, rfl, _, _, rfl, rfl, _, rfl, _, _, rfl, rfl, ⟨by omega, by omega, by omega, by omega, by omega⟩, fun q hq => ?_⟩
      rw [(beside_right hi).2]
      exact h q hq
    | false =>
      refine iteF ⟨_, rfl, _, _, rfl, rfl, _, rfl, _, rfl, (i : Int) - 1, -1, rfl, by omega, by omega, by omega, by omega, fun q hq => ?_⟩
      rw [beside_left (n := n)]
      exact h q hq
end
/-! ### which stones a push fells -/
def ab (z : Int) : Int := if z < 0 then -z else z
def mx (i j : Int) : Int := if j > i then j else i
/-- one stone after another, as far as the reach goes -/
def scan (xs : List (Int × Int)) (sd : List Bool) (p0 : Int) : Int → List Nat → List Nat
  | _, [] => []
  | r, o :: os => match xs[o]? with
    | none => []
    | some x => if ab (x.1 - p0) > r then [] else if sd[o]? = some true then o :: scan xs sd p0 (mx r (ab (x.1 - p0) + x.2)) os else scan xs sd p0 r os
def felled (xs : List (Int × Int)) (sd : List Bool) (i : Nat) (r : Bool) : List Nat := match xs[i]? with
  | none => []
  | some x => i :: scan xs sd x.1 x.2 (beside r i xs.length)
theorem beside_lt {r : Bool} {i n : Nat} (hi : i < n) : ∀ k ∈ beside r i n, k < n := by
  intro k hk
  cases r with
  | true =>
    simp [beside] at hk
    obtain ⟨j, h1, h2⟩ := hk
    omega
  | false =>
    simp [beside] at hk
    obtain ⟨j, h1, h2⟩ := hk
    omega
theorem beside_len {r : Bool} {i n : Nat} (hi : i < n) : (beside r i n).length ≤ n := by
  cases r <;> simp [beside] <;> omega
theorem scan_len (xs : List (Int × Int)) (sd : List Bool) (p0 : Int) : ∀ (os : List Nat) (r : Int), (scan xs sd p0 r os).length ≤ os.length
  | [], r => by simp [scan]
  | o :: os, r => by
    unfold scan
    split
    · simp
    · rename_i x hx
      split
      · simp
      · split
        · have := scan_len xs sd p0 os (mx r (ab (x.1 - p0) + x.2)); simp; exact this
        · have := scan_len xs sd p0 os r; simp; omega
def spFelled (K : PySem.W.Frag) : Sp := fun vs H Q _ => ∃ (t b : Addr) (us : List V) (xs : List (Int × Int)) (sd : List Bool) (i : Nat) (r : Bool), vs = [.ref t, .ref b, .int i, .str (sideS r)] ∧ SqT K H t us ∧ StonesAt K H us xs ∧ SqL K H b (sd.map V.bl) ∧ sd.length = xs.length ∧ i < xs.length ∧ xs.length ≤ 40 ∧
  ∀ (ns : List Int) (p : Addr) (H' : Hp), ns.Perm ((felled xs sd i r).map fun (k : Nat) => (k : Int)) → ns.Pairwise (· ≤ ·) → Same H H' → H p = none → H' p = some (.lst (ns.map V.int)) → Q (.ref p) H'
theorem sqL_same {K : PySem.W.Frag} {H H' : Hp} {a : Addr} {xs : List V} (e : Same H H') (h : SqL K H a xs) : SqL K H' a xs := e.seq h
theorem ivs_get {ns : List Nat} {k : Nat} {v : V} (h : (ivs ns)[k]? = some v) : ∃ o, ns[k]? = some o ∧ v = V.int (o : Int) := by
  unfold ivs at h
  rw [List.getElem?_map] at h
  cases e : ns[k]? with
  | none => rw [e] at h; cases h
  | some o => rw [e] at h; exact ⟨o, rfl, (Option.some.inj h).symm⟩
theorem drop_get {α : Type} {l : List α} {k : Nat} {o : α} (h : l[k]? = some o) : l.drop k = o :: l.drop (k + 1) := by
  obtain ⟨h1, h2⟩ := List.getElem?_eq_some_iff.mp h
  rw [List.drop_eq_getElem_cons h1, h2]
section
variable {P : Program} {w : World} {K : PySem.W.Frag} {mg : Str → Option Value} {base : Heap}
theorem ok_felled {f g : Addr} {fd gd : FuncData} (F : Fun K "felled_by" "felled_by" s_felled_by f fd) (B : Blt mg) (N : At P w K mg base CX0 1 "stones_beside" ["stone", "side", "count"] spBeside g gd) :
    FnOk P w K mg base CX0 2 f fd ["stones", "standing", "stone", "side"] (spFelled K) := by
  refine F.ok sc_felled_by (fun vs H Q E h => ?_) (fun cdv A outer s H vs Q E hr h => ?_)
  · obtain ⟨t, b, us, xs, sd, i, r, rfl, _⟩ := h
    rfl
  · obtain ⟨t, b, us, xs, sd, i, r, rfl, hT, hS, hB, hl, hi, hn, k⟩ := h
    refine ⟨_, pss_cons (ps_asg (pe_ix ix_tup (pv 0) (pv 2) (fun _ _ => rfl)) (pg_tup rfl (pgs_cons (pg_name (i := 4) sc_felled_by.nd rfl (Or.inl rfl)) (pgs_cons (pg_name (i := 5) sc_felled_by.nd rfl (Or.inl rfl)) pgs_nil))))
      (pss_cons (ps_set (i := 6) sc_felled_by.nd rfl (Or.inl rfl) (pe_lst (pa_cons (pv 2) pa_nil)))
      (pss_cons (ps_for PassesOwn.never rfl (pi_list (pe_at N hr (pa_cons (pv 2) (pa_cons (pv 3) (pa_cons (pe_callB call_len_seq (by rfl) B.len PySem.boot_len (pa_cons (pv 0) pa_nil)) pa_nil))))) (pg_name (i := 7) sc_felled_by.nd rfl (Or.inl rfl))
        (pss_cons (ps_asg (pe_ix ix_tup (pv 0) (pv 7) (fun _ _ => rfl)) (pg_tup rfl (pgs_cons (pg_name (i := 8) sc_felled_by.nd rfl (Or.inl rfl)) (pgs_cons (pg_name (i := 9) sc_felled_by.nd rfl (Or.inl rfl)) pgs_nil))))
        (pss_cons (ps_set (i := 10) sc_felled_by.nd rfl (Or.inl rfl) (pe_callB (call_abs) (by rfl) B.abs boot_abs (pa_cons (pe_op op_sub (pv 8) (pv 4)) pa_nil)))
        (pss_cons (ps_if (pt_cmpR (op_gt) (pv 10) (pv 5) (nomark _)) (pss_one ps_break) pss_nil)
        (pss_one (ps_if (pt_val (pe_ix ix_list (pv 1) (pv 7) (fun _ _ => rfl))) (pss_cons (ps_expr (pe_bm PySem.F.plainAttrs_list PySem.F.slot_list_append PySem.F.type_list_append mt_append (pv 6) (pa_cons (pv 7) pa_nil))) (pss_one (ps_set (i := 5) sc_felled_by.nd rfl (Or.inl rfl) (pe_callB ((call_max2 rfl)) (by rfl) B.max boot_max (pa_cons (pv 5) (pa_cons (pe_op op_add (pv 10) (pv 9)) pa_nil)))))) pss_nil))))))
      (pss_one (ps_ret (pe_callB (cr_sortedI) (by rfl) B.sorted boot_sorted (pa_cons (pv 6) pa_nil)))))), ?_⟩
    obtain ⟨x, hx⟩ : ∃ x, xs[i]? = some x := ⟨xs[i], by simp [hi]⟩
    obtain ⟨a, ha, hsa⟩ := hS.2 i x hx
    -- start, reach = stones[stone]
    refine ⟨_, rfl, _, rfl, t, us, _, _, rfl, rfl, hT, atI_nat ha, a, _, rfl, hsa, rfl, _, _, rfl, _, _, rfl, rfl, ?_⟩
    -- felled = [stone]
    refine ⟨_, rfl, (by show 1 ≤ sizeLine; decide), fun pf nf => ?_⟩
    have s1 := same_new (o := .lst [V.int (i : Int)]) nf
    -- the stones beside
    refine ⟨_, rfl, _, rfl, _, rfl, t, us, rfl, .inr (sqT_same hT s1), ?_⟩
    refine ⟨i, xs.length, r, by rw [hS.1]; rfl, hi, by omega, fun q nq => ?_⟩
    have s2 := same_new (o := .lst (ivs (beside r i xs.length))) nq
    have hpq : pf ≠ q := ne_of_none upd_same nq
    have nf2 : H q = none := Same.free s1 nq
    have fin : ∀ (acc : List Nat) (H3 : Hp), felled xs sd i r = i :: acc → But pf H H3 → H3 pf = some (.lst (ivs (i :: acc))) → ∀ (s7 s8 s9 s10 : Option V) (rr : V),
        tRet (tCB (rSortedI K) (tCons (tVar 6) tNil)) { nx := fun _ H' => Q .non H', rt := Q } [some (.ref t), some (.ref b), some (.int i), some (.str (sideS r)), some (.int x.1), some rr, some (.ref pf), s7, s8, s9, s10] H3 := by
      intro acc H3 e1 e2 e3 s7 s8 s9 s10 rr
      refine ⟨_, rfl, pf, (i :: acc).map fun (k : Nat) => (k : Int), rfl, SqL.of (by rw [e3]; unfold ivs; rw [List.map_map]; rfl), fun ns' p pm rs np => ?_⟩
      have sm : Same H H3 := But.same e2 nf
      exact k ns' p _ (by rw [e1]; exact pm) rs (sm.trans (same_new np)) (Same.free sm np) upd_same
    refine ⟨q, rfl, ⟨_, SqL.of upd_same⟩, for_list (K := K) (a := q) (xs := ivs (beside r i xs.length)) (fun j σ H3 => ∃ (acc : List Nat) (rr : Int) (s7 s8 s9 s10 : Option V),
        σ = [some (.ref t), some (.ref b), some (.int i), some (.str (sideS r)), some (.int x.1), some (.int rr), some (.ref pf), s7, s8, s9, s10] ∧
        felled xs sd i r = i :: acc ++ scan xs sd x.1 rr ((beside r i xs.length).drop j) ∧ But pf H H3 ∧ H3 pf = some (.lst (ivs (i :: acc))) ∧ H3 q = some (.lst (ivs (beside r i xs.length))) ∧ acc.length ≤ j) ?_ ?_ ?_ ?_⟩
    · refine ⟨[], x.2, none, none, none, none, rfl, ?_, (Same.but s1 pf).trans (Same.but s2 pf), ?_, upd_same, Nat.le_refl _⟩
      · unfold felled
        rw [hx]
        rfl
      · rw [upd_ne hpq]
        exact upd_same
    · rintro j σ H3 _ ⟨_, _, _, _, _, _, _, _, _, _, e, _⟩
      exact SqL.of e
    · rintro j y σ H3 hy ⟨acc, rr, s7, s8, s9, s10, rfl, ef, bt, e1, e2, hacc⟩
      obtain ⟨o, ho, rfl⟩ := ivs_get hy
      have hj : j < (beside r i xs.length).length := (List.getElem?_eq_some_iff.mp ho).1
      have holt : o < xs.length := beside_lt hi o (List.mem_of_getElem? ho)
      obtain ⟨z, hz⟩ : ∃ z, xs[o]? = some z := ⟨xs[o], by simp [holt]⟩
      obtain ⟨c, hc, hsc⟩ := hS.2 o z hz
      have sm : Same H H3 := But.same bt nf
      -- place, height = stones[other]
      refine ⟨_, rfl, _, rfl, t, us, _, _, rfl, rfl, sqT_same hT sm, atI_nat hc, c, _, rfl, sqT_same hsc sm, rfl, _, _, rfl, _, _, rfl, rfl, ?_⟩
      -- distance = abs(place - start)
      refine ⟨_, rfl, _, rfl, _, _, rfl, rfl, _, rfl, ?_⟩
      -- if distance > reach: break
      refine ⟨_, rfl, _, rfl, _, _, rfl, rfl, _, rfl, ?_⟩
      rw [drop_get ho] at ef
      refine ite2 (fun hgt => ?_) (fun hgt => ?_)
      · have hgt' : ab (z.1 - x.1) > rr := of_decide_eq_true hgt
        have e0 : felled xs sd i r = i :: acc := by
          rw [ef]
          unfold scan
          rw [hz]
          simp only [hgt', if_true, List.append_nil]
        exact fin acc H3 e0 bt e1 _ _ _ _ _
      · have hgt' : ¬ ab (z.1 - x.1) > rr := fun z => hgt (decide_eq_true z)
        obtain ⟨d, hd⟩ : ∃ d, sd[o]? = some d := ⟨sd[o]'(by omega), by simp⟩
        have hd2 : (sd.map V.bl)[o]? = some (.bl d) := by rw [List.getElem?_map, hd]; rfl
        refine ⟨_, rfl, _, rfl, b, _, _, _, rfl, rfl, sqL_same sm hB, atI_nat hd2, d, rfl, ?_⟩
        cases d with
        | true =>
          refine iteT ⟨_, rfl, .inl ⟨rfl, _, SqL.of e1⟩, _, rfl, pf, _, _, rfl, rfl, e1, ?_, ?_⟩
          · unfold ivs
            rw [List.length_map, List.length_cons, sizeLine_eq]
            have := beside_len (r := r) hi
            omega
          refine ⟨_, rfl, _, rfl, _, rfl, _, _, rfl, rfl, _, _, rfl, ?_⟩
          refine ⟨acc ++ [o], mx rr (ab (z.1 - x.1) + z.2), _, _, _, _, rfl, ?_, bt.trans but_upd, ?_, ?_, ?_⟩
          · rw [ef]
            conv => lhs; unfold scan
            rw [hz]
            simp only [hgt', if_false, hd, if_true, List.cons_append, List.append_assoc, List.nil_append]
          · rw [upd_same]
            unfold ivs
            simp
          · rw [upd_ne hpq.symm]
            exact e2
          · simp; omega
        | false =>
          refine iteF ⟨acc, rr, _, _, _, _, rfl, ?_, bt, e1, e2, by omega⟩
          rw [ef]
          conv => lhs; unfold scan
          rw [hz]
          simp only [hgt', if_false, hd, Option.some.injEq, Bool.false_eq_true]
    · rintro σ H3 ⟨acc, rr, s7, s8, s9, s10, rfl, ef, bt, e1, e2, hacc⟩
      have e0 : felled xs sd i r = i :: acc := by
        rw [ef, List.drop_of_length_le (by unfold ivs; simp)]
        simp [scan]
      exact fin acc H3 e0 bt e1 _ _ _ _ _
end
/-! ### a stone of a row -/
theorem tyT {K : PySem.W.Frag} {H : Hp} {a : Addr} {xs : List V} (h : SqT K H a xs) : TyX K H (.ref a) (.type "tuple") := by
  rcases h with (h | ⟨o, h⟩) | ⟨o, its, n, h, c, _⟩
  · exact .base (.tup h)
  · exact .fTuple h
  · exact .kTuple h c
theorem tyL {K : PySem.W.Frag} {H : Hp} {a : Addr} {xs : List V} (h : SqL K H a xs) : TyX K H (.ref a) (.type "list") := by
  rcases h with (h | ⟨o, h⟩) | ⟨o, its, n, h, c, _⟩
  · exact .base (.lst h)
  · exact .base (.frz h)
  · exact .kList h c
/-- what a value is as a stone of a place from lo on -/
inductive StoneV (K : PySem.W.Frag) (H : Hp) (lo : Int) : V → Bool → Prop where
  | no {v : V} (k : Known K H v) (n : ∀ a, v = .ref a → TyX K H (.ref a) (.type "list")) : StoneV K H lo v false
  | len {a : Addr} {xs : List V} (h : SqT K H a xs) (n : xs.length ≠ 2) : StoneV K H lo (.ref a) false
  | two {a : Addr} {p h : V} (q : SqT K H a [p, h]) (kp : Known K H p) (kh : Known K H h) : StoneV K H lo (.ref a) (numB p lo 1000000000 && numB h 1 1000000000)
def spIsStone (K : PySem.W.Frag) : Sp := fun vs H Q _ => ∃ v lo b, vs = [v, .int lo] ∧ StoneV K H lo v b ∧ Q (.bl b) H
structure Lims (mg : Str → Option Value) : Prop where
  place : ∃ t, mg "GREATEST_PLACE" = some (.int 1000000000 t)
  height : ∃ t, mg "GREATEST_HEIGHT" = some (.int 1000000000 t)
/-- the class Row as the top has made it -/
structure RowC (K : PySem.W.Frag) (mg : Str → Option Value) (C : Addr) : Prop where
  cl : Cls K C
  nS : NoAttr K C "_stones"
  max : ∃ u, Con K C "MAX_STONES" (.int 40) u
  mgC : mg "Row" = some (.ref C)
  first : PySem.W.selfFirst K C = true
  ca : PySem.W.findIn K (.ref C) "__class__" = some (some (.builtin "object.__class__"))
  cn : PySem.W.specialIn K (.builtin "object.__class__") "__get__" = some (some (.builtin "getset_descriptor.__get__"))
  ct : PySem.W.takesIn K (.builtin "object.__class__") = some true
  cm : PySem.W.mroIn K C (.type "object") = some true
theorem RowC.ty {K : PySem.W.Frag} {mg : Str → Option Value} {C : Addr} (R : RowC K mg C) {H : Hp} {a dx : Addr} {fs : List (Str × V)} (h : H a = some (.ins C dx fs)) : TyX K H (.ref a) (.ref C) := .base (.ins h R.cl R.ca R.cn R.ct R.cm)
theorem kit_self {K : PySem.W.Frag} {C : Addr} : PySem.W.kitOne K (.ref C) (.ref C) = some true := by
  unfold PySem.W.kitOne
  rw [if_pos (by simp)]
/-- places that rise from lo on, heights that stones can have -/
def Wf : Int → List (Int × Int) → Prop
  | _, [] => True
  | lo, x :: xs => lo ≤ x.1 ∧ x.1 ≤ 1000000000 ∧ 1 ≤ x.2 ∧ x.2 ≤ 1000000000 ∧ Wf (x.1 + 1) xs
theorem Wf.get : ∀ {xs : List (Int × Int)} {lo : Int} {k : Nat} {x : Int × Int}, Wf lo xs → xs[k]? = some x → (k = 0 → lo ≤ x.1) ∧ (∀ y, 0 < k → xs[k - 1]? = some y → y.1 + 1 ≤ x.1) ∧ x.1 ≤ 1000000000 ∧ 1 ≤ x.2 ∧ x.2 ≤ 1000000000
  | [], _, _, _, _, e => by simp at e
  | z :: xs, lo, 0, x, w, e => by
    simp at e
    subst e
    exact ⟨fun _ => w.1, fun y h => absurd h (by decide), w.2.1, w.2.2.1, w.2.2.2.1⟩
  | z :: xs, lo, k + 1, x, w, e => by
    simp at e
    have ih := Wf.get w.2.2.2.2 e
    refine ⟨fun h => by omega, fun y _ hy => ?_, ih.2.2⟩
    cases k with
    | zero => simp at hy; subst hy; exact ih.1 rfl
    | succ k => simp at hy; exact ih.2.1 y (Nat.succ_pos _) (by simpa using hy)
def rowF (t : Addr) : List (Str × V) := [("_stones", .ref t)]
def RowAt (K : PySem.W.Frag) (C : Addr) (H : Hp) (p : Addr) (xs : List (Int × Int)) : Prop := ∃ dx t us, H p = some (.ins C dx (rowF t)) ∧ SqT K H t us ∧ StonesAt K H us xs
theorem RowAt.same {K : PySem.W.Frag} {C : Addr} {H H' : Hp} {p : Addr} {xs : List (Int × Int)} (h : RowAt K C H p xs) (e : Same H H') : RowAt K C H' p xs :=
  let ⟨dx, t, us, h1, h2, h3⟩ := h; ⟨dx, t, us, e _ _ h1, sqT_same h2 e, h3.same e⟩
def spInitB (K : PySem.W.Frag) (C : Addr) : Sp := fun vs H Q _ => ∃ (p dx t : Addr) (us : List V) (xs : List (Int × Int)), vs = [.ref p, .ref t] ∧ H p = some (.ins C dx []) ∧ SqT K H t us ∧ StonesAt K H us xs ∧ Wf 0 xs ∧ xs.length ≤ 40 ∧
  ∀ H', But p H H' → H' p = some (.ins C dx (rowF t)) → Q .non H'
section
variable {P : Program} {w : World} {K : PySem.W.Frag} {mg : Str → Option Value} {base : Heap}
/-- a def with one parameter and a star -/
theorem star1 {x qual p1 pv' : Str} {st : Stmt} {f : Addr} {fd : FuncData} {N : List Str} {k : Nat} {sp : Sp} (F : Fun K x qual st f fd) (S : FnScope N ([p1] ++ [pv']) (defScope st))
    (h0 : ∀ (kV doc pm : Value) (an : Option Addr) (cdv ct a : Value), bindArgs (PySem.W.fnOf x qual (defArgs st) (defBody st) (defScope st) .none kV doc pm an cdv ct) ⟨[a], []⟩ = (newTuple [] >>= fun t => pure [(p1, a), (pv', t)]))
    (h1 : ∀ (kV doc pm : Value) (an : Option Addr) (cdv ct a r : Value) (rs : List Value), bindArgs (PySem.W.fnOf x qual (defArgs st) (defBody st) (defScope st) .none kV doc pm an cdv ct) ⟨a :: r :: rs, []⟩ = (newTuple (r :: rs) >>= fun t => pure [(p1, a), (pv', t)]))
    (hbody : ∀ (cdv : Value) (A : Around) (outer : List Env) (s : Shared) (H : Hp) (vs : List V) (Q : VK) (E : XK), Room k (A.deeper (envOfC qual (defScope st) s.heap.objs.size f cdv)) → sp vs H Q E →
      ∃ t, PSs (cxOf CX0 P w K mg base N qual (defScope st) f cdv A outer s H E).nox (defBody st) t ∧ t { nx := fun _ H' => Q .non H', rt := Q } (start N vs) H) :
    FnR P w K mg base CX0 (k + 1) f (fun vs H Q E => ∃ w0 rest, vs = w0 :: rest ∧ rest.length ≤ 1000 ∧ ∀ p, H p = none → sp [w0, V.ref p] (upd H p (.tup rest)) Q E) := by
  obtain ⟨oc, od, kV, doc, pm, an, cdv, ct, osl, rfl, lk, hcd⟩ := F.ex
  have base := StX.fn_star (CX := CX0) (P := P) (w := w) (mg := mg) (base := base) (k := k) (ps := [p1]) (sp := sp) lk hcd S (fun _ _ _ _ _ _ _ _ _ _ _ z => z)
    (StX.bind_star1 (B := fun us => bindArgs (PySem.W.fnOf x qual (defArgs st) (defBody st) (defScope st) .none kV doc pm an cdv ct) ⟨us, []⟩) (fun a => h0 kV doc pm an cdv ct a) (fun a r rs => h1 kV doc pm an cdv ct a r rs))
    (fun A outer s H vs Q E hr hsp => by
      obtain ⟨t, h, q⟩ := hbody cdv A outer s H vs Q E hr hsp
      exact ⟨t, h.nox, q⟩)
  refine base.imp fun vs H Q E h => ?_
  obtain ⟨w0, rest, rfl, hz, h⟩ := h
  exact ⟨[w0], rest, rfl, rfl, by rw [sizeLine_eq]; omega, fun p hp => h p hp⟩
theorem ok_isStone {f g : Addr} {fd gd : FuncData} (F : Fun K "_is_stone" "_is_stone" s_is_stone f fd) (B : Blt mg) (L : Lims mg) (N : At P w K mg base CX0 1 "is_number" ["value", "least", "greatest"] (spNum K) g gd) :
    FnOk P w K mg base CX0 2 f fd ["stone", "least_place"] (spIsStone K) := by
  obtain ⟨⟨tp, mp⟩, ⟨th, mh⟩⟩ := id L
  refine F.ok sc_is_stone (fun vs H Q E h => ?_) (fun cdv A outer s H vs Q E hr h => ?_)
  · obtain ⟨v, lo, b, rfl, _⟩ := h
    rfl
  · obtain ⟨v, lo, b, rfl, sv, k⟩ := h
    refine ⟨_, pss_cons (ps_if (PW.pt (pw_or (pt_not (pt_val (pe_callB (call_isi) (by rfl) B.isinstance boot_isinstance (pa_cons (pv 0) (pa_cons (pe_bltn (v := .ty "tuple") (by rfl) B.tuple boot_tuple rfl) pa_nil))))) (pw_or1 (pt_cmpR (op_ne) (pe_callB call_len_seq (by rfl) B.len PySem.boot_len (pa_cons (pv 0) pa_nil)) (pe_int) (nomark _))))) (pss_one (ps_ret pe_bl)) pss_nil)
      (pss_cons (ps_asg (pv 0) (pg_tup rfl (pgs_cons (pg_name (i := 2) sc_is_stone.nd rfl (Or.inl rfl)) (pgs_cons (pg_name (i := 3) sc_is_stone.nd rfl (Or.inl rfl)) pgs_nil))))
      (pss_one (ps_ret (pe_and (pe_at N hr (pa_cons (pv 2) (pa_cons (pv 1) (pa_cons (pe_glob (v := .int 1000000000) (by rfl) mp ⟨_, rfl⟩) pa_nil)))) (pe_one (pe_at N hr (pa_cons (pv 3) (pa_cons (pe_int) (pa_cons (pe_glob (v := .int 1000000000) (by rfl) mh ⟨_, rfl⟩) pa_nil))))))))), ?_⟩
    cases sv with
    | no kn n =>
      have ty : ∃ t : String, TyX K H v (.type t) ∧ PySem.W.kitOne K (.type t) (.type "tuple") = some false := by
        cases v with
        | int i => exact ⟨_, .base (.int i), kit_ty (by decide +kernel)⟩
        | bl i => exact ⟨_, .base (.bl i), kit_ty (by decide +kernel)⟩
        | non => exact ⟨_, .base .non, kit_ty (by decide +kernel)⟩
        | str i => exact ⟨_, .base (.str i), kit_ty (by decide +kernel)⟩
        | ref a => exact ⟨_, n a rfl, kit_ty (by decide +kernel)⟩
        | byt _ => exact kn.elim
        | flt _ => exact kn.elim
        | ty _ => exact kn.elim
      obtain ⟨t, ty, kt⟩ := ty
      refine ⟨_, rfl, v, .ty "tuple", _, _, false, rfl, .ty _, ty, kt, false, rfl, ?_⟩
      refine iteT ?_
      exact iteT k
    | @len a xs hx n =>
      refine ⟨_, rfl, _, .ty "tuple", _, _, true, rfl, .ty _, tyT hx, kit_ty (by decide +kernel), true, rfl, ?_⟩
      refine iteF ?_
      refine ⟨_, rfl, a, xs, rfl, .inr hx, rfl, _, rfl, ?_⟩
      have e : (!decide (V.int (xs.length : Int) = V.int 2)) = true := by
        rw [dec_int]; simp; omega
      rw [e]
      exact iteT k
    | @two a p h q kp kh =>
      refine ⟨_, rfl, _, .ty "tuple", _, _, true, rfl, .ty _, tyT q, kit_ty (by decide +kernel), true, rfl, ?_⟩
      refine iteF ?_
      refine ⟨_, rfl, a, [p, h], rfl, .inr q, rfl, _, rfl, ?_⟩
      refine iteF ?_
      refine ⟨_, rfl, a, [p, h], rfl, q, rfl, _, _, rfl, _, _, rfl, rfl, ?_⟩
      refine ⟨_, rfl, _, rfl, _, _, _, rfl, kp, _, rfl, ?_⟩
      cases e : numB p lo 1000000000 with
      | true =>
        refine iteT ⟨_, rfl, _, _, _, rfl, kh, ?_⟩
        rw [e, Bool.true_and] at k
        exact k
      | false =>
        rw [e, Bool.false_and] at k
        exact iteF k
theorem numB_int {i lo hi : Int} (h1 : lo ≤ i) (h2 : i ≤ hi) : numB (.int i) lo hi = true := by
  show (decide (lo ≤ i) && decide (i ≤ hi)) = true
  rw [decide_eq_true h1, decide_eq_true h2]; rfl
theorem ok_init {f g C : Addr} {fd gd : FuncData} (F : Fun K "__init__" "Row.__init__" s_Row_init f fd) (B : Blt mg) (R : RowC K mg C) (N : At P w K mg base CX0 2 "_is_stone" ["stone", "least_place"] (spIsStone K) g gd) :
    FnR P w K mg base CX0 3 f (fun vs H Q E => ∃ w0 rest, vs = w0 :: rest ∧ rest.length ≤ 1000 ∧ ∀ p, H p = none → spInitB K C [w0, V.ref p] (upd H p (.tup rest)) Q E) := by
  refine star1 F sc_Row_init (fun _ _ _ _ _ _ _ => rfl) (fun _ _ _ _ _ _ _ _ _ => rfl) (fun cdv A outer s H vs Q E hr h => ?_)
  obtain ⟨p, dx, t, us, xs, rfl, hp, hT, hS, hw, hz, k⟩ := h
  obtain ⟨um, cm⟩ := R.max
  refine ⟨_, pss_cons (ps_set (i := 2) sc_Row_init.nd rfl (Or.inl rfl) (pe_int)) (pss_cons (ps_for PassesOwn.never rfl (Own.pi_enumT (by rfl) B.enumerate (pa_cons (pv 1) pa_nil)) (pg_tup rfl (pgs_cons (pg_name (i := 3) sc_Row_init.nd rfl (Or.inl rfl)) (pgs_cons (pg_name (i := 4) sc_Row_init.nd rfl (Or.inl rfl)) pgs_nil)))
      (pss_cons (ps_if (PW.pt (pw_or (pt_cmpR (op_eq) (pv 3) (pe_con (pv 0) rfl) (nomark _)) (pw_or1 (pt_not (pt_val (pe_at N hr (pa_cons (pv 4) (pa_cons (pv 2) pa_nil)))))))) (pss_one ps_never) pss_nil)
      (pss_one (ps_set (i := 2) sc_Row_init.nd rfl (Or.inl rfl) (pe_op op_add (pe_ix ix_tup (pv 4) (pe_int) (fun _ _ => rfl)) (pe_int))))))
    (pss_one (ps_fld (pv 0) (pv 1) rfl))), ?_⟩
  refine ⟨_, rfl, t, us, rfl, hT, for_it (Own.walk_item (K := K) (a := t) (xs := us)) (fun j σ H1 => ∃ (lo : Int) (s3 s4 : Option V), σ = [some (.ref p), some (.ref t), some (.int lo), s3, s4] ∧ Same H H1 ∧ (∀ x, xs[j]? = some x → lo ≤ x.1) ∧ 0 ≤ lo) ?_ ?_ ?_ ?_⟩
  · exact ⟨0, none, none, rfl, Same.refl _, fun x hx => (hw.get hx).1 rfl, Int.le_refl _⟩
  · rintro j σ H1 _ ⟨_, _, _, _, sm, _⟩
    exact sqT_same hT sm
  · rintro j v σ H1 H2 hj ⟨lo, s3, s4, rfl, sm, hlo, h0⟩ ⟨T, y, z, rfl, nT, rfl, e1, e2⟩
    obtain rfl : y = V.int (j : Int) := (Option.some.inj e1).symm
    have hjx : j < xs.length := by rw [← hS.1]; exact hj
    obtain ⟨x, hx⟩ : ∃ x, xs[j]? = some x := ⟨xs[j], by simp [hjx]⟩
    obtain ⟨c, hc, hsc⟩ := hS.2 j x hx
    obtain rfl : z = V.ref c := Option.some.inj (e2.symm.trans hc)
    have sm2 : Same H (upd H1 T (.tup [.int (j : Int), .ref c])) := sm.trans (same_new nT)
    obtain ⟨_, g2, g3, g4, g5⟩ := hw.get hx
    -- index, stone = the pair
    refine ⟨T, _, rfl, SqT.of upd_same, rfl, _, _, rfl, _, _, rfl, rfl, ?_⟩
    -- index == self.MAX_STONES
    refine ⟨_, rfl, _, rfl, p, C, dx, [], _, _, rfl, sm2 _ _ hp, R.cl, cm, rfl, rfl, _, rfl, ?_⟩
    have e40 : decide (V.int (j : Int) = V.int 40) = false := by rw [dec_int]; simp; omega
    rw [e40]
    refine iteF ?_
    -- not _is_stone(stone, least_place)
    refine ⟨_, rfl, _, rfl, _, _, _, rfl, StoneV.two (sqT_same hsc sm2) True.intro True.intro, _, rfl, ?_⟩
    rw [numB_int (hlo x hx) g3, numB_int g4 g5]
    refine iteF ?_
    -- least_place = stone[0] + 1
    refine ⟨_, rfl, c, _, (0 : Nat), _, rfl, rfl, sqT_same hsc sm2, atI_nat (j := 0) rfl, _, _, rfl, rfl, ?_⟩
    refine ⟨x.1 + 1, _, _, rfl, sm2, fun y hy => (hw.get hy).2.1 x (Nat.succ_pos _) (by simpa using hx), ?_⟩
    have := hlo x hx
    omega
  · rintro σ H1 ⟨lo, s3, s4, rfl, sm, _, _⟩
    refine ⟨_, rfl, _, rfl, p, C, dx, [], rfl, sm _ _ hp, R.cl, R.nS, (by show 0 < 1000; decide), ?_⟩
    exact k _ ((Same.but sm p).trans but_upd) upd_same
end
/-! ### a run: what a push fells while all stand -/
def allUp (n : Nat) : List Bool := List.replicate n true
def reachN (xs : List (Int × Int)) (i : Nat) (r : Bool) : Nat := (felled xs (allUp xs.length) i r).length - 1
def run (xs : List (Int × Int)) (i : Nat) (r : Bool) : Nat × Nat := if r then (i, i + reachN xs i r) else (i - reachN xs i r, i)
theorem scan_take {xs : List (Int × Int)} {sd : List Bool} {p0 : Int} (up : ∀ o, o < xs.length → sd[o]? = some true) : ∀ (os : List Nat) (r : Int), (∀ o ∈ os, o < xs.length) → scan xs sd p0 r os = os.take (scan xs sd p0 r os).length
  | [], r, _ => by simp [scan]
  | o :: os, r, h => by
    have ho := h o (by simp)
    unfold scan
    split
    · simp
    · rename_i x hx
      split
      · simp
      · rw [if_pos (up o ho)]
        rw [List.length_cons, List.take_succ_cons, ← scan_take up os _ fun z hz => h z (by simp [hz])]
theorem allUp_get {n o : Nat} (h : o < n) : (allUp n)[o]? = some true := by
  unfold allUp
  rw [List.getElem?_replicate, if_pos h]
theorem felled_take {xs : List (Int × Int)} {i : Nat} {r : Bool} (hi : i < xs.length) : felled xs (allUp xs.length) i r = i :: (beside r i xs.length).take (reachN xs i r) := by
  have hx : xs[i]? = some xs[i] := by simp [hi]
  have e : felled xs (allUp xs.length) i r = i :: scan xs (allUp xs.length) (xs[i]).1 (xs[i]).2 (beside r i xs.length) := by
    unfold felled
    rw [hx]
  have st := scan_take (xs := xs) (sd := allUp xs.length) (p0 := (xs[i]).1) (fun o ho => allUp_get ho) (beside r i xs.length) (xs[i]).2 (beside_lt hi)
  unfold reachN
  rw [e, List.length_cons, Nat.add_sub_cancel]
  exact congrArg (List.cons i) st
theorem reach_le {xs : List (Int × Int)} {i : Nat} {r : Bool} (hi : i < xs.length) : reachN xs i r ≤ (beside r i xs.length).length := by
  have hx : xs[i]? = some xs[i] := by simp [hi]
  unfold reachN felled
  rw [hx, List.length_cons, Nat.add_sub_cancel]
  exact scan_len _ _ _ _ _
theorem besideR_len {i n : Nat} : (beside true i n).length = n - (i + 1) := by simp [beside]
theorem besideL_len {i n : Nat} : (beside false i n).length = i := by simp [beside]
/-- first, first + 1, .. (c + 1 of them) -/
def rise (a c : Nat) : List Int := (List.range (c + 1)).map fun k => ((a + k : Nat) : Int)
theorem rise_le (a c : Nat) : (rise a c).Pairwise (· ≤ ·) := by
  unfold rise
  refine List.Pairwise.map _ (fun x y h => ?_) (List.pairwise_lt_range (n := c + 1))
  show ((a + x : Nat) : Int) ≤ ((a + y : Nat) : Int)
  have : x < y := h
  omega
theorem felled_perm {xs : List (Int × Int)} {i : Nat} {r : Bool} (hi : i < xs.length) : ((felled xs (allUp xs.length) i r).map fun (k : Nat) => (k : Int)).Perm (rise (run xs i r).1 (reachN xs i r)) := by
  rw [felled_take hi]
  have hle := reach_le (r := r) hi
  cases r with
  | true =>
    rw [besideR_len] at hle
    show (List.map _ _).Perm (rise i (reachN xs i true))
    generalize reachN xs i true = c at hle
    refine .of_eq ?_
    unfold rise beside
    rw [if_pos rfl, List.range_succ_eq_map, List.map_cons, List.map_cons, List.map_map, ← List.map_take, List.map_map, List.take_range]
    have e : min c (xs.length - (i + 1)) = c := by omega
    rw [e]
    refine congr (congrArg _ (by simp)) (List.map_congr_left fun k _ => ?_)
    show ((i + 1 + k : Nat) : Int) = ((i + (k + 1) : Nat) : Int)
    omega
  | false =>
    rw [besideL_len] at hle
    show (List.map _ _).Perm (rise (i - reachN xs i false) (reachN xs i false))
    generalize reachN xs i false = c at hle
    have e : List.map (fun (k : Nat) => (k : Int)) (i :: (beside false i xs.length).take c) = (rise (i - c) c).reverse := by
      unfold rise beside
      rw [if_neg (by decide), ← List.map_take, List.take_range]
      have e : min c i = c := by omega
      rw [e]
      apply List.ext_getElem
      · simp
      · intro j h1 h2
        have hj : j < c + 1 := by simpa using h1
        rw [List.getElem_reverse]
        cases j with
        | zero => simp; omega
        | succ j => simp; omega
    rw [e]
    exact List.reverse_perm _
theorem felled_sorted {xs : List (Int × Int)} {i : Nat} {r : Bool} {ns : List Int} (hi : i < xs.length) (p : ns.Perm ((felled xs (allUp xs.length) i r).map fun (k : Nat) => (k : Int))) (s : ns.Pairwise (· ≤ ·)) :
    ns = rise (run xs i r).1 (reachN xs i r) :=
  (p.trans (felled_perm hi)).eq_of_pairwise (fun x y _ _ h1 h2 => Int.le_antisymm h1 h2) s (rise_le _ _)
theorem run_last {xs : List (Int × Int)} {i : Nat} {r : Bool} (hi : i < xs.length) : (run xs i r).1 + reachN xs i r = (run xs i r).2 := by
  have hle := reach_le (r := r) hi
  unfold run
  cases r with
  | true => rfl
  | false =>
    rw [besideL_len] at hle
    show i - reachN xs i false + reachN xs i false = i
    omega
/-! ### Row's methods -/
def spLen (K : PySem.W.Frag) (C : Addr) : Sp := fun vs H Q _ => ∃ p xs, vs = [.ref p] ∧ RowAt K C H p xs ∧ Q (.int (xs.length : Int)) H
def spAdd (K : PySem.W.Frag) (C : Addr) : Sp := fun vs H Q _ => ∃ p q xs ys, vs = [.ref p, .ref q] ∧ RowAt K C H p xs ∧ RowAt K C H q ys ∧ Wf 0 (xs ++ ys) ∧ (xs ++ ys).length ≤ 40 ∧
  ∀ z H', Same H H' → H z = none → RowAt K C H' z (xs ++ ys) → Q (.ref z) H'
def spCall (K : PySem.W.Frag) (C : Addr) : Sp := fun vs H Q _ => ∃ p xs i r, vs = [.ref p, .int (i : Nat), .str (sideS r)] ∧ RowAt K C H p xs ∧ i < xs.length ∧ xs.length ≤ 40 ∧
  ∀ z H', Same H H' → H z = none → H' z = some (.tup [.int ((run xs i r).1 : Nat), .int ((run xs i r).2 : Nat)]) → Q (.ref z) H'
def spMake (K : PySem.W.Frag) (C : Addr) : Sp := fun vs H Q E => ∃ w0 rest, vs = w0 :: rest ∧ rest.length ≤ 1000 ∧ ∀ p, H p = none → spInitB K C [w0, V.ref p] (upd H p (.tup rest)) Q E
section
variable {P : Program} {w : World} {K : PySem.W.Frag} {mg : Str → Option Value} {base : Heap}
/-- what a new row's reading asks, once and for all -/
theorem make_row {C : Addr} {H : Hp} {us : List V} {xs : List (Int × Int)} {Q : VK} {E : XK} (hS : StonesAt K H us xs) (hw : Wf 0 xs) (hz : xs.length ≤ 40) (k : ∀ z H', Same H H' → H z = none → RowAt K C H' z xs → Q (.ref z) H') :
    ∀ z dz, H z = Option.none → H dz = Option.none → dz ≠ z → spMake K C (V.ref z :: us) (upd (upd H dz (.own z)) z (.ins C dz [])) (fun v H2 => v = .non ∧ Q (.ref z) H2) E := by
  intro z dz nz ndz ne
  have s0 : Same H (upd (upd H dz (.own z)) z (.ins C dz [])) := (same_new ndz).trans (same_new (by rw [upd_ne (Ne.symm ne)]; exact nz))
  refine ⟨_, us, rfl, by rw [hS.1]; omega, fun t nt => ?_⟩
  have s1 : Same H (upd (upd (upd H dz (.own z)) z (.ins C dz [])) t (.tup us)) := s0.trans (same_new nt)
  have ntz : z ≠ t := ne_of_none upd_same nt
  refine ⟨z, dz, t, us, xs, rfl, by rw [upd_ne ntz]; exact upd_same, SqT.of upd_same, hS.same s1, hw, hz, fun H' b e => ⟨rfl, ?_⟩⟩
  have sm : Same H H' := But.same ((Same.but s1 z).trans b) nz
  exact k z H' sm nz ⟨dz, t, us, e, SqT.of (b t _ (Ne.symm ntz) upd_same), hS.same sm⟩
theorem ok_len {f C : Addr} {fd : FuncData} (F : Fun K "__len__" "Row.__len__" s_Row_len f fd) (B : Blt mg) (R : RowC K mg C) : FnOk P w K mg base CX0 1 f fd ["self"] (spLen K C) := by
  refine F.ok sc_Row_len (fun vs H Q E h => ?_) (fun cdv A outer s H vs Q E hr h => ?_)
  · obtain ⟨p, xs, rfl, _⟩ := h
    rfl
  · obtain ⟨p, xs, rfl, ⟨dx, t, us, hp, hT, hS⟩, k⟩ := h
    refine ⟨_, pss_one (ps_ret (pe_callB call_len_seq (by rfl) B.len PySem.boot_len (pa_cons (pe_fld (pv 0) rfl) pa_nil))), ?_⟩
    refine ⟨_, rfl, p, C, dx, _, _, rfl, hp, R.cl, R.nS, rfl, t, us, rfl, .inr hT, ?_⟩
    rw [hS.1]
    exact k
theorem ok_add {f g C : Addr} {fd : FuncData} (F : Fun K "__add__" "Row.__add__" s_Row_add f fd) (B : Blt mg) (R : RowC K mg C) (M : Mk K C g)
    (G : FnR P w K mg base CX0 3 g (spMake K C)) : FnOk P w K mg base CX0 5 f fd ["self", "other"] (spAdd K C) := by
  refine F.ok sc_Row_add (fun vs H Q E h => ?_) (fun cdv A outer s H vs Q E hr h => ?_)
  · obtain ⟨p, q, xs, ys, rfl, _⟩ := h
    rfl
  · obtain ⟨p, q, xs, ys, rfl, hp, hq, hw, hz, k⟩ := h
    obtain ⟨dx, t, us, ep, hT, hS⟩ := id hp
    obtain ⟨dy, t', us', eq', hT', hS'⟩ := id hq
    refine ⟨_, pss_cons (ps_if (pt_not (pt_val (pe_callB (call_isi) (by rfl) B.isinstance boot_isinstance (pa_cons (pv 1) (pa_cons (pe_glob (v := .ref C) (by rfl) R.mgC rfl) pa_nil))))) (pss_one ps_never) pss_nil)
      (pss_cons (ps_set (i := 2) sc_Row_add.nd rfl (Or.inl rfl) (pe_op op_catA (pe_fld (pv 0) rfl) (pe_fld (pv 1) rfl)))
      (pss_one (ps_ret (Own.pe_makeS M G hr (by rfl) R.mgC pass0 (pv 2))))), ?_⟩
    refine ⟨_, rfl, _, .ref C, _, _, true, rfl, .own C, R.ty eq', kit_self, true, rfl, ?_⟩
    refine iteF ?_
    refine ⟨_, rfl, p, C, dx, _, _, rfl, ep, R.cl, R.nS, rfl, _, rfl, q, C, dy, _, _, rfl, eq', R.cl, R.nS, rfl, t, t', us, us', rfl, rfl, hT, hT', ?_, fun e => ?_, fun n e => ?_, fun n n' y ny => ?_⟩
    · rw [hS.1, hS'.1, ← List.length_append, sizeLine_eq]; omega
    · refine ⟨_, rfl, t', us', rfl, .inl hT', make_row (xs := xs ++ ys) ?_ hw hz k⟩
      have := hS.append hS'
      rw [e] at this
      exact this
    · refine ⟨_, rfl, t, us, rfl, .inl hT, make_row (xs := xs ++ ys) ?_ hw hz k⟩
      have := hS.append hS'
      rw [e, List.append_nil] at this
      exact this
    · have s1 := same_new (o := .tup (us ++ us')) ny
      refine ⟨_, rfl, y, _, rfl, .inl (SqT.of upd_same), make_row ((hS.append hS').same s1) hw hz fun z H' sm nz ra => k z H' (s1.trans sm) (Same.free s1 nz) ra⟩
theorem ok_call {f C g1 g2 g3 : Addr} {fd d1 d2 d3 : FuncData} (F : Fun K "__call__" "Row.__call__" s_Row_call f fd) (B : Blt mg) (R : RowC K mg C) (N1 : At P w K mg base CX0 2 "check_stone" ["stone", "count"] spCheckStone g1 d1)
    (N2 : At P w K mg base CX0 1 "check_side" ["side"] spCheckSide g2 d2) (N3 : At P w K mg base CX0 2 "felled_by" ["stones", "standing", "stone", "side"] (spFelled K) g3 d3) :
    FnOk P w K mg base CX0 3 f fd ["self", "stone", "side"] (spCall K C) := by
  refine F.ok sc_Row_call (fun vs H Q E h => ?_) (fun cdv A outer s H vs Q E hr h => ?_)
  · obtain ⟨p, xs, i, r, rfl, _⟩ := h
    rfl
  · obtain ⟨p, xs, i, r, rfl, ⟨dx, t, us, ep, hT, hS⟩, hi, hz, k⟩ := h
    refine ⟨_, pss_cons (ps_expr (pe_at N1 hr (pa_cons (pv 1) (pa_cons (pe_callB call_len_seq (by rfl) B.len PySem.boot_len (pa_cons (pe_fld (pv 0) rfl) pa_nil)) pa_nil))))
      (pss_cons (ps_expr (pe_at N2 (hr.mono (by decide)) (pa_cons (pv 2) pa_nil)))
      (pss_cons (ps_set (i := 3) sc_Row_call.nd rfl (Or.inl rfl) (pe_op op_rep (pe_lst (pa_cons (pe_bl) pa_nil)) (pe_callB call_len_seq (by rfl) B.len PySem.boot_len (pa_cons (pe_fld (pv 0) rfl) pa_nil))))
      (pss_cons (ps_set (i := 4) sc_Row_call.nd rfl (Or.inl rfl) (pe_at N3 hr (pa_cons (pe_fld (pv 0) rfl) (pa_cons (pv 3) (pa_cons (pv 1) (pa_cons (pv 2) pa_nil))))))
      (pss_one (ps_ret (pe_tup (pa_cons (pe_ix ix_list (pv 4) (pe_int) (fun _ _ => rfl)) (pa_cons (pe_ix ix_list (pv 4) (pe_un un_neg pe_int) (fun _ _ => rfl)) pa_nil)))))))), ?_⟩
    refine ⟨_, rfl, _, rfl, p, C, dx, _, _, rfl, ep, R.cl, R.nS, rfl, t, us, rfl, .inr hT, ?_⟩
    refine ⟨i, xs.length, by rw [hS.1]; rfl, hi, ?_⟩
    refine ⟨_, rfl, r, rfl, ?_⟩
    -- standing
    refine ⟨by show 1 ≤ sizeLine; decide, fun a na => ?_⟩
    have s1 := same_new (o := .lst [V.bl true]) na
    refine ⟨_, rfl, p, C, dx, _, _, rfl, s1 _ _ ep, R.cl, R.nS, rfl, t, us, rfl, .inr (sqT_same hT s1), ?_⟩
    refine ⟨a, _, _, rfl, rfl, upd_same, by omega, by rw [hS.1]; omega, by rw [hS.1, sizeLine_eq]; simp; omega, fun b nb => ?_⟩
    have s2 : Same H _ := s1.trans (same_new (o := .lst (List.replicate ((us.length : Int)).toNat [V.bl true]).flatten) nb)
    -- felled
    refine ⟨_, rfl, p, C, dx, _, _, rfl, s2 _ _ ep, R.cl, R.nS, rfl, _, rfl, _, rfl, _, rfl, ?_⟩
    have eb : (List.replicate ((us.length : Int)).toNat [V.bl true]).flatten = (allUp xs.length).map V.bl := by
      rw [hS.1]
      unfold allUp
      simp
    refine ⟨t, b, us, xs, allUp xs.length, i, r, rfl, sqT_same hT s2, hS.same s2, SqL.of (by rw [upd_same, eb]), by unfold allUp; simp, hi, hz, fun ns q H3 pm so sm nq e3 => ?_⟩
    rw [felled_sorted hi pm so] at e3
    have s3 := s2.trans sm
    have g0 : atI ((rise (run xs i r).1 (reachN xs i r)).map V.int) ((0 : Nat) : Int) = some (.int ((run xs i r).1 : Nat)) := by
      refine atI_nat ?_
      unfold rise
      simp
    have g1 : atI ((rise (run xs i r).1 (reachN xs i r)).map V.int) (-1) = some (.int ((run xs i r).2 : Nat)) := by
      unfold rise
      rw [List.range_succ, List.map_append, List.map_append]
      refine Eq.trans (atI_last _ (V.int (((run xs i r).1 + reachN xs i r : Nat) : Int))) ?_
      rw [run_last hi]
    refine ⟨_, rfl, q, _, _, _, rfl, rfl, SqL.of e3, g0, _, rfl, 1, rfl, q, _, (-1), _, rfl, rfl, SqL.of e3, g1, by show 2 ≤ sizeLine; decide, fun z nz => ?_⟩
    exact k z _ (s3.trans (same_new nz)) (Same.free s3 nz) upd_same
end
/-! ### checks that raise -/
/-- an own class of exceptions, below ValueError, without an own __init__ -/
structure RaiseC (K : PySem.W.Frag) (mg : Str → Option Value) (x : Str) (C : Addr) : Prop where
  ex : PySem.W.excIn K C [.type "ValueError", .type "Exception", .type "BaseException", .type "object"] "ValueError.__new__" = true
  m : mg x = some (.ref C)
  kp : PySem.W.keepIn K (.ref C) = true
  sub : PySem.W.subIn K (.ref C) (.type "BaseException") = some true
  ty : PySem.W.typeIn K (.ref C) = some (.type "type")
/-- numbers whose texts are short -/
def shortI (i : Int) : Prop := i.natAbs.log2 < 1920
theorem short_nat {n : Nat} (h : n ≤ 1000) : shortI (n : Int) := by
  unfold shortI
  rw [Int.natAbs_natCast]
  exact Nat.lt_of_le_of_lt (Nat.log2_le_self n) (by omega)
theorem lenJ {a b : Str} {n m : Nat} (ha : a.length ≤ n) (hb : b.length ≤ m) : (a ++ b).length ≤ n + m := by
  rw [Str.length_append]
  omega
theorem lenI {i : Int} (h : shortI i) : (Str.ofString (toString i)).length ≤ 1921 := PyProof.Rows.int_text_len_1921 h
theorem lenS {a : Str} {n : Nat} (h : a.length ≤ n) (hn : n ≤ 10000) : a.length ≤ sizeLine := Nat.le_trans h (Nat.le_trans hn (by decide))
def spCheckNumX (K : PySem.W.Frag) (C : Addr) : Sp := fun vs H Q E => ∃ (v : V) (lo hi : Int), vs = [v, .int lo, .int hi] ∧ Known K H v ∧ shortI lo ∧ shortI hi ∧ (numB v lo hi = true → Q .non H) ∧ (numB v lo hi = false → E (.ref C) none H)
def spCheckStoneX (K : PySem.W.Frag) (C : Addr) : Sp := fun vs H Q E => ∃ (v : V) (n : Nat), vs = [v, .int n] ∧ Known K H v ∧ n ≤ 1000 ∧ (numB v 0 ((n : Int) - 1) = true → Q .non H) ∧ (numB v 0 ((n : Int) - 1) = false → E (.ref C) none H)
section
variable {P : Program} {w : World} {K : PySem.W.Frag} {mg : Str → Option Value} {base : Heap}
theorem ok_checkNumX {f g C : Addr} {fd gd : FuncData} (F : Fun K "check_number" "check_number" s_check_number f fd) (R : RaiseC K mg "InvalidNumber" C) (N : At P w K mg base CX0 1 "is_number" ["value", "least", "greatest"] (spNum K) g gd) :
    FnOk P w K mg base (L2.CX P w) 2 f fd ["value", "least", "greatest"] (spCheckNumX K C) := by
  refine F.okX sc_check_number (fun vs H Q E h => ?_) (fun cdv A outer s H vs Q E hr h => ?_)
  · obtain ⟨v, lo, hi, rfl, _⟩ := h
    rfl
  · obtain ⟨v, lo, hi, rfl, kn, sl, sh, h1, h2⟩ := h
    refine ⟨_, pss_one (ps_if (pt_not (pt_val (pe_at N hr (pa_cons (pv 0) (pa_cons (pv 1) (pa_cons (pv 2) pa_nil)))))) (pss_one (ps_raise rfl (takes_of rfl rfl rfl rfl)
      (SkE.pmk_own1 PySem.F.excBase_ValueError R.ex R.m R.kp (raises_own R.sub R.ty) (by rfl) (pe_joined (.cons pe_str (.cons (pe_fmt (pv 1)) (.cons pe_str (.cons (pe_fmt (pv 2)) .nil)))))))) pss_nil), ?_⟩
    refine ⟨_, rfl, _, rfl, _, rfl, _, _, _, rfl, kn, _, rfl, ?_⟩
    cases e : numB v lo hi with
    | true => exact iteF (h1 e)
    | false =>
      refine iteT ?_
      have l1 : (Str.empty ++ ("no number from " : Str)).length ≤ 15 := by decide
      have l2 := lenJ l1 (lenI sl)
      have l3 := lenJ (b := " to ") (m := 4) l2 (by decide)
      have l4 := lenJ l3 (lenI sh)
      exact ⟨_, rfl, lenS l1 (by decide), _, rfl, .inr ⟨lo, rfl, sl, _, rfl, lenS l2 (by decide), _, rfl, lenS l3 (by decide), _, rfl, .inr ⟨hi, rfl, sh, _, rfl, lenS l4 (by decide), h2 e⟩⟩⟩
theorem ok_checkStoneX {f g C : Addr} {fd gd : FuncData} (F : Fun K "check_stone" "check_stone" s_check_stone f fd) (R : RaiseC K mg "UnknownStone" C) (N : At P w K mg base CX0 1 "is_number" ["value", "least", "greatest"] (spNum K) g gd) :
    FnOk P w K mg base (L2.CX P w) 2 f fd ["stone", "count"] (spCheckStoneX K C) := by
  refine F.okX sc_check_stone (fun vs H Q E h => ?_) (fun cdv A outer s H vs Q E hr h => ?_)
  · obtain ⟨v, n, rfl, _⟩ := h
    rfl
  · obtain ⟨v, n, rfl, kn, hn, h1, h2⟩ := h
    refine ⟨_, pss_one (ps_if (pt_not (pt_val (pe_at N hr (pa_cons (pv 0) (pa_cons (pe_int) (pa_cons (pe_op op_sub (pv 1) (pe_int)) pa_nil)))))) (pss_one (ps_raise rfl (takes_of rfl rfl rfl rfl)
      (SkE.pmk_own1 PySem.F.excBase_ValueError R.ex R.m R.kp (raises_own R.sub R.ty) (by rfl) (pe_joined (.cons pe_str (.cons (pe_fmt (pv 1)) (.cons pe_str .nil))))))) pss_nil), ?_⟩
    refine ⟨_, rfl, _, rfl, _, _, rfl, rfl, _, _, _, rfl, kn, _, rfl, ?_⟩
    cases e : numB v 0 ((n : Int) - 1) with
    | true => exact iteF (h1 e)
    | false =>
      refine iteT ?_
      have sn := short_nat hn
      have l1 : (Str.empty ++ ("no number of one of " : Str)).length ≤ 20 := by decide
      have l2 := lenJ l1 (lenI sn)
      have l3 := lenJ (b := " stones") (m := 7) l2 (by decide)
      exact ⟨_, rfl, lenS l1 (by decide), _, rfl, .inr ⟨n, rfl, sn, _, rfl, lenS l2 (by decide), _, rfl, lenS l3 (by decide), h2 e⟩⟩
end
/-! ### own exceptions that say super().__init__ -/
def spExI (K : PySem.W.Frag) (D : Addr) (fld : Str) : Sp := fun vs H Q _ => ∃ (a : Addr) (i : Int), vs = [.ref a, .int i] ∧ shortI i ∧ H a = some (exo a D none) ∧ OexC K D ∧ ∀ dx, H dx = none → dx ≠ a → Q .non (upd (upd H dx (exd dx [(fld, .int i)])) a (exo a D (some dx)))
section
variable {P : Program} {w : World} {K : PySem.W.Frag} {mg : Str → Option Value} {base : Heap}
theorem ok_deInit {f cc D cd : Addr} {kV doc pm ct oc : Value} {an od : Option Addr} {osl : Array (Option Value)} {lf : Obj} {vs0 : Array Value} {file : Str} {tf : Tok}
    (lk : K.lookup f = some ⟨oc, od, .func (PySem.W.fnX "__init__" "DecodeError.__init__" (defArgs s_DecodeError_init) (defBody s_DecodeError_init) (defScope s_DecodeError_init) [("__class__", cc)] .none kV doc pm an (.ref cd) ct), osl⟩) (hcd : PySem.W.codeIn K (.ref cd) "DecodeError.__init__" = true)
    (Z : SupX.SupD P K cc D) (lc : K.lookup cd = some lf) (hlf : lf.data = .fields vs0) (hv2 : vs0[2]? = some (.str file tf)) (hfile : ((P.main.file : Str) == file) = true) (hm : mg ("super" : Str) = none) (nF : PySem.W.findIn K (.ref D) "offset" = some none) :
    FnOk P w K mg base CX0 1 f (PySem.W.fnX "__init__" "DecodeError.__init__" (defArgs s_DecodeError_init) (defBody s_DecodeError_init) (defScope s_DecodeError_init) [("__class__", cc)] .none kV doc pm an (.ref cd) ct) ["self", "offset"] (spExI K D "offset") := by
  refine SupX.fn_sup (P := P) (w := w) (mg := mg) (base := base) (k := 0) (D := D) (N := ["self", "offset", "__class__"]) lk hcd Z (NdefX.nscope_by (by decide +kernel)) rfl lc hlf hv2 hfile rfl hm rfl rfl (fun vs H Q E h => ?_) (fun _ => rfl) (fun _ => rfl) (fun A outer s H vs Q E hr h => ?_)
  · obtain ⟨a, i, rfl, _⟩ := h
    rfl
  · obtain ⟨a, i, rfl, si, ha, T, k⟩ := h
    refine ⟨_, _, (pa_cons (pe_joined (.cons pe_str (.cons (pe_fmt (pv 1)) .nil))) pa_nil), pss_one (ps_ost (pv 0) (pv 1)), ?_⟩
    have l1 : (Str.empty ++ ("invalid byte: offset " : Str)).length ≤ 21 := by decide
    have l2 := lenJ l1 (lenI si)
    refine ⟨a, rfl, ha, ?_⟩
    exact ⟨_, rfl, lenS l1 (by decide), _, rfl, .inr ⟨i, rfl, si, _, rfl, lenS l2 (by decide), by show 1 ≤ 1000; decide, ha, T, _, rfl, _, rfl, a, D, rfl, T, nF, .inl ⟨ha, fun dx n ne => k dx n ne⟩⟩⟩
end
/-! ### own exceptions made -/
structure ExI (P : Program) (w : World) (K : PySem.W.Frag) (mg : Str → Option Value) (base : Heap) (x fld : Str) (D : Addr) : Prop where
  T : OexC K D
  m : mg x = some (.ref D)
  ini : ∃ (f : Addr) (fd : FuncData), PySem.W.findIn K (.ref D) "__init__" = some (some (.ref f)) ∧ PySem.W.typeIn K (.ref f) = some (.type "function") ∧ FnOk P w K mg base CX0 1 f fd ["self", fld] (spExI K D fld) ∧ L2.Binds K fd ["self", fld] []
section
variable {X : Cx} {x fld : Str} {D : Addr} {e : Expr} {es : List Expr} {ta : TA} {p pos : Pos}
theorem pmk_exI (Z : ExI X.prog X.w X.K X.mg X.base x fld D) (hr : Room 2 X.A) (ha : PA X (e :: es) ta) (hg : Gl X x := by rfl)
    (hdb : (x == ("__debug__" : Str)) = false := by decide) (he : starEach (e :: es) X.env = (false, eval e X.env) :: starEach es X.env := by rfl) (hpl : (backTo pos (starEach es X.env)).any (·.1) = false := by rfl) :
    PMk X (.Call (.Name x p) (e :: es) [] pos) (tMkO D (spExI X.K D fld) [] ta) := by
  obtain ⟨f, fd, h1, h2, h3, h4⟩ := Z.ini
  exact pmk_oex Z.T h1 h2 h3 hr h4 .nil pass0 hg Z.m ha hdb he hpl
end
theorem mko_of {K : PySem.W.Frag} {D : Addr} {fld : Str} {j : Nat} {i : Int} {σ : L2.St} {H : Hp} {Q : XK} (T : OexC K D) (h : σ[j]? = some (some (.int i))) (si : shortI i)
    (k : ∀ dx H', Same H H' → H dx = none → H' dx = some (.xd [(fld, .int i)]) → Q (.ref D) (some dx) H') : tMkO D (spExI K D fld) [] (tCons (tVar j) tNil) σ H Q := by
  refine ⟨_, h, by show 1 ≤ 1000; decide, fun a na => ⟨a, i, rfl, si, upd_same, T, fun dx n ne => ⟨rfl, dx, _, upd_same, by rw [upd_ne ne]; exact upd_same, ?_, ?_⟩⟩⟩
  · rw [upd_ne ne] at n
    exact n
  · rw [upd_ne ne] at n
    refine k dx _ (fun b o e => ?_) n upd_same
    have hba : b ≠ a := ne_of_none e na
    have hbd : b ≠ dx := ne_of_none e n
    rw [upd_ne hbd, del_ne hba, upd_ne hba, upd_ne hbd, upd_ne hba]
    exact e
section
variable {X : Cx} {k : Nat} {x : Str} {ps : List Str} {sp : Sp} {f : Addr} {fd : FuncData} {p pos : Pos} {e : Expr} {es : List Expr} {t : TA} {W : WX}
theorem pe_atE (G : At X.prog X.w X.K X.mg X.base (L2.CX X.prog X.w) k x ps sp f fd) (hr : Room k X.A) (tk : Takes X W) (ha : PA X (e :: es) t) (hg : Gl X x := by rfl) (hdb : (x == ("__debug__" : Str)) = false := by decide)
    (he : starEach (e :: es) X.env = (false, eval e X.env) :: starEach es X.env := by rfl) (hpl : (backTo pos (starEach es X.env)).any (·.1) = false := by rfl) :
    PE X (.Call (.Name x p) (e :: es) [] pos) (tCallS sp (WE W) t) := pe_callS G.ok hr hg G.m G.kp G.b (fun s => passAt tk s) ha hdb he hpl
end
/-! ### check_side, and a call of a row, that raise -/
def sideD (d : PyData) : Bool := PyData.eqv (.str "left") d || PyData.eqv (.str "right") d
theorem side_some {K : PySem.W.Frag} {H : Hp} {v : V} {d : PyData} (h : Dp K H v d) (e : sideD d = true) : ∃ r, v = .str (sideS r) := by
  cases h with
  | str x =>
    unfold sideD at e
    simp only [PyData.eqv, Bool.or_eq_true, beq_iff_eq] at e
    rcases e with rfl | rfl
    · exact ⟨false, rfl⟩
    · exact ⟨true, rfl⟩
  | non => cases e
  | bl b => cases e
  | int i => cases e
  | lst _ _ => cases e
  | tup _ _ => cases e
theorem side_ok (r : Bool) : sideD (.str (sideS r)) = true := by cases r <;> decide +kernel
theorem side_shaped (r : Bool) : SeqAt.shaped (.str (sideS r)) = true := by cases r <;> decide +kernel
def spCheckSideX (K : PySem.W.Frag) (C : Addr) : Sp := fun vs H Q E => ∃ (v : V) (d : PyData), vs = [v] ∧ Dp K H v d ∧ SeqAt.shaped d = true ∧ (sideD d = true → Q .non H) ∧ (sideD d = false → E (.ref C) none H)
/-- what a push's check finds: an unknown stone, no side, or a push -/
def spCallX (K : PySem.W.Frag) (C C2 C3 : Addr) : Sp := fun vs H Q E => ∃ (p : Addr) (xs : List (Int × Int)) (v sv : V) (d : PyData), vs = [.ref p, v, sv] ∧ RowAt K C H p xs ∧ xs.length ≤ 40 ∧ Known K H v ∧ Dp K H sv d ∧ SeqAt.shaped d = true ∧
  (numB v 0 ((xs.length : Int) - 1) = false → E (.ref C2) none H) ∧ (numB v 0 ((xs.length : Int) - 1) = true → sideD d = false → E (.ref C3) none H) ∧
  ∀ (i : Nat) (r : Bool), v = .int (i : Int) → sv = .str (sideS r) → i < xs.length → ∀ z H', Same H H' → H z = none → H' z = some (.tup [.int ((run xs i r).1 : Nat), .int ((run xs i r).2 : Nat)]) → Q (.ref z) H'
section
variable {P : Program} {w : World} {K : PySem.W.Frag} {mg : Str → Option Value} {base : Heap}
theorem ok_checkSideX {f S C : Addr} {fd : FuncData} (F : Fun K "check_side" "check_side" s_check_side f fd) (R : RaiseC K mg "InvalidSide" C) (mS : mg "SIDES" = some (.ref S)) (hS : ∀ H, SqT K H S [.str "left", .str "right"]) :
    FnOk P w K mg base (L2.CX P w) 1 f fd ["side"] (spCheckSideX K C) := by
  refine F.okX sc_check_side (fun vs H Q E h => ?_) (fun cdv A outer s H vs Q E hr h => ?_)
  · obtain ⟨v, d, rfl, _⟩ := h
    rfl
  · obtain ⟨v, d, rfl, hv, sd, h1, h2⟩ := h
    have hu65 : (A.deeper (envOfC "check_side" (defScope s_check_side) s.heap.objs.size f cdv)).units + 65 < cLine := by have := hr.un; omega
    refine ⟨_, pss_one (ps_if (pt_cmpR (DictI.op_notInT hu65) (pv 0) (pe_glob (v := .ref S) (by rfl) mS rfl) (by rfl)) (pss_one (ps_raise rfl (takes_of rfl rfl rfl rfl)
      (pmk_own PySem.F.excBase_ValueError R.ex R.m R.kp (raises_own R.sub R.ty) (by exact rfl)))) pss_nil), ?_⟩
    refine ⟨_, rfl, d, [.str "left", .str "right"], hv, .tup (hS H) (.cons (.str _) (.cons (.str _) .nil)), sd, by decide +kernel, _, rfl, ?_⟩
    have e : ([PyData.str "left", .str "right"].any fun z => PyData.eqv z d) = sideD d := by simp [sideD]
    rw [e]
    cases q : sideD d with
    | true => exact iteF (h1 q)
    | false => exact iteT (h2 q)
end
/-! ### the law's draws -/
def Drw (K : PySem.W.Frag) (H : Hp) (L a : Addr) (ns : List Int) : Prop := ∃ i s r : Int, H L = some (.lst [.ref a, .int i, .int s, .int r]) ∧ 0 ≤ i ∧ 0 ≤ s ∧ s < 2147483647 ∧ SqL K H a (ns.map V.int)
theorem Drw.up {K : PySem.W.Frag} {H H' : Hp} {L a : Addr} {ns : List Int} (h : Drw K H L a ns) (e : Same H H') : Drw K H' L a ns :=
  let ⟨i, s, r, h1, h2, h3, h4, h5⟩ := h; ⟨i, s, r, e _ _ h1, h2, h3, h4, e.seq h5⟩
theorem script_stays {K : PySem.W.Frag} {H : Hp} {L a : Addr} {ns : List Int} {o : HO} {vs : List V} (h : H L = some (.lst (.ref a :: vs))) (hs : SqL K H a (ns.map V.int)) : SqL K (upd H L o) a (ns.map V.int) := by
  have ne : ∀ u, H a = some u → (u = .lst (ns.map V.int) ∨ ∃ ob, u = .frz ob (.lst (ns.map V.int))) → a ≠ L := by
    intro u hu hk z
    subst z
    rw [h] at hu
    rcases hk with rfl | ⟨ob, rfl⟩
    · injection hu with e
      injection e with e
      cases ns <;> cases e
    · cases hu
  rcases hs with (hs | ⟨ob, hs⟩) | hs
  · exact .inl (.inl (by rw [upd_ne (ne _ hs (.inl rfl))]; exact hs))
  · exact .inl (.inr ⟨ob, by rw [upd_ne (ne _ hs (.inr ⟨ob, rfl⟩))]; exact hs⟩)
  · exact .inr hs
def spTaken (K : PySem.W.Frag) : Sp := fun vs H Q _ => ∃ (L a : Addr) (ns : List Int) (m : Int), vs = [.ref L, .int m] ∧ 0 < m ∧ m < 1073741824 ∧ Drw K H L a ns ∧
  ∀ (n : Int) (H' : Hp), 0 ≤ n → n < m → Drw K H' L a ns → But L H H' → Q (.int n) H'
section
variable {P : Program} {w : World} {K : PySem.W.Frag} {mg : Str → Option Value} {base : Heap}
theorem ok_taken {f : Addr} {fd : FuncData} (F : Fun K "_law_taken" "_law_taken" s_law_taken f fd) (B : Blt mg) : FnOk P w K mg base CX0 1 f fd ["_law_row_here", "_law_many"] (spTaken K) := by
  refine F.ok sc_law_taken (fun vs H Q E h => ?_) (fun cdv A outer s H vs Q E hr h => ?_)
  · obtain ⟨L, a, ns, m, rfl, _⟩ := h
    rfl
  · obtain ⟨L, a, ns, m, rfl, m0, m1, ⟨i, sd, r, hL, i0, sd0, sd1, hs⟩, k⟩ := h
    refine ⟨_, pss_cons (ps_if (pt_cmpR (op_gt) (pe_ix ix_list (pv 0) (pe_int) (fun _ _ => rfl)) (pe_int) (nomark _))
        (pss_cons (ps_set (i := 2) sc_law_taken.nd rfl (Or.inl rfl) (pe_op op_mod (pe_callTy (call_int1) (by rfl) B.int boot_int (pa_cons (pe_ix ix_list (pv 0) (pe_int) (fun _ _ => rfl)) pa_nil)) (pv 1)))
        (pss_cons (ps_asg (pe_op op_fdiv (pe_ix ix_list (pv 0) (pe_int) (fun _ _ => rfl)) (pv 1)) (pg_sub (pv 0) pe_int set_list))
        (pss_one (ps_ret (pv 2))))) pss_nil)
      (pss_cons (ps_asg (pe_op op_add (pe_ix ix_list (pv 0) (pe_int) (fun _ _ => rfl)) (pe_int)) (pg_sub (pv 0) pe_int set_list))
      (pss_cons (ps_if (pt_cmpR (op_gt) (pe_ix ix_list (pv 0) (pe_int) (fun _ _ => rfl)) (pe_callB call_len_seq (by rfl) B.len PySem.boot_len (pa_cons (pe_ix ix_list (pv 0) (pe_int) (fun _ _ => rfl)) pa_nil)) (nomark _))
        (pss_cons (ps_asg (pe_op op_mod (pe_callTy (call_int1) (by rfl) B.int boot_int (pa_cons (pe_op op_add (pe_op op_mul (pe_ix ix_list (pv 0) (pe_int) (fun _ _ => rfl)) pe_int) (pe_int)) pa_nil)) pe_int) (pg_sub (pv 0) pe_int set_list))
        (pss_one (ps_ret (pe_op op_mod (pe_callTy (call_int1) (by rfl) B.int boot_int (pa_cons (pe_op op_fdiv (pe_ix ix_list (pv 0) (pe_int) (fun _ _ => rfl)) pe_int) pa_nil)) (pv 1))))) pss_nil)
      (pss_cons (ps_set (i := 3) sc_law_taken.nd rfl (Or.inl rfl) (pe_ix ix_list (pe_ix ix_list (pv 0) (pe_int) (fun _ _ => rfl)) (pe_op op_sub (pe_ix ix_list (pv 0) (pe_int) (fun _ _ => rfl)) (pe_int)) (fun _ _ => rfl)))
      (pss_cons (ps_asg (pe_op op_mod (pe_callTy (call_int1) (by rfl) B.int boot_int (pa_cons (pe_op op_add (pe_op op_add (pe_op op_mul (pe_ix ix_list (pv 0) (pe_int) (fun _ _ => rfl)) pe_int) (pv 3)) (pe_int)) pa_nil)) pe_int) (pg_sub (pv 0) pe_int set_list))
      (pss_cons (ps_if (pt_cmpR (op_ge) (pv 3) (pe_op op_pow pe_int pe_int) (nomark _)) (pss_one (ps_asg (pe_op op_fdiv (pv 3) (pv 1)) (pg_sub (pv 0) pe_int set_list))) pss_nil)
      (pss_one (ps_ret (pe_op op_mod (pe_callTy (call_int1) (by rfl) B.int boot_int (pa_cons (pv 3) pa_nil)) (pv 1))))))))), ?_⟩
    -- if row[3] > 0
    refine ⟨_, rfl, ⟨L, _, ((3 : Nat) : Int), _, rfl, rfl, SqL.of hL, atI_nat (j := 3) rfl, _, _, rfl, rfl, _, rfl, ?_⟩⟩
    refine ite2 (fun hr3 => ?_) (fun hr3 => ?_)
    · refine ⟨_, rfl, ⟨L, _, ((3 : Nat) : Int), _, rfl, rfl, SqL.of hL, atI_nat (j := 3) rfl, .inl ⟨_, rfl, _, rfl, _, _, rfl, rfl, m0, ?_⟩⟩⟩
      refine ⟨_, rfl, ⟨L, _, ((3 : Nat) : Int), _, rfl, rfl, SqL.of hL, atI_nat (j := 3) rfl, _, rfl, _, _, rfl, rfl, ⟨m0, m1⟩, _, rfl, L, _, _, 3, rfl, rfl, hL, rfl, _, rfl, ?_⟩⟩
      exact k _ _ (Int.emod_nonneg _ (by omega)) (Int.emod_lt_of_pos _ m0) ⟨i, sd, _, upd_same, i0, sd0, sd1, script_stays hL hs⟩ but_upd
    · -- row[1] = row[1] + 1
      refine ⟨_, rfl, ⟨L, _, ((1 : Nat) : Int), _, rfl, rfl, SqL.of hL, atI_nat (j := 1) rfl, _, _, rfl, rfl, _, rfl, L, _, _, 1, rfl, rfl, hL, rfl, ?_⟩⟩
      have hs1 : SqL K (upd H L (.lst [.ref a, .int (i + 1), .int sd, .int r])) a (ns.map V.int) := script_stays hL hs
      have b1 : But L H (upd H L (.lst [.ref a, .int (i + 1), .int sd, .int r])) := but_upd
      have h1 : (upd H L (.lst [.ref a, .int (i + 1), .int sd, .int r])) L = some (.lst [.ref a, .int (i + 1), .int sd, .int r]) := upd_same
      generalize hH1 : upd H L (.lst [.ref a, .int (i + 1), .int sd, .int r]) = H1 at hs1 b1 h1
      rw [show upd H L (.lst ([V.ref a, V.int i, V.int sd, V.int r].set 1 (V.int (i + 1)))) = H1 from hH1]
      refine ⟨_, rfl, ⟨L, _, ((1 : Nat) : Int), _, rfl, rfl, SqL.of h1, atI_nat (j := 1) rfl, _, rfl, ⟨L, _, ((0 : Nat) : Int), _, rfl, rfl, SqL.of h1, atI_nat (j := 0) rfl, a, _, rfl, .inl hs1, _, _, rfl, rfl, _, rfl, ?_⟩⟩⟩
      refine ite2 (fun hgt => ?_) (fun hgt => ?_)
      · refine ⟨_, rfl, ⟨L, _, ((2 : Nat) : Int), _, rfl, rfl, SqL.of h1, atI_nat (j := 2) rfl, _, _, rfl, rfl, .inl ⟨by omega, by omega⟩, _, _, rfl, rfl, .inl ⟨_, rfl, _, _, rfl, rfl, (show (0 : Int) < 2147483647 by decide), _, rfl, L, _, _, 2, rfl, rfl, h1, rfl, ?_⟩⟩⟩
        have h2 : ∀ z : Int, (upd H1 L (.lst [.ref a, .int (i + 1), .int z, .int r])) L = some (.lst [.ref a, .int (i + 1), .int z, .int r]) := fun z => upd_same
        refine ⟨_, rfl, ⟨L, _, ((2 : Nat) : Int), _, rfl, rfl, SqL.of (h2 _), atI_nat (j := 2) rfl, _, _, rfl, rfl, ⟨by decide, by decide⟩, .inl ⟨_, rfl, _, rfl, _, _, rfl, rfl, m0, ?_⟩⟩⟩
        exact k _ _ (Int.emod_nonneg _ (by omega)) (Int.emod_lt_of_pos _ m0) ⟨i + 1, _, r, upd_same, by omega, Int.emod_nonneg _ (by decide), Int.emod_lt_of_pos _ (by decide), script_stays h1 hs1⟩ (b1.trans but_upd)
      · have hle : i + 1 ≤ (ns.length : Int) := by
          have : ¬ i + 1 > ((ns.map V.int).length : Int) := fun z => hgt (decide_eq_true z)
          rw [List.length_map] at this
          omega
        obtain ⟨c, hc⟩ : ∃ c, ns[i.toNat]? = some c := ⟨ns[i.toNat]'(by omega), by simp⟩
        have hc2 : atI (ns.map V.int) (i + 1 - 1) = some (.int c) := at_of (j := i.toNat) (by omega) (by rw [List.getElem?_map, hc]; rfl)
        refine ⟨_, rfl, ⟨L, _, ((0 : Nat) : Int), _, rfl, rfl, SqL.of h1, atI_nat (j := 0) rfl, _, rfl, ⟨L, _, ((1 : Nat) : Int), _, rfl, rfl, SqL.of h1, atI_nat (j := 1) rfl, _, _, rfl, rfl, a, _, _, _, rfl, rfl, hs1, hc2, ?_⟩⟩⟩
        refine ⟨_, rfl, ⟨L, _, ((2 : Nat) : Int), _, rfl, rfl, SqL.of h1, atI_nat (j := 2) rfl, _, _, rfl, rfl, .inl ⟨by omega, by omega⟩, _, rfl, _, _, rfl, rfl, _, _, rfl, rfl, .inl ⟨_, rfl, _, _, rfl, rfl, (show (0 : Int) < 2147483647 by decide), _, rfl, L, _, _, 2, rfl, rfl, h1, rfl, ?_⟩⟩⟩
        refine ⟨_, rfl, 10, 18, rfl, rfl, ⟨by decide, by decide, by decide⟩, _, _, rfl, rfl, _, rfl, ?_⟩
        have h2 : ∀ z : Int, (upd H1 L (.lst [.ref a, .int (i + 1), .int z, .int r])) L = some (.lst [.ref a, .int (i + 1), .int z, .int r]) := fun z => upd_same
        refine ite2 (fun hbig => ?_) (fun hbig => ?_)
        · refine ⟨_, rfl, _, rfl, _, _, rfl, rfl, ⟨m0, m1⟩, _, rfl, L, _, _, 3, rfl, rfl, h2 _, rfl, ?_⟩
          refine ⟨_, rfl, .inl ⟨_, rfl, _, rfl, _, _, rfl, rfl, m0, ?_⟩⟩
          exact k _ _ (Int.emod_nonneg _ (by omega)) (Int.emod_lt_of_pos _ m0) ⟨i + 1, _, _, upd_same, by omega, Int.emod_nonneg _ (by decide), Int.emod_lt_of_pos _ (by decide), script_stays (h2 _) (script_stays h1 hs1)⟩ ((b1.trans but_upd).trans but_upd)
        · refine ⟨_, rfl, .inl ⟨_, rfl, _, rfl, _, _, rfl, rfl, m0, ?_⟩⟩
          exact k _ _ (Int.emod_nonneg _ (by omega)) (Int.emod_lt_of_pos _ m0) ⟨i + 1, _, r, upd_same, by omega, Int.emod_nonneg _ (by decide), Int.emod_lt_of_pos _ (by decide), script_stays h1 hs1⟩ (b1.trans but_upd)
end
/-! ### objects that stay while a list changes -/
theorem sqT_but {K : PySem.W.Frag} {H H' : Hp} {a l : Addr} {xs ys : List V} (h : SqT K H a xs) (hl : H l = some (.lst ys)) (b : But l H H') : SqT K H' a xs := by
  rcases h with (h | ⟨o, h⟩) | h
  · exact .inl (.inl (b _ _ (ne_of h hl (by intro z; cases z)) h))
  · exact .inl (.inr ⟨o, b _ _ (ne_of h hl (by intro z; cases z)) h⟩)
  · exact .inr h
theorem StonesAt.but {K : PySem.W.Frag} {H H' : Hp} {l : Addr} {ys vs : List V} {xs : List (Int × Int)} (h : StonesAt K H vs xs) (hl : H l = some (.lst ys)) (b : But l H H') : StonesAt K H' vs xs :=
  ⟨h.1, fun k x q => let ⟨a, q1, q2⟩ := h.2 k x q; ⟨a, q1, sqT_but q2 hl b⟩⟩
theorem RowAt.but {K : PySem.W.Frag} {C : Addr} {H H' : Hp} {p l : Addr} {ys : List V} {xs : List (Int × Int)} (h : RowAt K C H p xs) (hl : H l = some (.lst ys)) (b : But l H H') : RowAt K C H' p xs :=
  let ⟨dx, t, us, h1, h2, h3⟩ := h; ⟨dx, t, us, b _ _ (ne_of h1 hl (by intro z; cases z)) h1, sqT_but h2 hl b, h3.but hl b⟩
/-- the law's own list: the script, a place in it, a seed, a rest -/
def Cell (H : Hp) (L a : Addr) : Prop := ∃ i s r : Int, H L = some (.lst [.ref a, .int i, .int s, .int r]) ∧ 0 ≤ i ∧ 0 ≤ s ∧ s < 2147483647
theorem Drw.cell {K : PySem.W.Frag} {H : Hp} {L a : Addr} {ns : List Int} (h : Drw K H L a ns) : Cell H L a := let ⟨i, s, r, h1, h2, h3, h4, _⟩ := h; ⟨i, s, r, h1, h2, h3, h4⟩
theorem Cell.list {H : Hp} {L a : Addr} (h : Cell H L a) : ∃ ys, H L = some (.lst ys) := let ⟨_, _, _, h, _⟩ := h; ⟨_, h⟩
theorem Cell.but {H H' : Hp} {L a p : Addr} (h : Cell H L a) (b : But p H H') (ne : L ≠ p) : Cell H' L a := let ⟨i, s, r, h1, h2⟩ := h; ⟨i, s, r, b _ _ ne h1, h2⟩
theorem Cell.same {H H' : Hp} {L a : Addr} (h : Cell H L a) (b : Same H H') : Cell H' L a := let ⟨i, s, r, h1, h2⟩ := h; ⟨i, s, r, b _ _ h1, h2⟩
theorem Drw.next {K : PySem.W.Frag} {H H' : Hp} {L a : Addr} {ns : List Int} (h : Drw K H L a ns) (b : But L H H') (c : Cell H' L a) : Drw K H' L a ns := by
  obtain ⟨i, s, r, h1, h2, h3, h4, hs⟩ := h
  obtain ⟨i', s', r', g1, g2, g3, g4⟩ := c
  refine ⟨i', s', r', g1, g2, g3, g4, ?_⟩
  have ne : ∀ u, H a = some u → (u = .lst (ns.map V.int) ∨ ∃ ob, u = .frz ob (.lst (ns.map V.int))) → a ≠ L := by
    intro u hu hk z
    subst z
    rw [h1] at hu
    rcases hk with rfl | ⟨ob, rfl⟩
    · injection hu with e
      injection e with e
      cases ns <;> cases e
    · cases hu
  rcases hs with (hs | ⟨ob, hs⟩) | hs
  · exact .inl (.inl (b _ _ (ne _ hs (.inl rfl)) hs))
  · exact .inl (.inr ⟨ob, b _ _ (ne _ hs (.inr ⟨ob, rfl⟩)) hs⟩)
  · exact .inr hs
theorem But.sub {H H' : Hp} {p L : Addr} (b : But p H H') (hp : H p = none) : But L H H' := fun c o _ e => b c o (ne_of_none e hp) e
/-- all but l stays; a new p may change, too -/
theorem But.two {H H1 H2 : Hp} {p L : Addr} (a : But L H H1) (hp : H p = none) (b : But p H1 H2) : But L H H2 := fun c o n e => b c o (ne_of_none e hp) (a c o n e)

/-! ### the law's stones -/
/-- stones as the law draws them -/
def Drawn (xs : List (Int × Int)) : Prop := ∀ x ∈ xs, 0 ≤ x.1 ∧ x.1 ≤ 2 + 10 * (xs.length : Int) ∧ 1 ≤ x.2 ∧ x.2 ≤ 40
theorem Wf.snoc : ∀ {xs : List (Int × Int)} {lo : Int} {y : Int × Int}, Wf lo xs → lo ≤ y.1 → (∀ x ∈ xs, x.1 + 1 ≤ y.1) → y.1 ≤ 1000000000 → 1 ≤ y.2 → y.2 ≤ 1000000000 → Wf lo (xs ++ [y])
  | [], lo, y, _, h1, _, h2, h3, h4 => ⟨h1, h2, h3, h4, True.intro⟩
  | x :: xs, lo, y, w, _, h, h2, h3, h4 => ⟨w.1, w.2.1, w.2.2.1, w.2.2.2.1, Wf.snoc w.2.2.2.2 (h x (by simp)) (fun z hz => h z (by simp [hz])) h2 h3 h4⟩
theorem pick {m k : Int} {vs : List Int} (hm : m = (vs.length : Int)) (h0 : 0 ≤ k) (h1 : k < m) : ∃ z ∈ vs, atI (vs.map V.int) k = some (.int z) := by
  have hk : k.toNat < vs.length := by omega
  exact ⟨vs[k.toNat], by simp, at_of (j := k.toNat) (by omega) (by simp [hk])⟩
def spStones (K : PySem.W.Frag) : Sp := fun vs H Q _ => ∃ (L a : Addr) (ns : List Int) (m : Int), vs = [.ref L, .int m] ∧ 0 ≤ m ∧ m ≤ 30 ∧ Drw K H L a ns ∧
  ∀ (p : Addr) (us : List V) (xs : List (Int × Int)) (H' : Hp), Drw K H' L a ns → But L H H' → H p = none → H' p = some (.lst us) → StonesAt K H' us xs → Wf 0 xs → Drawn xs → (xs.length : Int) ≤ m → Q (.ref p) H'
section
variable {P : Program} {w : World} {K : PySem.W.Frag} {mg : Str → Option Value} {base : Heap}
theorem ok_stones {f g : Addr} {fd gd : FuncData} (F : Fun K "_law_stones" "_law_stones" s_law_stones f fd) (B : Blt mg) (N : At P w K mg base CX0 1 "_law_taken" ["_law_row_here", "_law_many"] (spTaken K) g gd) :
    FnOk P w K mg base CX0 2 f fd ["_law_row_here", "_law_most"] (spStones K) := by
  refine F.ok sc_law_stones (fun vs H Q E h => ?_) (fun cdv A outer s H vs Q E hr h => ?_)
  · obtain ⟨L, a, ns, m, rfl, _⟩ := h
    rfl
  · obtain ⟨L, a, ns, m, rfl, m0, m1, D, k⟩ := h
    refine ⟨_, pss_cons (ps_par rfl sc_law_stones.nd (i := 2) (j := 3) rfl rfl (by decide) rfl rfl (pa_cons (pe_lst pa_nil) (pa_cons (pe_at N hr (pa_cons (pv 0) (pa_cons (pe_int) pa_nil))) pa_nil)) (by rfl))
      (pss_cons (ps_for PassesOwn.never rfl (pi_range1 (by rfl) B.range (pa_cons (pe_at N hr (pa_cons (pv 0) (pa_cons (pe_op op_add (pv 1) (pe_int)) pa_nil))) pa_nil)) (pg_name (i := 4) sc_law_stones.nd rfl (Or.inl rfl))
        (pss_cons (ps_expr (pe_bm PySem.F.plainAttrs_list PySem.F.slot_list_append PySem.F.type_list_append mt_append (pv 2) (pa_cons (pe_tup (pa_cons (pv 3) (pa_cons (pe_op op_add (pe_int) (pe_at N hr (pa_cons (pv 0) (pa_cons (pe_ix ix_list (pe_lst (pa_cons (pe_int) (pa_cons (pe_int) (pa_cons (pe_int) (pa_cons (pe_int) pa_nil))))) (pe_at N hr (pa_cons (pv 0) (pa_cons (pe_int) pa_nil))) (fun _ _ => rfl)) pa_nil)))) pa_nil))) pa_nil)))
        (pss_one (ps_set (i := 3) sc_law_stones.nd rfl (Or.inl rfl) (pe_op op_add (pe_op op_add (pv 3) (pe_int)) (pe_at N hr (pa_cons (pv 0) (pa_cons (pe_ix ix_list (pe_lst (pa_cons (pe_int) (pa_cons (pe_int) (pa_cons (pe_int) pa_nil)))) (pe_at N hr (pa_cons (pv 0) (pa_cons (pe_int) pa_nil))) (fun _ _ => rfl)) pa_nil))))))))
      (pss_one (ps_ret (pv 2)))), ?_⟩
    refine ⟨by show 0 ≤ sizeLine; decide, fun p np => ?_⟩
    have c0 := D.cell
    have nLp : L ≠ p := let ⟨ys, e⟩ := c0.list; ne_of_none e np
    -- place
    refine ⟨_, rfl, L, a, ns, 3, rfl, by decide, by decide, D.up (same_new np), fun pl H1 p0 p1 D1 b1 => ?_⟩
    have e1 : H1 p = some (.lst []) := b1 _ _ (Ne.symm nLp) upd_same
    have b1' : But L H H1 := (Same.but (same_new np) L).trans b1
    refine ⟨_, _, rfl, ?_⟩
    -- how many
    refine ⟨_, rfl, _, rfl, _, _, rfl, rfl, L, a, ns, m + 1, rfl, by omega, by omega, D1, fun n H2 n0 n1 D2 b2 => ?_⟩
    refine ⟨n, rfl, by omega, by omega, for_range (lo := 0) (n := n.toNat) (fun j σ H3 => ∃ (us : List V) (xs : List (Int × Int)) (pl : Int) (s4 : Option V), σ = [some (.ref L), some (.int m), some (.ref p), some (.int pl), s4] ∧
      Cell H3 L a ∧ But L H H3 ∧ H3 p = some (.lst us) ∧ StonesAt K H3 us xs ∧ Wf 0 xs ∧ xs.length = j ∧ 0 ≤ pl ∧ pl ≤ 2 + 10 * (j : Int) ∧ Drawn xs ∧ (∀ x ∈ xs, x.1 + 1 ≤ pl)) ?_ ?_ ?_⟩
    · exact ⟨[], [], pl, none, rfl, D2.cell, b1'.trans b2, b2 _ _ (Ne.symm nLp) e1, StonesAt.nil, True.intro, rfl, p0, by omega, fun x h => (nomatch h), fun x h => (nomatch h)⟩
    · rintro j σ H3 hj ⟨us, xs, pl, s4, rfl, cl, b3, ep, hS, hw, hl, q0, q1, hd, hlt⟩
      have hj' : (j : Int) < 30 := by omega
      -- the tuple: place, 1 + ..
      refine ⟨_, rfl, .inl ⟨rfl, _, SqL.of ep⟩, ?_⟩
      refine ⟨_, rfl, _, rfl, ?_⟩
      refine ⟨by show 4 ≤ sizeLine; decide, fun l1 nl1 => ?_⟩
      have s4' := same_new (o := .lst [V.int 2, V.int 5, V.int 12, V.int 40]) nl1
      refine ⟨_, rfl, L, a, ns, 4, rfl, by decide, by decide, (D.next b3 cl).up s4', fun k1 H4 k10 k11 D4 b4 => ?_⟩
      obtain ⟨z1, hz1, ez1⟩ := pick (vs := [2, 5, 12, 40]) rfl k10 k11
      have nl1L : l1 ≠ L := fun e => by obtain ⟨ys, q⟩ := cl.list; rw [← e, nl1] at q; cases q
      refine ⟨l1, _, k1, _, rfl, rfl, SqL.of (b4 _ _ nl1L upd_same), ez1, ?_⟩
      have z1b : 1 ≤ z1 ∧ z1 ≤ 40 := by simp at hz1; omega
      refine ⟨L, a, ns, z1, rfl, by omega, by omega, D4, fun h1 H5 h10 h11 D5 b5 => ?_⟩
      refine ⟨_, _, rfl, rfl, by show 2 ≤ sizeLine; decide, fun T nT => ?_⟩
      have b35 : But L H3 H5 := ((Same.but s4' L).trans b4).trans b5
      have ep5 : H5 p = some (.lst us) := b35 _ _ (Ne.symm nLp) ep
      have epT : (upd H5 T (.tup [V.int pl, V.int (1 + h1)])) p = some (.lst us) := same_new nT _ _ ep5
      obtain ⟨ysL, eL⟩ := cl.list
      have hS5 : StonesAt K (upd H5 T (.tup [V.int pl, V.int (1 + h1)])) us xs := (hS.but eL b35).same (same_new nT)
      refine ⟨p, us, _, rfl, rfl, epT, ?_, ?_⟩
      · rw [hS.1, hl, sizeLine_eq]; omega
      have epN : (upd (upd H5 T (.tup [V.int pl, V.int (1 + h1)])) p (.lst (us ++ [.ref T]))) p = some (.lst (us ++ [.ref T])) := upd_same
      have hT : SqT K (upd (upd H5 T (.tup [V.int pl, V.int (1 + h1)])) p (.lst (us ++ [.ref T]))) T [V.int pl, V.int (1 + h1)] := sqT_but (SqT.of upd_same) epT but_upd
      have hSN : StonesAt K (upd (upd H5 T (.tup [V.int pl, V.int (1 + h1)])) p (.lst (us ++ [.ref T]))) (us ++ [.ref T]) (xs ++ [(pl, 1 + h1)]) := (hS5.but epT but_upd).append (StonesAt.one hT)
      have clN : Cell (upd (upd H5 T (.tup [V.int pl, V.int (1 + h1)])) p (.lst (us ++ [.ref T]))) L a := (D5.cell.same (same_new nT)).but but_upd nLp
      have bN : But L H (upd (upd H5 T (.tup [V.int pl, V.int (1 + h1)])) p (.lst (us ++ [.ref T]))) := ((b3.trans b35).new nT).two np but_upd
      generalize hHN : upd (upd H5 T (.tup [V.int pl, V.int (1 + h1)])) p (.lst (us ++ [.ref T])) = HN at epN hSN clN bN
      -- place = place + 1 + ..
      refine ⟨_, rfl, _, _, rfl, rfl, _, rfl, ?_⟩
      refine ⟨by show 3 ≤ sizeLine; decide, fun l2 nl2 => ?_⟩
      have s6 := same_new (o := .lst [V.int 1, V.int 3, V.int 9]) nl2
      refine ⟨_, rfl, L, a, ns, 3, rfl, by decide, by decide, (D.next bN clN).up s6, fun k2 H6 k20 k21 D6 b6 => ?_⟩
      obtain ⟨z2, hz2, ez2⟩ := pick (vs := [1, 3, 9]) rfl k20 k21
      have nl2L : l2 ≠ L := fun e => by obtain ⟨ys, q⟩ := clN.list; rw [← e, nl2] at q; cases q
      refine ⟨l2, _, k2, _, rfl, rfl, SqL.of (b6 _ _ nl2L upd_same), ez2, ?_⟩
      have z2b : 1 ≤ z2 ∧ z2 ≤ 9 := by simp at hz2; omega
      refine ⟨L, a, ns, z2, rfl, by omega, by omega, D6, fun h2 H7 h20 h21 D7 b7 => ?_⟩
      have bN7 : But L HN H7 := ((Same.but s6 L).trans b6).trans b7
      obtain ⟨ysN, eN⟩ := clN.list
      refine ⟨_, _, rfl, rfl, us ++ [.ref T], xs ++ [(pl, 1 + h1)], pl + 1 + h2, _, rfl, D7.cell, bN.trans bN7, bN7 _ _ (Ne.symm nLp) epN, hSN.but eN bN7, ?_, by simp [hl], by omega, by omega, ?_, ?_⟩
      · exact hw.snoc q0 hlt (by show pl ≤ _; omega) (by show 1 ≤ 1 + h1; omega) (by show 1 + h1 ≤ _; omega)
      · intro x hx
        rcases List.mem_append.mp hx with hx | hx
        · obtain ⟨w1, w2, w3⟩ := hd x hx; exact ⟨w1, by rw [List.length_append]; simp; omega, w3⟩
        · simp at hx; subst hx; exact ⟨q0, by rw [List.length_append]; simp; omega, by show 1 ≤ 1 + h1; omega, by show 1 + h1 ≤ 40; omega⟩
      · intro x hx
        rcases List.mem_append.mp hx with hx | hx
        · have := hlt x hx; omega
        · simp at hx; subst hx; show pl + 1 ≤ _; omega
    · rintro σ H3 ⟨us, xs, pl, s4, rfl, cl, b3, ep, hS, hw, hl, q0, q1, hd, hlt⟩
      exact ⟨_, rfl, k p us xs H3 (D.next b3 cl) b3 np ep hS hw hd (by omega)⟩
end
/-! ### the law's row, put together one by one -/
theorem toR {P : Program} {w : World} {K : PySem.W.Frag} {mg : Str → Option Value} {base : Heap} {CX : CXT} {k : Nat} {f : Addr} {fd : FuncData} {ps : List Str} {sp : Sp} (F : FnOk P w K mg base CX k f fd ps sp) (b : Binds K fd ps []) : FnR P w K mg base CX k f sp :=
  (F.raw b .nil).imp fun vs H Q E h => by rw [List.append_nil]; exact h
theorem Wf.take : ∀ {xs : List (Int × Int)} {lo : Int} (n : Nat), Wf lo xs → Wf lo (xs.take n)
  | [], _, n, _ => by cases n <;> exact True.intro
  | _ :: _, _, 0, _ => True.intro
  | x :: xs, _, n + 1, w => ⟨w.1, w.2.1, w.2.2.1, w.2.2.2.1, Wf.take n w.2.2.2.2⟩
theorem Wf.low : ∀ {xs : List (Int × Int)} {lo : Int} {k : Nat} {x : Int × Int}, Wf lo xs → xs[k]? = some x → lo ≤ x.1
  | [], _, _, _, _, e => by simp at e
  | z :: xs, lo, 0, x, w, e => by simp at e; subst e; exact w.1
  | z :: xs, lo, k + 1, x, w, e => by
    simp at e
    have h1 := w.1
    have h2 := Wf.low w.2.2.2.2 e
    omega
theorem Wf.sub {xs : List (Int × Int)} {lo : Int} {k : Nat} {x : Int × Int} (h0 : 0 ≤ lo) (w : Wf lo xs) (e : xs[k]? = some x) : Wf 0 [x] := by
  obtain ⟨_, _, h3, h4, h5⟩ := w.get e
  exact ⟨Int.le_trans h0 (w.low e), h3, h4, h5, True.intro⟩
def spRow (K : PySem.W.Frag) (C : Addr) : Sp := fun vs H Q _ => ∃ (q : Addr) (us : List V) (xs : List (Int × Int)), vs = [.ref q] ∧ SqL K H q us ∧ StonesAt K H us xs ∧ Wf 0 xs ∧ xs.length ≤ 40 ∧
  ∀ z H', Same H H' → H z = none → RowAt K C H' z xs → Q (.ref z) H'
theorem seq_of {t u : TS} {D : Ends} {σ : L2.St} {H : Hp} (h : t { D with nx := u D } σ H) : tSeq t u D σ H := h
theorem asg_of {te : TE} {g : TG} {D : Ends} {σ : L2.St} {H : Hp} (h : te σ H fun x H1 => g x σ H1 D.nx) : tAsg te g D σ H := h
theorem mk0 {K : PySem.W.Frag} {C : Addr} {E : XK} {σ : L2.St} {H : Hp} {Q : VK} (h : ∀ z H', Same H H' → H z = none → RowAt K C H' z [] → Q (.ref z) H') : StX.tMakeR C (spMake K C) E tNil σ H Q :=
  fun n1 n2 n3 n4 n5 => make_row (Q := Q) (xs := []) StonesAt.nil True.intro (by decide) h n1 n2 n3 n4 n5
theorem mk1 {K : PySem.W.Frag} {C : Addr} {E : XK} {σ : L2.St} {H : Hp} {Q : VK} {i : Nat} {c : Addr} {x : Int × Int} (e : σ[i]? = some (some (.ref c))) (hx : SqT K H c [.int x.1, .int x.2]) (w : Wf 0 [x]) (h : ∀ z H', Same H H' → H z = none → RowAt K C H' z [x] → Q (.ref z) H') :
    StX.tMakeR C (spMake K C) E (tCons (tVar i) tNil) σ H Q :=
  ⟨_, e, fun n1 n2 n3 n4 n5 => make_row (Q := Q) (xs := [x]) (StonesAt.one hx) w (by simp) h n1 n2 n3 n4 n5⟩
/-- how a sign's def stands in the class -/
structure Sign (K : PySem.W.Frag) (C : Addr) (x : Str) (f : Addr) : Prop where
  at_ : PySem.W.findIn K (.ref C) x = some (some (.ref f))
  fn : PySem.W.isFn K (.ref f) = true
section
variable {P : Program} {w : World} {K : PySem.W.Frag} {mg : Str → Option Value} {base : Heap}
theorem ok_row {f g a C : Addr} {fd : FuncData} (F : Fun K "_law_row" "_law_row" s_law_row f fd) (B : Blt mg) (R : RowC K mg C) (M : Mk K C g) (G : FnR P w K mg base CX0 3 g (spMake K C)) (A1 : FnR P w K mg base CX0 5 a (spAdd K C)) (SA : Sign K C "__add__" a) :
    FnOk P w K mg base CX0 6 f fd ["_law_stones_here"] (spRow K C) := by
  refine F.ok sc_law_row (fun vs H Q E h => ?_) (fun cdv A outer s H vs Q E hr h => ?_)
  · obtain ⟨q, us, xs, rfl, _⟩ := h
    rfl
  · obtain ⟨q, us, xs, rfl, hq, hS, hw, hz, k⟩ := h
    refine ⟨_, pss_cons (ps_set (i := 1) sc_law_row.nd rfl (Or.inl rfl) (Own.pe_makeR0 M G (hr.mono (by decide)) (by rfl) R.mgC pass0))
      (pss_cons (ps_for PassesOwn.never rfl (pi_list (pv 0)) (pg_name (i := 2) sc_law_row.nd rfl (Or.inl rfl))
        (pss_one (ps_set (i := 1) sc_law_row.nd rfl (Or.inl rfl) (pe_op (Own.op_bin (op := .Add) (C := C) (g := a) R.first SA.at_ SA.fn A1 hr pass0) (pv 1) (StX.pe_makeR M G (hr.mono (by decide)) (by rfl) R.mgC pass0 (pa_cons (pv 2) pa_nil))))))
      (pss_one (ps_ret (pv 1)))), ?_⟩
    refine seq_of (asg_of (mk0 fun z0 H1 s1 nz0 r0 => ?_))
    refine ⟨_, rfl, q, rfl, ⟨_, s1.seq hq⟩, for_list (K := K) (a := q) (xs := us) (fun j σ H2 => ∃ (z : Addr) (s2 : Option V), σ = [some (.ref q), some (.ref z), s2] ∧ Same H H2 ∧ H z = none ∧ RowAt K C H2 z (xs.take j)) ?_ ?_ ?_ ?_⟩
    · exact ⟨z0, none, rfl, s1, nz0, by rw [List.take_zero]; exact r0⟩
    · rintro j σ H2 _ ⟨_, _, _, sm, _⟩
      exact sm.seq hq
    · rintro j y σ H2 hy ⟨z, s2, rfl, sm, nz, rz⟩
      have hj : j < xs.length := by rw [← hS.1]; exact (List.getElem?_eq_some_iff.mp hy).1
      obtain ⟨x, hx⟩ : ∃ x, xs[j]? = some x := ⟨xs[j], by simp [hj]⟩
      obtain ⟨c, hc, hsc⟩ := hS.2 j x hx
      obtain rfl : y = V.ref c := Option.some.inj (hy.symm.trans hc)
      refine ⟨_, rfl, mk1 (i := 2) (x := x) rfl (sqT_same hsc sm) (hw.sub (Int.le_refl _) hx) fun z2 H3 s3 nz2 r2 => ?_⟩
      obtain ⟨dx, t, ws, e1, g1, g2⟩ := id (rz.same s3)
      obtain ⟨dy, t', ws', e2, g3, g4⟩ := id r2
      have et : xs.take j ++ [x] = xs.take (j + 1) := by rw [List.take_add_one, hx]; rfl
      refine ⟨z, dx, _, z2, dy, _, rfl, rfl, e1, e2, z, z2, _, _, rfl, rz.same s3, r2, by rw [et]; exact hw.take _, by rw [et]; simp; omega, fun z4 H4 s4 nz4 r4 => ?_⟩
      rw [et] at r4
      exact ⟨z4, _, rfl, (sm.trans s3).trans s4, Same.free (sm.trans s3) nz4, r4⟩
    · rintro σ H2 ⟨z, s2, rfl, sm, nz, rz⟩
      rw [show us.length = xs.length from hS.1, List.take_length] at rz
      exact ⟨_, rfl, k z H2 sm nz rz⟩
end
/-! ### the stones of a row, and rows that are equal -/
def stD (x : Int × Int) : PyData := .tuple [.int x.1, .int x.2]
def stonesD (xs : List (Int × Int)) : PyData := .tuple (xs.map stD)
theorem canLay_stones : ∀ xs : List (Int × Int), PyData.canLayAll0 (xs.map stD) = true
  | [] => rfl
  | x :: xs => by
    show PyData.canLayAll0 (stD x :: xs.map stD) = true
    rw [PyData.canLayAll0, canLay_stones xs]
    simp [stD, PyData.canLay0, PyData.canLayAll0]
theorem depth_stones : ∀ xs : List (Int × Int), PyData.depthAll (xs.map stD) ≤ 2
  | [] => by simp [PyData.depthAll]
  | x :: xs => by
    have := depth_stones xs
    rw [List.map_cons]
    simp only [stD, PyData.depthAll, PyData.depth]
    omega
theorem stones_shaped (xs : List (Int × Int)) : SeqAt.shaped (stonesD xs) = true := by
  unfold SeqAt.shaped stonesD
  rw [Bool.and_eq_true]
  refine ⟨by rw [PyData.canLay0, canLay_stones xs], decide_eq_true ?_⟩
  have := depth_stones xs
  rw [PyData.depth]
  omega
theorem eqv_stones (xs : List (Int × Int)) : PyData.eqv (stonesD xs) (stonesD xs) = true := SeqAt.eqv_refl _ (SeqAt.canLay_of_shaped (stones_shaped xs))
theorem stones_all {K : PySem.W.Frag} {H : Hp} : ∀ {us : List V} {xs : List (Int × Int)}, StonesAt K H us xs → DpAll K H us (xs.map stD)
  | [], [], _ => .nil
  | [], _ :: _, h => by have := h.1; simp at this
  | _ :: _, [], h => by have := h.1; simp at this
  | u :: us, x :: xs, h => by
    obtain ⟨a, ha, sa⟩ := h.2 0 x rfl
    have e : u = .ref a := by simpa using ha
    subst e
    refine .cons (.tup sa (.cons (.int _) (.cons (.int _) .nil))) (stones_all ⟨by have := h.1; simpa using this, fun k y q => ?_⟩)
    obtain ⟨b, hb, sb⟩ := h.2 (k + 1) y (by simpa using q)
    exact ⟨b, by simpa using hb, sb⟩
theorem stones_dp {K : PySem.W.Frag} {H : Hp} {t : Addr} {us : List V} {xs : List (Int × Int)} (hT : SqT K H t us) (hS : StonesAt K H us xs) : Dp K H (.ref t) (stonesD xs) := .tup hT (stones_all hS)
def spGet (K : PySem.W.Frag) (C : Addr) : Sp := fun vs H Q _ => ∃ p xs, vs = [.ref p] ∧ RowAt K C H p xs ∧ ∀ t us, SqT K H t us → StonesAt K H us xs → Q (.ref t) H
/-- of two rows of the same stones -/
def spSame (K : PySem.W.Frag) (C : Addr) : Sp := fun vs H Q _ => ∃ p q xs, vs = [.ref p, .ref q] ∧ RowAt K C H p xs ∧ RowAt K C H q xs ∧ Q (.bl true) H
section
variable {P : Program} {w : World} {K : PySem.W.Frag} {mg : Str → Option Value} {base : Heap}
theorem ok_get {f C : Addr} {fd : FuncData} (F : Fun K "stones" "Row.stones" s_Row_stones f fd) (R : RowC K mg C) : FnOk P w K mg base CX0 1 f fd ["self"] (spGet K C) := by
  refine F.ok sc_Row_stones (fun vs H Q E h => ?_) (fun cdv A outer s H vs Q E hr h => ?_)
  · obtain ⟨p, xs, rfl, _⟩ := h
    rfl
  · obtain ⟨p, xs, rfl, ⟨dx, t, us, hp, hT, hS⟩, k⟩ := h
    refine ⟨_, pss_one (ps_ret (pe_fld (pv 0) rfl)), ?_⟩
    exact ⟨_, rfl, p, C, dx, _, _, rfl, hp, R.cl, R.nS, rfl, k t us hT hS⟩
theorem ok_same {f C : Addr} {fd : FuncData} (F : Fun K "__eq__" "Row.__eq__" s_Row_eq f fd) (B : Blt mg) (R : RowC K mg C) : FnOk P w K mg base CX0 1 f fd ["self", "other"] (spSame K C) := by
  refine F.ok sc_Row_eq (fun vs H Q E h => ?_) (fun cdv A outer s H vs Q E hr h => ?_)
  · obtain ⟨p, q, xs, rfl, _⟩ := h
    rfl
  · obtain ⟨p, q, xs, rfl, ⟨dx, t, us, hp, hT, hS⟩, ⟨dy, t', us', hq, hT', hS'⟩, k⟩ := h
    refine ⟨_, pss_one (ps_ret (pe_and (pe_callB (call_isi) (by rfl) B.isinstance boot_isinstance (pa_cons (pv 1) (pa_cons (pe_glob (v := .ref C) (by rfl) R.mgC rfl) pa_nil))) (pe_one (pe_cmpR (op_eqD hr.units) (pe_fld (pv 0) rfl) (pe_fld (pv 1) rfl) (nomark _))))), ?_⟩
    refine ⟨_, rfl, _, .ref C, _, _, true, rfl, .own C, R.ty hq, kit_self, true, rfl, ?_⟩
    refine iteT ⟨_, rfl, p, C, dx, _, _, rfl, hp, R.cl, R.nS, rfl, _, rfl, q, C, dy, _, _, rfl, hq, R.cl, R.nS, rfl, stonesD xs, stonesD xs, stones_dp hT hS, stones_dp hT' hS', stones_shaped xs, stones_shaped xs, ?_⟩
    rw [eqv_stones]
    exact k
end
/-! ### comprehensions that filter and map -/
theorem paired_snoc {α β : Type} {F : α → β → Prop} : ∀ {xs : List α} {ys : List β} {x : α} {y : β}, Paired F xs ys → F x y → Paired F (xs ++ [x]) (ys ++ [y])
  | _, _, _, _, .nil, h => .cons h .nil
  | _, _, _, _, .cons a t, h => .cons a (paired_snoc t h)
theorem paired_imp {α β : Type} {F G : α → β → Prop} (i : ∀ x y, F x y → G x y) : ∀ {xs : List α} {ys : List β}, Paired F xs ys → Paired G xs ys
  | _, _, .nil => .nil
  | _, _, .cons a t => .cons (i _ _ a) (paired_imp i t)
theorem paired_at {α β : Type} {F : α → β → Prop} : ∀ {xs : List α} {ys : List β} {i : Nat} {y : β}, Paired F xs ys → ys[i]? = some y → ∃ x, xs[i]? = some x ∧ F x y
  | _, _, _, _, .nil, h => by simp at h
  | _, _, 0, _, .cons a _, h => by simp at h; subst h; exact ⟨_, rfl, a⟩
  | _, _, i + 1, _, .cons _ t, h => by
    obtain ⟨x, h1, h2⟩ := paired_at (i := i) t (by simpa using h)
    exact ⟨x, by simpa using h1, h2⟩
theorem paired_len {α β : Type} {F : α → β → Prop} : ∀ {xs : List α} {ys : List β}, Paired F xs ys → xs.length = ys.length
  | _, _, .nil => rfl
  | _, _, .cons _ t => congrArg (· + 1) (paired_len t)
theorem paired_eq {α β : Type} (f : β → α) : ∀ {xs : List α} {ys : List β}, Paired (fun x y => x = f y) xs ys → xs = ys.map f
  | _, _, .nil => rfl
  | _, _, .cons a t => by rw [List.map_cons, ← paired_eq f t, a]
theorem lc_fm {J : It} {n : Nat} {Gd : Hp → Prop} {Y : Nat → Hp → V → Hp → Prop} (w : Walk J n Gd Y) {g : TG} {tt : TT} {te : TE} {vs : List Nat} {σ : L2.St} {H1 : Hp} {D : Addr} {Qd : Hp → Prop} {α β : Type} (as : List α) (p : α → Bool) (f : α → β) (Rel : Hp → V → β → Prop)
    (hn : as.length = n) (hz : n < 1000000) (nD : H1 D = none) (stab : ∀ H H' v b acc, H D = some (.lst acc) → But D H H' → Rel H v b → Rel H' v b) (hG : ∀ G, Same H1 G → Gd G)
    (step : ∀ (i : Nat) (a : α) (x : V) (G G' : Hp) (N : Hp → Prop) (M : V → Hp → Prop), as[i]? = some a → Same H1 G → G D ≠ none → Y i G x G' → (∀ H3, p a = false → Same G H3 → N H3) → (∀ y H4, p a = true → Same G H4 → Rel H4 y (f a) → M y H4) →
      g x (wipe σ vs) G' fun σ2 H2 => wipe σ2 vs = wipe σ vs ∧ tt σ2 H2 fun b H3 => if b = true then te σ2 H3 M else N H3)
    (hd : ∀ G ys, Same H1 G → G D = some (.lst ys) → Paired (Rel G) ys ((as.filter p).map f) → Qd G) :
    ∃ W : Nat → Nat → Hp → Prop, (∃ m, W 0 m (upd H1 D (.lst []))) ∧ ∀ i m H, W i m H →
      (J.stop i H ∧ Qd H) ∨ (J.go i H ∧ ∃ Nx : Hp → Prop, (∀ H', Nx H' → ∃ m', m' < m ∧ W (i + 1) m' H') ∧ ∀ x H', J.yld i H x H' → g x (wipe σ vs) H' fun σ2 H2 => wipe σ2 vs = wipe σ vs ∧ tt σ2 H2 fun b H3 =>
        if b = true then te σ2 H3 fun y H4 => ∃ acc, H4 D = some (.lst acc) ∧ acc.length < sizeLine ∧ Nx (upd H4 D (.lst (acc ++ [y]))) else Nx H3) := by
  refine lc_it w (fun i G => But D H1 G ∧ ∃ ys, G D = some (.lst ys) ∧ ys.length ≤ i ∧ Paired (Rel G) ys (((as.take i).filter p).map f)) ⟨but_upd, [], upd_same, Nat.le_refl _, .nil⟩ (fun i G _ h => hG G (But.same h.1 nD)) (fun i x G G' hi h y => ?_) fun G h => ?_
  · obtain ⟨b, ys, e, hl, rel⟩ := h
    obtain ⟨a, ha⟩ : ∃ a, as[i]? = some a := ⟨as[i]'(by omega), by simp⟩
    refine step i a x G G' _ _ ha (But.same b nD) (by rw [e]; exact fun z => nomatch z) y (fun H3 hp s => ?_) fun y H4 hp s r => ?_
    · have e3 := s _ _ e
      refine ⟨b.trans (Same.but s D), ys, e3, by omega, ?_⟩
      rw [List.take_add_one, ha, List.filter_append, List.map_append, show (some a).toList = [a] from rfl, List.filter_cons, hp]
      simp only [Bool.false_eq_true, if_false, List.filter_nil, List.map_nil, List.append_nil]
      exact paired_imp (fun v c => stab G H3 v c ys e (Same.but s D)) rel
    · have e4 := s _ _ e
      refine ⟨ys, e4, by rw [sizeLine_eq]; omega, (b.trans (Same.but s D)).trans but_upd, ys ++ [y], upd_same, by rw [List.length_append]; show ys.length + 1 ≤ i + 1; omega, ?_⟩
      rw [List.take_add_one, ha, List.filter_append, List.map_append, show (some a).toList = [a] from rfl, List.filter_cons, hp]
      simp only [if_true, List.filter_nil, List.map_cons, List.map_nil]
      exact paired_snoc (paired_imp (fun v c q => stab H4 _ v c ys e4 but_upd (stab G H4 v c ys e (Same.but s D) q)) rel) (stab H4 _ y (f a) ys e4 but_upd r)
  · obtain ⟨b, ys, e, _, rel⟩ := h
    rw [← hn, List.take_length] at rel
    exact hd G ys (But.same b nD) e rel
/-! pairs of numbers, as tuples in a list -/
def PairV (K : PySem.W.Frag) (H : Hp) (v : V) (p : Nat × Nat) : Prop := ∃ a : Addr, v = .ref a ∧ SqT K H a [.int (p.1 : Nat), .int (p.2 : Nat)]
def PairsAt (K : PySem.W.Frag) (H : Hp) (vs : List V) (ps : List (Nat × Nat)) : Prop := Paired (PairV K H) vs ps
theorem PairV.same {K : PySem.W.Frag} {H H' : Hp} {v : V} {p : Nat × Nat} (e : Same H H') (h : PairV K H v p) : PairV K H' v p := let ⟨a, h1, h2⟩ := h; ⟨a, h1, sqT_same h2 e⟩
theorem PairV.but {K : PySem.W.Frag} {H H' : Hp} {v : V} {p : Nat × Nat} {D : Addr} {acc : List V} (hD : H D = some (.lst acc)) (b : But D H H') (h : PairV K H v p) : PairV K H' v p := let ⟨a, h1, h2⟩ := h; ⟨a, h1, sqT_but h2 hD b⟩
theorem PairsAt.same {K : PySem.W.Frag} {H H' : Hp} {vs : List V} {ps : List (Nat × Nat)} (h : PairsAt K H vs ps) (e : Same H H') : PairsAt K H' vs ps := paired_imp (fun _ _ q => q.same e) h
def prD (p : Nat × Nat) : PyData := .tuple [.int (p.1 : Nat), .int (p.2 : Nat)]
theorem prD_dp {K : PySem.W.Frag} {H : Hp} {v : V} {p : Nat × Nat} (h : PairV K H v p) : Dp K H v (prD p) := by
  obtain ⟨a, rfl, h⟩ := h
  exact .tup h (.cons (.int _) (.cons (.int _) .nil))
theorem prD_shaped (p : Nat × Nat) : SeqAt.shaped (prD p) = true := by simp [prD, SeqAt.shaped, PyData.canLay0, PyData.canLayAll0, PyData.depth, PyData.depthAll]
theorem prD_eqv (p o : Nat × Nat) : PyData.eqv (prD p) (prD o) = decide (p = o) := by
  obtain ⟨a, b⟩ := p
  obtain ⟨c, d⟩ := o
  show ((a : Int) == (c : Int) && ((b : Int) == (d : Int) && true)) = decide ((a, b) = (c, d))
  rw [Bool.and_true]
  by_cases h1 : a = c
  · by_cases h2 : b = d
    · subst h1 h2
      simp
    · have : ¬ (b : Int) = (d : Int) := by omega
      simp [h1, h2, this]
  · have : ¬ (a : Int) = (c : Int) := by omega
    simp [h1, this]
theorem pairs_all {K : PySem.W.Frag} {H : Hp} : ∀ {vs : List V} {ps : List (Nat × Nat)}, PairsAt K H vs ps → DpAll K H vs (ps.map prD)
  | _, _, .nil => .nil
  | _, _, .cons h t => .cons (prD_dp h) (pairs_all t)
theorem nm_of {i : Nat} {v : V} {σ : L2.St} {H : Hp} {Q : L2.St → Hp → Prop} (h : Q (σ.set i (some v)) H) : gName i v σ H Q := h
theorem Wf.mono : ∀ {xs : List (Int × Int)} {lo lo' : Int}, lo ≤ lo' → Wf lo' xs → Wf lo xs
  | [], _, _, _, _ => True.intro
  | _ :: _, _, _, h, w => ⟨Int.le_trans h w.1, w.2⟩
theorem Wf.sublist {l xs : List (Int × Int)} (s : l.Sublist xs) : ∀ {lo : Int}, Wf lo xs → Wf lo l := by
  induction s with
  | slnil => exact fun _ => True.intro
  | cons a _ ih => exact fun w => ih (Wf.mono (by have := w.1; omega) w.2.2.2.2)
  | cons_cons a _ ih => exact fun w => ⟨w.1, w.2.1, w.2.2.1, w.2.2.2.1, ih w.2.2.2.2⟩
/-! ### numbers in groups of seven bits, checksums -/
def grpN : Nat → Nat → List Int
  | 0, n => [(n : Int)]
  | f + 1, n => if n < 128 then [(n : Int)] else ((128 + n % 128 : Nat) : Int) :: grpN f (n / 128)
def grp7 (n : Nat) : List Int := grpN n n
theorem grpN_more : ∀ (f g n : Nat), n ≤ f → n ≤ g → grpN f n = grpN g n
  | 0, 0, _, _, _ => rfl
  | 0, g + 1, n, hf, _ => by
    obtain rfl : n = 0 := by omega
    rfl
  | f + 1, 0, n, _, hg => by
    obtain rfl : n = 0 := by omega
    rfl
  | f + 1, g + 1, n, hf, hg => by
    unfold grpN
    split
    · rfl
    · rw [grpN_more f g (n / 128) (by omega) (by omega)]
theorem grp7_lt {n : Nat} (h : n < 128) : grp7 n = [(n : Int)] := by
  unfold grp7
  cases n with
  | zero => rfl
  | succ n => unfold grpN; rw [if_pos h]
theorem grp7_ge {n : Nat} (h : 128 ≤ n) : grp7 n = ((128 + n % 128 : Nat) : Int) :: grp7 (n / 128) := by
  unfold grp7
  cases n with
  | zero => omega
  | succ n =>
    conv => lhs; unfold grpN
    rw [if_neg (by omega)]
    congr 1
    exact grpN_more _ _ _ (by omega) (Nat.le_refl _)
theorem grp7_len : ∀ (k n : Nat), n < 128 ^ (k + 1) → (grp7 n).length ≤ k + 1
  | 0, n, h => by rw [grp7_lt (by simpa using h)]; simp
  | k + 1, n, h => by
    by_cases c : n < 128
    · rw [grp7_lt c]; simp
    · rw [grp7_ge (by omega), List.length_cons]
      have := grp7_len k (n / 128) (by rw [Nat.div_lt_iff_lt_mul (by omega)]; rw [Nat.pow_succ] at h; exact h)
      omega
theorem grp7_byte (n : Nat) : ∀ v ∈ grp7 n, 0 ≤ v ∧ v < 256 := by
  induction n using Nat.strongRecOn with
  | ind n ih =>
    by_cases c : n < 128
    · rw [grp7_lt c]
      intro v hv
      rw [List.mem_singleton] at hv
      omega
    · rw [grp7_ge (by omega)]
      intro v hv
      rcases List.mem_cons.mp hv with rfl | hv
      · omega
      · exact ih _ (by omega) v hv
def cks (vs : List Int) : Int := vs.foldl (fun c v => (3 * c + v) % 251) 8
theorem cks_snoc (vs : List Int) (v : Int) : cks (vs ++ [v]) = (3 * cks vs + v) % 251 := by
  unfold cks
  rw [List.foldl_append]
  rfl
theorem cks_range : ∀ (vs : List Int), 0 ≤ cks vs ∧ cks vs < 251 := by
  have : ∀ (vs : List Int) (c : Int), 0 ≤ c → c < 251 → 0 ≤ vs.foldl (fun c v => (3 * c + v) % 251) c ∧ vs.foldl (fun c v => (3 * c + v) % 251) c < 251 := by
    intro vs
    induction vs with
    | nil => intro c h0 h1; exact ⟨h0, h1⟩
    | cons v vs ih => intro c h0 h1; exact ih ((3 * c + v) % 251) (Int.emod_nonneg _ (by decide)) (Int.emod_lt_of_pos _ (by decide))
  exact fun vs => this vs 8 (by decide) (by decide)
structure CodM (mg : Str → Option Value) : Prop where
  gr : ∃ t, mg "GROUP" = some (.int 128 t)
  fc : ∃ t, mg "FIRST_CHECKSUM" = some (.int 8 t)
  fb : ∃ t, mg "FIRST_BYTE" = some (.int 68 t)
  gb : ∃ t, mg "GREATEST_BYTE" = some (.int 255 t)
  dm : mg "divmod" = none
  al : mg "all" = none
  by_ : mg "bytes" = none
def spGroups : Sp := fun vs H Q _ => ∃ n : Nat, vs = [.int (n : Int)] ∧ n ≤ 2000000000 ∧ ∀ p H', Same H H' → H p = none → H' p = some (.lst ((grp7 n).map V.int)) → Q (.ref p) H'
def spCks (K : PySem.W.Frag) : Sp := fun vs H Q _ => ∃ (p : Addr) (ns : List Int), vs = [.ref p] ∧ SqL K H p (ns.map V.int) ∧ ns.length ≤ 1000 ∧ (∀ v ∈ ns, 0 ≤ v ∧ v < 256) ∧ Q (.int (cks ns)) H
section
variable {P : Program} {w : World} {K : PySem.W.Frag} {mg : Str → Option Value} {base : Heap}
theorem ok_groups {f : Addr} {fd : FuncData} (F : Fun K "_groups" "_groups" s_groups f fd) (B : Blt mg) (M : CodM mg) : FnOk P w K mg base CX0 1 f fd ["number"] spGroups := by
  obtain ⟨tg, mgr⟩ := M.gr
  refine F.ok sc_groups (fun vs H Q E h => ?_) (fun cdv A outer s H vs Q E hr h => ?_)
  · obtain ⟨n, rfl, _⟩ := h
    rfl
  · obtain ⟨n, rfl, h0, k⟩ := h
    have hu := hu_of hr
    refine ⟨_, pss_cons (ps_set (i := 1) sc_groups.nd rfl (Or.inl rfl) (pe_lst pa_nil))
      (pss_cons (ps_asg (pe_callB call_divmod (by rfl) M.dm PyProof.Rows.boot_divmod (pa_cons (pv 0) (pa_cons (pe_glob (v := .int 128) (by rfl) mgr ⟨tg, rfl⟩) pa_nil))) (pg_tup rfl (pgs_cons (pg_name (i := 2) sc_groups.nd rfl (Or.inl rfl)) (pgs_cons (pg_name (i := 3) sc_groups.nd rfl (Or.inl rfl)) pgs_nil))))
      (pss_cons (ps_while PassesOwn.never (pt_cmpR (op_gt) (pv 2) (pe_int) (nomark _))
        (pss_cons (ps_expr (pe_bm PySem.F.plainAttrs_list PySem.F.slot_list_append PySem.F.type_list_append mt_append (pv 1) (pa_cons (pe_op op_add (pv 3) (pe_glob (v := .int 128) (by rfl) mgr ⟨tg, rfl⟩)) pa_nil)))
        (pss_one (ps_asg (pe_callB call_divmod (by rfl) M.dm PyProof.Rows.boot_divmod (pa_cons (pv 2) (pa_cons (pe_glob (v := .int 128) (by rfl) mgr ⟨tg, rfl⟩) pa_nil))) (pg_tup rfl (pgs_cons (pg_name (i := 2) sc_groups.nd rfl (Or.inl rfl)) (pgs_cons (pg_name (i := 3) sc_groups.nd rfl (Or.inl rfl)) pgs_nil)))))))
      (pss_one (ps_ret (pe_op op_cat (pv 1) (pe_lst (pa_cons (pv 3) pa_nil))))))), ?_⟩
    refine ⟨by show 0 ≤ sizeLine; decide, fun q nq => ?_⟩
    have sq := same_new (o := .lst []) nq
    have eq : (upd H q (.lst [])) q = some (.lst (([] : List Int).map V.int)) := upd_same
    generalize upd H q (.lst []) = H1 at sq eq ⊢
    refine nm_of ?_
    refine ⟨_, rfl, _, _, rfl, ⟨by decide, by decide⟩, fun T nT => ⟨T, _, rfl, SqT.of upd_same, rfl, _, _, rfl, _, _, rfl, rfl, ?_⟩⟩
    have sT := same_new (o := .tup [V.int ((n : Int) / 128), V.int ((n : Int) % 128)]) nT
    have l5 : (grp7 n).length ≤ 5 := grp7_len 4 n (by omega)
    refine ⟨fun m σ G => ∃ acc : List Int, σ = [some (.int (n : Nat)), some (.ref q), some (.int ((m : Int) / 128)), some (.int ((m : Int) % 128))] ∧ But q H1 G ∧ G q = some (.lst (acc.map V.int)) ∧ acc ++ grp7 m = grp7 n, ?_, ?_⟩
    · exact ⟨n, [], rfl, Same.but sT q, sT _ _ eq, rfl⟩
    · rintro m σ G ⟨acc, rfl, bG, eG, hA⟩
      refine ⟨_, rfl, _, _, rfl, rfl, _, rfl, ?_⟩
      have al : acc.length ≤ 5 := by
        have := congrArg List.length hA
        rw [List.length_append] at this
        omega
      by_cases c : m < 128
      · rw [decide_eq_false (show ¬ (0 : Int) < (m : Int) / 128 by omega)]
        refine iteF ⟨_, rfl, _, rfl, by show 1 ≤ sizeLine; decide, fun l nl => ?_⟩
        have sl := same_new (o := .lst [V.int ((m : Int) % 128)]) nl
        refine ⟨q, l, _, _, rfl, rfl, sl _ _ eG, upd_same, by rw [List.length_map]; show acc.length + 1 ≤ sizeLine; rw [sizeLine_eq]; omega, fun p np => ?_⟩
        have s3 := sl.trans (same_new (o := .lst (acc.map V.int ++ [V.int ((m : Int) % 128)])) np)
        refine k p _ (fun b o e => s3 _ _ (bG b o (ne_of_none e nq) (sq b o e))) ?_ ?_
        · cases e : H p with
          | none => rfl
          | some o => exact absurd (sl _ _ (bG p o (ne_of_none e nq) (sq p o e))) (by rw [np]; exact fun z => nomatch z)
        · rw [upd_same, ← hA, grp7_lt c, List.map_append]
          have : (m : Int) % 128 = (m : Int) := by omega
          rw [this]
          rfl
      · rw [decide_eq_true (show (0 : Int) < (m : Int) / 128 by omega)]
        refine iteT ⟨_, fun _ _ z => z, ?_⟩
        refine ⟨_, rfl, .inl ⟨rfl, _, SqL.of eG⟩, ?_⟩
        refine ⟨_, rfl, _, _, rfl, rfl, ?_⟩
        refine ⟨q, _, _, rfl, rfl, eG, by rw [List.length_map, sizeLine_eq]; omega, ?_⟩
        have eG2 : (upd G q (.lst (acc.map V.int ++ [V.int ((m : Int) % 128 + 128)]))) q = some (.lst ((acc ++ [((128 + m % 128 : Nat) : Int)]).map V.int)) := by
          rw [upd_same, List.map_append]
          have : (m : Int) % 128 + 128 = ((128 + m % 128 : Nat) : Int) := by omega
          rw [this]
          rfl
        have b2 : But q H1 (upd G q (.lst (acc.map V.int ++ [V.int ((m : Int) % 128 + 128)]))) := bG.trans but_upd
        generalize upd G q (.lst (acc.map V.int ++ [V.int ((m : Int) % 128 + 128)])) = G2 at eG2 b2 ⊢
        dsimp only
        show tAsg _ _ _ _ _
        refine asg_of ?_
        refine ⟨_, rfl, _, _, rfl, ⟨by decide, by decide⟩, fun T2 nT2 => ⟨T2, _, rfl, SqT.of upd_same, rfl, _, _, rfl, _, _, rfl, rfl, ?_⟩⟩
        have sT2 := same_new (o := .tup [V.int ((m : Int) / 128 / 128), V.int ((m : Int) / 128 % 128)]) nT2
        refine ⟨m / 128, by omega, acc ++ [((128 + m % 128 : Nat) : Int)], ?_, b2.trans (Same.but sT2 q), sT2 _ _ eG2, ?_⟩
        · have : ((m / 128 : Nat) : Int) = (m : Int) / 128 := by omega
          rw [this]
          rfl
        · rw [List.append_assoc, ← hA, grp7_ge (n := m) (by omega)]
          rfl
theorem ok_cks {f : Addr} {fd : FuncData} (F : Fun K "_checksum" "_checksum" s_checksum f fd) (B : Blt mg) (M : CodM mg) : FnOk P w K mg base CX0 1 f fd ["values"] (spCks K) := by
  obtain ⟨tf, mfc⟩ := M.fc
  refine F.ok sc_checksum (fun vs H Q E h => ?_) (fun cdv A outer s H vs Q E hr h => ?_)
  · obtain ⟨p, ns, rfl, _⟩ := h
    rfl
  · obtain ⟨p, ns, rfl, hp, hz, hb, k⟩ := h
    refine ⟨_, pss_cons (ps_set (i := 1) sc_checksum.nd rfl (Or.inl rfl) (pe_glob (v := .int 8) (by rfl) mfc ⟨tf, rfl⟩))
      (pss_cons (ps_for PassesOwn.never rfl (pi_list (pv 0)) (pg_name (i := 2) sc_checksum.nd rfl (Or.inl rfl))
        (pss_one (ps_set (i := 1) sc_checksum.nd rfl (Or.inl rfl) (pe_op op_mod (pe_callTy (call_int1) (by rfl) B.int boot_int (pa_cons (pe_op op_add (pe_op op_mul pe_int (pv 1)) (pv 2)) pa_nil)) pe_int))))
      (pss_one (ps_ret (pv 1)))), ?_⟩
    refine nm_of ?_
    refine ⟨_, rfl, p, rfl, ⟨_, hp⟩, for_list (K := K) (a := p) (xs := ns.map V.int) (fun j σ G => ∃ s2 : Option V, σ = [some (.ref p), some (.int (cks (ns.take j))), s2] ∧ G = H) ?_ ?_ ?_ ?_⟩
    · exact ⟨none, rfl, rfl⟩
    · rintro j σ G _ ⟨_, _, rfl⟩
      exact hp
    · rintro j v σ G hv ⟨s2, rfl, rfl⟩
      rw [List.getElem?_map] at hv
      obtain ⟨n, hn, rfl⟩ := Option.map_eq_some_iff.mp hv
      obtain ⟨n0, n1⟩ := hb n (List.mem_of_getElem? hn)
      obtain ⟨c0, c1⟩ := cks_range (ns.take j)
      refine nm_of ?_
      refine asg_of ?_
      refine ⟨_, rfl, _, _, rfl, rfl, .inl ⟨by decide, by decide⟩, _, rfl, _, _, rfl, rfl, .inl ⟨_, rfl, _, _, rfl, rfl, (show (0 : Int) < 251 by decide), ?_⟩⟩
      have e : ns.take (j + 1) = ns.take j ++ [n] := by rw [List.take_add_one, hn]; rfl
      refine ⟨some (.int n), ?_, rfl⟩
      rw [e, cks_snoc]
      rfl
    · rintro σ G ⟨s2, rfl, rfl⟩
      rw [List.length_map, List.take_length]
      exact ⟨_, rfl, k⟩
end
/-! ### numbers of stones -/
theorem numB_some {v : V} {lo hi : Int} (h : numB v lo hi = true) : ∃ i, v = .int i ∧ lo ≤ i ∧ i ≤ hi := by
  cases v with
  | int i =>
    have h : (decide (lo ≤ i) && decide (i ≤ hi)) = true := h
    rw [Bool.and_eq_true] at h
    exact ⟨i, rfl, of_decide_eq_true h.1, of_decide_eq_true h.2⟩
  | _ => cases h
/-! ### pack_bytes, unpack_bytes -/
def spPack (K : PySem.W.Frag) (C : Addr) : Sp := fun vs H Q E => ∃ v : V, vs = [v] ∧
  ((∃ (p : Addr) (us : List V), v = .ref p ∧ SqL K H p us ∧ TyX K H (.ref p) (.type "list") ∧ us.length ≤ 1000 ∧ (∀ u ∈ us, ∀ H', Same H H' → Known K H' u) ∧
      (∀ ns : List Int, us = ns.map V.int → B8 ns → ∀ H', Same H H' → Q (.byt (byteArr ns)) H') ∧ ((∃ u ∈ us, numB u 0 255 = false) → ∀ H', Same H H' → E (.ref C) none H')) ∨
    ∃ t : String, TyX K H v (.type t) ∧ PySem.W.kitOne K (.type t) (.type "list") = some false ∧ E (.ref C) none H)
def spUnpack : Sp := fun vs H Q _ => ∃ x : Array UInt8, vs = [.byt x] ∧ x.size ≤ 1000 ∧ ∀ p, H p = none → Q (.ref p) (upd H p (.lst (ByL.bytV x)))
theorem nums_of : ∀ {us : List V}, (∀ u ∈ us, numB u 0 255 = true) → ∃ ns : List Int, us = ns.map V.int ∧ B8 ns
  | [], _ => ⟨[], rfl, fun n h => nomatch h⟩
  | u :: us, h => by
    obtain ⟨ns, rfl, b⟩ := nums_of fun u hu => h u (List.mem_cons_of_mem _ hu)
    obtain ⟨i, rfl, i0, i1⟩ := numB_some (h u List.mem_cons_self)
    refine ⟨i :: ns, rfl, fun n hn => ?_⟩
    rcases List.mem_cons.mp hn with rfl | hn
    · exact ⟨i0, by omega⟩
    · exact b n hn
section
variable {P : Program} {w : World} {K : PySem.W.Frag} {mg : Str → Option Value} {base : Heap}
theorem ok_pack {f g C : Addr} {fd gd : FuncData} (F : Fun K "pack_bytes" "pack_bytes" s_pack_bytes f fd) (B : Blt mg) (M : CodM mg) (R : RaiseC K mg "InvalidCount" C) (N : At P w K mg base CX0 1 "is_number" ["value", "least", "greatest"] (spNum K) g gd) :
    FnOk P w K mg base (L2.CX P w) 2 f fd ["values"] (spPack K C) := by
  obtain ⟨tb, mgb⟩ := M.gb
  refine F.okX sc_pack_bytes (fun vs H Q E h => ?_) (fun cdv A outer s H vs Q E hr h => ?_)
  · obtain ⟨v, rfl, _⟩ := h
    rfl
  · obtain ⟨v, rfl, h⟩ := h
    have hu := hu_of hr
    refine ⟨_, pss_cons (ps_if (PW.pt (pw_or (pt_not (pt_val (pe_callB (call_isi) (by rfl) B.isinstance boot_isinstance (pa_cons (pv 0) (pa_cons (pe_bltn (v := .ty "list") (by rfl) B.list boot_list rfl) pa_nil))))) (pw_or1 (pt_not (pt_val (pe_callB (cr_all rfl) (by rfl) M.al boot_all (pa_cons (pe_lc (own := [("value", 1)]) (g := gName 1) rfl sc_pack_bytes.nd (pi_list (pv 0)) (blkOk_by (N := n_pack_bytes) (sc := defScope s_pack_bytes) (by decide +kernel))
          (fun _ _ _ _ _ => pg_name (i := 1) sc_pack_bytes.nd rfl (Or.inl rfl)) (fun _ _ _ _ _ => pts_nil) (fun _ _ _ _ _ => (show PE _ _ (tCall (spNum K) [] E0 (tCons (tVar 1) (tCons (tC (.int 0)) (tCons (tC (.int 255)) tNil)))) from pe_at N hr (pa_cons (pv 1) (pa_cons (pe_int) (pa_cons (pe_glob (v := .int 255) (by rfl) mgb ⟨tb, rfl⟩) pa_nil)))))) pa_nil)))))))
        (pss_one (ps_raise rfl (takes_of rfl rfl rfl rfl) (SkE.pmk_own1 PySem.F.excBase_ValueError R.ex R.m R.kp (raises_own R.sub R.ty) (by rfl) (pe_joined (.cons pe_str (.cons (pe_fmt (pe_glob (v := .int 255) (by rfl) mgb ⟨tb, rfl⟩)) .nil)))))) pss_nil)
      (pss_one (ps_ret (pe_callTy (call_bytes_list rfl) (by rfl) M.by_ boot_bytes (pa_cons (pv 0) pa_nil)))), ?_⟩
    have sh : shortI 255 := short_nat (n := 255) (by decide)
    have l1 : (Str.empty ++ ("no list of numbers from 0 to " : Str)).length ≤ 29 := by decide
    have l2 := lenJ l1 (lenI sh)
    rcases h with ⟨p, us, rfl, hL, ty, hz, kn, good, bad⟩ | ⟨t, ty, kit, er⟩
    · refine ⟨_, rfl, _, .ty "list", _, _, true, rfl, .ty _, ty, kit_ty (by decide +kernel), true, rfl, ?_⟩
      refine iteF ?_
      refine ⟨_, rfl, p, rfl, ⟨_, hL⟩, fun D nD => ?_⟩
      refine lc_fm (walk_list (K := K) (a := p) (xs := us)) us (fun _ => true) (fun u => numB u 0 255) (fun _ v b => v = V.bl b) rfl (by omega) nD (fun _ _ _ _ _ _ _ q => q) (fun _ e => e.seq hL) ?_ ?_
      · rintro n u y G1 G2 N' M' hm smG _ ⟨rfl, hy⟩ no go
        obtain rfl : y = u := Option.some.inj (hy.symm.trans hm)
        exact ⟨rfl, _, rfl, _, _, _, rfl, kn _ (List.mem_of_getElem? hm) _ smG, go _ _ rfl (Same.refl _) rfl⟩
      · intro G zs smG eD rel
        rw [List.filter_eq_self.mpr (fun _ _ => rfl)] at rel
        have ez := paired_eq (fun b : Bool => V.bl b) rel
        refine ⟨D, us.map fun u => numB u 0 255, rfl, SqL.of (by rw [eD, ez]), _, rfl, ?_⟩
        cases hb : (us.map fun u => numB u 0 255).all id with
        | true =>
          obtain ⟨ns, rfl, b8⟩ := nums_of (us := us) fun u hu => List.all_eq_true.mp hb _ (List.mem_map.mpr ⟨u, hu, rfl⟩)
          exact iteF ⟨_, rfl, p, ns, rfl, smG.seq hL, b8, good ns rfl b8 _ smG⟩
        | false =>
          refine iteT ?_
          have hex : ∃ u ∈ us, numB u 0 255 = false := by
            rw [List.all_eq_false] at hb
            obtain ⟨b, hb, hb2⟩ := hb
            obtain ⟨u, hu, rfl⟩ := List.mem_map.mp hb
            exact ⟨u, hu, by simpa using hb2⟩
          exact ⟨_, rfl, lenS l1 (by decide), .inr ⟨255, rfl, sh, _, rfl, lenS l2 (by decide), bad hex _ smG⟩⟩
    · refine ⟨_, rfl, _, .ty "list", _, _, false, rfl, .ty _, ty, kit, false, rfl, ?_⟩
      refine iteT ?_
      exact ⟨_, rfl, lenS l1 (by decide), .inr ⟨255, rfl, sh, _, rfl, lenS l2 (by decide), er⟩⟩
theorem ok_unpack {f : Addr} {fd : FuncData} (F : Fun K "unpack_bytes" "unpack_bytes" s_unpack_bytes f fd) (B : Blt mg) : FnOk P w K mg base CX0 1 f fd ["data"] spUnpack := by
  refine F.ok sc_unpack_bytes (fun vs H Q E h => ?_) (fun cdv A outer s H vs Q E hr h => ?_)
  · obtain ⟨x, rfl, _⟩ := h
    rfl
  · obtain ⟨x, rfl, hx, k⟩ := h
    refine ⟨_, pss_one (ps_ret (pe_callTy (ByL.call_list_byt rfl) (by rfl) B.list boot_list (pa_cons (pv 0) pa_nil))), ?_⟩
    exact ⟨_, rfl, x, rfl, Nat.le_trans hx (by decide), fun p hp => k p hp⟩
end
/-! ### bytes one by one -/
def ErrO (K : PySem.W.Frag) (C : Addr) (H : Hp) (E : XK) (o : Nat) : Prop := ∀ dx H', Same H H' → H dx = none → H' dx = some (.xd [("offset", .int (o : Int))]) → E (.ref C) (some dx) H'
theorem ErrO.same {K : PySem.W.Frag} {C : Addr} {H H' : Hp} {E : XK} {o : Nat} (h : ErrO K C H E o) (s : Same H H') : ErrO K C H' E o := fun dx G s2 n e => h dx G (s.trans s2) (by
  cases q : H dx with
  | none => rfl
  | some u => rw [s _ _ q] at n; cases n) e
def spByteAt (K : PySem.W.Frag) (C : Addr) : Sp := fun vs H Q E => ∃ (ns : List Int) (o : Nat), vs = [.byt (byteArr ns), .int (o : Int)] ∧ B8 ns ∧ ns.length ≤ 1000 ∧ o ≤ ns.length ∧ (o = ns.length → ErrO K C H E o) ∧ ∀ b, ns[o]? = some b → Q (.int b) H
def rdLoop (ns : List Int) : Nat → Nat → Int → Int → Sum (Int × Int × Nat × Int) Nat
  | 0, o, _, _ => .inr o
  | f + 1, o, num, wt => match ns[o]? with
    | none => .inr o
    | some b => if 128 ≤ b then rdLoop ns f (o + 1) (num + (b - 128) * wt) (wt * 128) else .inl (num, wt, o, b)
def rdNum (ns : List Int) (start : Nat) (lo hi : Int) : Sum (Int × Nat) Nat := match rdLoop ns (ns.length + 1 - start) start 0 1 with
  | .inr o => .inr o
  | .inl (num, wt, o, b) => if b = 0 ∧ start < o then .inr o else if lo ≤ num + b * wt ∧ num + b * wt ≤ hi then .inl (num + b * wt, o + 1) else .inr start
def spRead (K : PySem.W.Frag) (C : Addr) : Sp := fun vs H Q E => ∃ (ns : List Int) (o : Nat) (lo hi : Int), vs = [.byt (byteArr ns), .int (o : Int), .int lo, .int hi] ∧ B8 ns ∧ ns.length ≤ 1000 ∧ o ≤ ns.length ∧
  (∀ e, rdNum ns o lo hi = .inr e → ErrO K C H E e) ∧ ∀ n o', rdNum ns o lo hi = .inl (n, o') → ∀ p, H p = none → Q (.ref p) (upd H p (.tup [.int n, .int (o' : Int)]))
theorem ifS_skip {tt : TT} {r : TS} {D : Ends} {σ : L2.St} {H : Hp} (h : ∀ Qb : Bool → Hp → Prop, Qb false H → tt σ H Qb) (k : D.nx σ H) : tIfS tt r tNext D σ H := h _ (iteF k)
section
variable {P : Program} {w : World} {K : PySem.W.Frag} {mg : Str → Option Value} {base : Heap}
theorem ok_byteAt {f C : Addr} {fd : FuncData} (F : Fun K "_byte_at" "_byte_at" s_byte_at f fd) (B : Blt mg) (Z : ExI P w K mg base "DecodeError" "offset" C) :
    FnOk P w K mg base (L2.CX P w) 3 f fd ["data", "offset"] (spByteAt K C) := by
  refine F.okX sc_byte_at (fun vs H Q E h => ?_) (fun cdv A outer s H vs Q E hr h => ?_)
  · obtain ⟨ns, o, rfl, _⟩ := h
    rfl
  · obtain ⟨ns, o, rfl, hb, hz, ho, er, k⟩ := h
    refine ⟨_, pss_cons (ps_if (pt_cmpR (op_eq) (pv 1) (pe_callB call_len (by rfl) B.len PySem.boot_len (pa_cons (pv 0) pa_nil)) (nomark _)) (pss_one (ps_raise rfl (takes_of rfl rfl rfl rfl) (pmk_exI Z hr (pa_cons (pv 1) pa_nil)))) pss_nil)
      (pss_one (ps_ret (pe_item_byt (pv 0) (pv 1) (fun _ _ => rfl)))), ?_⟩
    have hs : (byteArr ns).size = ns.length := ByL.byteArr_size ns
    refine ⟨_, rfl, _, rfl, _, ns.length, rfl, ⟨by rw [hs]; exact Nat.le_trans hz (by decide), hs.symm⟩, rfl, _, rfl, ?_⟩
    by_cases e : o = ns.length
    · rw [decide_eq_true (show V.int (o : Int) = V.int ((ns.length : Nat) : Int) by rw [e])]
      refine iteT ?_
      exact mko_of Z.T rfl (short_nat (by omega)) (er e)
    · rw [decide_eq_false (show ¬ V.int (o : Int) = V.int ((ns.length : Nat) : Int) from fun z => e (by injection z with z; omega))]
      refine iteF ?_
      obtain ⟨b, hbo⟩ : ∃ b, ns[o]? = some b := ⟨ns[o]'(by omega), by simp⟩
      refine ⟨_, rfl, _, rfl, (byteArr ns).toList, (o : Int), ?_, rfl, ?_, by omega, ?_, ?_⟩
      · rw [Array.toArray_toList]
      · rw [Array.length_toList, hs]
        exact Nat.le_trans hz (by decide)
      · rw [Array.length_toList, hs]
        omega
      · rw [Int.toNat_natCast, ByL.byteArr_get hb hbo]
        exact k b hbo
theorem rdLoop_more : ∀ (f o : Nat) (ns : List Int) (num wt : Int), ns.length < f + o → rdLoop ns f o num wt = rdLoop ns (ns.length + 1 - o) o num wt
  | 0, o, ns, num, wt, h => by
    rw [show ns.length + 1 - o = 0 by omega]
  | f + 1, o, ns, num, wt, h => by
    by_cases c : o ≤ ns.length
    · obtain ⟨g, hg⟩ : ∃ g, ns.length + 1 - o = g + 1 := ⟨ns.length - o, by omega⟩
      rw [hg]
      unfold rdLoop
      cases e : ns[o]? with
      | none => rfl
      | some b =>
        dsimp only
        split
        · rw [rdLoop_more f (o + 1) ns _ _ (by omega), show g = ns.length + 1 - (o + 1) by omega]
        · rfl
    · rw [show ns.length + 1 - o = 0 by omega]
      unfold rdLoop
      rw [List.getElem?_eq_none (by omega)]
theorem rdLoop_none {ns : List Int} {o : Nat} {num wt : Int} (h : ns.length ≤ o) : rdLoop ns (ns.length + 1 - o) o num wt = .inr o := by
  by_cases c : o = ns.length
  · subst c
    rw [show ns.length + 1 - ns.length = 0 + 1 by omega]
    unfold rdLoop
    rw [List.getElem?_eq_none (by omega)]
  · rw [show ns.length + 1 - o = 0 by omega]
    rfl
theorem rdLoop_some {ns : List Int} {o : Nat} {num wt b : Int} (h : ns[o]? = some b) : rdLoop ns (ns.length + 1 - o) o num wt = if 128 ≤ b then rdLoop ns (ns.length + 1 - (o + 1)) (o + 1) (num + (b - 128) * wt) (wt * 128) else .inl (num, wt, o, b) := by
  have ho : o < ns.length := (List.getElem?_eq_some_iff.mp h).1
  rw [show ns.length + 1 - o = (ns.length - o) + 1 by omega]
  conv => lhs; unfold rdLoop
  rw [h]
  dsimp only
  rw [show ns.length - o = ns.length + 1 - (o + 1) by omega]
theorem ok_read {f g C : Addr} {fd gd : FuncData} (F : Fun K "_read_number" "_read_number" s_read_number f fd) (B : Blt mg) (M : CodM mg) (Z : ExI P w K mg base "DecodeError" "offset" C)
    (N : At P w K mg base (L2.CX P w) 3 "_byte_at" ["data", "offset"] (spByteAt K C) g gd) :
    FnOk P w K mg base (L2.CX P w) 4 f fd ["data", "start", "least", "greatest"] (spRead K C) := by
  obtain ⟨tg, mgr⟩ := M.gr
  refine F.okX sc_read_number (fun vs H Q E h => ?_) (fun cdv A outer s H vs Q E hr h => ?_)
  · obtain ⟨ns, o, lo, hi, rfl, _⟩ := h
    rfl
  · obtain ⟨ns, o, lo, hi, rfl, hb, hz, ho, er, k⟩ := h
    have r2 : Room 2 _ := hr.mono (by decide)
    refine ⟨_, pss_cons (ps_set (i := 4) sc_read_number.nd rfl (Or.inl rfl) (pe_int))
      (pss_cons (ps_set (i := 5) sc_read_number.nd rfl (Or.inl rfl) (pe_int))
      (pss_cons (ps_set (i := 6) sc_read_number.nd rfl (Or.inl rfl) (pv 1))
      (pss_cons (ps_set (i := 7) sc_read_number.nd rfl (Or.inl rfl) (pe_atE N hr (takes_of rfl rfl rfl rfl) (pa_cons (pv 0) (pa_cons (pv 6) pa_nil))))
      (pss_cons (ps_while (passes_of rfl) (pt_cmpR (op_ge) (pv 7) (pe_glob (v := .int 128) (by rfl) mgr ⟨tg, rfl⟩) (nomark _))
        (pss_cons (ps_set (i := 4) sc_read_number.nd rfl (Or.inl rfl) (pe_op op_add (pv 4) (pe_op op_mul (pe_op op_sub (pv 7) (pe_glob (v := .int 128) (by rfl) mgr ⟨tg, rfl⟩)) (pv 5))))
        (pss_cons (ps_set (i := 5) sc_read_number.nd rfl (Or.inl rfl) (pe_op op_mul (pv 5) (pe_glob (v := .int 128) (by rfl) mgr ⟨tg, rfl⟩)))
        (pss_cons (ps_set (i := 6) sc_read_number.nd rfl (Or.inl rfl) (pe_op op_add (pv 6) (pe_int)))
        (pss_one (ps_set (i := 7) sc_read_number.nd rfl (Or.inl rfl) (pe_atE N hr (takes_of rfl rfl rfl rfl) (pa_cons (pv 0) (pa_cons (pv 6) pa_nil)))))))))
      (pss_cons (ps_if (PW.pt (pw_and (pt_cmpR (op_eq) (pv 7) (pe_int) (nomark _)) (pw_and1 (pt_cmpR (op_gt) (pv 6) (pv 1) (nomark _))))) (pss_one (ps_raise rfl (takes_of rfl rfl rfl rfl) (pmk_exI Z r2 (pa_cons (pv 6) pa_nil)))) pss_nil)
      (pss_cons (ps_set (i := 4) sc_read_number.nd rfl (Or.inl rfl) (pe_op op_add (pv 4) (pe_op op_mul (pv 7) (pv 5))))
      (pss_cons (ps_if (pt_not (pt_chain op_le op_le (pv 2) (pv 4) (pv 3))) (pss_one (ps_raise rfl (takes_of rfl rfl rfl rfl) (pmk_exI Z r2 (pa_cons (pv 1) pa_nil)))) pss_nil)
      (pss_one (ps_ret (pe_tup (pa_cons (pv 4) (pa_cons (pe_op op_add (pv 6) (pe_int)) pa_nil)))))))))))), ?_⟩
    refine nm_of ?_
    dsimp only
    show tSeq _ _ _ _ _
    refine seq_of (asg_of (nm_of ?_))
    dsimp only
    show tSeq _ _ _ _ _
    refine seq_of (asg_of ⟨_, rfl, nm_of ?_⟩)
    dsimp only
    show tSeq _ _ _ _ _
    refine seq_of (asg_of ?_)
    have eN : ∀ e, rdLoop ns (ns.length + 1 - o) o 0 1 = .inr e → ErrO K C H E e := fun e he => er e (by unfold rdNum; rw [he])
    refine ⟨_, rfl, _, rfl, ns, o, rfl, hb, hz, ho, fun e => eN o (rdLoop_none (by omega)), fun b hbo => ?_⟩
    refine nm_of ?_
    dsimp only
    show tSeq _ _ _ _ _
    refine seq_of ?_
    refine ⟨fun m σ G => ∃ (o' : Nat) (num wt b : Int), σ = [some (.byt (byteArr ns)), some (.int (o : Int)), some (.int lo), some (.int hi), some (.int num), some (.int wt), some (.int (o' : Int)), some (.int b)] ∧ ns[o']? = some b ∧ o ≤ o' ∧ G = H ∧ m = ns.length - o' ∧
      rdLoop ns (ns.length + 1 - o') o' num wt = rdLoop ns (ns.length + 1 - o) o 0 1, ?_, ?_⟩
    · exact ⟨_, o, 0, 1, b, rfl, hbo, Nat.le_refl _, rfl, rfl, rfl⟩
    · rintro m σ G ⟨o', num, wt, b', rfl, hb', hoo, rfl, rfl, hR⟩
      have ho' : o' < ns.length := (List.getElem?_eq_some_iff.mp hb').1
      obtain ⟨b0, b1⟩ := hb b' (List.mem_of_getElem? hb')
      rw [rdLoop_some hb'] at hR
      refine ⟨_, rfl, _, _, rfl, rfl, _, rfl, ?_⟩
      by_cases c : 128 ≤ b'
      · rw [if_pos c] at hR
        rw [decide_eq_true c]
        refine iteT ⟨_, fun _ _ z => z, ?_⟩
        refine seq_of (asg_of ?_)
        refine ⟨_, rfl, _, rfl, _, _, rfl, rfl, _, rfl, _, _, rfl, rfl, .inl ⟨by omega, by omega⟩, _, _, rfl, rfl, nm_of ?_⟩
        dsimp only
        show tSeq _ _ _ _ _
        refine seq_of (asg_of ?_)
        refine ⟨_, rfl, _, _, rfl, rfl, .inr ⟨by decide, by decide⟩, nm_of ?_⟩
        dsimp only
        show tSeq _ _ _ _ _
        refine seq_of (asg_of ?_)
        refine ⟨_, rfl, _, _, rfl, rfl, nm_of ?_⟩
        dsimp only
        show tAsg _ _ _ _ _
        refine asg_of ?_
        refine ⟨_, rfl, _, rfl, ns, o' + 1, rfl, hb, hz, by omega, fun e => eN (o' + 1) (by rw [← hR]; exact rdLoop_none (by omega)), fun b2 hb2 => ?_⟩
        exact ⟨_, by omega, o' + 1, _, _, b2, rfl, hb2, by omega, rfl, rfl, hR⟩
      · rw [if_neg c] at hR
        rw [decide_eq_false c]
        refine iteF ?_
        dsimp only
        show tSeq _ _ _ _ _
        refine seq_of ?_
        have eR : rdNum ns o lo hi = if b' = 0 ∧ o < o' then .inr o' else if lo ≤ num + b' * wt ∧ num + b' * wt ≤ hi then .inl (num + b' * wt, o' + 1) else .inr o := by
          unfold rdNum
          rw [← hR]
        by_cases c1 : b' = 0 ∧ o < o'
        · obtain ⟨rfl, c2⟩ := c1
          refine ⟨_, rfl, rfl, _, rfl, ?_⟩
          rw [decide_eq_true (rfl : V.int 0 = V.int 0)]
          refine iteT ⟨_, rfl, _, rfl, _, _, rfl, rfl, _, rfl, ?_⟩
          rw [decide_eq_true (show (o : Int) < (o' : Int) by omega)]
          refine iteT ?_
          exact mko_of Z.T rfl (short_nat (by omega)) (er o' (by rw [eR, if_pos ⟨rfl, c2⟩]))
        · rw [if_neg c1] at eR
          have skip : ∀ Qb : Bool → Hp → Prop, Qb false G → tAnd (tTest (tOp rEq (tVar 7) (tC (V.int 0)))) (tTest (tOp (rI0 fun i j => V.bl (decide (j < i))) (tVar 6) (tVar 1))) [some (V.byt (byteArr ns)), some (V.int (o : Int)), some (V.int lo), some (V.int hi), some (V.int num), some (V.int wt), some (V.int (o' : Int)), some (V.int b')] G Qb := by
            intro Qb q
            by_cases c2 : b' = 0
            · subst c2
              refine ⟨_, rfl, rfl, _, rfl, ?_⟩
              rw [decide_eq_true (rfl : V.int 0 = V.int 0)]
              refine iteT ⟨_, rfl, _, rfl, _, _, rfl, rfl, _, rfl, ?_⟩
              rw [decide_eq_false (show ¬ (o : Int) < (o' : Int) by omega)]
              exact q
            · refine ⟨_, rfl, rfl, _, rfl, ?_⟩
              rw [decide_eq_false (fun z : V.int b' = V.int 0 => c2 (by injection z))]
              exact iteF q
          refine ifS_skip skip ?_
          dsimp only
          show tSeq _ _ _ _ _
          refine seq_of (asg_of ?_)
          refine ⟨_, rfl, _, rfl, _, rfl, _, _, rfl, rfl, .inl ⟨by omega, by omega⟩, _, _, rfl, rfl, nm_of ?_⟩
          dsimp only
          show tSeq _ _ _ _ _
          refine seq_of ?_
          by_cases d1 : lo ≤ num + b' * wt
          · by_cases d2 : num + b' * wt ≤ hi
            · rw [if_pos ⟨d1, d2⟩] at eR
              refine ⟨_, rfl, _, rfl, _, _, rfl, rfl, _, rfl, ?_⟩
              rw [decide_eq_true d1]
              refine iteT ⟨_, rfl, _, _, rfl, rfl, _, rfl, ?_⟩
              rw [decide_eq_true d2]
              refine iteF ?_
              exact ⟨_, rfl, _, rfl, _, _, rfl, rfl, by show 2 ≤ sizeLine; decide, fun p np => k _ (o' + 1) eR p np⟩
            · rw [if_neg (fun z => d2 z.2)] at eR
              refine ⟨_, rfl, _, rfl, _, _, rfl, rfl, _, rfl, ?_⟩
              rw [decide_eq_true d1]
              refine iteT ⟨_, rfl, _, _, rfl, rfl, _, rfl, ?_⟩
              rw [decide_eq_false d2]
              refine iteT ?_
              exact mko_of Z.T rfl (short_nat (by omega)) (er o eR)
          · rw [if_neg (fun z => d1 z.1)] at eR
            refine ⟨_, rfl, _, rfl, _, _, rfl, rfl, _, rfl, ?_⟩
            rw [decide_eq_false d1]
            refine iteF ⟨_, rfl, ?_⟩
            refine iteT ?_
            exact mko_of Z.T rfl (short_nat (by omega)) (er o eR)
end
/-! ### the end of the bytes -/
theorem byt_take {ns : List Int} {o : Nat} (h : o ≤ ns.length) : PySem.W.KBy.picked (byteArr ns) none (some (o : Int)) = byteArr (ns.take o) := by
  show PySem.W.KBy.picked ((ns.map fun n => n.toNat.toUInt8).toArray) none (some (o : Int)) = ((ns.take o).map fun n => n.toNat.toUInt8).toArray
  rw [pk_to (by rw [List.length_map]; exact h), List.map_take]
def spCksB : Sp := fun vs H Q _ => ∃ ns : List Int, vs = [.byt (byteArr ns)] ∧ B8 ns ∧ ns.length ≤ 1000 ∧ Q (.int (cks ns)) H
def endErr (ns : List Int) (o : Nat) : Option Nat := match ns[o]? with
  | none => some o
  | some b => if b ≠ cks (ns.take o) then some o else if o + 1 < ns.length then some (o + 1) else none
def spEnd (K : PySem.W.Frag) (C : Addr) : Sp := fun vs H Q E => ∃ (ns : List Int) (o : Nat), vs = [.byt (byteArr ns), .int (o : Int)] ∧ B8 ns ∧ ns.length ≤ 999 ∧ o ≤ ns.length ∧ (∀ e, endErr ns o = some e → ErrO K C H E e) ∧ (endErr ns o = none → Q .non H)
theorem mko_any {K : PySem.W.Frag} {D : Addr} {fld : Str} {i : Int} {ta : TA} {σ : L2.St} {H : Hp} {Q : XK} (T : OexC K D) (ht : ∀ Qb : List V → Hp → Prop, Qb [.int i] H → ta σ H Qb) (si : shortI i)
    (k : ∀ dx H', Same H H' → H dx = none → H' dx = some (.xd [(fld, .int i)]) → Q (.ref D) (some dx) H') : tMkO D (spExI K D fld) [] ta σ H Q := by
  refine ht _ ⟨by show 1 ≤ 1000; decide, fun a na => ⟨a, i, rfl, si, upd_same, T, fun dx n ne => ⟨rfl, dx, _, upd_same, by rw [upd_ne ne]; exact upd_same, ?_, ?_⟩⟩⟩
  · rw [upd_ne ne] at n
    exact n
  · rw [upd_ne ne] at n
    refine k dx _ (fun b o e => ?_) n upd_same
    have hba : b ≠ a := ne_of_none e na
    have hbd : b ≠ dx := ne_of_none e n
    rw [upd_ne hbd, del_ne hba, upd_ne hba, upd_ne hbd, upd_ne hba]
    exact e
section
variable {P : Program} {w : World} {K : PySem.W.Frag} {mg : Str → Option Value} {base : Heap}
theorem ok_cksB {f : Addr} {fd : FuncData} (F : Fun K "_checksum" "_checksum" s_checksum f fd) (B : Blt mg) (M : CodM mg) : FnOk P w K mg base CX0 1 f fd ["values"] spCksB := by
  obtain ⟨tf, mfc⟩ := M.fc
  refine F.ok sc_checksum (fun vs H Q E h => ?_) (fun cdv A outer s H vs Q E hr h => ?_)
  · obtain ⟨ns, rfl, _⟩ := h
    rfl
  · obtain ⟨ns, rfl, hb, hz, k⟩ := h
    refine ⟨_, pss_cons (ps_set (i := 1) sc_checksum.nd rfl (Or.inl rfl) (pe_glob (v := .int 8) (by rfl) mfc ⟨tf, rfl⟩))
      (pss_cons (ps_for PassesOwn.never rfl (pi_byt (pv 0)) (pg_name (i := 2) sc_checksum.nd rfl (Or.inl rfl))
        (pss_one (ps_set (i := 1) sc_checksum.nd rfl (Or.inl rfl) (pe_op op_mod (pe_callTy (call_int1) (by rfl) B.int boot_int (pa_cons (pe_op op_add (pe_op op_mul pe_int (pv 1)) (pv 2)) pa_nil)) pe_int))))
      (pss_one (ps_ret (pv 1)))), ?_⟩
    refine nm_of ?_
    refine ⟨_, rfl, byteArr ns, rfl, for_byt (x := byteArr ns) (fun j σ G => ∃ s2 : Option V, σ = [some (.byt (byteArr ns)), some (.int (cks (ns.take j))), s2] ∧ G = H) ?_ ?_ ?_⟩
    · exact ⟨none, rfl, rfl⟩
    · rintro j c σ G hv ⟨s2, rfl, rfl⟩
      have hj : j < ns.length := by rw [← ByL.byteArr_size ns]; exact (Array.getElem?_eq_some_iff.mp hv).1
      obtain ⟨n, hn⟩ : ∃ n, ns[j]? = some n := ⟨ns[j], by simp [hj]⟩
      have ec : ((c.toNat : Nat) : Int) = n := by
        rw [← ByL.byteArr_get hb hn, List.getD_eq_getElem?_getD, Array.getElem?_toList, hv]
        rfl
      rw [ec]
      obtain ⟨n0, n1⟩ := hb n (List.mem_of_getElem? hn)
      obtain ⟨c0, c1⟩ := cks_range (ns.take j)
      refine nm_of ?_
      refine asg_of ?_
      refine ⟨_, rfl, _, _, rfl, rfl, .inl ⟨by decide, by decide⟩, _, rfl, _, _, rfl, rfl, .inl ⟨_, rfl, _, _, rfl, rfl, (show (0 : Int) < 251 by decide), ?_⟩⟩
      have e : ns.take (j + 1) = ns.take j ++ [n] := by rw [List.take_add_one, hn]; rfl
      refine ⟨some (.int n), ?_, rfl⟩
      rw [e, cks_snoc]
      rfl
    · rintro σ G ⟨s2, rfl, rfl⟩
      rw [ByL.byteArr_size, List.take_length]
      exact ⟨_, rfl, k⟩
theorem ok_end {f g1 g2 C : Addr} {fd d1 d2 : FuncData} (F : Fun K "_check_end" "_check_end" s_check_end f fd) (B : Blt mg) (Z : ExI P w K mg base "DecodeError" "offset" C)
    (N : At P w K mg base (L2.CX P w) 3 "_byte_at" ["data", "offset"] (spByteAt K C) g1 d1) (N2 : At P w K mg base CX0 1 "_checksum" ["values"] spCksB g2 d2) :
    FnOk P w K mg base (L2.CX P w) 4 f fd ["data", "offset"] (spEnd K C) := by
  refine F.okX sc_check_end (fun vs H Q E h => ?_) (fun cdv A outer s H vs Q E hr h => ?_)
  · obtain ⟨ns, o, rfl, _⟩ := h
    rfl
  · obtain ⟨ns, o, rfl, hb, hz, ho, er, k⟩ := h
    have r2 : Room 2 _ := hr.mono (by decide)
    have r1 : Room 1 _ := hr.mono (by decide)
    refine ⟨_, pss_cons (ps_if (pt_cmpR (op_ne) (pe_atE N hr (takes_of rfl rfl rfl rfl) (pa_cons (pv 0) (pa_cons (pv 1) pa_nil))) (pe_at N2 r1 (pa_cons (pe_slice sl_byt (pv 0) po_none (po_some (pv 1))) pa_nil)) (nomark _)) (pss_one (ps_raise rfl (takes_of rfl rfl rfl rfl) (pmk_exI Z r2 (pa_cons (pv 1) pa_nil)))) pss_nil)
      (pss_one (ps_if (pt_cmpR (op_gt) (pe_callB call_len (by rfl) B.len PySem.boot_len (pa_cons (pv 0) pa_nil)) (pe_op op_add (pv 1) (pe_int)) (nomark _)) (pss_one (ps_raise rfl (takes_of rfl rfl rfl rfl) (pmk_exI Z r2 (pa_cons (pe_op op_add (pv 1) (pe_int)) pa_nil)))) pss_nil)), ?_⟩
    have bt : B8 (ns.take o) := fun n h => hb n (List.mem_of_mem_take h)
    refine ⟨_, rfl, _, rfl, ns, o, rfl, hb, by omega, ho, fun e => er o (by unfold endErr; rw [List.getElem?_eq_none (by omega)]), fun b hbo => ?_⟩
    have eE : endErr ns o = if b ≠ cks (ns.take o) then some o else if o + 1 < ns.length then some (o + 1) else none := by unfold endErr; rw [hbo]
    refine ⟨_, rfl, _, rfl, _, rfl, byteArr ns, rfl, by rw [ByL.byteArr_size]; omega, ?_⟩
    refine ⟨ns.take o, by rw [byt_take ho]; rfl, bt, by rw [List.length_take]; omega, rfl, _, rfl, ?_⟩
    by_cases c : b = cks (ns.take o)
    · rw [if_neg (fun z => z c)] at eE
      rw [show (!decide (V.int b = V.int (cks (ns.take o)))) = false from by rw [decide_eq_true (by rw [c])]; rfl]
      refine iteF ?_
      refine ⟨_, rfl, _, ns.length, rfl, ⟨by rw [ByL.byteArr_size]; exact Nat.le_trans hz (by decide), (ByL.byteArr_size ns).symm⟩, _, rfl, _, _, rfl, rfl, _, _, rfl, rfl, _, rfl, ?_⟩
      by_cases c2 : o + 1 < ns.length
      · rw [if_pos c2] at eE
        rw [decide_eq_true (show (o : Int) + 1 < (ns.length : Int) by omega)]
        refine iteT ?_
        exact mko_any (i := ((o + 1 : Nat) : Int)) Z.T (fun Q q => ⟨_, rfl, _, _, rfl, rfl, q⟩) (short_nat (by omega)) (er (o + 1) eE)
      · rw [if_neg c2] at eE
        rw [decide_eq_false (show ¬ (o : Int) + 1 < (ns.length : Int) by omega)]
        exact iteF (k eE)
    · rw [if_pos c] at eE
      rw [show (!decide (V.int b = V.int (cks (ns.take o)))) = true from by rw [decide_eq_false (fun z : V.int b = V.int (cks (ns.take o)) => c (by injection z))]; rfl]
      refine iteT ?_
      exact mko_of Z.T rfl (short_nat (by omega)) (er o eE)
end
/-! ### encode_row -/
def prevP (xs : List (Int × Int)) (j : Nat) : Int := if j = 0 then 0 else (xs.getD (j - 1) (0, 0)).1
def encT (xs : List (Int × Int)) : Nat → List Int
  | 0 => [68, (xs.length : Int)]
  | j + 1 => encT xs j ++ grp7 ((xs.getD j (0, 0)).1 - prevP xs j).toNat ++ grp7 (xs.getD j (0, 0)).2.toNat
def encR (xs : List (Int × Int)) : List Int := encT xs xs.length ++ [cks (encT xs xs.length)]
theorem encT_len (xs : List (Int × Int)) (hw : ∀ x ∈ xs, 0 ≤ x.1 ∧ x.1 ≤ 1000000000 ∧ 0 ≤ x.2 ∧ x.2 ≤ 1000000000) : ∀ j, j ≤ xs.length → (encT xs j).length ≤ 2 + 10 * j
  | 0, _ => by show 2 ≤ 2; omega
  | j + 1, h => by
    have ih := encT_len xs hw j (by omega)
    have hx := hw _ (List.getElem_mem (l := xs) (n := j) (by omega))
    have e : xs.getD j (0, 0) = xs[j] := by rw [List.getD_eq_getElem?_getD, List.getElem?_eq_getElem (by omega)]; rfl
    have pv : 0 ≤ prevP xs j := by
      unfold prevP
      split
      · omega
      · have h2 := hw _ (List.getElem_mem (l := xs) (n := j - 1) (by omega))
        rw [List.getD_eq_getElem?_getD, List.getElem?_eq_getElem (by omega)]
        exact h2.1
    have a1 := grp7_len 4 ((xs.getD j (0, 0)).1 - prevP xs j).toNat (by rw [e]; omega)
    have a2 := grp7_len 4 (xs.getD j (0, 0)).2.toNat (by rw [e]; omega)
    show (encT xs j ++ _ ++ _).length ≤ _
    rw [List.length_append, List.length_append]
    omega
theorem encT_byte (xs : List (Int × Int)) (hz : xs.length ≤ 40) : ∀ j, B8 (encT xs j)
  | 0 => fun n h => by
    have h : n ∈ [(68 : Int), (xs.length : Int)] := h
    simp only [List.mem_cons, List.not_mem_nil, or_false] at h
    rcases h with rfl | rfl
    · decide
    · omega
  | j + 1 => fun n h => by
    have h : n ∈ encT xs j ++ _ ++ _ := h
    rcases List.mem_append.mp h with h | h
    · rcases List.mem_append.mp h with h | h
      · exact encT_byte xs hz j n h
      · exact grp7_byte _ n h
    · exact grp7_byte _ n h
def spEnc (K : PySem.W.Frag) (C : Addr) : Sp := fun vs H Q _ => ∃ (z : Addr) (xs : List (Int × Int)), vs = [.ref z] ∧ RowAt K C H z xs ∧ Wf 0 xs ∧ xs.length ≤ 40 ∧ ∀ H', Same H H' → Q (.byt (byteArr (encR xs))) H'
theorem ints_inj : ∀ {xs ys : List Int}, xs.map V.int = ys.map V.int → xs = ys
  | [], [], _ => rfl
  | [], _ :: _, h => by cases h
  | _ :: _, [], h => by cases h
  | x :: xs, y :: ys, h => by
    rw [List.map_cons, List.map_cons] at h
    injection h with h1 h2
    injection h1 with h1
    rw [h1, ints_inj h2]
section
variable {P : Program} {w : World} {K : PySem.W.Frag} {mg : Str → Option Value} {base : Heap}
theorem ok_enc {f C C10 pP gP gL g1 g2 g3 : Addr} {fd dP d1 d2 d3 : FuncData} (F : Fun K "encode_row" "encode_row" s_encode_row f fd) (B : Blt mg) (M : CodM mg) (R : RowC K mg C) (SL : Sign K C "__len__" gL) (GL : FnR P w K mg base CX0 1 gL (spLen K C))
    (pr : PropOf K C "stones" pP gP) (P1 : FnOk P w K mg base CX0 1 gP dP ["self"] (spGet K C)) (bP : Binds K dP ["self"] [])
    (NG : At P w K mg base CX0 1 "_groups" ["number"] spGroups g1 d1) (NC : At P w K mg base CX0 1 "_checksum" ["values"] (spCks K) g2 d2) (NP : At P w K mg base (L2.CX P w) 2 "pack_bytes" ["values"] (spPack K C10) g3 d3) :
    FnOk P w K mg base (L2.CX P w) 3 f fd ["row"] (spEnc K C) := by
  obtain ⟨tb, mfb⟩ := M.fb
  refine F.okX sc_encode_row (fun vs H Q E h => ?_) (fun cdv A outer s H vs Q E hr h => ?_)
  · obtain ⟨z, xs, rfl, _⟩ := h
    rfl
  · obtain ⟨z, xs, rfl, hR, hw, hz, k⟩ := h
    obtain ⟨dx, t, us, ep, hT, hS⟩ := id hR
    have r1 : Room 1 _ := hr.mono (by decide)
    refine ⟨_, pss_cons (ps_set (i := 1) sc_encode_row.nd rfl (Or.inl rfl) (pe_lst (pa_cons (pe_glob (v := .int 68) (by rfl) mfb ⟨tb, rfl⟩) (pa_cons (pe_callB (Own.call_len SL.at_ SL.fn GL hr pass0) (by rfl) B.len PySem.boot_len (pa_cons (pv 0) pa_nil)) pa_nil))))
      (pss_cons (ps_set (i := 2) sc_encode_row.nd rfl (Or.inl rfl) (pe_int))
      (pss_cons (ps_for (passes_of rfl) rfl (pi_tup (pe_prop (pv 0) R.cl pr P1 hr bP .nil pass0 rfl)) (pg_tup rfl (pgs_cons (pg_name (i := 3) sc_encode_row.nd rfl (Or.inl rfl)) (pgs_cons (pg_name (i := 4) sc_encode_row.nd rfl (Or.inl rfl)) pgs_nil)))
        (pss_cons (ps_expr (pe_bm PySem.F.plainAttrs_list PySem.F.slot_list_extend PySem.F.type_list_extend mt_extend (pv 1) (pa_cons (pe_at NG r1 (pa_cons (pe_op op_sub (pv 3) (pv 2)) pa_nil)) pa_nil)))
        (pss_cons (ps_expr (pe_bm PySem.F.plainAttrs_list PySem.F.slot_list_extend PySem.F.type_list_extend mt_extend (pv 1) (pa_cons (pe_at NG r1 (pa_cons (pv 4) pa_nil)) pa_nil)))
        (pss_one (ps_set (i := 2) sc_encode_row.nd rfl (Or.inl rfl) (pv 3))))))
      (pss_one (ps_ret (pe_atE NP hr (takes_of rfl rfl rfl rfl) (pa_cons (pe_op op_cat (pv 1) (pe_lst (pa_cons (pe_at NC r1 (pa_cons (pv 1) pa_nil)) pa_nil))) pa_nil)))))), ?_⟩
    refine ⟨_, rfl, z, dx, _, rfl, ep, z, xs, rfl, hR, ?_⟩
    refine ⟨_, rfl, ?_⟩
    refine ⟨by omega, by omega, by show 2 ≤ sizeLine; decide, fun q nq => ?_⟩
    have sq := same_new (o := .lst [V.int 68, V.int (xs.length : Int)]) nq
    have eq0 : (upd H q (.lst [V.int 68, V.int (xs.length : Int)])) q = some (.lst ((encT xs 0).map V.int)) := upd_same
    generalize upd H q (.lst [V.int 68, V.int (xs.length : Int)]) = H1 at sq eq0 ⊢
    refine nm_of ?_
    dsimp only
    show tSeq _ _ _ _ _
    refine seq_of (asg_of (nm_of ?_))
    dsimp only
    show tSeq _ _ _ _ _
    refine seq_of ?_
    have hb : ∀ x ∈ xs, 0 ≤ x.1 ∧ x.1 ≤ 1000000000 ∧ 0 ≤ x.2 ∧ x.2 ≤ 1000000000 := fun x hx => by
      obtain ⟨n, hn⟩ := List.getElem?_of_mem hx
      obtain ⟨_, _, w1, w2, w3⟩ := hw.get hn
      exact ⟨hw.low hn, w1, by omega, w3⟩
    refine ⟨_, rfl, z, dx, _, rfl, sq _ _ ep, z, xs, rfl, hR.same sq, fun t us hT hS => ?_⟩
    refine ⟨t, rfl, ⟨_, hT⟩, for_tup (K := K) (a := t) (xs := us) (fun j σ G => ∃ (s3 s4 : Option V), σ = [some (.ref z), some (.ref q), some (.int (prevP xs j)), s3, s4] ∧ But q H1 G ∧ G q = some (.lst ((encT xs j).map V.int))) ?_ ?_ ?_ ?_⟩
    · exact ⟨none, none, rfl, fun _ _ _ e => e, eq0⟩
    · rintro j σ G _ ⟨_, _, _, b, _⟩
      exact sqT_but hT eq0 b
    · rintro j v σ G hv ⟨s3, s4, rfl, bG, eG⟩
      have hj : j < xs.length := by rw [← hS.1]; exact (List.getElem?_eq_some_iff.mp hv).1
      obtain ⟨x, hx⟩ : ∃ x, xs[j]? = some x := ⟨xs[j], by simp [hj]⟩
      obtain ⟨cs, hc, hsc⟩ := hS.2 j x hx
      obtain rfl : v = .ref cs := Option.some.inj (hv.symm.trans hc)
      have xe : xs.getD j (0, 0) = x := by rw [List.getD_eq_getElem?_getD, hx]; rfl
      obtain ⟨x0, x1, x2, x3⟩ := hb x (List.mem_of_getElem? hx)
      have pv : prevP xs j ≤ x.1 := by
        unfold prevP
        split
        · exact x0
        · have h2 := (hw.get hx).2.1 (xs.getD (j - 1) (0, 0)) (by omega) (by rw [List.getD_eq_getElem?_getD, List.getElem?_eq_getElem (by omega)]; rfl)
          omega
      have p0 : 0 ≤ prevP xs j := by
        unfold prevP
        split
        · omega
        · have h2 := hb _ (List.getElem_mem (l := xs) (n := j - 1) (by omega))
          rw [List.getD_eq_getElem?_getD, List.getElem?_eq_getElem (by omega)]
          exact h2.1
      have tl := encT_len xs hb j (by omega)
      have a1 := grp7_len 4 (x.1 - prevP xs j).toNat (by omega)
      have a2 := grp7_len 4 x.2.toNat (by omega)
      refine ⟨cs, _, rfl, sqT_but hsc eq0 bG, rfl, _, _, rfl, _, _, rfl, rfl, ?_⟩
      dsimp only
      show tSeq _ _ _ _ _
      refine seq_of ?_
      refine ⟨_, rfl, .inl ⟨rfl, _, SqL.of eG⟩, ?_⟩
      refine ⟨_, rfl, _, rfl, _, _, rfl, rfl, (x.1 - prevP xs j).toNat, by rw [Int.toNat_of_nonneg (by omega)]; rfl, by omega, fun p1 G1 s1 n1 e1 => ?_⟩
      refine ⟨q, p1, _, _, rfl, rfl, s1 _ _ eG, e1, by rw [List.length_map, List.length_map, sizeLine_eq]; omega, ?_⟩
      have eG2 : (upd G1 q (.lst ((encT xs j).map V.int ++ (grp7 (x.1 - prevP xs j).toNat).map V.int))) q = some (.lst ((encT xs j ++ grp7 (x.1 - prevP xs j).toNat).map V.int)) := by rw [upd_same, List.map_append]
      have b2 : But q H1 (upd G1 q (.lst ((encT xs j).map V.int ++ (grp7 (x.1 - prevP xs j).toNat).map V.int))) := (bG.trans (Same.but s1 q)).trans but_upd
      generalize upd G1 q (.lst ((encT xs j).map V.int ++ (grp7 (x.1 - prevP xs j).toNat).map V.int)) = G2 at eG2 b2 ⊢
      dsimp only
      show tSeq _ _ _ _ _
      refine seq_of ?_
      refine ⟨_, rfl, .inl ⟨rfl, _, SqL.of eG2⟩, ?_⟩
      refine ⟨_, rfl, x.2.toNat, by rw [Int.toNat_of_nonneg (by omega)]; rfl, by omega, fun p3 G3 s5 n3 e3 => ?_⟩
      refine ⟨q, p3, _, _, rfl, rfl, s5 _ _ eG2, e3, by rw [List.length_map, List.length_map, List.length_append, sizeLine_eq]; omega, ?_⟩
      dsimp only
      show tAsg _ _ _ _ _
      refine asg_of ⟨_, rfl, nm_of ?_⟩
      have ep1 : prevP xs (j + 1) = x.1 := by
        unfold prevP
        rw [if_neg (by omega), Nat.add_sub_cancel, xe]
      refine ⟨some (.int x.1), some (.int x.2), by rw [ep1]; rfl, (b2.trans (Same.but s5 q)).trans but_upd, ?_⟩
      rw [upd_same]
      show some (HO.lst _) = some (HO.lst ((encT xs j ++ grp7 ((xs.getD j (0, 0)).1 - prevP xs j).toNat ++ grp7 (xs.getD j (0, 0)).2.toNat).map V.int))
      rw [xe, List.map_append (l₁ := encT xs j ++ grp7 (x.1 - prevP xs j).toNat)]
    · rintro σ G ⟨s3, s4, rfl, bG, eG⟩
      rw [hS.1] at eG
      have tl := encT_len xs hb xs.length (Nat.le_refl _)
      have b8 := encT_byte xs hz xs.length
      refine ⟨_, rfl, _, rfl, q, encT xs xs.length, rfl, SqL.of eG, by omega, fun v h => b8 v h, by show 1 ≤ sizeLine; decide, fun l nl => ?_⟩
      have sl := same_new (o := .lst [V.int (cks (encT xs xs.length))]) nl
      refine ⟨q, l, _, _, rfl, rfl, sl _ _ eG, upd_same, by rw [List.length_map]; show (encT xs xs.length).length + 1 ≤ sizeLine; rw [sizeLine_eq]; omega, fun p np => ?_⟩
      have s3 := sl.trans (same_new (o := .lst ((encT xs xs.length).map V.int ++ [V.int (cks (encT xs xs.length))])) np)
      have eL : (encT xs xs.length).map V.int ++ [V.int (cks (encT xs xs.length))] = (encR xs).map V.int := by unfold encR; rw [List.map_append]; rfl
      have ep3 : (upd (upd G l (.lst [V.int (cks (encT xs xs.length))])) p (.lst ((encT xs xs.length).map V.int ++ [V.int (cks (encT xs xs.length))]))) p = some (.lst ((encR xs).map V.int)) := by rw [upd_same, eL]
      generalize upd (upd G l (.lst [V.int (cks (encT xs xs.length))])) p (.lst ((encT xs xs.length).map V.int ++ [V.int (cks (encT xs xs.length))])) = G3 at s3 ep3 ⊢
      have b9 : B8 (encR xs) := fun n h => by
        rcases List.mem_append.mp h with h | h
        · exact b8 n h
        · rw [List.mem_singleton.mp h]
          have := cks_range (encT xs xs.length)
          omega
      refine ⟨_, rfl, .inl ⟨p, _, rfl, SqL.of ep3, tyL (SqL.of ep3), by rw [List.length_map]; unfold encR; rw [List.length_append]; show (encT xs xs.length).length + 1 ≤ 1000; omega, fun u hu G4 _ => ?_, fun ns e _ G4 s4 => ?_, fun bad => ?_⟩⟩
      · obtain ⟨n, _, rfl⟩ := List.mem_map.mp hu
        exact True.intro
      · have en : encR xs = ns := ints_inj e
        rw [← en]
        exact k G4 (fun c o e => s4 _ _ (s3 _ _ (bG c o (ne_of_none e nq) (sq c o e))))
      · obtain ⟨u, hu, e⟩ := bad
        obtain ⟨n, hn, rfl⟩ := List.mem_map.mp hu
        obtain ⟨n0, n1⟩ := b9 n hn
        rw [numB_int n0 (by omega)] at e
        cases e
end
/-! ### decode_row -/
/-- so many stones from an offset: the stones, and the offset behind them; or the offset of an error -/
def decT (ns : List Int) : Nat → Sum (List (Int × Int) × Int × Nat) Nat
  | 0 => .inl ([], 0, 2)
  | j + 1 => match decT ns j with
    | .inr e => .inr e
    | .inl (xs, pl, o) => match rdNum ns o (if j = 0 then 0 else 1) (1000000000 - pl) with
      | .inr e => .inr e
      | .inl (d, o1) => match rdNum ns o1 1 1000000000 with
        | .inr e => .inr e
        | .inl (h, o2) => .inl (xs ++ [(pl + d, h)], pl + d, o2)
def decR (ns : List Int) : Sum (List (Int × Int)) Nat := match ns[0]? with
  | none => .inr 0
  | some b => if b ≠ 68 then .inr 0 else match ns[1]? with
    | none => .inr 1
    | some c => if 40 < c then .inr 1 else match decT ns c.toNat with
      | .inr e => .inr e
      | .inl (xs, _, o) => match endErr ns o with
        | some e => .inr e
        | none => .inl xs
theorem decT_err {ns : List Int} {e : Nat} : ∀ {j : Nat} (n : Nat), decT ns j = .inr e → j ≤ n → decT ns n = .inr e
  | j, 0, h, l => by
    obtain rfl : j = 0 := by omega
    exact h
  | j, n + 1, h, l => by
    by_cases c : j = n + 1
    · rw [← c]; exact h
    · have := decT_err n h (by omega)
      unfold decT
      rw [this]
theorem rdLoop_bound : ∀ (f o : Nat) (ns : List Int) (num wt : Int) {num' wt' b : Int} {o' : Nat}, rdLoop ns f o num wt = .inl (num', wt', o', b) → o' < ns.length ∧ o ≤ o'
  | 0, _, _, _, _, _, _, _, _, h => by cases h
  | f + 1, o, ns, num, wt, num', wt', b, o', h => by
    unfold rdLoop at h
    cases e : ns[o]? with
    | none => rw [e] at h; cases h
    | some c =>
      rw [e] at h
      dsimp only at h
      split at h
      · have := rdLoop_bound f (o + 1) ns _ _ h
        omega
      · cases h
        exact ⟨(List.getElem?_eq_some_iff.mp e).1, Nat.le_refl _⟩
theorem rdNum_bound {ns : List Int} {o o' : Nat} {lo hi n : Int} (h : rdNum ns o lo hi = .inl (n, o')) : o' ≤ ns.length ∧ o < o' ∧ lo ≤ n ∧ n ≤ hi := by
  unfold rdNum at h
  split at h
  · cases h
  · rename_i num wt o1 b e
    have := rdLoop_bound _ _ _ _ _ e
    split at h
    · cases h
    · split at h
      · rename_i c
        cases h
        omega
      · cases h
/-! ### decode_row, the def -/
def spDec (K : PySem.W.Frag) (C C1 : Addr) : Sp := fun vs H Q E => ∃ ns : List Int, vs = [.byt (byteArr ns)] ∧ B8 ns ∧ ns.length ≤ 999 ∧ (∀ e, decR ns = .inr e → ∀ H', Same H H' → ErrO K C1 H' E e) ∧ ∀ xs, decR ns = .inl xs → ∀ z H', Same H H' → H z = none → RowAt K C H' z xs → Q (.ref z) H'
theorem next_of {D : Ends} {σ : L2.St} {H : Hp} (h : D.nx σ H) : tNext D σ H := h
section
variable {P : Program} {w : World} {K : PySem.W.Frag} {mg : Str → Option Value} {base : Heap}
theorem ok_dec {f g g1 g2 g3 C C1 : Addr} {fd d1 d2 d3 : FuncData} {mc : Value} {um : Value} (CR : ClX.CRead K C mc) (CV : ClX.CVal K C mc "MAX_STONES" (.int 40) um) (F : Fun K "decode_row" "decode_row" s_decode_row f fd) (B : Blt mg) (M : CodM mg) (L : Lims mg) (R : RowC K mg C) (MK : Mk K C g) (G : FnR P w K mg base CX0 3 g (spMake K C)) (Z : ExI P w K mg base "DecodeError" "offset" C1)
    (NB : At P w K mg base (L2.CX P w) 3 "_byte_at" ["data", "offset"] (spByteAt K C1) g1 d1) (NR : At P w K mg base (L2.CX P w) 4 "_read_number" ["data", "start", "least", "greatest"] (spRead K C1) g2 d2)
    (NE : At P w K mg base (L2.CX P w) 4 "_check_end" ["data", "offset"] (spEnd K C1) g3 d3) :
    FnOk P w K mg base (L2.CX P w) 5 f fd ["data"] (spDec K C C1) := by
  obtain ⟨tb, mfb⟩ := M.fb
  obtain ⟨tp, mp⟩ := L.place
  obtain ⟨th, mh⟩ := L.height
  refine F.okX sc_decode_row (fun vs H Q E h => ?_) (fun cdv A outer s H vs Q E hr h => ?_)
  · obtain ⟨ns, rfl, _⟩ := h
    rfl
  · obtain ⟨ns, rfl, hb, hz, er, k⟩ := h
    have r3 : Room 3 _ := hr.mono (by decide)
    have r2 : Room 2 _ := hr.mono (by decide)
    refine ⟨_, pss_cons (ps_if (PW.pt (pw_or (pt_not (pt_val (pe_callB (call_isi_byt) (by rfl) B.isinstance boot_isinstance (pa_cons (pv 0) (pa_cons (pe_bltn (v := .ty "bytes") (by rfl) M.by_ boot_bytes rfl) pa_nil))))) (pw_or1 (pt_cmpR (op_ne) (pe_atE NB r3 (takes_of rfl rfl rfl rfl) (pa_cons (pv 0) (pa_cons (pe_int) pa_nil))) (pe_glob (v := .int 68) (by rfl) mfb ⟨tb, rfl⟩) (nomark _))))) (pss_one (ps_raise rfl (takes_of rfl rfl rfl rfl) (pmk_exI Z r2 (pa_cons (pe_int) pa_nil)))) pss_nil)
      (pss_cons (ps_set (i := 1) sc_decode_row.nd rfl (Or.inl rfl) (pe_atE NB r3 (takes_of rfl rfl rfl rfl) (pa_cons (pv 0) (pa_cons (pe_int) pa_nil))))
      (pss_cons (ps_if (pt_cmpR (op_gt) (pv 1) (ClX.pe_cval (pe_glob (v := .ref C) (by rfl) R.mgC rfl)) (nomark _)) (pss_one (ps_raise rfl (takes_of rfl rfl rfl rfl) (pmk_exI Z r2 (pa_cons (pe_int) pa_nil)))) pss_nil)
      (pss_cons (ps_set (i := 2) sc_decode_row.nd rfl (Or.inl rfl) (pe_lst pa_nil))
      (pss_cons (ps_set (i := 3) sc_decode_row.nd rfl (Or.inl rfl) (pe_int))
      (pss_cons (ps_set (i := 4) sc_decode_row.nd rfl (Or.inl rfl) (pe_int))
      (pss_cons (ps_for (passes_of rfl) rfl (pi_range1 (by rfl) B.range (pa_cons (pv 1) pa_nil)) (pg_name (i := 5) sc_decode_row.nd rfl (Or.inl rfl))
        (pss_cons (ps_set (i := 6) sc_decode_row.nd rfl (Or.inl rfl) (pe_ifExp (pt_cmpR (op_eq) (pv 5) (pe_int) (nomark _)) pe_int pe_int))
        (pss_cons (ps_asg (pe_atE NR hr (takes_of rfl rfl rfl rfl) (pa_cons (pv 0) (pa_cons (pv 4) (pa_cons (pv 6) (pa_cons (pe_op op_sub (pe_glob (v := .int 1000000000) (by rfl) mp ⟨tp, rfl⟩) (pv 3)) pa_nil))))) (pg_tup rfl (pgs_cons (pg_name (i := 7) sc_decode_row.nd rfl (Or.inl rfl)) (pgs_cons (pg_name (i := 4) sc_decode_row.nd rfl (Or.inl rfl)) pgs_nil))))
        (pss_cons (ps_asg (pe_atE NR hr (takes_of rfl rfl rfl rfl) (pa_cons (pv 0) (pa_cons (pv 4) (pa_cons (pe_int) (pa_cons (pe_glob (v := .int 1000000000) (by rfl) mh ⟨th, rfl⟩) pa_nil))))) (pg_tup rfl (pgs_cons (pg_name (i := 8) sc_decode_row.nd rfl (Or.inl rfl)) (pgs_cons (pg_name (i := 4) sc_decode_row.nd rfl (Or.inl rfl)) pgs_nil))))
        (pss_cons (ps_set (i := 3) sc_decode_row.nd rfl (Or.inl rfl) (pe_op op_add (pv 3) (pv 7)))
        (pss_one (ps_expr (pe_bm PySem.F.plainAttrs_list PySem.F.slot_list_append PySem.F.type_list_append mt_append (pv 2) (pa_cons (pe_tup (pa_cons (pv 3) (pa_cons (pv 8) pa_nil))) pa_nil)))))))))
      (pss_cons (ps_expr (pe_atE NE hr (takes_of rfl rfl rfl rfl) (pa_cons (pv 0) (pa_cons (pv 4) pa_nil))))
      (pss_one (ps_ret (Own.pe_makeS MK G hr (by rfl) R.mgC pass0 (pv 2))))))))))), ?_⟩
    refine ⟨_, rfl, byteArr ns, rfl, true, rfl, ?_⟩
    refine iteF ?_
    refine ⟨_, rfl, ns, 0, rfl, hb, by omega, by omega, fun e => er 0 (by unfold decR; rw [List.getElem?_eq_none (by omega)]) _ (Same.refl _), fun b hb0 => ?_⟩
    refine ⟨rfl, _, rfl, ?_⟩
    by_cases c0 : b = 68
    · subst c0
      rw [show (!decide (V.int 68 = V.int 68)) = false from by rw [decide_eq_true rfl]; rfl]
      refine iteF ?_
      have e1 : decR ns = match (ns[1]? : Option Int) with
          | none => .inr 1
          | some (c : Int) => if 40 < c then .inr 1 else match decT ns c.toNat with
            | .inr e => .inr e
            | .inl (xs, _, o) => match endErr ns o with
              | some e => .inr e
              | none => .inl xs := by
        unfold decR
        rw [hb0]
        rfl
      have l0 : 0 < ns.length := (List.getElem?_eq_some_iff.mp hb0).1
      refine ⟨_, rfl, ns, 1, rfl, hb, by omega, by omega, fun e => er 1 (by rw [e1, List.getElem?_eq_none (by omega)]) _ (Same.refl _), fun cn hc => ?_⟩
      rw [hc] at e1
      dsimp only at e1
      obtain ⟨cn0, cn1⟩ := hb cn (List.mem_of_getElem? hc)
      refine nm_of ?_
      dsimp only
      show tSeq _ _ _ _ _
      refine seq_of ?_
      refine ⟨_, rfl, C, mc, .int 40, um, rfl, CR, CV, _, _, rfl, rfl, _, rfl, ?_⟩
      by_cases c4 : 40 < cn
      · rw [if_pos c4] at e1
        rw [decide_eq_true c4]
        refine iteT ?_
        exact mko_any (i := ((1 : Nat) : Int)) Z.T (fun Q q => q) (short_nat (by omega)) (er 1 e1 _ (Same.refl _))
      · rw [if_neg c4] at e1
        rw [decide_eq_false c4]
        refine iteF (next_of ?_)
        have l1 : 1 < ns.length := (List.getElem?_eq_some_iff.mp hc).1
        dsimp only
        show tSeq _ _ _ _ _
        refine seq_of (asg_of ⟨by show 0 ≤ sizeLine; decide, fun q nq => nm_of ?_⟩)
        have sq := same_new (o := .lst []) nq
        have eq0 : (upd H q (.lst [])) q = some (.lst []) := upd_same
        generalize upd H q (.lst []) = H1 at sq eq0 ⊢
        dsimp only
        show tSeq _ _ _ _ _
        refine seq_of (asg_of (nm_of ?_))
        dsimp only
        show tSeq _ _ _ _ _
        refine seq_of (asg_of (nm_of ?_))
        dsimp only
        show tSeq _ _ _ _ _
        refine seq_of ?_
        refine ⟨_, rfl, cn, rfl, by omega, by omega, for_range (lo := 0) (n := cn.toNat) (fun j σ G => ∃ (xs : List (Int × Int)) (pl : Int) (o : Nat) (us : List V) (s5 s6 s7 s8 : Option V), σ = [some (.byt (byteArr ns)), some (.int cn), some (.ref q), some (.int pl), some (.int (o : Int)), s5, s6, s7, s8] ∧
          decT ns j = .inl (xs, pl, o) ∧ But q H1 G ∧ G q = some (.lst us) ∧ StonesAt K G us xs ∧ o ≤ ns.length ∧ Wf 0 xs ∧ xs.length = j ∧ 0 ≤ pl ∧ pl ≤ 1000000000 ∧ (∀ x ∈ xs, x.1 ≤ pl) ∧ (j = 0 → pl = 0)) ?_ ?_ ?_⟩
        · exact ⟨[], 0, 2, [], none, none, none, none, rfl, rfl, fun _ _ _ e => e, eq0, StonesAt.nil, by omega, trivial, rfl, by omega, by omega, fun x h => (nomatch h), fun _ => rfl⟩
        · rintro j σ G hj ⟨xs, pl, o, us, s5, s6, s7, s8, rfl, hd, bG, eG, hS, ho, hw, hl, p0, p1, hpl, hp0⟩
          refine nm_of ?_
          have e0 : (0 : Int) + (j : Int) = (j : Int) := Int.zero_add _
          rw [e0]
          refine seq_of (asg_of ?_)
          have least : ∀ Qb : VK, Qb (.int (if j = 0 then 0 else 1)) G → tIf (tTest (tOp rEq (tVar 5) (tC (V.int 0)))) (tC (V.int 0)) (tC (V.int 1)) [some (.byt (byteArr ns)), some (.int cn), some (.ref q), some (.int pl), some (.int (o : Int)), some (.int (j : Int)), s6, s7, s8] G Qb := by
            intro Qb qb
            refine ⟨_, rfl, rfl, _, rfl, ?_⟩
            by_cases h : j = 0
            · rw [decide_eq_true (show V.int (j : Int) = V.int 0 by rw [h]; rfl)]
              rw [if_pos h] at qb
              exact iteT qb
            · rw [decide_eq_false (fun z : V.int (j : Int) = V.int 0 => h (by injection z with z; omega))]
              rw [if_neg h] at qb
              exact iteF qb
          refine least _ ?_
          refine nm_of ?_
          dsimp only
          show tSeq _ _ _ _ _
          refine seq_of (asg_of ?_)
          have sG : Same H G := fun c o e => bG c o (ne_of_none e nq) (sq c o e)
          have eR : ∀ e, decT ns (j + 1) = .inr e → ErrO K C1 G E e := fun e he => er e (by rw [e1, decT_err cn.toNat he (by omega)]) G sG
          have eD : decT ns (j + 1) = match rdNum ns o (if j = 0 then 0 else 1) (1000000000 - pl) with
              | .inr e => .inr e
              | .inl (d, o1) => match rdNum ns o1 1 1000000000 with
                | .inr e => .inr e
                | .inl (h, o2) => .inl (xs ++ [(pl + d, h)], pl + d, o2) := by
            conv => lhs; unfold decT
            (rw [hd]) <;> rfl
          refine ⟨_, rfl, _, rfl, _, rfl, _, rfl, _, _, rfl, rfl, ns, o, _, _, rfl, hb, by omega, ho, fun e he => eR e (by rw [eD, he]), fun d o1 hr1 T nT => ?_⟩
          obtain ⟨ho1, _, d0, d1⟩ := rdNum_bound hr1
          rw [hr1] at eD
          dsimp only at eD
          have sT := same_new (o := .tup [V.int d, V.int (o1 : Int)]) nT
          refine ⟨T, _, rfl, SqT.of upd_same, rfl, _, _, rfl, _, _, rfl, rfl, ?_⟩
          have eG1 := sT _ _ eG
          have b1 : But q H1 _ := bG.trans (Same.but sT q)
          have hS1 := hS.same sT
          have eR1 : ∀ e, decT ns (j + 1) = .inr e → ErrO K C1 (upd G T (.tup [V.int d, V.int (o1 : Int)])) E e := fun e he => (eR e he).same sT
          generalize upd G T (.tup [V.int d, V.int (o1 : Int)]) = G1 at eG1 b1 hS1 eR1 ⊢
          dsimp only
          show tSeq _ _ _ _ _
          refine seq_of (asg_of ?_)
          refine ⟨_, rfl, _, rfl, ns, o1, _, _, rfl, hb, by omega, ho1, fun e he => eR1 e (by rw [eD, he]), fun h o2 hr2 T2 nT2 => ?_⟩
          obtain ⟨ho2, _, h0, h1⟩ := rdNum_bound hr2
          rw [hr2] at eD
          dsimp only at eD
          have sT2 := same_new (o := .tup [V.int h, V.int (o2 : Int)]) nT2
          refine ⟨T2, _, rfl, SqT.of upd_same, rfl, _, _, rfl, _, _, rfl, rfl, ?_⟩
          have eG2 := sT2 _ _ eG1
          have b2 : But q H1 _ := b1.trans (Same.but sT2 q)
          have hS2 := hS1.same sT2
          generalize upd G1 T2 (.tup [V.int h, V.int (o2 : Int)]) = G2 at eG2 b2 hS2 ⊢
          dsimp only
          show tSeq _ _ _ _ _
          refine seq_of (asg_of ?_)
          refine ⟨_, rfl, _, rfl, _, _, rfl, rfl, nm_of ?_⟩
          dsimp only
          refine ⟨_, rfl, .inl ⟨rfl, _, SqL.of eG2⟩, ?_⟩
          refine ⟨_, rfl, _, rfl, by show 2 ≤ sizeLine; decide, fun T3 nT3 => ?_⟩
          have sT3 := same_new (o := .tup [V.int (pl + d), V.int h]) nT3
          have eG3 := sT3 _ _ eG2
          have b3 : But q H1 _ := b2.trans (Same.but sT3 q)
          have hS3 := hS2.same sT3
          have hT3 : SqT K (upd G2 T3 (.tup [V.int (pl + d), V.int h])) T3 [V.int (pl + d), V.int h] := SqT.of upd_same
          generalize upd G2 T3 (.tup [V.int (pl + d), V.int h]) = G3 at eG3 b3 hS3 hT3 ⊢
          have ul : us.length = xs.length := hS.1
          refine ⟨q, us, _, rfl, rfl, eG3, by rw [ul, hl, sizeLine_eq]; omega, ?_⟩
          have hS4 : StonesAt K (upd G3 q (.lst (us ++ [.ref T3]))) (us ++ [.ref T3]) (xs ++ [(pl + d, h)]) := (hS3.but eG3 but_upd).append (StonesAt.one (sqT_but hT3 eG3 but_upd))
          have pd : pl + d ≤ 1000000000 := by omega
          have dd : (j = 0 → 0 ≤ d) ∧ (j ≠ 0 → 1 ≤ d) := ⟨fun e => by rw [if_pos e] at d0; exact d0, fun e => by rw [if_neg e] at d0; exact d0⟩
          have d00 : 0 ≤ d := by
            by_cases e : j = 0
            · exact dd.1 e
            · have := dd.2 e
              omega
          refine ⟨xs ++ [(pl + d, h)], pl + d, o2, us ++ [.ref T3], _, _, _, _, rfl, eD, b3.trans but_upd, upd_same, hS4, ho2, ?_, by rw [List.length_append, hl]; rfl, by omega, pd, ?_, fun e => absurd e (Nat.succ_ne_zero j)⟩
          · refine Wf.snoc hw (by show 0 ≤ pl + d; omega) (fun x hx => ?_) pd h0 h1
            have := hpl x hx
            have j0 : j ≠ 0 := fun e => by
              rw [e] at hl
              rw [List.length_eq_zero_iff.mp hl] at hx
              cases hx
            have := dd.2 j0
            show x.1 + 1 ≤ pl + d
            omega
          · intro x hx
            rcases List.mem_append.mp hx with hx | hx
            · have := hpl x hx
              omega
            · rw [List.mem_singleton.mp hx]
              exact Int.le_refl _
        · rintro σ G ⟨xs, pl, o, us, s5, s6, s7, s8, rfl, hd, bG, eG, hS, ho, hw, hl, p0, p1, hpl, hp0⟩
          have sG : Same H G := fun c o e => bG c o (ne_of_none e nq) (sq c o e)
          have e2 : ∀ e, endErr ns o = some e → decR ns = .inr e := fun e he => by rw [e1, hd]; dsimp only; rw [he]
          dsimp only
          show tSeq _ _ _ _ _
          refine seq_of ?_
          refine ⟨_, rfl, _, rfl, ns, o, rfl, hb, hz, ho, fun e he => er e (e2 e he) G sG, fun hn => ?_⟩
          have e3 : decR ns = .inl xs := by rw [e1, hd]; dsimp only; rw [hn]
          refine ⟨_, rfl, q, us, rfl, .inr (SqL.of eG), fun z dz nz ndz hne => ?_⟩
          have ul : us.length = xs.length := hS.1
          have sd := same_new (o := .own z) ndz
          have nz1 : (upd G dz (.own z)) z = none := by rw [upd_ne (Ne.symm hne)]; exact nz
          have sz := sd.trans (same_new (o := .ins C dz []) nz1)
          refine ⟨_, _, rfl, by omega, fun t nt => ?_⟩
          have st := sz.trans (same_new (o := .tup us) nt)
          refine ⟨z, dz, t, us, xs, rfl, same_new nt _ _ upd_same, SqT.of upd_same, hS.same st, hw, by omega, fun H5 b5 e5 => ⟨rfl, ?_⟩⟩
          have s5 : Same G H5 := fun c o e => b5 c o (ne_of_none e nz) (st c o e)
          refine k xs e3 z H5 (fun c o e => s5 _ _ (sG c o e)) ?_ ?_
          · cases e : H z with
            | none => rfl
            | some u => exact absurd (sG z u e) (by rw [nz]; exact fun z => nomatch z)
          · exact ⟨dz, t, us, e5, SqT.of (b5 t _ (fun e => by rw [e, upd_same] at nt; cases nt) upd_same), hS.same s5⟩
    · rw [show (!decide (V.int b = V.int 68)) = true from by rw [decide_eq_false (fun z : V.int b = V.int 68 => c0 (by injection z))]; rfl]
      refine iteT ?_
      exact mko_any (i := ((0 : Nat) : Int)) Z.T (fun Q q => q) (short_nat (by omega)) (er 0 (by unfold decR; rw [hb0]; dsimp only; rw [if_pos c0]) _ (Same.refl _))
end
/-! ### the text of a row -/
abbrev stoneL : List Nat := [115, 116, 111, 110, 101]
def wordsL (x : Int × Int) : List (List Nat) := [stoneL, FmtS.digs x.1, FmtS.digs x.2]
def lineL (x : Int × Int) : List Nat := SplS.joinL 32 (wordsL x)
def rowL (xs : List (Int × Int)) : List Nat := SplS.joinL 10 (xs.map lineL)
theorem lit_stone : ("stone" : Str) = TxtG.T stoneL := by decide +kernel
theorem lit_nl : ("\n" : Str) = TxtG.T [10] := by decide +kernel
theorem lit_spc : (" " : Str) = TxtG.T [32] := by decide +kernel
theorem lit_zero : ("0" : Str) = TxtG.T [48] := by decide +kernel
/-- a number's figures -/
theorem digs_all {a : Int} : ∀ c ∈ FmtS.digs a, 48 ≤ c ∧ c ≤ 57 := by
  intro c hc
  unfold FmtS.digs at hc
  obtain ⟨d, hd, rfl⟩ := List.mem_map.mp hc
  exact digit_range (Nat.isDigit_of_mem_toDigits (by decide) (by decide) hd)
def isNumL (l : List Nat) : Bool := decide (l ≠ []) && l.all (fun c => decide (48 ≤ c ∧ c ≤ 57)) && decide (l.length ≤ 10) && (decide (l = [48]) || !decide (l.head? = some 48))
def rightL (l : List Nat) (i : Nat) : Bool := if i = 0 then decide (l = stoneL) else decide (i < 3) && isNumL l
structure TxtM (mg : Str → Option Value) : Prop where
  fw : ∃ t, mg "FIRST_WORD" = some (.str "stone" t)
  ws : ∃ t, mg "WORDS" = some (.int 3 t)
  mf : ∃ t, mg "MOST_FIGURES" = some (.int 10 t)
def spNotN : Sp := fun vs H Q _ => ∃ l : List Nat, vs = [.str (TxtG.T l)] ∧ l.length ≤ 1000000 ∧ Q (.bl (isNumL l)) H
def spRight : Sp := fun vs H Q _ => ∃ (l : List Nat) (i : Nat), vs = [.str (TxtG.T l), .int (i : Int)] ∧ l.length ≤ 1000000 ∧ Q (.bl (rightL l i)) H
theorem dig_ascii : ∀ c, c < 128 → PySem.Unicode.isDigit c = decide (48 ≤ c ∧ c ≤ 57) := by decide +kernel
theorem all_T (l : List Nat) (f : Nat → Bool) : (TxtG.T l).cps.all f = l.all f := by
  show (l.toArray).all f = _
  simp
theorem isNum_of (l : List Nat) : ((!(!Txt.isascii (TxtG.T l))) && (!(!Txt.isdigit (TxtG.T l))) && decide (l.length ≤ 10)) = (decide (l ≠ []) && l.all (fun c => decide (48 ≤ c ∧ c ≤ 57)) && decide (l.length ≤ 10)) := by
  rw [Bool.not_not, Bool.not_not]
  congr 1
  unfold Txt.isascii Txt.isdigit
  rw [all_T, all_T, TxtG.T_len]
  by_cases h : l.all (· < 128) = true
  · have e : l.all PySem.Unicode.isDigit = l.all (fun c => decide (48 ≤ c ∧ c ≤ 57)) := by
      rw [Bool.eq_iff_iff, List.all_eq_true, List.all_eq_true]
      exact ⟨fun k c hc => by rw [← dig_ascii c (by have := List.all_eq_true.mp h c hc; simpa using this)]; exact k c hc, fun k c hc => by rw [dig_ascii c (by have := List.all_eq_true.mp h c hc; simpa using this)]; exact k c hc⟩
    rw [h, e, Bool.true_and]
    congr 1
    cases l <;> simp
  · rw [Bool.not_eq_true] at h
    rw [h, Bool.false_and]
    have : l.all (fun c => decide (48 ≤ c ∧ c ≤ 57)) = false := by
      rw [← Bool.not_eq_true]
      intro k
      rw [← Bool.not_eq_true] at h
      refine h (List.all_eq_true.mpr fun c hc => ?_)
      have := List.all_eq_true.mp k c hc
      simp at this ⊢
      omega
    rw [this, Bool.and_false]
theorem starts0 (l : List Nat) : Txt.startswith (TxtG.T l) (TxtG.T [48]) = decide (l.head? = some 48) := by
  unfold Txt.startswith
  cases l with
  | nil => decide +kernel
  | cons a l =>
    rw [StrLaws.subAt_eq, TxtG.T_len, TxtG.T_len, SplS.T_cps, SplS.T_cps]
    show (decide (0 + 1 ≤ l.length + 1) && ((a :: l).take 1 == [48])) = decide ((a :: l).head? = some 48)
    rw [decide_eq_true (by omega), Bool.true_and]
    show ([a] == [48]) = decide (some a = some 48)
    by_cases h : a = 48
    · subst h; rfl
    · rw [decide_eq_false (fun z => h (by injection z))]
      simp [h]
section
variable {P : Program} {w : World} {K : PySem.W.Frag} {mg : Str → Option Value} {base : Heap}
theorem ok_notN {f : Addr} {fd : FuncData} (F : Fun K "_is_notation_of_number" "_is_notation_of_number" s_is_notation_of_number f fd) (B : Blt mg) (M : TxtM mg) : FnOk P w K mg base CX0 1 f fd ["word"] spNotN := by
  obtain ⟨tm, mm⟩ := M.mf
  refine F.ok sc_is_notation_of_number (fun vs H Q E h => ?_) (fun cdv A outer s H vs Q E hr h => ?_)
  · obtain ⟨l, rfl, _⟩ := h
    rfl
  · obtain ⟨l, rfl, hz, k⟩ := h
    have hu := hu_of hr
    refine ⟨_, pss_cons (ps_if (PW.pt (pw_or (pt_not (pt_val (pe_m0 PySem.F.slot_str_isascii PySem.F.type_str_isascii mt_isascii (pv 0)))) (pw_or (pt_not (pt_val (pe_m0 PySem.F.slot_str_isdigit PySem.F.type_str_isdigit mt_isdigit (pv 0)))) (pw_or1 (pt_cmpR (op_gt) (pe_callB call_len (by rfl) B.len PySem.boot_len (pa_cons (pv 0) pa_nil)) (pe_glob (v := .int 10) (by rfl) mm ⟨tm, rfl⟩) (nomark _)))))) (pss_one (ps_ret pe_bl)) pss_nil)
      (pss_one (ps_ret (pe_or (pe_cmpR (op_eq) (pv 0) (pe_str) (nomark _)) (pe_one (pe_not (pe_m1 PySem.F.slot_str_startswith PySem.F.type_str_startswith mt_startswith (pv 0) pe_str)))))), ?_⟩
    have hT : (TxtG.T l).length = l.length := TxtG.T_len l
    have hs : (TxtG.T l).length ≤ sizeLine := by rw [hT, sizeLine_eq]; omega
    have e1 := isNum_of l
    refine ⟨_, rfl, ⟨_, rfl⟩, _, rfl, rfl, True.intro, _, rfl, ?_⟩
    cases ca : Txt.isascii (TxtG.T l) with
    | false =>
      refine iteT ?_
      rw [ca] at e1
      have : isNumL l = false := by unfold isNumL; rw [← e1]; rfl
      rw [this] at k
      exact k
    | true =>
      rw [ca] at e1
      refine iteF ⟨_, rfl, ⟨_, rfl⟩, _, rfl, rfl, True.intro, _, rfl, ?_⟩
      cases cd : Txt.isdigit (TxtG.T l) with
      | false =>
        refine iteT ?_
        rw [cd] at e1
        have : isNumL l = false := by unfold isNumL; rw [← e1]; rfl
        rw [this] at k
        exact k
      | true =>
        rw [cd] at e1
        refine iteF ⟨_, rfl, _, l.length, rfl, ⟨hs, hT.symm⟩, _, _, rfl, rfl, _, rfl, ?_⟩
        by_cases cl : 10 < l.length
        · rw [decide_eq_true (show (10 : Int) < (l.length : Int) by omega)]
          refine iteT ?_
          rw [decide_eq_false (show ¬ l.length ≤ 10 by omega)] at e1
          have : isNumL l = false := by unfold isNumL; rw [decide_eq_false (show ¬ l.length ≤ 10 by omega), ← e1]; rfl
          rw [this] at k
          exact k
        · rw [decide_eq_false (show ¬ (10 : Int) < (l.length : Int) by omega)]
          refine iteF ?_
          rw [decide_eq_true (show l.length ≤ 10 by omega)] at e1
          have e2 : isNumL l = (decide (l = [48]) || !decide (l.head? = some 48)) := by unfold isNumL; rw [decide_eq_true (show l.length ≤ 10 by omega), ← e1]; rfl
          rw [e2] at k
          refine ⟨_, rfl, rfl, _, rfl, ?_⟩
          rw [lit_zero]
          by_cases cz : l = [48]
          · rw [decide_eq_true (show V.str (TxtG.T l) = V.str (TxtG.T [48]) by rw [cz])]
            rw [decide_eq_true cz] at k
            exact iteT k
          · rw [decide_eq_false (show ¬ V.str (TxtG.T l) = V.str (TxtG.T [48]) from fun z => cz (SplS.T_inj (by injection z)))]
            rw [decide_eq_false cz, Bool.false_or] at k
            refine iteF ⟨_, rfl, ⟨_, rfl⟩, _, _, rfl, rfl, _, rfl, ?_⟩
            rw [starts0]
            exact k
theorem ok_right {f g : Addr} {fd gd : FuncData} (F : Fun K "_is_right_word" "_is_right_word" s_is_right_word f fd) (B : Blt mg) (M : TxtM mg) (N : At P w K mg base CX0 1 "_is_notation_of_number" ["word"] spNotN g gd) : FnOk P w K mg base CX0 2 f fd ["word", "index"] spRight := by
  obtain ⟨tf, mf⟩ := M.fw
  obtain ⟨tw, mw⟩ := M.ws
  refine F.ok sc_is_right_word (fun vs H Q E h => ?_) (fun cdv A outer s H vs Q E hr h => ?_)
  · obtain ⟨l, i, rfl, _⟩ := h
    rfl
  · obtain ⟨l, i, rfl, hz, k⟩ := h
    refine ⟨_, pss_cons (ps_if (pt_cmpR (op_eq) (pv 1) (pe_int) (nomark _)) (pss_one (ps_ret (pe_cmpR (op_eq) (pv 0) (pe_glob (v := .str "stone") (by rfl) mf ⟨tf, rfl⟩) (nomark _)))) pss_nil)
      (pss_one (ps_ret (pe_and (pe_cmpR (op_lt) (pv 1) (pe_glob (v := .int 3) (by rfl) mw ⟨tw, rfl⟩) (nomark _)) (pe_one (pe_at N hr (pa_cons (pv 0) pa_nil)))))), ?_⟩
    refine ⟨_, rfl, rfl, _, rfl, ?_⟩
    by_cases c : i = 0
    · subst c
      rw [decide_eq_true (show V.int ((0 : Nat) : Int) = V.int 0 from rfl)]
      refine iteT ⟨_, rfl, rfl, ?_⟩
      rw [lit_stone]
      have : decide (V.str (TxtG.T l) = V.str (TxtG.T stoneL)) = rightL l 0 := by
        unfold rightL
        rw [if_pos rfl]
        by_cases e : l = stoneL
        · rw [decide_eq_true e, e]; exact decide_eq_true rfl
        · rw [decide_eq_false e]; exact decide_eq_false fun z => e (SplS.T_inj (by injection z))
      rw [this]
      exact k
    · rw [decide_eq_false (fun z : V.int (i : Int) = V.int 0 => c (by injection z with z; omega))]
      refine iteF ?_
      unfold rightL at k
      rw [if_neg c] at k
      refine ⟨_, rfl, _, _, rfl, rfl, _, rfl, ?_⟩
      by_cases c3 : i < 3
      · rw [decide_eq_true (show (i : Int) < 3 by omega)]
        rw [decide_eq_true c3, Bool.true_and] at k
        exact iteT ⟨_, rfl, l, rfl, hz, k⟩
      · rw [decide_eq_false (show ¬ (i : Int) < 3 by omega)]
        rw [decide_eq_false c3, Bool.false_and] at k
        exact iteF k
end
/-! ### format_row, parse_row of such a text -/
def spFmt (K : PySem.W.Frag) (C : Addr) : Sp := fun vs H Q _ => ∃ (z : Addr) (xs : List (Int × Int)), vs = [.ref z] ∧ RowAt K C H z xs ∧ Wf 0 xs ∧ xs.length ≤ 40 ∧ ∀ H', Same H H' → Q (.str (TxtG.T (rowL xs))) H'
def spStoneT : Sp := fun vs H Q _ => ∃ (x : Int × Int) (n : Int), vs = [.str (TxtG.T (lineL x)), .int n] ∧ 0 ≤ x.1 ∧ x.1 ≤ 1000000000 ∧ 1 ≤ x.2 ∧ x.2 ≤ 1000000000 ∧ ∀ t H', Same H H' → H' t = some (.tup [.int x.1, .int x.2]) → Q (.ref t) H'
def spParse (K : PySem.W.Frag) (C : Addr) : Sp := fun vs H Q _ => ∃ (xs : List (Int × Int)), vs = [.str (TxtG.T (rowL xs))] ∧ Wf 0 xs ∧ xs.length ≤ 40 ∧ ∀ z H', Same H H' → H z = none → RowAt K C H' z xs → Q (.ref z) H'
theorem digit0 : ∀ d : Nat, d < 10 → d ≠ 0 → (Nat.digitChar d).toNat ≠ 48 := by decide
theorem head_digs : ∀ (m : Nat), m ≠ 0 → ((Nat.toDigits 10 m).map Char.toNat).head? ≠ some 48 := by
  intro m
  induction m using Nat.strongRecOn with
  | _ m ih =>
    intro h0
    by_cases h : m < 10
    · rw [Nat.toDigits_of_lt_base h]
      show some (Nat.digitChar m).toNat ≠ some 48
      intro z
      exact digit0 m h h0 (by injection z)
    · have hm : m % 10 < 10 := Nat.mod_lt m (by decide)
      have t : Nat.toDigits 10 (m / 10) ++ Nat.toDigits 10 (m % 10) = Nat.toDigits 10 (10 * (m / 10) + m % 10) := Nat.toDigits_append_toDigits (by decide) (by omega) hm
      rw [Nat.div_add_mod] at t
      have ih := ih (m / 10) (by omega) (by omega)
      rw [← t, List.map_append]
      cases e : (Nat.toDigits 10 (m / 10)).map Char.toNat with
      | nil =>
        have := @Nat.length_toDigits_pos 10 (m / 10)
        have e2 := congrArg List.length e
        rw [List.length_map, List.length_nil] at e2
        omega
      | cons c l =>
        rw [e] at ih
        exact ih
theorem isNum_digs {a : Int} (h0 : 0 ≤ a) (h1 : a ≤ 1000000000) : isNumL (FmtS.digs a) = true := by
  have hl := TxtG.digs_len h0 (by omega)
  unfold isNumL
  rw [decide_eq_true (TxtG.digs_ne a), decide_eq_true hl, Bool.true_and, List.all_eq_true.mpr fun c hc => decide_eq_true (digs_all c hc), Bool.true_and, Bool.true_and]
  by_cases z : a = 0
  · subst z
    rfl
  · have h := head_digs a.natAbs (by omega)
    have : decide ((FmtS.digs a).head? = some 48) = false := decide_eq_false h
    rw [this]
    simp
theorem lineL_len {x : Int × Int} (h0 : 0 ≤ x.1) (h1 : x.1 ≤ 1000000000) (h2 : 1 ≤ x.2) (h3 : x.2 ≤ 1000000000) : (lineL x).length ≤ 27 := by
  have a1 := TxtG.digs_len h0 (by omega)
  have a2 := TxtG.digs_len (a := x.2) (by omega) (by omega)
  show (stoneL ++ 32 :: (FmtS.digs x.1 ++ 32 :: FmtS.digs x.2)).length ≤ 27
  simp
  omega
theorem lineL_eq (x : Int × Int) : lineL x = stoneL ++ 32 :: (FmtS.digs x.1 ++ 32 :: FmtS.digs x.2) := rfl
theorem no_32 {a : Int} : 32 ∉ FmtS.digs a := fun h => by have := digs_all _ h; omega
theorem no_10 {a : Int} : 10 ∉ FmtS.digs a := fun h => by have := digs_all _ h; omega
theorem words_line (x : Int × Int) : Txt.split (TxtG.T (lineL x)) (TxtG.T [32]) = (wordsL x).map TxtG.T := by
  refine SplS.split_join (ps := wordsL x) (by simp [wordsL]) fun p hp => ?_
  simp only [wordsL, List.mem_cons, List.not_mem_nil, or_false] at hp
  rcases hp with rfl | rfl | rfl
  · decide
  · exact no_32
  · exact no_32
theorem lines_row {xs : List (Int × Int)} (h : xs ≠ []) : Txt.split (TxtG.T (rowL xs)) (TxtG.T [10]) = (xs.map lineL).map TxtG.T := by
  refine SplS.split_join (by simpa using h) fun p hp => ?_
  obtain ⟨x, _, rfl⟩ := List.mem_map.mp hp
  rw [lineL_eq]
  intro k
  simp only [List.mem_append, List.mem_cons] at k
  rcases k with k | k | k | k | k
  · revert k; decide
  · cases k
  · exact no_10 k
  · cases k
  · exact no_10 k
theorem rowL_ne : ∀ {xs : List (Int × Int)}, xs ≠ [] → rowL xs ≠ []
  | [], h => absurd rfl h
  | [x], _ => by show lineL x ≠ []; rw [lineL_eq]; simp
  | x :: y :: xs, _ => by
    show lineL x ++ 10 :: _ ≠ []
    simp
theorem joinL_len {c : Nat} {b : Nat} : ∀ {ps : List (List Nat)}, (∀ p ∈ ps, p.length ≤ b) → (SplS.joinL c ps).length ≤ (b + 1) * ps.length
  | [], _ => by simp [SplS.joinL]
  | [p], h => by
    have := h p (by simp)
    simp [SplS.joinL]
    omega
  | p :: q :: ps, h => by
    have h1 := h p (by simp)
    have ih := joinL_len (c := c) (b := b) (ps := q :: ps) fun x hx => h x (by simp at hx ⊢; exact .inr hx)
    show (p ++ c :: SplS.joinL c (q :: ps)).length ≤ _
    rw [List.length_append, List.length_cons]
    have e : (b + 1) * (p :: q :: ps).length = (b + 1) * (q :: ps).length + (b + 1) := by rw [List.length_cons (a := p), Nat.mul_add, Nat.mul_one]
    omega
theorem read_digs {a : Int} (h0 : 0 ≤ a) (h1 : a ≤ 1000000000) : PySem.intText? (TxtG.T (FmtS.digs a)) = some a := by
  obtain ⟨m, rfl⟩ : ∃ m : Nat, a = (m : Int) := ⟨a.toNat, by omega⟩
  rw [← TxtG.T_str]
  exact W.KIN.num_reads (by omega) (by omega)
section
variable {P : Program} {w : World} {K : PySem.W.Frag} {mg : Str → Option Value} {base : Heap}
theorem ok_stoneT {f g : Addr} {fd gd : FuncData} (F : Fun K "_parsed_stone" "_parsed_stone" s_parsed_stone f fd) (B : Blt mg) (M : TxtM mg) (N : At P w K mg base CX0 2 "_is_right_word" ["word", "index"] spRight g gd) : FnOk P w K mg base CX0 3 f fd ["line", "number"] spStoneT := by
  obtain ⟨tw, mw⟩ := M.ws
  refine F.ok sc_parsed_stone (fun vs H Q E h => ?_) (fun cdv A outer s H vs Q E hr h => ?_)
  · obtain ⟨x, n, rfl, _⟩ := h
    rfl
  · obtain ⟨x, n, rfl, x0, x1, h0, h1, k⟩ := h
    refine ⟨_, pss_cons (ps_set (i := 2) sc_parsed_stone.nd rfl (Or.inl rfl) (pe_split (pv 0) pe_str))
      (pss_cons (ps_for PassesOwn.never rfl (pi_enum (by rfl) B.enumerate (pa_cons (pv 2) pa_nil)) (pg_tup rfl (pgs_cons (pg_name (i := 3) sc_parsed_stone.nd rfl (Or.inl rfl)) (pgs_cons (pg_name (i := 4) sc_parsed_stone.nd rfl (Or.inl rfl)) pgs_nil)))
        (pss_one (ps_if (pt_not (pt_val (pe_at N hr (pa_cons (pv 4) (pa_cons (pv 3) pa_nil))))) (pss_one ps_never) pss_nil)))
      (pss_cons (ps_if (pt_cmpR (op_lt) (pe_callB call_len_seq (by rfl) B.len PySem.boot_len (pa_cons (pv 2) pa_nil)) (pe_glob (v := .int 3) (by rfl) mw ⟨tw, rfl⟩) (nomark _)) (pss_one ps_never) pss_nil)
      (pss_one (ps_ret (pe_tup (pa_cons (pe_callTy (call_int_str) (by rfl) B.int boot_int (pa_cons (pe_ix ix_list (pv 2) (pe_int) (fun _ _ => rfl)) pa_nil)) (pa_cons (pe_callTy (call_int_str) (by rfl) B.int boot_int (pa_cons (pe_ix ix_list (pv 2) (pe_int) (fun _ _ => rfl)) pa_nil)) pa_nil))))))), ?_⟩
    have ll := lineL_len x0 x1 h0 h1
    have r0 : isNumL (FmtS.digs x.1) = true := isNum_digs x0 x1
    have r1 : isNumL (FmtS.digs x.2) = true := isNum_digs (by omega) h1
    have l1 := TxtG.digs_len x0 (by omega)
    have l2 := TxtG.digs_len (a := x.2) (by omega) (by omega)
    refine ⟨_, rfl, ⟨_, rfl⟩, _, _, rfl, rfl, by decide +kernel, by rw [TxtG.T_len, sizeLine_eq]; omega, fun q nq => ?_⟩
    rw [lit_spc, words_line]
    have sq := same_new (o := .lst (((wordsL x).map TxtG.T).map V.str)) nq
    have eq0 : (upd H q (.lst (((wordsL x).map TxtG.T).map V.str))) q = some (.lst [V.str (TxtG.T stoneL), V.str (TxtG.T (FmtS.digs x.1)), V.str (TxtG.T (FmtS.digs x.2))]) := upd_same
    generalize upd H q (.lst (((wordsL x).map TxtG.T).map V.str)) = H1 at sq eq0 ⊢
    refine nm_of ?_
    refine ⟨_, rfl, q, _, rfl, SqL.of eq0, for_it (walk_enum (K := K) (a := q) (xs := [V.str (TxtG.T stoneL), V.str (TxtG.T (FmtS.digs x.1)), V.str (TxtG.T (FmtS.digs x.2))])) (fun i σ G => ∃ (s3 s4 : Option V), σ = [some (.str (TxtG.T (lineL x))), some (.int n), some (.ref q), s3, s4] ∧ Same H1 G) ?_ ?_ ?_ ?_⟩
    · exact ⟨none, none, rfl, Same.refl _⟩
    · rintro i σ G _ ⟨_, _, _, sm⟩
      exact SqL.of (sm _ _ eq0)
    · rintro i v σ G G2 hi ⟨s3, s4, rfl, sm⟩ ⟨T, y, z, rfl, nT, rfl, e1, e2⟩
      obtain rfl : y = V.int (i : Int) := (Option.some.inj e1).symm
      refine ⟨T, _, rfl, SqT.of upd_same, rfl, _, _, rfl, _, _, rfl, rfl, ?_⟩
      obtain ⟨l, rfl, hl, hr⟩ : ∃ l, z = V.str (TxtG.T l) ∧ l.length ≤ 1000000 ∧ rightL l i = true := by
        match i, hi, e2 with
        | 0, _, e2 => exact ⟨stoneL, (Option.some.inj e2).symm, by decide, by decide⟩
        | 1, _, e2 => exact ⟨_, (Option.some.inj e2).symm, by omega, by unfold rightL; rw [if_neg (by decide), r0]; rfl⟩
        | 2, _, e2 => exact ⟨_, (Option.some.inj e2).symm, by omega, by unfold rightL; rw [if_neg (by decide), r1]; rfl⟩
        | i + 3, hi, _ => exact absurd hi (by show ¬ i + 3 < 3; omega)
      refine ⟨_, rfl, _, rfl, l, i, rfl, hl, _, rfl, ?_⟩
      rw [hr]
      refine iteF (next_of ?_)
      exact ⟨_, _, rfl, sm.trans (same_new nT)⟩
    · rintro σ G ⟨s3, s4, rfl, sm⟩
      have eG := sm _ _ eq0
      refine ⟨_, rfl, q, _, rfl, .inl (SqL.of eG), _, _, rfl, rfl, _, rfl, ?_⟩
      refine iteF (next_of ?_)
      refine ⟨_, rfl, q, _, ((1 : Nat) : Int), _, rfl, rfl, SqL.of eG, atI_nat (j := 1) rfl, _, _, rfl, read_digs x0 x1, by rw [TxtG.T_len]; omega, _, rfl, q, _, ((2 : Nat) : Int), _, rfl, rfl, SqL.of eG, atI_nat (j := 2) rfl, _, _, rfl, read_digs (by omega) h1, by rw [TxtG.T_len]; omega, by show 2 ≤ sizeLine; decide, fun t nt => ?_⟩
      exact k t _ ((sq.trans sm).trans (same_new nt)) upd_same
theorem T_int {a : Int} (h : 0 ≤ a) : PySem.Str.ofString (toString a) = TxtG.T (FmtS.digs a) := by
  obtain ⟨m, rfl⟩ : ∃ m : Nat, a = (m : Int) := ⟨a.toNat, by omega⟩
  exact TxtG.T_str m
theorem log_sm {n : Int} (h : 0 ≤ n) (h2 : n ≤ 2000000000) : n.natAbs.log2 < 1920 := by
  by_cases h0 : n.natAbs = 0
  · rw [h0]; decide
  · have : n.natAbs < 2 ^ 31 := by omega
    have := (Nat.log2_lt h0).mpr this
    omega
def tLineE : TE := fun σ H Q => tJs [tFmt (tC (V.str (Str.ofString "stone"))), tC (V.str (Str.ofString " ")), tFmt (tVar 1), tC (V.str (Str.ofString " ")), tFmt (tVar 2)] Str.empty σ H fun out H1 => Q (V.str out) H1
theorem ok_fmt {f C pP gP : Addr} {fd dP : FuncData} (F : Fun K "format_row" "format_row" s_format_row f fd) (B : Blt mg) (M : TxtM mg) (R : RowC K mg C)
    (pr : PropOf K C "stones" pP gP) (P1 : FnOk P w K mg base CX0 1 gP dP ["self"] (spGet K C)) (bP : Binds K dP ["self"] []) : FnOk P w K mg base CX0 3 f fd ["row"] (spFmt K C) := by
  obtain ⟨tf, mf⟩ := M.fw
  refine F.ok sc_format_row (fun vs H Q E h => ?_) (fun cdv A outer s H vs Q E hr h => ?_)
  · obtain ⟨z, xs, rfl, _⟩ := h
    rfl
  · obtain ⟨z, xs, rfl, hR, hw, hz, k⟩ := h
    obtain ⟨dx, t, us, ep, hT, hS⟩ := id hR
    refine ⟨_, pss_one (ps_ret (pe_join pe_str (pe_lc (own := [("place", 1), ("height", 2)]) (g := gTup K 2 (gCons (gName 1) (gCons (gName 2) gNil))) (tt := tYes) rfl sc_format_row.nd (pi_tup (pe_prop (pv 0) R.cl pr P1 hr bP .nil pass0 rfl)) (blkOk_by (N := n_format_row) (sc := defScope s_format_row) (by decide +kernel))
        (fun _ _ _ _ _ => (show PG _ _ (gTup K 2 (gCons (gName 1) (gCons (gName 2) gNil))) from pg_tup rfl (pgs_cons (pg_name (i := 1) sc_format_row.nd rfl (Or.inl rfl)) (pgs_cons (pg_name (i := 2) sc_format_row.nd rfl (Or.inl rfl)) pgs_nil)))) (fun _ _ _ _ _ => pts_nil)
        (fun _ _ _ _ _ => (show PE _ _ tLineE from pe_joined (.cons (pe_fmt (pe_glob (v := .str "stone") (by rfl) mf ⟨tf, rfl⟩)) (.cons pe_str (.cons (pe_fmt (pv 1)) (.cons pe_str (.cons (pe_fmt (pv 2)) .nil)))))))))), ?_⟩
    refine ⟨⟨_, rfl⟩, _, rfl, z, dx, _, rfl, ep, z, xs, rfl, hR, fun t us hT hS => ?_⟩
    refine ⟨t, rfl, ⟨_, hT⟩, fun D nD => ?_⟩
    refine lc_fm (walk_tup (K := K) (a := t) (xs := us)) xs (fun _ => true) (fun x => lineL x) (fun _ v (l : List Nat) => v = V.str (TxtG.T l)) hS.1.symm (by rw [hS.1]; omega) nD (fun _ _ _ _ _ _ _ q => q) (fun _ e => sqT_same hT e) ?_ ?_
    · rintro n x v G G' N M' hp sm _ ⟨rfl, hx⟩ _ go
      obtain ⟨a, ha, sa⟩ := hS.2 n x hp
      obtain rfl : v = .ref a := Option.some.inj (hx.symm.trans ha)
      obtain ⟨_, _, w1, w2, w3⟩ := hw.get hp
      have w0 : 0 ≤ x.1 := hw.low hp
      have l1 := TxtG.digs_len w0 (by omega)
      have l2 := TxtG.digs_len (a := x.2) (by omega) (by omega)
      refine ⟨a, _, rfl, sqT_same sa sm, rfl, _, _, rfl, _, _, rfl, rfl, rfl, ?_⟩
      have w02 : 0 ≤ x.2 := by omega
      have bnd : ∀ n : Nat, n ≤ 200 → n ≤ sizeLine := fun n h => Nat.le_trans h (by decide)
      refine .inl ⟨_, rfl, by simp only [TxtG.T_nil, lit_stone, lit_spc, T_int w0, T_int w02, TxtG.T_app, TxtG.T_len, List.length_append, List.length_nil, List.length_cons]; exact bnd _ (by omega), _, rfl, by simp only [TxtG.T_nil, lit_stone, lit_spc, T_int w0, T_int w02, TxtG.T_app, TxtG.T_len, List.length_append, List.length_nil, List.length_cons]; exact bnd _ (by omega), _, rfl, by simp only [TxtG.T_nil, lit_stone, lit_spc, T_int w0, T_int w02, TxtG.T_app, TxtG.T_len, List.length_append, List.length_nil, List.length_cons]; exact bnd _ (by omega), _, rfl, .inr ⟨_, rfl, log_sm w0 (by omega), _, rfl, by simp only [TxtG.T_nil, lit_stone, lit_spc, T_int w0, T_int w02, TxtG.T_app, TxtG.T_len, List.length_append, List.length_nil, List.length_cons]; exact bnd _ (by omega), _, rfl, by simp only [TxtG.T_nil, lit_stone, lit_spc, T_int w0, T_int w02, TxtG.T_app, TxtG.T_len, List.length_append, List.length_nil, List.length_cons]; exact bnd _ (by omega), _, rfl, .inr ⟨_, rfl, log_sm w02 (by omega), _, rfl, by simp only [TxtG.T_nil, lit_stone, lit_spc, T_int w0, T_int w02, TxtG.T_app, TxtG.T_len, List.length_append, List.length_nil, List.length_cons]; exact bnd _ (by omega), ?_⟩⟩⟩
      refine go _ _ rfl (Same.refl _) ?_
      rw [lineL_eq]
      simp only [TxtG.T_nil, lit_stone, lit_spc, T_int w0, T_int w02, TxtG.T_app]
      simp
    · intro G ys sm eD rel
      rw [List.filter_eq_self.mpr (fun _ _ => rfl)] at rel
      have e := paired_eq (fun l : List Nat => V.str (TxtG.T l)) rel
      have eys : ys = ((xs.map lineL).map TxtG.T).map V.str := by
        rw [e, List.map_map, List.map_map, List.map_map]
        rfl
      refine ⟨_, D, (xs.map lineL).map TxtG.T, rfl, rfl, .inl (SqL.of (by rw [eD, eys])), ?_, ?_⟩
      · have sl : ∀ (ys : List (Int × Int)), (∀ x ∈ ys, (lineL x).length ≤ 27) → (((ys.map lineL).map TxtG.T).map (·.length)).sum ≤ 27 * ys.length := by
          intro ys
          induction ys with
          | nil => intro _; simp
          | cons y ys ih =>
            intro h
            have h1 := h y (by simp)
            have h2 := ih fun z hz => h z (by simp [hz])
            simp [TxtG.T_len] at h2 ⊢
            omega
        have := sl xs fun x hx => by
          obtain ⟨n, hn⟩ := List.getElem?_of_mem hx
          obtain ⟨_, _, w1, w2, w3⟩ := hw.get hn
          exact lineL_len (hw.low hn) w1 w2 w3
        have l1 : (Str.ofString "\n").length = 1 := by decide +kernel
        rw [l1, List.length_map, List.length_map]
        omega
      · rw [lit_nl, SplS.txtJoin_T]
        exact k _ sm
end
section
variable {P : Program} {w : World} {K : PySem.W.Frag} {mg : Str → Option Value} {base : Heap}
theorem ok_parse {f g g1 C : Addr} {fd d1 : FuncData} (F : Fun K "parse_row" "parse_row" s_parse_row f fd) (B : Blt mg) (bs : mg "str" = none) (R : RowC K mg C) (MK : Mk K C g) (G : FnR P w K mg base CX0 3 g (spMake K C))
    (N : At P w K mg base CX0 3 "_parsed_stone" ["line", "number"] spStoneT g1 d1) : FnOk P w K mg base CX0 5 f fd ["text"] (spParse K C) := by
  refine F.ok sc_parse_row (fun vs H Q E h => ?_) (fun cdv A outer s H vs Q E hr h => ?_)
  · obtain ⟨xs, rfl, _⟩ := h
    rfl
  · obtain ⟨xs, rfl, hw, hz, k⟩ := h
    have r3 : Room 3 _ := hr.mono (by decide)
    refine ⟨_, pss_cons (ps_if (pt_not (pt_val (pe_callB (call_isi) (by rfl) B.isinstance boot_isinstance (pa_cons (pv 0) (pa_cons (pe_bltn (v := .ty "str") (by rfl) bs boot_str rfl) pa_nil))))) (pss_one ps_never) pss_nil)
      (pss_cons (ps_if (pt_cmpR (op_eq) (pv 0) (pe_str) (nomark _)) (pss_one (ps_ret (Own.pe_makeR0 MK G hr (by rfl) R.mgC pass0))) pss_nil)
      (pss_cons (ps_setLc (i := 1) (own := [("number", 2), ("line", 3)]) (g := gTup K 2 (gCons (gName 2) (gCons (gName 3) gNil))) (tt := tYes) rfl sc_parse_row.nd rfl rfl (sw_true rfl rfl rfl (by decide +kernel)) (pi_enum (by rfl) B.enumerate (pa_cons (pe_split (pv 0) pe_str) pa_nil)) (blkOk_by (N := n_parse_row) (sc := defScope s_parse_row) (by decide +kernel))
          (fun _ _ _ _ _ => (show PG _ _ (gTup K 2 (gCons (gName 2) (gCons (gName 3) gNil))) from pg_tup rfl (pgs_cons (pg_name (i := 2) sc_parse_row.nd rfl (Or.inl rfl)) (pgs_cons (pg_name (i := 3) sc_parse_row.nd rfl (Or.inl rfl)) pgs_nil)))) (fun _ _ _ _ _ => pts_nil)
          (fun _ _ _ _ _ => (show PE _ _ (tCall spStoneT [] E0 (tCons (tVar 3) (tCons (tVar 2) tNil))) from pe_at N r3 (pa_cons (pv 3) (pa_cons (pv 2) pa_nil)))))
      (pss_one (ps_ret (Own.pe_makeS MK G hr (by rfl) R.mgC pass0 (pv 1)))))), ?_⟩
    have hl : (rowL xs).length ≤ 28 * xs.length := by
      have := joinL_len (c := 10) (b := 27) (ps := xs.map lineL) fun p hp => by
        obtain ⟨x, hx, rfl⟩ := List.mem_map.mp hp
        obtain ⟨n, hn⟩ := List.getElem?_of_mem hx
        obtain ⟨_, _, w1, w2, w3⟩ := hw.get hn
        exact lineL_len (hw.low hn) w1 w2 w3
      rw [List.length_map] at this
      exact this
    refine ⟨_, rfl, _, .ty "str", _, _, true, rfl, .ty _, .base (.str _), kit_ty (by decide +kernel), true, rfl, ?_⟩
    refine iteF (next_of ?_)
    dsimp only
    show tSeq _ _ _ _ _
    refine seq_of ?_
    refine ⟨_, rfl, rfl, _, rfl, ?_⟩
    have l0 : Str.ofString "" = TxtG.T [] := by decide +kernel
    rw [l0]
    by_cases c : xs = []
    · subst c
      rw [decide_eq_true (show V.str (TxtG.T (rowL [])) = V.str (TxtG.T []) from rfl)]
      refine iteT ?_
      exact mk0 fun z H' s nz ra => k z H' s nz ra
    · rw [decide_eq_false (fun z : V.str (TxtG.T (rowL xs)) = V.str (TxtG.T []) => rowL_ne c (SplS.T_inj (by injection z)))]
      refine iteF (next_of ?_)
      dsimp only
      show tSeq _ _ _ _ _
      refine seq_of ?_
      refine ⟨_, rfl, ⟨_, rfl⟩, _, _, rfl, rfl, by decide +kernel, by rw [TxtG.T_len, sizeLine_eq]; omega, fun q nq => ?_⟩
      rw [lit_nl, lines_row c]
      have sq := same_new (o := .lst (((xs.map lineL).map TxtG.T).map V.str)) nq
      have eq0 : (upd H q (.lst (((xs.map lineL).map TxtG.T).map V.str))) q = some (.lst (((xs.map lineL).map TxtG.T).map V.str)) := upd_same
      generalize upd H q (.lst (((xs.map lineL).map TxtG.T).map V.str)) = H1 at sq eq0 ⊢
      have lq : (((xs.map lineL).map TxtG.T).map V.str).length = xs.length := by simp
      refine ⟨q, _, rfl, SqL.of eq0, fun D nD => ?_⟩
      refine lc_fm (walk_enum (K := K) (a := q) (xs := ((xs.map lineL).map TxtG.T).map V.str)) xs (fun _ => true) (fun x => x) (fun G v (x : Int × Int) => ∃ a : Addr, v = .ref a ∧ SqT K G a [.int x.1, .int x.2]) lq.symm (by rw [lq]; omega) nD (fun H H' v b acc hD bt ⟨a, h1, h2⟩ => ⟨a, h1, sqT_but h2 hD bt⟩) (fun _ e => SqL.of (e _ _ eq0)) ?_ ?_
      · rintro n x v G G' N' M' hp sm _ ⟨T, y, z, rfl, nT, rfl, e1, e2⟩ _ go
        obtain rfl : y = V.int (n : Int) := (Option.some.inj e1).symm
        have ez : (((xs.map lineL).map TxtG.T).map V.str)[n]? = some (V.str (TxtG.T (lineL x))) := by rw [List.getElem?_map, List.getElem?_map, List.getElem?_map, hp]; rfl
        obtain rfl : z = V.str (TxtG.T (lineL x)) := Option.some.inj (e2.symm.trans ez)
        obtain ⟨_, _, w1, w2, w3⟩ := hw.get hp
        refine ⟨T, _, rfl, SqT.of upd_same, rfl, _, _, rfl, _, _, rfl, rfl, rfl, ?_⟩
        exact ⟨_, rfl, _, rfl, x, _, rfl, hw.low hp, w1, w2, w3, fun t H' s e => go _ _ rfl ((same_new nT).trans s) ⟨t, rfl, SqT.of e⟩⟩
      · intro G ys sm eD rel
        rw [List.filter_eq_self.mpr (fun _ _ => rfl), List.map_id'] at rel
        have sZ : StonesAt K G ys xs := ⟨paired_len rel, fun j x h => by obtain ⟨v, hv, a, rfl, sa⟩ := paired_at rel h; exact ⟨a, hv, sa⟩⟩
        refine nm_of ?_
        exact ⟨_, rfl, D, _, rfl, .inr (SqL.of eD), make_row sZ hw hz fun z H' s' nz ra => k z H' ((sq.trans sm).trans s') (Same.free (sq.trans sm) nz) ra⟩
end
/-! ### hit by hit: mathematics -/
def far (x y : Int × Int) (r : Bool) : Int := if r then y.1 - x.1 else x.1 - y.1
def hitB (xs : List (Int × Int)) (r : Bool) (m o : Nat) : Bool := match xs[m]?, xs[o]? with
  | some x, some y => decide (0 < far x y r) && decide (far x y r ≤ x.2)
  | _, _ => false
abbrev Wave := List (Nat × Nat) × List Nat
def stepIn (xs : List (Int × Int)) (r : Bool) (t m : Nat) (st : Wave) (o : Nat) : Wave := if hitB xs r m o = true ∧ o ∉ st.1.map (·.1) then (st.1 ++ [(o, t)], st.2 ++ [o]) else st
def stepLv (xs : List (Int × Int)) (S : List Nat) (r : Bool) (t : Nat) (st : Wave) (m : Nat) : Wave := S.foldl (stepIn xs r t m) st
def level (xs : List (Int × Int)) (S : List Nat) (r : Bool) (t : Nat) (st : Wave) : Wave := st.2.foldl (stepLv xs S r t) (st.1, [])
def iter (xs : List (Int × Int)) (S : List Nat) (r : Bool) (i : Nat) : Nat → Wave
  | 0 => ([(i, 0)], [i])
  | t + 1 => level xs S r (t + 1) (iter xs S r i t)
structure Prog (xs : List (Int × Int)) (r : Bool) (fs : List (Nat × Nat)) (t : Nat) (D : Nat → Nat → Prop) (st : Wave) : Prop where
  eq : st.1 = fs ++ st.2.map fun o => (o, t)
  nd : (st.1.map (·.1)).Nodup
  wh : ∀ o ∈ st.2, ∃ m, D m o ∧ hitB xs r m o = true
  al : ∀ m o, D m o → hitB xs r m o = true → o ∈ st.1.map (·.1)
theorem Prog.step {xs : List (Int × Int)} {r : Bool} {fs : List (Nat × Nat)} {t m o : Nat} {D : Nat → Nat → Prop} {st : Wave} (h : Prog xs r fs t D st) : Prog xs r fs t (fun m' o' => D m' o' ∨ (m' = m ∧ o' = o)) (stepIn xs r t m st o) := by
  unfold stepIn
  split
  · rename_i hc
    refine ⟨?_, ?_, ?_, ?_⟩
    · show st.1 ++ [(o, t)] = fs ++ (st.2 ++ [o]).map fun o => (o, t)
      rw [h.eq]; simp
    · show ((st.1 ++ [(o, t)]).map (·.1)).Nodup
      rw [List.map_append, List.nodup_append]
      refine ⟨h.nd, by simp, ?_⟩
      intro a ha b hb e
      simp at hb
      subst hb e
      exact hc.2 ha
    · intro o' ho'
      rcases List.mem_append.mp ho' with z | z
      · obtain ⟨m', h1, h2⟩ := h.wh o' z
        exact ⟨m', .inl h1, h2⟩
      · simp at z
        subst z
        exact ⟨m, .inr ⟨rfl, rfl⟩, hc.1⟩
    · intro m' o' hd hh
      show o' ∈ (st.1 ++ [(o, t)]).map (·.1)
      rw [List.map_append]
      rcases hd with hd | ⟨rfl, rfl⟩
      · exact List.mem_append_left _ (h.al m' o' hd hh)
      · exact List.mem_append_right _ (by simp)
  · rename_i hc
    refine ⟨h.eq, h.nd, fun o' ho' => ?_, fun m' o' hd hh => ?_⟩
    · obtain ⟨m', h1, h2⟩ := h.wh o' ho'
      exact ⟨m', .inl h1, h2⟩
    · rcases hd with hd | ⟨rfl, rfl⟩
      · exact h.al m' o' hd hh
      · exact Classical.byContradiction fun z => hc ⟨hh, z⟩
theorem Prog.imp {xs : List (Int × Int)} {r : Bool} {fs : List (Nat × Nat)} {t : Nat} {D D' : Nat → Nat → Prop} {st : Wave} (h : Prog xs r fs t D st) (e : ∀ m o, D m o ↔ D' m o) : Prog xs r fs t D' st :=
  ⟨h.eq, h.nd, fun o ho => let ⟨m, h1, h2⟩ := h.wh o ho; ⟨m, (e m o).mp h1, h2⟩, fun m o hd => h.al m o ((e m o).mpr hd)⟩
theorem Prog.row {xs : List (Int × Int)} {r : Bool} {fs : List (Nat × Nat)} {t m : Nat} : ∀ (S : List Nat) {D : Nat → Nat → Prop} {st : Wave}, Prog xs r fs t D st → Prog xs r fs t (fun m' o' => D m' o' ∨ (m' = m ∧ o' ∈ S)) (S.foldl (stepIn xs r t m) st)
  | [], D, st, h => h.imp fun m' o' => by simp
  | o :: S, D, st, h => (Prog.row S (h.step (m := m) (o := o))).imp fun m' o' => by
      simp only [List.mem_cons]
      constructor
      · rintro ((h | ⟨a, b⟩) | ⟨a, b⟩)
        · exact .inl h
        · exact .inr ⟨a, .inl b⟩
        · exact .inr ⟨a, .inr b⟩
      · rintro (h | ⟨a, b | b⟩)
        · exact .inl (.inl h)
        · exact .inl (.inr ⟨a, b⟩)
        · exact .inr ⟨a, b⟩
theorem Prog.all {xs : List (Int × Int)} {S : List Nat} {r : Bool} {fs : List (Nat × Nat)} {t : Nat} : ∀ (lv : List Nat) {D : Nat → Nat → Prop} {st : Wave}, Prog xs r fs t D st → Prog xs r fs t (fun m' o' => D m' o' ∨ (m' ∈ lv ∧ o' ∈ S)) (lv.foldl (stepLv xs S r t) st)
  | [], D, st, h => h.imp fun m' o' => by simp
  | m :: lv, D, st, h => (Prog.all lv (h.row (m := m) S)).imp fun m' o' => by
      simp only [List.mem_cons]
      constructor
      · rintro ((h | ⟨a, b⟩) | ⟨a, b⟩)
        · exact .inl h
        · exact .inr ⟨.inl a, b⟩
        · exact .inr ⟨.inr a, b⟩
      · rintro (h | ⟨a | a, b⟩)
        · exact .inl (.inl h)
        · exact .inl (.inr ⟨a, b⟩)
        · exact .inr ⟨a, b⟩
theorem level_spec {xs : List (Int × Int)} {S : List Nat} {r : Bool} {fs : List (Nat × Nat)} {lv : List Nat} {t : Nat} (nd : (fs.map (·.1)).Nodup) :
    (level xs S r t (fs, lv)).1 = fs ++ (level xs S r t (fs, lv)).2.map (fun o => (o, t)) ∧ ((level xs S r t (fs, lv)).1.map (·.1)).Nodup ∧
    ∀ o, o ∈ (level xs S r t (fs, lv)).2 ↔ (o ∉ fs.map (·.1) ∧ o ∈ S ∧ ∃ m ∈ lv, hitB xs r m o = true) := by
  have p0 : Prog xs r fs t (fun _ _ => False) (fs, []) := ⟨by simp, nd, fun o h => (nomatch h), fun m o h => h.elim⟩
  have p := (Prog.all (S := S) lv p0)
  have e : lv.foldl (stepLv xs S r t) (fs, []) = level xs S r t (fs, lv) := rfl
  rw [e] at p
  refine ⟨p.eq, p.nd, fun o => ⟨fun h => ?_, fun ⟨h1, h2, m, h3, h4⟩ => ?_⟩⟩
  · obtain ⟨m, hd, hh⟩ := p.wh o h
    rcases hd with hd | ⟨hm, hS⟩
    · exact hd.elim
    · refine ⟨fun hf => ?_, hS, m, hm, hh⟩
      have nd2 := p.nd
      rw [p.eq, List.map_append, List.nodup_append] at nd2
      refine nd2.2.2 o hf o ?_ rfl
      rw [List.map_map]
      exact List.mem_map.mpr ⟨o, h, rfl⟩
  · have := p.al m o (.inr ⟨h3, h2⟩) h4
    rw [p.eq, List.map_append, List.mem_append] at this
    rcases this with z | z
    · exact absurd z h1
    · rw [List.map_map] at z
      obtain ⟨o', z1, z2⟩ := List.mem_map.mp z
      have : o' = o := z2
      rw [← this]
      exact z1
/-- reached within so many ticks -/
def RB (xs : List (Int × Int)) (S : List Nat) (r : Bool) (i : Nat) : Nat → Nat → Prop
  | 0, j => j = i
  | t + 1, j => RB xs S r i t j ∨ ∃ m, RB xs S r i t m ∧ j ∈ S ∧ hitB xs r m j = true
/-- reached first in this tick -/
def Fst (xs : List (Int × Int)) (S : List Nat) (r : Bool) (i u j : Nat) : Prop := RB xs S r i u j ∧ ∀ v, v < u → ¬ RB xs S r i v j
section
variable {xs : List (Int × Int)} {S : List Nat} {r : Bool} {i : Nat}
theorem RB.up {t u j : Nat} (h : RB xs S r i t j) (e : t ≤ u) : RB xs S r i u j := by
  induction u with
  | zero =>
    obtain rfl : t = 0 := by omega
    exact h
  | succ u ih =>
    by_cases q : t = u + 1
    · rw [← q]; exact h
    · exact .inl (ih (by omega))
theorem RB.first {t j : Nat} (h : RB xs S r i t j) : ∃ u, u ≤ t ∧ Fst xs S r i u j := by
  induction t using Nat.strongRecOn with
  | ind t ih =>
    by_cases q : ∃ v, v < t ∧ RB xs S r i v j
    · obtain ⟨v, h1, h2⟩ := q
      obtain ⟨u, h3, h4⟩ := ih v h1 h2
      exact ⟨u, by omega, h4⟩
    · exact ⟨t, Nat.le_refl _, h, fun v hv z => q ⟨v, hv, z⟩⟩
theorem Fst.eq {u v j : Nat} (a : Fst xs S r i u j) (b : Fst xs S r i v j) : u = v := by
  rcases Nat.lt_trichotomy u v with h | h | h
  · exact absurd a.1 (b.2 u h)
  · exact h
  · exact absurd b.1 (a.2 v h)
theorem iter_spec (t : Nat) : ((iter xs S r i t).1.map (·.1)).Nodup ∧ (∀ j u, (j, u) ∈ (iter xs S r i t).1 ↔ u ≤ t ∧ Fst xs S r i u j) ∧ ∀ j, j ∈ (iter xs S r i t).2 ↔ Fst xs S r i t j := by
  induction t with
  | zero =>
    refine ⟨by simp [iter], fun j u => ?_, fun j => ?_⟩
    · show (j, u) ∈ [(i, 0)] ↔ _
      rw [List.mem_singleton, Prod.mk.injEq]
      constructor
      · rintro ⟨rfl, rfl⟩
        exact ⟨Nat.le_refl _, rfl, fun v h => absurd h (Nat.not_lt_zero _)⟩
      · rintro ⟨h, h1, _⟩
        obtain rfl : u = 0 := by omega
        exact ⟨h1, rfl⟩
    · show j ∈ [i] ↔ _
      rw [List.mem_singleton]
      exact ⟨fun h => ⟨h, fun v h => absurd h (Nat.not_lt_zero _)⟩, fun h => h.1⟩
  | succ t ih =>
    obtain ⟨nd, hf, hl⟩ := ih
    have e : iter xs S r i (t + 1) = level xs S r (t + 1) ((iter xs S r i t).1, (iter xs S r i t).2) := rfl
    obtain ⟨q1, q2, q3⟩ := level_spec (xs := xs) (S := S) (r := r) (t := t + 1) (lv := (iter xs S r i t).2) nd
    rw [← e] at q1 q2 q3
    have key : ∀ j, j ∈ (iter xs S r i t).1.map (·.1) ↔ RB xs S r i t j := by
      intro j
      constructor
      · intro h
        obtain ⟨⟨j', u⟩, h1, rfl⟩ := List.mem_map.mp h
        obtain ⟨h2, h3⟩ := (hf j' u).mp h1
        exact h3.1.up h2
      · intro h
        obtain ⟨u, h1, h2⟩ := h.first
        exact List.mem_map.mpr ⟨(j, u), (hf j u).mpr ⟨h1, h2⟩, rfl⟩
    have lv : ∀ j, j ∈ (iter xs S r i (t + 1)).2 ↔ Fst xs S r i (t + 1) j := by
      intro j
      rw [q3 j, key j]
      constructor
      · rintro ⟨h1, h2, m, h3, h4⟩
        exact ⟨.inr ⟨m, ((hl m).mp h3).1, h2, h4⟩, fun v hv z => h1 (z.up (by omega))⟩
      · rintro ⟨h1, h2⟩
        have n := h2 t (Nat.lt_succ_self _)
        rcases h1 with h1 | ⟨m, h3, h4, h5⟩
        · exact absurd h1 n
        · refine ⟨n, h4, m, (hl m).mpr ?_, h5⟩
          obtain ⟨u, h6, h7⟩ := h3.first
          by_cases q : u = t
          · rw [← q]; exact h7
          · exact absurd (RB.up (t := u + 1) (.inr ⟨m, h7.1, h4, h5⟩) (by omega)) n
    refine ⟨q2, fun j u => ?_, lv⟩
    rw [q1, List.mem_append, hf j u]
    constructor
    · rintro (⟨h1, h2⟩ | h)
      · exact ⟨by omega, h2⟩
      · obtain ⟨o, h1, h2⟩ := List.mem_map.mp h
        cases h2
        exact ⟨Nat.le_refl _, (lv _).mp h1⟩
    · rintro ⟨h1, h2⟩
      by_cases q : u = t + 1
      · subst q
        exact .inr (List.mem_map.mpr ⟨j, (lv j).mpr h2, rfl⟩)
      · exact .inl ⟨by omega, h2⟩
theorem iter_sub (t : Nat) : ∀ j ∈ (iter xs S r i t).1.map (·.1), j = i ∨ j ∈ S := by
  intro j hj
  obtain ⟨⟨j', u⟩, h1, rfl⟩ := List.mem_map.mp hj
  obtain ⟨_, h3⟩ := ((iter_spec t).2.1 j' u).mp h1
  have : ∀ n k, RB xs S r i n k → k = i ∨ k ∈ S := by
    intro n
    induction n with
    | zero => intro k h; exact .inl h
    | succ n ih =>
      intro k h
      rcases h with h | ⟨m, _, h, _⟩
      · exact ih k h
      · exact .inr h
  exact this _ _ h3.1
theorem nodup_len {l m : List Nat} (h : l.Nodup) (s : ∀ x ∈ l, x ∈ m) : l.length ≤ m.length := by
  induction l generalizing m with
  | nil => simp
  | cons a l ih =>
    have hm := s a (by simp)
    have hn := List.nodup_cons.mp h
    have := ih (m := m.erase a) hn.2 fun x hx => by
      have : x ≠ a := fun e => hn.1 (e ▸ hx)
      exact (List.mem_erase_of_ne this).mpr (s x (by simp [hx]))
    rw [List.length_erase_of_mem hm] at this
    have : 0 < m.length := List.length_pos_of_mem hm
    simp
    omega
theorem iter_len (t : Nat) : (iter xs S r i t).1.length ≤ S.length + 1 := by
  have := nodup_len (l := (iter xs S r i t).1.map (·.1)) (m := i :: S) (iter_spec t).1 fun x hx => by
    rcases iter_sub t x hx with h | h
    · simp [h]
    · simp [h]
  simpa using this
/-- what falls as the turns go on: each round is longer, or is the last one -/
def meas (cap : Nat) (st : Wave) : Nat := 2 * (cap - st.1.length) + (if st.2 = [] then 0 else 1)
theorem iter_meas (t : Nat) (h : (iter xs S r i t).2 ≠ []) : meas (S.length + 1) (iter xs S r i (t + 1)) < meas (S.length + 1) (iter xs S r i t) := by
  have e : iter xs S r i (t + 1) = level xs S r (t + 1) ((iter xs S r i t).1, (iter xs S r i t).2) := rfl
  obtain ⟨q1, _, _⟩ := level_spec (xs := xs) (S := S) (r := r) (t := t + 1) (lv := (iter xs S r i t).2) (iter_spec t).1
  rw [← e] at q1
  have l1 := congrArg List.length q1
  rw [List.length_append, List.length_map] at l1
  have l2 := iter_len (xs := xs) (S := S) (r := r) (i := i) (t + 1)
  unfold meas
  rw [if_neg h]
  split
  · rename_i z
    rw [z] at l1
    simp at l1
    omega
  · rename_i z
    have : 0 < (iter xs S r i (t + 1)).2.length := List.length_pos_iff.mpr z
    omega
theorem iter_done {t : Nat} (h : (iter xs S r i t).2 = []) : ∀ n j, RB xs S r i n j → RB xs S r i t j := by
  intro n
  induction n with
  | zero => intro j hj; exact RB.up (t := 0) hj (Nat.zero_le _)
  | succ n ih =>
    intro j hj
    rcases hj with hj | ⟨m, h1, h2, h3⟩
    · exact ih j hj
    · obtain ⟨u, h4, h5⟩ := (ih m h1).first
      by_cases q : u = t
      · subst q
        have := ((iter_spec (xs := xs) (S := S) (r := r) (i := i) u).2.2 m).mpr h5
        rw [h] at this
        cases this
      · exact RB.up (t := u + 1) (.inr ⟨m, h5.1, h2, h3⟩) (by omega)
theorem iter_end {t : Nat} (h : (iter xs S r i t).2 = []) (j u : Nat) : (j, u) ∈ (iter xs S r i t).1 ↔ Fst xs S r i u j := by
  rw [(iter_spec t).2.1 j u]
  constructor
  · exact fun z => z.2
  · intro z
    refine ⟨?_, z⟩
    rcases Nat.lt_or_ge t u with q | q
    · exact absurd (iter_done h u j z.1) (z.2 t q)
    · exact q
end
/-! ### runs: mathematics -/
/-- places rise -/
def Inc (xs : List (Int × Int)) : Prop := ∀ (a b : Nat) (x y : Int × Int), a < b → xs[a]? = some x → xs[b]? = some y → x.1 < y.1
theorem Wf.inc : ∀ {xs : List (Int × Int)} {lo : Int}, Wf lo xs → Inc xs
  | [], _, _ => fun a b x y _ h => by simp at h
  | z :: xs, lo, w => fun a b x y hab hx hy => by
    cases b with
    | zero => omega
    | succ b =>
      simp at hy
      cases a with
      | zero =>
        simp at hx
        subst hx
        have := Wf.low w.2.2.2.2 hy
        omega
      | succ a =>
        simp at hx
        exact Wf.inc w.2.2.2.2 a b x y (by omega) hx hy
/-- place and height -/
def pl (xs : List (Int × Int)) (k : Nat) : Int := (xs.getD k (0, 0)).1
def ht (xs : List (Int × Int)) (k : Nat) : Int := (xs.getD k (0, 0)).2
theorem pl_of {xs : List (Int × Int)} {k : Nat} {x : Int × Int} (h : xs[k]? = some x) : pl xs k = x.1 ∧ ht xs k = x.2 := by
  unfold pl ht
  rw [List.getD_eq_getElem?_getD, h]
  exact ⟨rfl, rfl⟩
theorem Inc.pl {xs : List (Int × Int)} (h : Inc xs) {a b : Nat} (hab : a < b) (hb : b < xs.length) : pl xs a < pl xs b := by
  have ha : a < xs.length := by omega
  have e1 : xs[a]? = some xs[a] := by simp [ha]
  have e2 : xs[b]? = some xs[b] := by simp [hb]
  rw [(pl_of e1).1, (pl_of e2).1]
  exact h a b _ _ hab e1 e2
/-- m hits o on the side r -/
def Hit (xs : List (Int × Int)) (r : Bool) (m o : Nat) : Prop := m < xs.length ∧ o < xs.length ∧ (r = true → m < o ∧ pl xs o ≤ pl xs m + ht xs m) ∧ (r = false → o < m ∧ pl xs m ≤ pl xs o + ht xs m)
theorem hit_iff {xs : List (Int × Int)} (h : Inc xs) {r : Bool} {m o : Nat} : hitB xs r m o = true ↔ Hit xs r m o := by
  unfold hitB Hit
  by_cases hm : m < xs.length
  · by_cases ho : o < xs.length
    · have e1 : xs[m]? = some xs[m] := by simp [hm]
      have e2 : xs[o]? = some xs[o] := by simp [ho]
      rw [e1, e2]
      obtain ⟨p1, t1⟩ := pl_of e1
      obtain ⟨p2, _⟩ := pl_of e2
      rw [p1, p2, t1]
      simp only [hm, ho, true_and, Bool.and_eq_true, decide_eq_true_eq]
      have cmp : m < o ↔ (xs[m]).1 < (xs[o]).1 := by
        constructor
        · exact fun q => h m o _ _ q e1 e2
        · intro q
          rcases Nat.lt_trichotomy m o with z | z | z
          · exact z
          · subst z; omega
          · have := h o m _ _ z e2 e1; omega
      have cmp2 : o < m ↔ (xs[o]).1 < (xs[m]).1 := by
        constructor
        · exact fun q => h o m _ _ q e2 e1
        · intro q
          rcases Nat.lt_trichotomy m o with z | z | z
          · have := h m o _ _ z e1 e2; omega
          · subst z; omega
          · exact z
      cases r with
      | true =>
        unfold far
        simp only [if_true, forall_const, Bool.true_eq_false, false_implies, and_true]
        rw [cmp]
        omega
      | false =>
        unfold far
        simp only [Bool.false_eq_true, if_false, false_implies, true_and, forall_const]
        rw [cmp2]
        omega
    · have e2 : xs[o]? = none := by simp; omega
      rw [e2]
      constructor
      · intro q
        cases e1 : xs[m]? <;> rw [e1] at q <;> cases q
      · exact fun q => absurd q.2.1 ho
  · have e1 : xs[m]? = none := by simp; omega
    rw [e1]
    exact ⟨fun q => (nomatch q), fun q => absurd q.1 hm⟩
/-- how far the reach goes, told stone by stone -/
def dst (xs : List (Int × Int)) (p0 : Int) (k : Nat) : Int := ab (pl xs k - p0)
theorem mx_le {a b c : Int} : c ≤ mx a b ↔ c ≤ a ∨ c ≤ b := by unfold mx; split <;> omega
theorem scan_spec {xs : List (Int × Int)} {sd : List Bool} {p0 : Int} (up : ∀ o, o < xs.length → sd[o]? = some true) : ∀ (os : List Nat) (R : Int), (∀ o ∈ os, o < xs.length) →
    (∀ a o, a < (scan xs sd p0 R os).length → os[a]? = some o → dst xs p0 o ≤ R ∨ ∃ b u, b < a ∧ os[b]? = some u ∧ dst xs p0 o ≤ dst xs p0 u + ht xs u) ∧
    (∀ o, os[(scan xs sd p0 R os).length]? = some o → R < dst xs p0 o ∧ ∀ b u, b < (scan xs sd p0 R os).length → os[b]? = some u → dst xs p0 u + ht xs u < dst xs p0 o)
  | [], R, _ => ⟨fun a o _ h => by simp at h, fun o h => by simp at h⟩
  | o :: os, R, hlt => by
    have ho := hlt o (by simp)
    have e1 : xs[o]? = some xs[o] := by simp [ho]
    obtain ⟨p1, t1⟩ := pl_of e1
    have ed : dst xs p0 o = ab ((xs[o]).1 - p0) := by unfold dst; rw [p1]
    have es : scan xs sd p0 R (o :: os) = if ab ((xs[o]).1 - p0) > R then [] else o :: scan xs sd p0 (mx R (ab ((xs[o]).1 - p0) + (xs[o]).2)) os := by
      conv => lhs; unfold scan
      rw [e1]
      simp only [up o ho, if_true]
    rw [es]
    by_cases hg : ab ((xs[o]).1 - p0) > R
    · rw [if_pos hg]
      refine ⟨fun a o' h => absurd h (Nat.not_lt_zero _), fun o' h => ?_⟩
      simp at h
      subst h
      exact ⟨by rw [ed]; exact hg, fun b u h => absurd h (Nat.not_lt_zero _)⟩
    · rw [if_neg hg, ← ed, ← t1]
      obtain ⟨ih1, ih2⟩ := scan_spec (xs := xs) (sd := sd) (p0 := p0) up os (mx R (dst xs p0 o + ht xs o)) fun z hz => hlt z (by simp [hz])
      refine ⟨fun a o' h e => ?_, fun o' e => ?_⟩
      · cases a with
        | zero =>
          simp at e
          subst e
          exact .inl (by rw [ed]; omega)
        | succ a =>
          simp at e h
          rcases ih1 a o' h e with q | ⟨b, u, q1, q2, q3⟩
          · rcases mx_le.mp q with q | q
            · exact .inl q
            · exact .inr ⟨0, o, by omega, rfl, q⟩
          · exact .inr ⟨b + 1, u, by omega, by simpa using q2, q3⟩
      · simp at e
        obtain ⟨q1, q2⟩ := ih2 o' e
        have n1 : ¬ dst xs p0 o' ≤ mx R (dst xs p0 o + ht xs o) := by omega
        rw [mx_le] at n1
        refine ⟨by omega, fun b u h e' => ?_⟩
        cases b with
        | zero =>
          simp at e'
          subst e'
          omega
        | succ b =>
          simp at e' h
          exact q2 b u h e'
structure RunR (xs : List (Int × Int)) (i e : Nat) : Prop where
  le : i ≤ e
  lt : e < xs.length
  by_ : ∀ j, i < j → j ≤ e → ∃ m, i ≤ m ∧ m < j ∧ Hit xs true m j
  no : ∀ m j, i ≤ m → m ≤ e → e < j → ¬ Hit xs true m j
structure RunL (xs : List (Int × Int)) (i f : Nat) : Prop where
  le : f ≤ i
  lt : i < xs.length
  by_ : ∀ j, f ≤ j → j < i → ∃ m, j < m ∧ m ≤ i ∧ Hit xs false m j
  no : ∀ m j, f ≤ m → m ≤ i → j < f → ¬ Hit xs false m j
theorem besideR_get {i n a : Nat} (h : a < n - (i + 1)) : (beside true i n)[a]? = some (i + 1 + a) := by
  unfold beside
  rw [if_pos rfl, List.getElem?_map, List.getElem?_range h]
  rfl
theorem besideL_get {i n a : Nat} (h : a < i) : (beside false i n)[a]? = some (i - 1 - a) := by
  unfold beside
  rw [if_neg (by decide), List.getElem?_map, List.getElem?_range h]
  rfl
theorem reach_eq {xs : List (Int × Int)} {i : Nat} {r : Bool} (hi : i < xs.length) : reachN xs i r = (scan xs (allUp xs.length) (pl xs i) (ht xs i) (beside r i xs.length)).length := by
  have e1 : xs[i]? = some xs[i] := by simp [hi]
  obtain ⟨p1, t1⟩ := pl_of e1
  rw [p1, t1]
  unfold reachN felled
  rw [e1]
  simp
theorem runR {xs : List (Int × Int)} (h : Inc xs) {i : Nat} (hi : i < xs.length) : RunR xs i (run xs i true).2 := by
  have hle := reach_le (r := true) hi
  rw [besideR_len] at hle
  obtain ⟨s1, s2⟩ := scan_spec (xs := xs) (sd := allUp xs.length) (p0 := pl xs i) (fun o ho => allUp_get ho) (beside true i xs.length) (ht xs i) (beside_lt hi)
  rw [← reach_eq hi] at s1 s2
  show RunR xs i (i + reachN xs i true)
  generalize reachN xs i true = c at hle s1 s2
  have dR : ∀ k, i ≤ k → k < xs.length → dst xs (pl xs i) k = pl xs k - pl xs i := by
    intro k h1 h2
    unfold dst ab
    rcases Nat.lt_or_ge i k with q | q
    · have := h.pl q h2
      rw [if_neg (by omega)]
    · obtain rfl : k = i := by omega
      simp
  refine ⟨by omega, by omega, fun j h1 h2 => ?_, fun m j h1 h2 h3 hh => ?_⟩
  · have ej : (beside true i xs.length)[j - (i + 1)]? = some j := by rw [besideR_get (by omega)]; congr 1; omega
    have dj := dR j (by omega) (by omega)
    rcases s1 (j - (i + 1)) j (by omega) ej with q | ⟨b, u, q1, q2, q3⟩
    · exact ⟨i, Nat.le_refl _, h1, hi, by omega, fun _ => ⟨h1, by omega⟩, fun z => nomatch z⟩
    · rw [besideR_get (by omega)] at q2
      obtain rfl : i + 1 + b = u := Option.some.inj q2
      have du := dR (i + 1 + b) (by omega) (by omega)
      exact ⟨i + 1 + b, by omega, by omega, by omega, by omega, fun _ => ⟨by omega, by omega⟩, fun z => nomatch z⟩
  · obtain ⟨hm, hj, hr, _⟩ := hh
    obtain ⟨_, hr⟩ := hr rfl
    obtain ⟨q1, q2⟩ := s2 (i + 1 + c) (besideR_get (by omega))
    have dc := dR (i + 1 + c) (by omega) (by omega)
    have pj : pl xs (i + 1 + c) ≤ pl xs j := by
      rcases Nat.lt_or_ge (i + 1 + c) j with z | z
      · exact Int.le_of_lt (h.pl z hj)
      · obtain rfl : j = i + 1 + c := by omega
        exact Int.le_refl _
    rcases Nat.lt_or_ge i m with z | z
    · have q3 := q2 (m - (i + 1)) m (by omega) (by rw [besideR_get (by omega)]; congr 1; omega)
      have dm := dR m (by omega) (by omega)
      omega
    · obtain rfl : m = i := by omega
      omega
theorem runL {xs : List (Int × Int)} (h : Inc xs) {i : Nat} (hi : i < xs.length) : RunL xs i (run xs i false).1 := by
  have hle := reach_le (r := false) hi
  rw [besideL_len] at hle
  obtain ⟨s1, s2⟩ := scan_spec (xs := xs) (sd := allUp xs.length) (p0 := pl xs i) (fun o ho => allUp_get ho) (beside false i xs.length) (ht xs i) (beside_lt hi)
  rw [← reach_eq hi] at s1 s2
  show RunL xs i (i - reachN xs i false)
  generalize reachN xs i false = c at hle s1 s2
  have dR : ∀ k, k ≤ i → dst xs (pl xs i) k = pl xs i - pl xs k := by
    intro k h1
    unfold dst ab
    rcases Nat.lt_or_ge k i with q | q
    · have := h.pl q hi
      rw [if_pos (by omega)]
      omega
    · obtain rfl : k = i := by omega
      simp
  refine ⟨by omega, hi, fun j h1 h2 => ?_, fun m j h1 h2 h3 hh => ?_⟩
  · have ej : (beside false i xs.length)[i - 1 - j]? = some j := by rw [besideL_get (by omega)]; congr 1; omega
    have dj := dR j (by omega)
    rcases s1 (i - 1 - j) j (by omega) ej with q | ⟨b, u, q1, q2, q3⟩
    · exact ⟨i, h2, Nat.le_refl _, hi, by omega, fun z => (nomatch z), fun _ => ⟨h2, by omega⟩⟩
    · rw [besideL_get (by omega)] at q2
      obtain rfl : i - 1 - b = u := Option.some.inj q2
      have du := dR (i - 1 - b) (by omega)
      exact ⟨i - 1 - b, by omega, by omega, by omega, by omega, fun z => (nomatch z), fun _ => ⟨by omega, by omega⟩⟩
  · obtain ⟨hm, hj, _, hr⟩ := hh
    obtain ⟨_, hr⟩ := hr rfl
    obtain ⟨q1, q2⟩ := s2 (i - 1 - c) (besideL_get (by omega))
    have dc := dR (i - 1 - c) (by omega)
    have pj : pl xs j ≤ pl xs (i - 1 - c) := by
      rcases Nat.lt_or_ge j (i - 1 - c) with z | z
      · exact Int.le_of_lt (h.pl z (by omega))
      · obtain rfl : j = i - 1 - c := by omega
        exact Int.le_refl _
    rcases Nat.lt_or_ge m i with z | z
    · have q3 := q2 (i - 1 - m) m (by omega) (by rw [besideL_get (by omega)]; congr 1; omega)
      have dm := dR m (by omega)
      omega
    · obtain rfl : m = i := by omega
      omega
/-! ### pushes one after another: mathematics -/
def Reach (xs : List (Int × Int)) (S : List Nat) (r : Bool) (i j : Nat) : Prop := ∃ n, RB xs S r i n j
section
variable {xs : List (Int × Int)} {S T : List Nat} {r : Bool} {i : Nat}
theorem Reach.refl : Reach xs S r i i := ⟨0, rfl⟩
theorem Reach.step (hx : Inc xs) {m j : Nat} (h : Reach xs S r i m) (hj : j ∈ S) (hh : Hit xs r m j) : Reach xs S r i j := let ⟨n, h⟩ := h; ⟨n + 1, .inr ⟨m, h, hj, (hit_iff hx).mpr hh⟩⟩
theorem Reach.ind (hx : Inc xs) {P : Nat → Prop} (h0 : P i) (hs : ∀ m j, Reach xs S r i m → P m → j ∈ S → Hit xs r m j → P j) {j : Nat} (h : Reach xs S r i j) : P j := by
  obtain ⟨n, h⟩ := h
  induction n generalizing j with
  | zero => obtain rfl : j = i := h; exact h0
  | succ n ih =>
    rcases h with h | ⟨m, h1, h2, h3⟩
    · exact ih h
    · exact hs m j ⟨n, h1⟩ (ih h1) h2 ((hit_iff hx).mp h3)
theorem Reach.fst {j : Nat} : Reach xs S r i j ↔ ∃ u, Fst xs S r i u j :=
  ⟨fun ⟨_, h⟩ => let ⟨u, _, h2⟩ := h.first; ⟨u, h2⟩, fun ⟨u, h⟩ => ⟨u, h.1⟩⟩
noncomputable def after (xs : List (Int × Int)) (S : List Nat) (r : Bool) (i : Nat) : List Nat := S.filter fun j => @decide (¬ Reach xs S r i j) (Classical.propDecidable _)
theorem mem_after {j : Nat} : j ∈ after xs S r i ↔ j ∈ S ∧ ¬ Reach xs S r i j := by
  unfold after
  rw [List.mem_filter]
  exact ⟨fun h => ⟨h.1, @of_decide_eq_true _ (Classical.propDecidable _) h.2⟩, fun h => ⟨h.1, @decide_eq_true _ (Classical.propDecidable _) h.2⟩⟩
theorem right_ge (hx : Inc xs) {j : Nat} (h : Reach xs S true i j) : i ≤ j :=
  Reach.ind hx (P := fun j => i ≤ j) (Nat.le_refl _) (fun m j _ hm _ hh => Nat.le_trans hm (Nat.le_of_lt (hh.2.2.1 rfl).1)) h
theorem left_le (hx : Inc xs) {j : Nat} (h : Reach xs S false i j) : j ≤ i :=
  Reach.ind hx (P := fun j => j ≤ i) (Nat.le_refl _) (fun m j _ hm _ hh => Nat.le_trans (Nat.le_of_lt (hh.2.2.2 rfl).1) hm) h
theorem in_right (hx : Inc xs) {e j : Nat} (R : RunR xs i e) (h : Reach xs S true i j) : j ≤ e :=
  Reach.ind hx (P := fun j => j ≤ e) R.le (fun m j hr hm _ hh => by
    rcases Nat.lt_or_ge e j with q | q
    · exact absurd hh (R.no m j (right_ge hx hr) hm q)
    · exact q) h
theorem in_left (hx : Inc xs) {l f j : Nat} (R : RunL xs l f) (h1 : f ≤ i) (h2 : i ≤ l) (h : Reach xs S false i j) : f ≤ j :=
  Reach.ind hx (P := fun j => f ≤ j) h1 (fun m j hr hm _ hh => by
    rcases Nat.lt_or_ge j f with q | q
    · exact absurd hh (R.no m j hm (Nat.le_trans (left_le hx hr) h2) q)
    · exact q) h
theorem all_right (hx : Inc xs) {e e' : Nat} (R : RunR xs i e) (he : e' ≤ e) (hS : ∀ j, i < j → j ≤ e' → j ∈ S) : ∀ j, i ≤ j → j ≤ e' → Reach xs S true i j := by
  intro j
  induction j using Nat.strongRecOn with
  | ind j ih =>
    intro h1 h2
    by_cases q : j = i
    · subst q; exact .refl
    · obtain ⟨m, q1, q2, q3⟩ := R.by_ j (by omega) (by omega)
      exact (ih m q2 q1 (by omega)).step hx (hS j (by omega) h2) q3
theorem all_left (hx : Inc xs) {f : Nat} (R : RunL xs i f) (hS : ∀ j, f ≤ j → j < i → j ∈ S) : ∀ d j, f ≤ j → j ≤ i → i - j = d → Reach xs S false i j := by
  intro d
  induction d using Nat.strongRecOn with
  | ind d ih =>
    intro j h1 h2 hd
    by_cases q : j = i
    · subst q; exact .refl
    · obtain ⟨m, q1, q2, q3⟩ := R.by_ j h1 (by omega)
      exact (ih (i - m) (by omega) m (by omega) q2 rfl).step hx (hS j h1 (by omega)) q3
theorem cross_left (hx : Inc xs) {s j : Nat} (hs : s ∈ S) (hi : s ≤ i) (h : Reach xs S false i j) : j < s → Reach xs S false i s :=
  Reach.ind hx (P := fun j => j < s → Reach xs S false i s) (fun q => absurd q (by omega)) (fun m j hr ih _ hh hj => by
    rcases Nat.lt_trichotomy m s with q | q | q
    · exact ih q
    · exact q ▸ hr
    · obtain ⟨h1, h2, _, h3⟩ := hh
      obtain ⟨h3, h4⟩ := h3 rfl
      have := hx.pl hj (by omega)
      exact hr.step hx hs ⟨h1, by omega, fun z => (nomatch z), fun _ => ⟨q, by omega⟩⟩) h
theorem cross_right (hx : Inc xs) {s j : Nat} (hs : s ∈ S) (hi : i ≤ s) (h : Reach xs S true i j) : s ≤ j → Reach xs S true i s :=
  Reach.ind hx (P := fun j => s ≤ j → Reach xs S true i s) (fun q => by
    have e : s = i := by omega
    rw [e]
    exact .refl) (fun m j hr ih _ hh hj => by
    rcases Nat.lt_or_ge m s with q | q
    · obtain ⟨h1, h2, h3, _⟩ := hh
      obtain ⟨h3, h4⟩ := h3 rfl
      have : pl xs s ≤ pl xs j := by
        rcases Nat.lt_or_ge s j with z | z
        · exact Int.le_of_lt (hx.pl z h2)
        · obtain rfl : s = j := by omega
          exact Int.le_refl _
      exact hr.step hx hs ⟨h1, by omega, fun _ => ⟨q, by omega⟩, fun z => (nomatch z)⟩
    · exact ih q) h
end
/-! ### ticks, one stone after another -/
/-- so many stones beside stone i -/
def bpos (r : Bool) (i d : Nat) : Nat := if r then i + d else i - d
def bmax (r : Bool) (i n : Nat) : Nat := if r then n - (i + 1) else i
theorem beside_at {r : Bool} {i n k : Nat} (h : k < bmax r i n) : (beside r i n)[k]? = some (bpos r i (k + 1)) := by
  cases r with
  | true =>
    have h : k < n - (i + 1) := h
    rw [besideR_get h]
    show some (i + 1 + k) = some (i + (k + 1))
    congr 1; omega
  | false =>
    have h : k < i := h
    rw [besideL_get h]
    show some (i - 1 - k) = some (i - (k + 1))
    congr 1; omega
theorem beside_length (r : Bool) (i n : Nat) : (beside r i n).length = bmax r i n := by cases r <;> simp [beside, bmax]
def touch (xs : List (Int × Int)) (m o : Nat) : Bool := decide (ab (pl xs o - pl xs m) ≤ ht xs m)
theorem touch_hit {xs : List (Int × Int)} (h : Inc xs) {r : Bool} {i d e : Nat} (hi : i < xs.length) (hd : d < e) (he : e ≤ bmax r i xs.length) : touch xs (bpos r i d) (bpos r i e) = true ↔ Hit xs r (bpos r i d) (bpos r i e) := by
  unfold touch
  rw [decide_eq_true_eq]
  cases r with
  | true =>
    have he : e ≤ xs.length - (i + 1) := he
    show ab (pl xs (i + e) - pl xs (i + d)) ≤ ht xs (i + d) ↔ Hit xs true (i + d) (i + e)
    have := h.pl (a := i + d) (b := i + e) (by omega) (by omega)
    constructor
    · intro q
      unfold ab at q
      refine ⟨by omega, by omega, fun _ => ⟨by omega, ?_⟩, fun z => nomatch z⟩
      split at q <;> omega
    · intro q
      have := (q.2.2.1 rfl).2
      unfold ab
      split <;> omega
  | false =>
    have he : e ≤ i := he
    show ab (pl xs (i - e) - pl xs (i - d)) ≤ ht xs (i - d) ↔ Hit xs false (i - d) (i - e)
    have := h.pl (a := i - e) (b := i - d) (by omega) (by omega)
    constructor
    · intro q
      unfold ab at q
      refine ⟨by omega, by omega, (fun z => nomatch z), fun _ => ⟨by omega, ?_⟩⟩
      split at q <;> omega
    · intro q
      have := (q.2.2.2 rfl).2
      unfold ab
      split <;> omega
theorem hit_ahead {xs : List (Int × Int)} {r : Bool} {i m e : Nat} (he : e ≤ bmax r i xs.length) (q : Hit xs r m (bpos r i e)) (hm : ∃ d, d ≤ bmax r i xs.length ∧ m = bpos r i d) : ∃ d, d < e ∧ m = bpos r i d := by
  obtain ⟨d, hd, rfl⟩ := hm
  refine ⟨d, ?_, rfl⟩
  cases r with
  | true =>
    have := (q.2.2.1 rfl).1
    have this : i + d < i + e := this
    omega
  | false =>
    have := (q.2.2.2 rfl).1
    have this : i - e < i - d := this
    omega
theorem rb_pos {xs : List (Int × Int)} (h : Inc xs) {r : Bool} {i t j : Nat} (hi : i < xs.length) (q : RB xs (List.range xs.length) r i t j) : ∃ d, d ≤ bmax r i xs.length ∧ j = bpos r i d := by
  have hr : Reach xs (List.range xs.length) r i j := ⟨t, q⟩
  have hj : j < xs.length := by
    cases t with
    | zero => obtain rfl : j = i := q; exact hi
    | succ t =>
      refine Reach.ind h (P := fun j => j < xs.length) hi (fun m j _ _ hj _ => List.mem_range.mp hj) hr
  cases r with
  | true =>
    have := right_ge h hr
    exact ⟨j - i, by show j - i ≤ xs.length - (i + 1); omega, by show j = i + (j - i); omega⟩
  | false =>
    have := left_le h hr
    exact ⟨i - j, by show i - j ≤ i; omega, by show j = i - (i - j); omega⟩
theorem bpos_lt {r : Bool} {i n d : Nat} (hi : i < n) (hd : d ≤ bmax r i n) : bpos r i d < n := by
  cases r with
  | true => have hd : d ≤ n - (i + 1) := hd; show i + d < n; omega
  | false => show i - d < n; omega
theorem bpos_inj {r : Bool} {i n d e : Nat} (hd : d ≤ bmax r i n) (he : e ≤ bmax r i n) (q : bpos r i d = bpos r i e) : d = e := by
  cases r with
  | true => have q : i + d = i + e := q; omega
  | false => have q : i - d = i - e := q; have hd : d ≤ i := hd; have he : e ≤ i := he; omega
/-- the ticks of so many stones beside the pushed one are known -/
structure TickI (xs : List (Int × Int)) (r : Bool) (i k : Nat) (fs : List (Nat × Nat)) : Prop where
  nd : (fs.map (·.1)).Nodup
  has : ∀ j u, (j, u) ∈ fs ↔ (∃ d, d ≤ k ∧ j = bpos r i d) ∧ Fst xs (List.range xs.length) r i u j
  len : fs.length ≤ k + 1
def nearT (xs : List (Int × Int)) (fs : List (Nat × Nat)) (o : Nat) : List Nat := (fs.filter fun p => touch xs p.1 o).map (·.2)
theorem fst_zero {xs : List (Int × Int)} {r : Bool} {i u : Nat} {S : List Nat} : Fst xs S r i u i ↔ u = 0 := by
  constructor
  · intro h
    refine Nat.eq_zero_of_not_pos fun q => h.2 0 q rfl
  · rintro rfl
    exact ⟨rfl, fun v h => absurd h (Nat.not_lt_zero _)⟩
theorem TickI.start {xs : List (Int × Int)} {r : Bool} {i : Nat} : TickI xs r i 0 [(i, 0)] := by
  refine ⟨by simp, fun j u => ?_, Nat.le_refl _⟩
  rw [List.mem_singleton, Prod.mk.injEq]
  constructor
  · rintro ⟨rfl, rfl⟩
    exact ⟨⟨0, Nat.le_refl _, by cases r <;> rfl⟩, fst_zero.mpr rfl⟩
  · rintro ⟨⟨d, hd, rfl⟩, h⟩
    obtain rfl : d = 0 := by omega
    have e : bpos r i 0 = i := by cases r <;> rfl
    rw [e] at h ⊢
    exact ⟨rfl, fst_zero.mp h⟩
theorem near_sound {xs : List (Int × Int)} (h : Inc xs) {r : Bool} {i k : Nat} {fs : List (Nat × Nat)} (hi : i < xs.length) (T : TickI xs r i k fs) (hk : k < bmax r i xs.length) {u : Nat} (hu : u ∈ nearT xs fs (bpos r i (k + 1))) :
    RB xs (List.range xs.length) r i (u + 1) (bpos r i (k + 1)) := by
  obtain ⟨⟨m, u'⟩, hm, rfl⟩ := List.mem_map.mp hu
  obtain ⟨hm, ht⟩ := List.mem_filter.mp hm
  obtain ⟨⟨d, hd, rfl⟩, hf⟩ := (T.has m u').mp hm
  refine .inr ⟨bpos r i d, hf.1, List.mem_range.mpr (bpos_lt hi hk), (hit_iff h).mpr ((touch_hit h hi (by omega) hk).mp ht)⟩
theorem near_full {xs : List (Int × Int)} (h : Inc xs) {r : Bool} {i k : Nat} {fs : List (Nat × Nat)} (hi : i < xs.length) (T : TickI xs r i k fs) (hk : k < bmax r i xs.length) :
    ∀ t, RB xs (List.range xs.length) r i t (bpos r i (k + 1)) → ∃ u ∈ nearT xs fs (bpos r i (k + 1)), u + 1 ≤ t
  | 0, q => by
    have q : bpos r i (k + 1) = i := q
    have e : bpos r i 0 = i := by cases r <;> rfl
    have := bpos_inj (r := r) (i := i) (n := xs.length) (d := k + 1) (e := 0) hk (Nat.zero_le _) (q.trans e.symm)
    omega
  | t + 1, .inl q => by
    obtain ⟨u, h1, h2⟩ := near_full h hi T hk t q
    exact ⟨u, h1, by omega⟩
  | t + 1, .inr ⟨m, q1, _, q3⟩ => by
    have hh := (hit_iff h).mp q3
    obtain ⟨d, hd, rfl⟩ := hit_ahead hk hh (rb_pos h hi q1)
    obtain ⟨u, hu, hf⟩ := q1.first
    exact ⟨u, List.mem_map.mpr ⟨(bpos r i d, u), List.mem_filter.mpr ⟨(T.has _ _).mpr ⟨⟨d, by omega, rfl⟩, hf⟩, (touch_hit h hi hd hk).mpr hh⟩, rfl⟩, by omega⟩
theorem TickI.none {xs : List (Int × Int)} (h : Inc xs) {r : Bool} {i k : Nat} {fs : List (Nat × Nat)} (hi : i < xs.length) (T : TickI xs r i k fs) (hk : k < bmax r i xs.length) (e : nearT xs fs (bpos r i (k + 1)) = []) : TickI xs r i (k + 1) fs := by
  refine ⟨T.nd, fun j u => (T.has j u).trans ?_, by have := T.len; omega⟩
  constructor
  · rintro ⟨⟨d, hd, rfl⟩, hf⟩
    exact ⟨⟨d, by omega, rfl⟩, hf⟩
  · rintro ⟨⟨d, hd, rfl⟩, hf⟩
    refine ⟨⟨d, ?_, rfl⟩, hf⟩
    by_cases q : d = k + 1
    · subst q
      obtain ⟨u', h1, _⟩ := near_full h hi T hk u hf.1
      rw [e] at h1
      cases h1
    · omega
theorem TickI.some {xs : List (Int × Int)} (h : Inc xs) {r : Bool} {i k m : Nat} {fs : List (Nat × Nat)} (hi : i < xs.length) (T : TickI xs r i k fs) (hk : k < bmax r i xs.length) (hm : m ∈ nearT xs fs (bpos r i (k + 1))) (hl : ∀ y ∈ nearT xs fs (bpos r i (k + 1)), m ≤ y) :
    (bpos r i (k + 1) ∉ fs.map (·.1)) ∧ TickI xs r i (k + 1) (fs ++ [(bpos r i (k + 1), m + 1)]) := by
  have new : bpos r i (k + 1) ∉ fs.map (·.1) := fun z => by
    obtain ⟨⟨j, u⟩, hj, e⟩ := List.mem_map.mp z
    obtain ⟨⟨d, hd, e2⟩, _⟩ := (T.has j u).mp hj
    have e : j = bpos r i (k + 1) := e
    have := bpos_inj (r := r) (i := i) (n := xs.length) (d := d) (e := k + 1) (by omega) hk (e2.symm.trans e)
    omega
  have hf : Fst xs (List.range xs.length) r i (m + 1) (bpos r i (k + 1)) := ⟨near_sound h hi T hk hm, fun v hv q => by
    obtain ⟨u, h1, h2⟩ := near_full h hi T hk v q
    have := hl u h1
    omega⟩
  refine ⟨new, ?_, fun j u => ?_, by have := T.len; simp; omega⟩
  · rw [List.map_append, List.nodup_append]
    refine ⟨T.nd, by simp, fun a ha b hb e => ?_⟩
    simp at hb
    subst e hb
    exact new ha
  · rw [List.mem_append, T.has, List.mem_singleton, Prod.mk.injEq]
    constructor
    · rintro (⟨⟨d, hd, rfl⟩, q⟩ | ⟨rfl, rfl⟩)
      · exact ⟨⟨d, by omega, rfl⟩, q⟩
      · exact ⟨⟨k + 1, Nat.le_refl _, rfl⟩, hf⟩
    · rintro ⟨⟨d, hd, rfl⟩, q⟩
      by_cases e : d = k + 1
      · subst e
        exact .inr ⟨rfl, q.eq hf⟩
      · exact .inl ⟨⟨d, by omega, rfl⟩, q⟩
theorem TickI.all {xs : List (Int × Int)} (h : Inc xs) {r : Bool} {i : Nat} {fs : List (Nat × Nat)} (hi : i < xs.length) (T : TickI xs r i (bmax r i xs.length) fs) (j u : Nat) : (j, u) ∈ fs ↔ Fst xs (List.range xs.length) r i u j := by
  rw [T.has]
  exact ⟨fun q => q.2, fun q => ⟨rb_pos h hi q.1, q⟩⟩
/-- the ticks of a push, by the stones' numbers -/
structure Ticks (xs : List (Int × Int)) (r : Bool) (i : Nat) (gs : List (Nat × Nat)) : Prop where
  up : gs.Pairwise fun a b => a.1 < b.1
  has : ∀ j u, (j, u) ∈ gs ↔ Fst xs (List.range xs.length) r i u j
  len : gs.length ≤ xs.length
theorem key_one {fs : List (Nat × Nat)} (nd : (fs.map (·.1)).Nodup) {j u v : Nat} (h1 : (j, u) ∈ fs) (h2 : (j, v) ∈ fs) : u = v := by
  induction fs with
  | nil => cases h1
  | cons p fs ih =>
    rw [List.map_cons, List.nodup_cons] at nd
    rcases List.mem_cons.mp h1 with e1 | g1
    · rcases List.mem_cons.mp h2 with e2 | g2
      · exact congrArg Prod.snd (e1.trans e2.symm)
      · rw [← e1] at nd
        exact absurd (show j ∈ fs.map (·.1) from List.mem_map.mpr ⟨(j, v), g2, rfl⟩) nd.1
    · rcases List.mem_cons.mp h2 with e2 | g2
      · rw [← e2] at nd
        exact absurd (show j ∈ fs.map (·.1) from List.mem_map.mpr ⟨(j, u), g1, rfl⟩) nd.1
      · exact ih nd.2 g1 g2
/-! ### the law's own wave, stone by stone -/
def kvs (fs : List (Nat × Nat)) : List (Key × V) := fs.map fun p => ((Sum.inl (p.1 : Int) : Key), V.int (p.2 : Int))
theorem kvs_none {fs : List (Nat × Nat)} {o : Nat} : valV (kvs fs) (Sum.inl (o : Int) : Key) = none ↔ o ∉ fs.map (·.1) := by
  induction fs with
  | nil => exact ⟨fun _ h => (nomatch h), fun _ => rfl⟩
  | cons p fs ih =>
    have c : kvs (p :: fs) = ((Sum.inl (p.1 : Int) : Key), V.int (p.2 : Int)) :: kvs fs := rfl
    rw [c]
    by_cases e : p.1 = o
    · rw [valV_pos (by rw [e])]
      simp [e]
    · rw [valV_neg (by intro h; injection h with h; omega), ih]
      simp only [List.map_cons, List.mem_cons, not_or]
      exact ⟨fun h => ⟨fun z => e z.symm, h⟩, fun h => h.2⟩
theorem kvs_put {fs : List (Nat × Nat)} {o t : Nat} (h : o ∉ fs.map (·.1)) : putK (kvs fs) (Sum.inl (o : Int) : Key) (V.int (t : Int)) = kvs (fs ++ [(o, t)]) := by
  rw [putK_new _ (kvs_none.mpr h)]
  unfold kvs
  simp
theorem kvs_len (fs : List (Nat × Nat)) : (kvs fs).length = fs.length := by unfold kvs; simp
/-- lists of ints as data -/
def intD (ns : List Nat) : PyData := .list (ns.map fun (k : Nat) => PyData.int (k : Int))
theorem ints_all {K : PySem.W.Frag} {H : Hp} : ∀ ns : List Nat, DpAll K H (ivs ns) (ns.map fun (k : Nat) => PyData.int (k : Int))
  | [] => .nil
  | k :: ns => .cons (.int k) (ints_all ns)
theorem ints_dp {K : PySem.W.Frag} {H : Hp} {a : Addr} {ns : List Nat} (h : SqL K H a (ivs ns)) : Dp K H (.ref a) (intD ns) := .lst h (ints_all ns)
theorem lay_ints : ∀ ns : List Nat, PyData.canLayAll0 (ns.map fun (k : Nat) => PyData.int (k : Int)) = true
  | [] => by simp [PyData.canLayAll0]
  | k :: ns => by simp [PyData.canLayAll0, PyData.canLay0, lay_ints ns]
theorem deep_ints : ∀ ns : List Nat, PyData.depthAll (ns.map fun (k : Nat) => PyData.int (k : Int)) ≤ 1
  | [] => by simp [PyData.depthAll]
  | k :: ns => by
    have := deep_ints ns
    simp only [List.map_cons, PyData.depthAll, PyData.depth]
    omega
theorem ints_shaped (ns : List Nat) : SeqAt.shaped (intD ns) = true := by
  have h1 := deep_ints ns
  have h2 : PyData.depth (intD ns) ≤ 64 := by unfold intD; simp only [PyData.depth]; omega
  show (PyData.canLay0 (intD ns) && decide (PyData.depth (intD ns) ≤ 64)) = true
  rw [Bool.and_eq_true]
  exact ⟨by unfold intD; simp only [PyData.canLay0]; exact lay_ints ns, decide_eq_true h2⟩
theorem ints_nil (ns : List Nat) : PyData.eqv (intD ns) (intD []) = ns.isEmpty := by
  cases ns with
  | nil => simp [intD, PyData.eqv, PyData.eqvAll]
  | cons k ns => simp [intD, PyData.eqv, PyData.eqvAll]
theorem same_upd {H H1 : Hp} {p : Addr} {o : HO} (e : Same H H1) (h : H p = none) : Same H (upd H1 p o) := fun b u q => by rw [upd_ne (ne_of_none q h)]; exact e _ _ q
/-- A if side == "right" else B, where both come to the same letter -/
theorem if_side {n : Nat} {σ : L2.St} {H : Hp} {Q : VK} {ta tb : TE} {r : Bool} {v : V} (h3 : σ[n]? = some (some (.str (sideS r)))) (ha : r = true → ∀ Q : VK, Q v H → ta σ H Q) (hb : r = false → ∀ Q : VK, Q v H → tb σ H Q) (q : Q v H) :
    tIf (tTest (tOp rEq (tVar n) (tC (.str "right")))) ta tb σ H Q := by
  refine ⟨_, h3, rfl, _, rfl, ?_⟩
  rw [right_eq]
  cases r with
  | true => exact iteT (ha rfl Q q)
  | false => exact iteF (hb rfl Q q)
theorem in_len {xs : List (Int × Int)} {r : Bool} {t m : Nat} : ∀ (L : List Nat) (st : Wave), (L.foldl (stepIn xs r t m) st).1.length ≤ st.1.length + L.length ∧ (L.foldl (stepIn xs r t m) st).2.length ≤ st.2.length + L.length
  | [], st => by simp
  | o :: L, st => by
    have ih := in_len (xs := xs) (r := r) (t := t) (m := m) L (stepIn xs r t m st o)
    have h : (stepIn xs r t m st o).1.length ≤ st.1.length + 1 ∧ (stepIn xs r t m st o).2.length ≤ st.2.length + 1 := by
      unfold stepIn
      split
      · simp
      · omega
    simp only [List.foldl_cons, List.length_cons]
    omega
theorem lv_len {xs : List (Int × Int)} {S : List Nat} {r : Bool} {t : Nat} : ∀ (L : List Nat) (st : Wave), (L.foldl (stepLv xs S r t) st).1.length ≤ st.1.length + L.length * S.length ∧ (L.foldl (stepLv xs S r t) st).2.length ≤ st.2.length + L.length * S.length
  | [], st => by simp
  | m :: L, st => by
    have ih := lv_len (xs := xs) (S := S) (r := r) (t := t) L (stepLv xs S r t st m)
    have h := in_len (xs := xs) (r := r) (t := t) (m := m) S st
    have e : stepLv xs S r t st m = S.foldl (stepIn xs r t m) st := rfl
    rw [e] at ih
    simp only [List.foldl_cons, List.length_cons, e, Nat.add_mul, Nat.one_mul]
    omega
theorem lvl_len {xs : List (Int × Int)} {S : List Nat} {r : Bool} {i : Nat} : ∀ t : Nat, (iter xs S r i t).2.length ≤ (iter xs S r i t).1.length
  | 0 => by simp [iter]
  | t + 1 => by
    have e : iter xs S r i (t + 1) = level xs S r (t + 1) ((iter xs S r i t).1, (iter xs S r i t).2) := rfl
    have q := (level_spec (xs := xs) (S := S) (r := r) (t := t + 1) (lv := (iter xs S r i t).2) (iter_spec (xs := xs) (S := S) (r := r) (i := i) t).1).1
    rw [← e] at q
    have l := congrArg List.length q
    rw [List.length_append, List.length_map] at l
    omega
/-! ### fall_ticks -/
def tickOf : List (Nat × Nat) → Nat → Nat
  | [], _ => 0
  | p :: fs, j => if p.1 = j then p.2 else tickOf fs j
theorem tickOf_mem : ∀ {fs : List (Nat × Nat)} {j u : Nat}, (fs.map (·.1)).Nodup → (j, u) ∈ fs → tickOf fs j = u
  | [], _, _, _, h => nomatch h
  | p :: fs, j, u, nd, h => by
    rw [List.map_cons, List.nodup_cons] at nd
    unfold tickOf
    rcases List.mem_cons.mp h with e | g
    · rw [← e, if_pos rfl]
    · rw [if_neg (fun z => nd.1 (by rw [z]; exact List.mem_map.mpr ⟨(j, u), g, rfl⟩))]
      exact tickOf_mem nd.2 g
theorem kvs_get : ∀ {fs : List (Nat × Nat)} {j u : Nat}, (fs.map (·.1)).Nodup → (j, u) ∈ fs → valV (kvs fs) (Sum.inl (j : Int) : Key) = some (V.int (u : Int))
  | [], _, _, _, h => nomatch h
  | p :: fs, j, u, nd, h => by
    rw [List.map_cons, List.nodup_cons] at nd
    have c : kvs (p :: fs) = ((Sum.inl (p.1 : Int) : Key), V.int (p.2 : Int)) :: kvs fs := rfl
    rw [c]
    rcases List.mem_cons.mp h with e | g
    · rw [← e, valV_pos rfl]
    · rw [valV_neg (fun z => ?_)]
      · exact kvs_get nd.2 g
      · have z : (Sum.inl (p.1 : Int) : Key) = Sum.inl (j : Int) := z
        injection z with z
        exact nd.1 (by rw [show p.1 = j by omega]; exact List.mem_map.mpr ⟨(j, u), g, rfl⟩)
theorem kvs_keys (fs : List (Nat × Nat)) : (kvs fs).map (·.1) = (fs.map fun p => (p.1 : Int)).map Sum.inl := by
  unfold kvs
  rw [List.map_map, List.map_map]
  rfl
/-- the pairs by their sorted keys -/
theorem by_keys {fs : List (Nat × Nat)} (nd : (fs.map (·.1)).Nodup) {ys : List Int} (p : ys.Perm (fs.map fun p => (p.1 : Int))) (s : ys.Pairwise (· ≤ ·)) :
    ∃ gs : List (Nat × Nat), ys = gs.map (fun p => (p.1 : Int)) ∧ gs.Pairwise (fun a b => a.1 < b.1) ∧ (∀ q, q ∈ gs ↔ q ∈ fs) ∧ gs.length = fs.length := by
  have eF : (fs.map fun p => (p.1 : Int)) = (fs.map (·.1)).map fun (k : Nat) => (k : Int) := by rw [List.map_map]; rfl
  rw [eF] at p
  have ey : ys = (ys.map Int.toNat).map fun (k : Nat) => (k : Int) := by
    rw [List.map_map]
    refine ((List.map_id _).symm).trans (List.map_congr_left fun y hy => ?_)
    obtain ⟨k, _, rfl⟩ := List.mem_map.mp (p.mem_iff.mp hy)
    show (k : Int) = ((k : Int).toNat : Int)
    omega
  have pk : (ys.map Int.toNat).Perm (fs.map (·.1)) := by
    have := p.map Int.toNat
    rw [List.map_map] at this
    refine this.trans (.of_eq ?_)
    refine (List.map_congr_left fun k _ => ?_).trans (List.map_id _)
    exact Int.toNat_natCast k
  generalize ys.map Int.toNat = ks at ey pk
  subst ey
  have ndk : ks.Nodup := pk.nodup_iff.mpr nd
  refine ⟨ks.map fun j => (j, tickOf fs j), ?_, ?_, fun q => ?_, ?_⟩
  · rw [List.map_map]
    rfl
  · rw [List.pairwise_map]
    rw [List.pairwise_map] at s
    exact (List.pairwise_and_iff.mpr ⟨s, ndk⟩).imp fun {a b} h => by
      have h1 : (a : Int) ≤ (b : Int) := h.1
      have h2 : a ≠ b := h.2
      show a < b
      omega
  · obtain ⟨j, u⟩ := q
    rw [List.mem_map]
    constructor
    · rintro ⟨j', hj, e⟩
      obtain ⟨rfl, rfl⟩ := Prod.mk.inj e
      obtain ⟨⟨j2, u2⟩, h1, h2⟩ := List.mem_map.mp (pk.mem_iff.mp hj)
      have h2 : j2 = j' := h2
      subst h2
      rw [tickOf_mem nd h1]
      exact h1
    · intro h
      exact ⟨j, pk.mem_iff.mpr (List.mem_map.mpr ⟨(j, u), h, rfl⟩), by rw [tickOf_mem nd h]⟩
  · rw [List.length_map, pk.length_eq, List.length_map]
def spReaches (K : PySem.W.Frag) : Sp := fun vs H Q _ => ∃ (a b : Addr) (x y : Int × Int), vs = [.ref a, .ref b] ∧ SqT K H a [.int x.1, .int x.2] ∧ SqT K H b [.int y.1, .int y.2] ∧ Q (.bl (decide (ab (y.1 - x.1) ≤ x.2))) H
def spTicks (K : PySem.W.Frag) (C C2 C3 : Addr) : Sp := fun vs H Q E => ∃ (p : Addr) (xs : List (Int × Int)) (v sv : V) (d : PyData), vs = [.ref p, v, sv] ∧ RowAt K C H p xs ∧ Wf 0 xs ∧ xs.length ≤ 40 ∧ Known K H v ∧ Dp K H sv d ∧ SeqAt.shaped d = true ∧
  (numB v 0 ((xs.length : Int) - 1) = false → E (.ref C2) none H) ∧ (numB v 0 ((xs.length : Int) - 1) = true → sideD d = false → E (.ref C3) none H) ∧
  ∀ (i : Nat) (r : Bool), v = .int (i : Int) → sv = .str (sideS r) → i < xs.length → ∀ (z : Addr) (gs : List (Nat × Nat)) (H' : Hp), Same H H' → H z = none → H' z = some (.dK (kvs gs)) → Ticks xs r i gs → Q (.ref z) H'
theorem near_take {xs : List (Int × Int)} {fs : List (Nat × Nat)} {o n : Nat} {p : Nat × Nat} (h : fs[n]? = some p) : nearT xs (fs.take (n + 1)) o = nearT xs (fs.take n) o ++ if touch xs p.1 o then [p.2] else [] := by
  unfold nearT
  rw [List.take_add_one, h, List.filter_append, List.map_append]
  cases e : touch xs p.1 o <;> simp [e]
section
variable {P : Program} {w : World} {K : PySem.W.Frag} {mg : Str → Option Value} {base : Heap}
theorem ok_reaches {f : Addr} {fd : FuncData} (F : Fun K "_reaches" "_reaches" s_reaches f fd) (B : Blt mg) : FnOk P w K mg base CX0 1 f fd ["stone", "other"] (spReaches K) := by
  refine F.ok sc_reaches (fun vs H Q E h => ?_) (fun cdv A outer s H vs Q E hr h => ?_)
  · obtain ⟨a, b, x, y, rfl, _⟩ := h
    rfl
  · obtain ⟨a, b, x, y, rfl, ha, hb, k⟩ := h
    refine ⟨_, pss_cons (ps_asg (pv 0) (pg_tup rfl (pgs_cons (pg_name (i := 2) sc_reaches.nd rfl (Or.inl rfl)) (pgs_cons (pg_name (i := 3) sc_reaches.nd rfl (Or.inl rfl)) pgs_nil)))) (pss_one (ps_ret (pe_cmpR (op_le) (pe_callB (call_abs) (by rfl) B.abs boot_abs (pa_cons (pe_op op_sub (pe_ix ix_tup (pv 1) (pe_int) (fun _ _ => rfl)) (pv 2)) pa_nil)) (pv 3) (nomark _)))), ?_⟩
    refine ⟨_, rfl, a, _, rfl, ha, rfl, _, _, rfl, _, _, rfl, rfl, ?_⟩
    refine ⟨_, rfl, b, _, ((0 : Nat) : Int), _, rfl, rfl, hb, atI_nat (j := 0) rfl, _, rfl, _, _, rfl, rfl, _, rfl, _, rfl, _, _, rfl, rfl, ?_⟩
    exact k
theorem ok_ticks {f C C2 C3 pP gP gL g1 g2 g3 g4 : Addr} {fd dP d1 d2 d3 d4 : FuncData} (F : Fun K "fall_ticks" "fall_ticks" s_fall_ticks f fd) (B : Blt mg) (R : RowC K mg C) (SL : Sign K C "__len__" gL) (GL : FnR P w K mg base CX0 1 gL (spLen K C))
    (pr : PropOf K C "stones" pP gP) (P1 : FnOk P w K mg base CX0 1 gP dP ["self"] (spGet K C)) (bP : Binds K dP ["self"] [])
    (N1 : At P w K mg base (L2.CX P w) 2 "check_stone" ["stone", "count"] (spCheckStoneX K C2) g1 d1) (N2 : At P w K mg base (L2.CX P w) 1 "check_side" ["side"] (spCheckSideX K C3) g2 d2)
    (N3 : At P w K mg base CX0 1 "stones_beside" ["stone", "side", "count"] spBeside g3 d3) (N4 : At P w K mg base CX0 1 "_reaches" ["stone", "other"] (spReaches K) g4 d4) :
    FnOk P w K mg base (L2.CX P w) 3 f fd ["row", "stone", "side"] (spTicks K C C2 C3) := by
  refine F.okX sc_fall_ticks (fun vs H Q E h => ?_) (fun cdv A outer s H vs Q E hr h => ?_)
  · obtain ⟨p, xs, v, sv, d, rfl, _⟩ := h
    rfl
  · obtain ⟨p, xs, v, sv, d, rfl, hR, hw, hz, kn, hd, sd, h1, h2, k⟩ := h
    obtain ⟨dx, t, us, ep, hT, hS⟩ := id hR
    have r1 : Room 1 _ := hr.mono (by decide)
    have hu := hu_of hr
    refine ⟨_, pss_cons (ps_expr (pe_atE N1 hr (takes_of rfl rfl rfl rfl) (pa_cons (pv 1) (pa_cons (pe_callB (Own.call_len SL.at_ SL.fn GL hr pass0) (by rfl) B.len PySem.boot_len (pa_cons (pv 0) pa_nil)) pa_nil))))
      (pss_cons (ps_expr (pe_atE N2 r1 (takes_of rfl rfl rfl rfl) (pa_cons (pv 2) pa_nil)))
      (pss_cons (ps_set (i := 3) sc_fall_ticks.nd rfl (Or.inr rfl) (pe_prop (pv 0) R.cl pr P1 hr bP .nil pass0 rfl))
      (pss_cons (ps_set (i := 4) sc_fall_ticks.nd rfl (Or.inr rfl) (pe_disp (pps_cons (pv 1) pe_int pps_nil) (by rfl) (by rfl) (fun z => by cases z) (by decide)))
      (pss_cons (ps_for (passes_of rfl) rfl (pi_list (pe_at N3 r1 (pa_cons (pv 1) (pa_cons (pv 2) (pa_cons (pe_callB (Own.call_len SL.at_ SL.fn GL hr pass0) (by rfl) B.len PySem.boot_len (pa_cons (pv 0) pa_nil)) pa_nil))))) (pg_name (i := 5) sc_fall_ticks.nd rfl (Or.inr rfl))
        (pss_cons (ps_lock (ps_setLc (i := 6) (own := [("fallen", 7)]) (g := gName 7) rfl sc_fall_ticks.nd rfl rfl (sw_true rfl rfl rfl (by decide +kernel)) (pi_keys (pv 4)) (blkOk_by (N := n_fall_ticks) (sc := defScope s_fall_ticks) (by decide +kernel))
          (fun _ _ _ _ _ => pg_name (i := 7) sc_fall_ticks.nd rfl (Or.inl rfl)) (fun _ _ _ _ _ => pts_one (show PT _ _ (tB (tCall (spReaches K) [] E0 (tCons (tOp (rIxT K) (tVar 3) (tVar 7)) (tCons (tOp (rIxT K) (tVar 3) (tVar 5)) tNil)))) from pt_val (pe_at N4 r1 (pa_cons (pe_ix ix_tup (pv 3) (pv 7) (fun _ _ => rfl)) (pa_cons (pe_ix ix_tup (pv 3) (pv 5) (fun _ _ => rfl)) pa_nil)))))
          (fun _ _ _ _ _ => pe_dget hu (pv 4) (pv 7) (fun _ _ => rfl))))
        (pss_one (ps_if (pt_truth (pv 6) (by intro _; rfl)) (pss_one (ps_dput hu (pv 4) (pv 5) (pe_op op_add (pe_callB ((cr_min rfl)) (by rfl) B.min boot_min (pa_cons (pv 6) pa_nil)) (pe_int)) rfl)) pss_nil))))
      (pss_one (ps_ret (pe_dc (own := [("fallen", 7)]) (g := gName 7) rfl sc_fall_ticks.nd (pi_list (pe_callB ((DictI.cr_sortedDI rfl)) (by rfl) B.sorted boot_sorted (pa_cons (pv 4) pa_nil))) (blkOk_by (N := n_fall_ticks) (sc := defScope s_fall_ticks) (by decide +kernel))
        (fun _ _ _ _ _ => pg_name (i := 7) sc_fall_ticks.nd rfl (Or.inl rfl)) (fun _ _ _ _ _ => pts_nil) (fun _ _ _ _ _ => pv 7) (fun _ _ _ _ _ => pe_dget hu (pv 4) (pv 7) (fun _ _ => rfl))))))))), ?_⟩
    -- check_stone, check_side
    refine ⟨_, rfl, _, rfl, p, dx, _, rfl, ep, p, xs, rfl, hR, _, rfl, by omega, by omega, v, xs.length, rfl, kn, by omega, fun e => ?_, h1⟩
    refine ⟨_, rfl, sv, d, rfl, hd, sd, fun e2 => ?_, fun e2 => h2 e e2⟩
    obtain ⟨i0, rfl, i1, i2⟩ := numB_some e
    obtain ⟨r, rfl⟩ := side_some hd e2
    obtain ⟨i, rfl⟩ : ∃ i : Nat, i0 = (i : Int) := ⟨i0.toNat, by omega⟩
    have hi : i < xs.length := by omega
    have k := k i r rfl rfl hi
    have hx := hw.inc
    -- stones
    refine ⟨_, rfl, p, dx, _, rfl, ep, p, xs, rfl, hR, fun t us hT hS => ?_⟩
    refine nm_of ?_
    -- ticks
    refine fun dd nd => ⟨_, rfl, upd_same, [((Sum.inl (i : Int) : Key), V.int 0)], rfl, by show 1 ≤ 15; decide, ?_⟩
    have eM : upd (upd H dd (.dK [])) dd (.dK (mergeK [] [((Sum.inl (i : Int) : Key), V.int 0)])) = upd H dd (.dK (kvs [(i, 0)])) := upd_upd
    rw [eM]
    refine nm_of ?_
    have s1 : Same H (upd H dd (.dK (kvs [(i, 0)]))) := same_new nd
    have ed1 : (upd H dd (.dK (kvs [(i, 0)]))) dd = some (.dK (kvs [(i, 0)])) := upd_same
    generalize upd H dd (.dK (kvs [(i, 0)])) = H1 at s1 ed1
    -- the stones beside
    refine ⟨_, rfl, _, rfl, _, rfl, p, dx, _, rfl, s1 _ _ ep, p, xs, rfl, hR.same s1, _, rfl, by omega, by omega, i, xs.length, r, rfl, hi, by omega, fun q nq => ?_⟩
    have s2 : Same H (upd H1 q (.lst (ivs (beside r i xs.length)))) := s1.trans (same_new nq)
    have dq : dd ≠ q := ne_of_none ed1 nq
    have blen := beside_length r i xs.length
    have bm : bmax r i xs.length < xs.length := by cases r <;> simp [bmax] <;> omega
    refine ⟨q, rfl, ⟨_, SqL.of upd_same⟩, for_list (K := K) (a := q) (xs := ivs (beside r i xs.length)) (fun j σ H3 => ∃ (fs : List (Nat × Nat)) (s5 s6 s7 : Option V), σ = [some (.ref p), some (.int (i : Nat)), some (.str (sideS r)), some (.ref t), some (.ref dd), s5, s6, s7] ∧
      Same H H3 ∧ H3 dd = some (.dK (kvs fs)) ∧ H3 q = some (.lst (ivs (beside r i xs.length))) ∧ TickI xs r i j fs) ?_ ?_ ?_ ?_⟩
    · exact ⟨[(i, 0)], none, none, none, rfl, s2, by rw [upd_ne dq]; exact ed1, upd_same, TickI.start⟩
    · rintro j σ H3 _ ⟨_, _, _, _, _, _, _, e, _⟩
      exact SqL.of e
    · rintro j y σ H3 hy ⟨fs, s5, s6, s7, rfl, sm, ed, eq, T⟩
      obtain ⟨o, ho, rfl⟩ := ivs_get hy
      have hj : j < bmax r i xs.length := by rw [← blen]; exact (List.getElem?_eq_some_iff.mp ho).1
      obtain rfl : bpos r i (j + 1) = o := Option.some.inj ((beside_at hj).symm.trans ho)
      have hox : bpos r i (j + 1) < xs.length := bpos_lt hi hj
      obtain ⟨y, hy⟩ : ∃ y, xs[bpos r i (j + 1)]? = some y := ⟨xs[bpos r i (j + 1)], by simp [hox]⟩
      obtain ⟨cb, hcb, hscb⟩ := hS.2 _ y hy
      have fl : fs.length ≤ 41 := by have := T.len; omega
      refine nm_of ?_
      -- hits
      refine ⟨dd, _, ed, True.intro, fun od => ?_⟩
      have edz : (upd H3 dd (.frz od (.dK (kvs fs)))) dd = some (.frz od (.dK (kvs fs))) := upd_same
      refine ⟨_, rfl, dd, od, rfl, .inl ⟨kvs fs, edz, fun D nD => ?_⟩⟩
      have Dd : D ≠ dd := fun z => by rw [z, edz] at nD; cases nD
      have nD3 : H3 D = none := by rw [upd_ne Dd] at nD; exact nD
      refine lc_it (walk_keys (d := dd) (o := od) (kvs := kvs fs)) (fun n G => G dd = some (.frz od (.dK (kvs fs))) ∧ (∀ b o, b ≠ dd → H3 b = some o → G b = some o) ∧ G D = some (.lst (ivs (nearT xs (fs.take n) (bpos r i (j + 1)))))) ?_ ?_ ?_ ?_
      · exact ⟨by rw [upd_ne (Ne.symm Dd)]; exact edz, fun b o n e => by rw [upd_ne (ne_of_none e nD3), upd_ne n]; exact e, upd_same⟩
      · rintro n G _ ⟨e, _⟩
        exact e
      · rintro n x G G' hn ⟨eG, bG, eD⟩ ⟨rfl, kk, vv, e1, rfl⟩
        rw [kvs_len] at hn
        obtain ⟨⟨m, u⟩, hm⟩ : ∃ q, fs[n]? = some q := ⟨fs[n], by simp [hn]⟩
        have ek : (kvs fs)[n]? = some ((Sum.inl (m : Int) : Key), V.int (u : Int)) := by unfold kvs; rw [List.getElem?_map, hm]; rfl
        rw [ek] at e1
        obtain ⟨rfl, rfl⟩ : (Sum.inl (m : Int) : Key) = kk ∧ V.int (u : Int) = vv := by injection e1 with e1; injection e1 with a b; exact ⟨a, b⟩
        have hmf : (m, u) ∈ fs := List.mem_of_getElem? hm
        have hmx : m < xs.length := by
          obtain ⟨⟨dd', hd', e⟩, _⟩ := (T.has m u).mp hmf
          rw [e]
          exact bpos_lt hi (by omega)
        obtain ⟨x, hx1⟩ : ∃ x, xs[m]? = some x := ⟨xs[m], by simp [hmx]⟩
        obtain ⟨ca, hca, hsca⟩ := hS.2 m x hx1
        have up : ∀ {a : Addr} {zs : List V}, SqT K H a zs → SqT K G' a zs := fun {a zs} h => by
          have h3 := sqT_same h sm
          rcases h3 with (h3 | ⟨ob, h3⟩) | h3
          · exact .inl (.inl (bG _ _ (fun z => by rw [z, ed] at h3; cases h3) h3))
          · exact .inl (.inr ⟨ob, bG _ _ (fun z => by rw [z, ed] at h3; cases h3) h3⟩)
          · exact .inr h3
        have eN := near_take (xs := xs) (o := bpos r i (j + 1)) hm
        have et : decide (ab (y.1 - x.1) ≤ x.2) = touch xs m (bpos r i (j + 1)) := by
          unfold touch
          rw [(pl_of hy).1, (pl_of hx1).1, (pl_of hx1).2]
        refine ⟨rfl, _, rfl, _, rfl, t, us, _, _, rfl, rfl, up hT, atI_nat hca, _, rfl, _, rfl, t, us, _, _, rfl, rfl, up hT, atI_nat hcb, ca, cb, x, y, rfl, up hsca, up hscb, _, rfl, ?_⟩
        rw [et, eN]
        cases touch xs m (bpos r i (j + 1)) with
        | true =>
          refine iteT ⟨_, rfl, _, rfl, dd, V.int (u : Int), rfl, ?_, _, eD, ?_, ?_, fun b o n e => ?_, ?_⟩
          · exact .inl ⟨kvs fs, Sum.inl (m : Int), .inr ⟨od, eG⟩, rfl, (kvs_get T.nd hmf).symm⟩
          · unfold ivs nearT
            rw [List.length_map, List.length_map, sizeLine_eq]
            have := List.length_filter_le (fun p : Nat × Nat => touch xs p.1 (bpos r i (j + 1))) (fs.take n)
            rw [List.length_take] at this
            omega
          · rw [upd_ne (Ne.symm Dd)]; exact eG
          · rw [upd_ne (ne_of_none e nD3)]; exact bG b o n e
          · rw [upd_same]
            unfold ivs
            simp
        | false => exact iteF ⟨eG, bG, by rw [eD]; simp⟩
      · rintro G ⟨eG, bG, eD⟩
        rw [kvs_len, List.take_length] at eD
        refine ⟨eG, ?_⟩
        have smG : Same H (upd G dd (.dK (kvs fs))) := fun b o e => by
          have nb : b ≠ dd := ne_of_none e nd
          rw [upd_ne nb]
          exact bG b o nb (sm _ _ e)
        have eDG : (upd G dd (.dK (kvs fs))) D = some (.lst (ivs (nearT xs fs (bpos r i (j + 1))))) := by rw [upd_ne Dd]; exact eD
        have edG : (upd G dd (.dK (kvs fs))) dd = some (.dK (kvs fs)) := upd_same
        have eqG : (upd G dd (.dK (kvs fs))) q = some (.lst (ivs (beside r i xs.length))) := by rw [upd_ne (Ne.symm dq)]; exact bG _ _ (Ne.symm dq) eq
        generalize upd G dd (.dK (kvs fs)) = G2 at smG eDG edG eqG
        refine nm_of ?_
        dsimp only [List.set]
        -- if hits
        refine ⟨_, rfl, _, .inl ⟨_, SqL.of eDG, rfl⟩, ?_⟩
        cases hn : nearT xs fs (bpos r i (j + 1)) with
        | nil => exact iteF ⟨fs, _, _, _, rfl, smG, edG, eqG, T.none hx hi hj hn⟩
        | cons m0 ms =>
          have eI : ivs (m0 :: ms) = ((m0 :: ms).map fun (k : Nat) => (k : Int)).map V.int := by unfold ivs; rw [List.map_map]; rfl
          rw [hn, eI] at eDG
          refine iteT ⟨_, rfl, D, _, rfl, SqL.of eDG, by simp, fun m hm hle => ⟨_, _, rfl, rfl, _, rfl, _, rfl, dd, _, rfl, DPut.k (k := Sum.inl (bpos r i (j + 1) : Int)) edG (by rw [kvs_len, sizeLine_eq]; omega), ?_⟩⟩
          obtain ⟨m', hm', rfl⟩ := List.mem_map.mp hm
          obtain ⟨new, T'⟩ := T.some hx hi hj (m := m') (by rw [hn]; exact hm') (by
            rw [hn]
            intro y hy
            have := hle (y : Int) (List.mem_map.mpr ⟨y, hy, rfl⟩)
            omega)
          have ep' : putK (kvs fs) (Sum.inl (bpos r i (j + 1) : Int) : Key) (V.int ((m' : Int) + 1)) = kvs (fs ++ [(bpos r i (j + 1), m' + 1)]) := kvs_put (t := m' + 1) new
          rw [ep']
          refine ⟨_, _, _, _, rfl, same_upd smG nd, upd_same, ?_, T'⟩
          rw [upd_ne (Ne.symm dq)]
          exact eqG
    · rintro σ H3 ⟨fs, s5, s6, s7, rfl, sm, ed, eq, T⟩
      rw [show (ivs (beside r i xs.length)).length = bmax r i xs.length by unfold ivs; rw [List.length_map, blen]] at T
      have fl : fs.length ≤ xs.length := by have := T.len; omega
      -- the dict by sorted stones
      refine ⟨_, rfl, dd, kvs fs, _, rfl, .inl ed, kvs_keys fs, fun ys l pm so nl => ⟨l, rfl, ⟨_, SqL.of upd_same⟩, fun D nD => ?_⟩⟩
      obtain ⟨gs, rfl, gup, ghas, glen⟩ := by_keys T.nd pm so
      have sl := same_new (o := .lst ((gs.map fun p => (p.1 : Int)).map V.int)) nl
      have edl := sl _ _ ed
      have ell : (upd H3 l (.lst ((gs.map fun p => (p.1 : Int)).map V.int))) l = some (.lst ((gs.map fun p => (p.1 : Int)).map V.int)) := upd_same
      have sml := sm.trans sl
      generalize upd H3 l (.lst ((gs.map fun p => (p.1 : Int)).map V.int)) = H4 at edl ell sml nD
      have Dl : l ≠ D := ne_of_none ell nD
      have Ddd : dd ≠ D := ne_of_none edl nD
      have gnd : (gs.map (·.1)).Nodup := by
        refine (List.pairwise_map.mpr gup).imp fun {a b} h => ?_
        exact Nat.ne_of_lt h
      refine DictI.dc_it (walk_list (K := K) (a := l) (xs := (gs.map fun p => (p.1 : Int)).map V.int)) (fun n G => But D H4 G ∧ G D = some (.dK (kvs (gs.take n)))) ⟨but_upd, upd_same⟩ ?_ ?_ ?_
      · rintro n G _ ⟨b, _⟩
        exact SqL.of (b _ _ Dl ell)
      · rintro n x G G' hn ⟨b, eD⟩ ⟨rfl, hx⟩
        rw [List.length_map, List.length_map] at hn
        obtain ⟨⟨m, u⟩, hm⟩ : ∃ q, gs[n]? = some q := ⟨gs[n], by simp [hn]⟩
        rw [List.getElem?_map, List.getElem?_map, hm] at hx
        obtain rfl : V.int (m : Int) = x := Option.some.inj hx
        have hmf : (m, u) ∈ fs := (ghas _).mp (List.mem_of_getElem? hm)
        refine ⟨rfl, _, rfl, _, rfl, _, rfl, dd, V.int (u : Int), rfl, ?_, _, Sum.inl (m : Int), rfl, eD, ?_, b.trans but_upd, ?_⟩
        · exact .inl ⟨kvs fs, Sum.inl (m : Int), .inl (b _ _ Ddd edl), rfl, (kvs_get T.nd hmf).symm⟩
        · rw [kvs_len, List.length_take, sizeLine_eq]
          omega
        · have new : m ∉ (gs.take n).map (·.1) := fun z => by
            rw [List.map_take] at z
            obtain ⟨a, ha, e⟩ := List.mem_take_iff_getElem.mp z
            have h2 : (gs.map (·.1))[n]? = some m := by rw [List.getElem?_map, hm]; rfl
            have h1 : (gs.map (·.1))[a]? = some m := by rw [List.getElem?_eq_getElem (by omega)]; exact congrArg some e
            have := (List.getElem?_inj (by omega) gnd).mp (h1.trans h2.symm)
            omega
          rw [upd_same, List.take_add_one, hm]
          exact congrArg (fun z => some (HO.dK z)) (kvs_put (t := u) new)
      · rintro G ⟨b, eD⟩
        rw [List.length_map, List.length_map, List.take_length] at eD
        have smG : Same H G := sml.trans (But.same b nD)
        refine k D gs G smG (Same.free sml nD) eD ⟨gup, fun a u => ?_, by omega⟩
        rw [ghas]
        exact T.all hx hi a u
end
/-! ### signs of texts -/
theorem lit_nil : Str.ofString "" = TxtG.T [] := by decide +kernel
theorem lit_com : Str.ofString "," = TxtG.T [44] := by decide +kernel
theorem lit_sp : Str.ofString " " = TxtG.T [32] := by decide +kernel
theorem lit_no : Str.ofString "-" = TxtG.T [45] := by decide +kernel
theorem log_small {n : Int} (h : 0 ≤ n) (h2 : n ≤ 2000000000) : n.natAbs.log2 < 1920 := by
  by_cases h0 : n.natAbs = 0
  · rw [h0]; decide
  · have : n.natAbs < 2 ^ 31 := by omega
    have := (Nat.log2_lt h0).mpr this
    omega
theorem kvs_at {fs : List (Nat × Nat)} (nd : (fs.map (·.1)).Nodup) {m u : Nat} (h : (m, u) ∈ fs) : valV (kvs fs) (Sum.inl (m : Int) : Key) = some (.int (u : Int)) := by
  induction fs with
  | nil => cases h
  | cons p fs ih =>
    have c : kvs (p :: fs) = ((Sum.inl (p.1 : Int) : Key), V.int (p.2 : Int)) :: kvs fs := rfl
    rw [c]
    rw [List.map_cons, List.nodup_cons] at nd
    rcases List.mem_cons.mp h with e | h
    · rw [← e]
      exact valV_pos rfl
    · have ne : p.1 ≠ m := fun e => nd.1 (by rw [e]; exact List.mem_map.mpr ⟨_, h, rfl⟩)
      rw [valV_neg (by intro z; injection z with z; omega)]
      exact ih nd.2 h
/-! ### chart -/
def tickL (gs : List (Nat × Nat)) (j : Nat) : List Nat := match valV (kvs gs) (Sum.inl (j : Int) : Key) with
  | some (.int u) => FmtS.digs u
  | _ => [45]
def lineOf (xs : List (Int × Int)) (gs : List (Nat × Nat)) (k : Nat) : Str := TxtG.lineT k (xs.getD k (0, 0)) (tickL gs k)
def linesOf (xs : List (Int × Int)) (gs : List (Nat × Nat)) (n : Nat) : List Str := (List.range n).map (lineOf xs gs)
def chartT (xs : List (Int × Int)) (gs : List (Nat × Nat)) : Str := Txt.join (Str.ofString "\n") (linesOf xs gs xs.length)
theorem linesOf_succ {xs : List (Int × Int)} {gs : List (Nat × Nat)} {n : Nat} : linesOf xs gs (n + 1) = linesOf xs gs n ++ [lineOf xs gs n] := by
  unfold linesOf
  rw [List.range_succ, List.map_append]
  rfl
theorem linesOf_len {xs : List (Int × Int)} {gs : List (Nat × Nat)} {n : Nat} : (linesOf xs gs n).length = n := by
  unfold linesOf
  simp
theorem valV_none : ∀ {fs : List (Nat × Nat)} {j : Nat}, (∀ u, (j, u) ∉ fs) → valV (kvs fs) (Sum.inl (j : Int) : Key) = none
  | [], _, _ => rfl
  | p :: fs, j, h => by
    have c : kvs (p :: fs) = ((Sum.inl (p.1 : Int) : Key), V.int (p.2 : Int)) :: kvs fs := rfl
    rw [c, valV_neg (fun z => h p.2 (by
      have z : (Sum.inl (p.1 : Int) : Key) = Sum.inl (j : Int) := z
      injection z with z
      rw [show j = p.1 by omega]
      exact List.mem_cons_self))]
    exact valV_none fun u m => h u (List.mem_cons_of_mem _ m)
theorem valV_cases {fs : List (Nat × Nat)} (nd : (fs.map (·.1)).Nodup) (j : Nat) : (∃ u, (j, u) ∈ fs ∧ valV (kvs fs) (Sum.inl (j : Int) : Key) = some (V.int (u : Int))) ∨ ((∀ u, (j, u) ∉ fs) ∧ valV (kvs fs) (Sum.inl (j : Int) : Key) = none) := by
  by_cases h : ∃ u, (j, u) ∈ fs
  · obtain ⟨u, hu⟩ := h
    exact .inl ⟨u, hu, kvs_at nd hu⟩
  · exact .inr ⟨fun u m => h ⟨u, m⟩, valV_none fun u m => h ⟨u, m⟩⟩
theorem tick_small {xs : List (Int × Int)} {S : List Nat} {r : Bool} {i u j : Nat} (h : Fst xs S r i u j) : u ≤ 2 * S.length + 1 := by
  obtain ⟨h, low⟩ := h
  have ne : ∀ s, s < u → (iter xs S r i s).2 ≠ [] := fun s hs e => low s hs (iter_done e u j h)
  have st : ∀ t, t ≤ u → meas (S.length + 1) (iter xs S r i t) + t ≤ meas (S.length + 1) (iter xs S r i 0) := by
    intro t
    induction t with
    | zero => intro _; omega
    | succ t ih =>
      intro ht
      have := ih (by omega)
      have := iter_meas (xs := xs) (S := S) (r := r) (i := i) t (ne t (by omega))
      omega
  have := st u (Nat.le_refl _)
  have e0 : meas (S.length + 1) (iter xs S r i 0) = 2 * (S.length + 1 - 1) + 1 := rfl
  omega
theorem tickL_len {xs : List (Int × Int)} {r : Bool} {i : Nat} {gs : List (Nat × Nat)} (G : Ticks xs r i gs) (hz : xs.length ≤ 40) (j : Nat) : (tickL gs j).length ≤ 10 := by
  have nd : (gs.map (·.1)).Nodup := (List.pairwise_map.mpr G.up).imp fun {a b} h => Nat.ne_of_lt h
  unfold tickL
  rcases valV_cases nd j with ⟨u, hu, e⟩ | ⟨_, e⟩
  · rw [e]
    have := tick_small ((G.has j u).mp hu)
    rw [List.length_range] at this
    exact TxtG.digs_len (by omega) (by omega)
  · rw [e]
    decide
def spChart (K : PySem.W.Frag) (C C2 C3 : Addr) : Sp := fun vs H Q E => ∃ (p : Addr) (xs : List (Int × Int)) (v sv : V) (d : PyData), vs = [.ref p, v, sv] ∧ RowAt K C H p xs ∧ Wf 0 xs ∧ xs.length ≤ 40 ∧ Known K H v ∧ Dp K H sv d ∧ SeqAt.shaped d = true ∧
  (numB v 0 ((xs.length : Int) - 1) = false → E (.ref C2) none H) ∧ (numB v 0 ((xs.length : Int) - 1) = true → sideD d = false → E (.ref C3) none H) ∧
  ∀ (i : Nat) (r : Bool), v = .int (i : Int) → sv = .str (sideS r) → i < xs.length → ∀ (gs : List (Nat × Nat)) (H' : Hp), Same H H' → Ticks xs r i gs → Q (.str (chartT xs gs)) H'
section
variable {P : Program} {w : World} {K : PySem.W.Frag} {mg : Str → Option Value} {base : Heap}
theorem ok_chart {f C C2 C3 pP gP g1 : Addr} {fd dP d1 : FuncData} (F : Fun K "chart" "chart" s_chart f fd) (B : Blt mg) (R : RowC K mg C)
    (pr : PropOf K C "stones" pP gP) (P1 : FnOk P w K mg base CX0 1 gP dP ["self"] (spGet K C)) (bP : Binds K dP ["self"] [])
    (N1 : At P w K mg base (L2.CX P w) 3 "fall_ticks" ["row", "stone", "side"] (spTicks K C C2 C3) g1 d1) :
    FnOk P w K mg base (L2.CX P w) 4 f fd ["row", "stone", "side"] (spChart K C C2 C3) := by
  refine F.okX sc_chart (fun vs H Q E h => ?_) (fun cdv A outer s H vs Q E hr h => ?_)
  · obtain ⟨p, xs, v, sv, d, rfl, _⟩ := h
    rfl
  · obtain ⟨p, xs, v, sv, d, rfl, hR, hw, hz, kn, hd, sd, h1, h2, k⟩ := h
    obtain ⟨dx, t, us, ep, hT, hS⟩ := id hR
    have r2 : Room 2 _ := hr.mono (by decide)
    have r1 : Room 1 _ := hr.mono (by decide)
    have hu := hu_of hr
    refine ⟨_, pss_cons (ps_set (i := 3) sc_chart.nd rfl (Or.inl rfl) (pe_atE N1 hr (takes_of rfl rfl rfl rfl) (pa_cons (pv 0) (pa_cons (pv 1) (pa_cons (pv 2) pa_nil)))))
      (pss_cons (ps_set (i := 4) sc_chart.nd rfl (Or.inl rfl) (pe_lst pa_nil))
      (pss_cons (ps_for (passes_of rfl) rfl (Own.pi_enumT (by rfl) B.enumerate (pa_cons (pe_prop (pv 0) R.cl pr P1 r2 bP .nil pass0 rfl) pa_nil)) (pg_tup rfl (pgs_cons (pg_name (i := 5) sc_chart.nd rfl (Or.inl rfl)) (pgs_cons (pg_tup rfl (pgs_cons (pg_name (i := 6) sc_chart.nd rfl (Or.inl rfl)) (pgs_cons (pg_name (i := 7) sc_chart.nd rfl (Or.inl rfl)) pgs_nil))) pgs_nil)))
        (pss_cons (ps_set (i := 8) sc_chart.nd rfl (Or.inl rfl) (pe_dget2 hu (pv 3) (pv 5) pe_str ⟨by rfl, by rfl, by rfl, by rfl⟩))
        (pss_one (ps_expr (pe_bm PySem.F.plainAttrs_list PySem.F.slot_list_append PySem.F.type_list_append mt_append (pv 4) (pa_cons (pe_joined (.cons (FmtS.pe_fmtS (pv 5) (pe_joined1 pe_str) (by decide +kernel)) (.cons pe_str (.cons (FmtS.pe_fmtS (pv 6) (pe_joined1 pe_str) (by decide +kernel)) (.cons pe_str (.cons (FmtS.pe_fmtS (pv 7) (pe_joined1 pe_str) (by decide +kernel)) (.cons pe_str (.cons (FmtS.pe_fmtS (pv 8) (pe_joined1 pe_str) (by decide +kernel)) .nil)))))))) pa_nil))))))
      (pss_one (ps_ret (pe_join pe_str (pv 4)))))), ?_⟩
    refine ⟨_, rfl, _, rfl, _, rfl, p, xs, v, sv, d, rfl, hR, hw, hz, kn, hd, sd, h1, h2, fun i r ei er hi z gs H1 s1 nz ez hG => ?_⟩
    subst ei er
    refine nm_of ?_
    refine ⟨by show 0 ≤ sizeLine; decide, fun q nq => ?_⟩
    refine nm_of ?_
    have sameH1 := same_new (o := .lst []) nq
    have s2 := s1.trans (same_new (o := .lst []) nq)
    have ez2 := same_new (o := .lst []) nq _ _ ez
    have eq2 : (upd H1 q (.lst [])) q = some (.lst ((linesOf xs gs 0).map V.str)) := upd_same
    generalize upd H1 q (.lst []) = H2 at s2 ez2 eq2 sameH1 ⊢
    have zq : z ≠ q := fun e => by rw [e, eq2] at ez2; cases ez2
    refine ⟨_, rfl, p, dx, _, rfl, s2 _ _ ep, p, xs, rfl, hR.same s2, fun t us hT hS => ?_⟩
    refine ⟨t, us, rfl, hT, for_it (Own.walk_item (K := K) (a := t) (xs := us)) (fun j σ G => ∃ (s5 s6 s7 s8 : Option V), σ = [some (.ref p), some (.int (i : Nat)), some (.str (sideS r)), some (.ref z), some (.ref q), s5, s6, s7, s8] ∧
      But q H2 G ∧ G q = some (.lst ((linesOf xs gs j).map V.str))) ?_ ?_ ?_ ?_⟩
    · exact ⟨none, none, none, none, rfl, fun _ _ _ e => e, eq2⟩
    · rintro j σ G _ ⟨_, _, _, _, _, sm, _⟩
      exact sqT_but hT eq2 sm
    · rintro j v σ G G' hj ⟨s5, s6, s7, s8, rfl, sm, eq⟩ ⟨T, y, zz, rfl, nT, rfl, e1, e2⟩
      obtain rfl : y = V.int (j : Int) := (Option.some.inj e1).symm
      have hjx : j < xs.length := by rw [← hS.1]; exact hj
      obtain ⟨x, hx⟩ : ∃ x, xs[j]? = some x := ⟨xs[j], by simp [hjx]⟩
      obtain ⟨c, hc, hsc⟩ := hS.2 j x hx
      obtain rfl : zz = V.ref c := Option.some.inj (e2.symm.trans hc)
      have sT := sm.trans (Same.but (same_new (o := .tup [V.int (j : Int), V.ref c]) nT) q)
      have eqT := same_new (o := .tup [V.int (j : Int), V.ref c]) nT _ _ eq
      have eT : SqT K (upd G T (.tup [V.int (j : Int), V.ref c])) T [V.int (j : Int), V.ref c] := SqT.of upd_same
      generalize upd G T (.tup [V.int (j : Int), V.ref c]) = G1 at sT eqT eT ⊢
      refine ⟨T, _, rfl, eT, rfl, _, _, rfl, _, _, rfl, c, _, rfl, sqT_but hsc eq2 sT, rfl, _, _, rfl, _, _, rfl, rfl, rfl, ?_⟩
      dsimp only
      show tSeq _ _ _ _ _
      refine seq_of (asg_of ?_)
      have ndg : (gs.map (·.1)).Nodup := (List.pairwise_map.mpr hG.up).imp fun {a b} h => Nat.ne_of_lt h
      have eg : G1 z = some (.dK (kvs gs)) := sT _ _ zq ez2
      have xe : xs.getD j (0, 0) = x := by rw [List.getD_eq_getElem?_getD, hx]; rfl
      obtain ⟨_, _, w1, w2, w3⟩ := hw.get hx
      have w0 : 0 ≤ x.1 := hw.low hx
      have fJ : FmtS.FmtOf (Str.ofString ">2") (.int (j : Int)) (TxtG.T (TxtG.fillL 2 (FmtS.digs (j : Int)))) := .inl ⟨(j : Int), 2, false, rfl, log_small (by omega) (by omega), FmtS.spec2, by rw [TxtG.fld_fill 2 (by omega), TxtG.dsOf_plain]⟩
      have fP : FmtS.FmtOf (Str.ofString ">13,") (.int x.1) (TxtG.T (TxtG.fillL 13 (TxtG.comT x.1))) := .inl ⟨x.1, 13, true, rfl, log_small (by omega) (by omega), FmtS.spec13, by rw [TxtG.fld_fill 13 (by omega), TxtG.dsOf_com]⟩
      have fH : FmtS.FmtOf (Str.ofString ">13,") (.int x.2) (TxtG.T (TxtG.fillL 13 (TxtG.comT x.2))) := .inl ⟨x.2, 13, true, rfl, log_small (by omega) (by omega), FmtS.spec13, by rw [TxtG.fld_fill 13 (by omega), TxtG.dsOf_com]⟩
      have fT : FmtS.FmtOf (Str.ofString ">3") ((valV (kvs gs) (Sum.inl (j : Int) : Key)).getD (.str (Str.ofString "-"))) (TxtG.T (TxtG.fillL 3 (tickL gs j))) := by
        unfold tickL
        rcases valV_cases ndg j with ⟨u, hu, e⟩ | ⟨_, e⟩
        · rw [e]
          have := tick_small ((hG.has j u).mp hu)
          rw [List.length_range] at this
          exact .inl ⟨(u : Int), 3, false, rfl, log_small (by omega) (by omega), FmtS.spec3, by rw [TxtG.fld_fill 3 (by omega), TxtG.dsOf_plain]⟩
        · rw [e]
          refine .inr ⟨TxtG.T [45], 3, by rw [← lit_no]; rfl, by decide, FmtS.spec3s, ?_⟩
          exact (TxtG.padded_fill 3 [45]).symm
      have tl := tickL_len hG hz j
      have lJ := TxtG.fillL_len 2 (FmtS.digs (j : Int))
      have lP := TxtG.fillL_len 13 (TxtG.comT x.1)
      have lH := TxtG.fillL_len 13 (TxtG.comT x.2)
      have lT := TxtG.fillL_len 3 (tickL gs j)
      have mJ := TxtG.digs_len (a := (j : Int)) (by omega) (by omega)
      have mP := TxtG.comT_len w0 (by omega)
      have mH := TxtG.comT_len (a := x.2) (by omega) (by omega)
      have bnd : ∀ n : Nat, n ≤ 200 → n ≤ sizeLine := fun n h => Nat.le_trans h (by decide)
      have bT : ∀ l : List Nat, l.length ≤ 200 → (TxtG.T l).length ≤ sizeLine := fun l h => by rw [TxtG.T_len]; exact bnd _ h
      refine ⟨_, rfl, z, rfl, (.inl ⟨kvs gs, .inl eg⟩), _, rfl, _, .inl ⟨kvs gs, Sum.inl (j : Int), .inl eg, rfl, rfl⟩, ?_⟩
      refine nm_of ?_
      refine ⟨_, rfl, .inl ⟨rfl, _, SqL.of eqT⟩, ?_⟩
      refine ⟨_, rfl, _, fJ, bT _ (by omega), _, rfl, ?_, ?_⟩
      · simp only [TxtG.T_nil, lit_sp, TxtG.T_app, TxtG.T_len, List.length_append, List.length_nil, List.length_singleton]
        exact bnd _ (by omega)
      refine ⟨_, rfl, ?_, _, rfl, _, fP, bT _ (by omega), _, rfl, ?_, ?_⟩
      · simp only [TxtG.T_nil, lit_sp, TxtG.T_app, TxtG.T_len, List.length_append, List.length_nil, List.length_singleton]
        exact bnd _ (by omega)
      · simp only [TxtG.T_nil, lit_sp, TxtG.T_app, TxtG.T_len, List.length_append, List.length_nil, List.length_singleton]
        exact bnd _ (by omega)
      refine ⟨_, rfl, ?_, _, rfl, _, fH, bT _ (by omega), _, rfl, ?_, ?_⟩
      · simp only [TxtG.T_nil, lit_sp, TxtG.T_app, TxtG.T_len, List.length_append, List.length_nil, List.length_singleton]
        exact bnd _ (by omega)
      · simp only [TxtG.T_nil, lit_sp, TxtG.T_app, TxtG.T_len, List.length_append, List.length_nil, List.length_singleton]
        exact bnd _ (by omega)
      refine ⟨_, rfl, ?_, _, rfl, _, fT, bT _ (by omega), _, rfl, ?_, ?_⟩
      · simp only [TxtG.T_nil, lit_sp, TxtG.T_app, TxtG.T_len, List.length_append, List.length_nil, List.length_singleton]
        exact bnd _ (by omega)
      · simp only [TxtG.T_nil, lit_sp, TxtG.T_app, TxtG.T_len, List.length_append, List.length_nil, List.length_singleton]
        exact bnd _ (by omega)
      have eL : Str.empty ++ TxtG.T (TxtG.fillL 2 (FmtS.digs (j : Int))) ++ Str.ofString " " ++ TxtG.T (TxtG.fillL 13 (TxtG.comT x.1)) ++ Str.ofString " " ++ TxtG.T (TxtG.fillL 13 (TxtG.comT x.2)) ++ Str.ofString " " ++ TxtG.T (TxtG.fillL 3 (tickL gs j)) = lineOf xs gs j := by
        unfold lineOf TxtG.lineT
        rw [xe]
        simp only [TxtG.T_nil, lit_sp, TxtG.T_app, List.nil_append, List.append_assoc]
      rw [eL]
      refine ⟨q, _, _, rfl, rfl, eqT, ?_, ?_⟩
      · rw [List.length_map, linesOf_len]
        exact bnd _ (by omega)
      · refine ⟨_, _, _, _, rfl, sT.trans but_upd, ?_⟩
        rw [upd_same, linesOf_succ, List.map_append]
        rfl
    · rintro σ G ⟨s5, s6, s7, s8, rfl, sm, eq⟩
      refine ⟨⟨_, rfl⟩, _, rfl, _, q, linesOf xs gs xs.length, rfl, rfl, .inl ?_, ?_, ?_⟩
      · rw [← hS.1]
        exact SqL.of eq
      · have l1 : (linesOf xs gs xs.length).length = xs.length := linesOf_len
        have l2 : ∀ (ys : List Str), (∀ y ∈ ys, y.length ≤ 200) → (ys.map (·.length)).sum ≤ 200 * ys.length := by
          intro ys
          induction ys with
          | nil => intro _; simp
          | cons y ys ih =>
            intro h
            have := h y (by simp)
            have := ih fun z hz => h z (by simp [hz])
            simp
            omega
        have l3 := l2 (linesOf xs gs xs.length) fun y hy => by
          obtain ⟨n, hn, rfl⟩ := List.mem_map.mp hy
          have hn := List.mem_range.mp hn
          obtain ⟨x, hx⟩ : ∃ x, xs[n]? = some x := ⟨xs[n], by simp [hn]⟩
          have xe : xs.getD n (0, 0) = x := by rw [List.getD_eq_getElem?_getD, hx]; rfl
          obtain ⟨_, _, w1, w2, w3⟩ := hw.get hx
          have w0 : 0 ≤ x.1 := hw.low hx
          have tl := tickL_len hG hz n
          unfold lineOf
          rw [xe]
          exact TxtG.lineT_len (by omega) w0 w1 (by omega) w3 (by omega)
        rw [l1] at l3 ⊢
        have : (Str.ofString "\n").length = 1 := by decide +kernel
        rw [this]
        omega
      · exact k i r rfl rfl hi gs G (fun c o e => sm c o (ne_of_none (s1 c o e) nq) (sameH1 c o (s1 c o e))) hG
end
/-! ### _law_great, _law_number -/
def spGreat (K : PySem.W.Frag) : Sp := fun vs H Q _ => ∃ (L a : Addr) (ns : List Int) (m : Int), vs = [.ref L, .int m] ∧ 0 < m ∧ Drw K H L a ns ∧
  ∀ (n : Int) (H' : Hp), 0 ≤ n → n < m → Drw K H' L a ns → But L H H' → Q (.int n) H'
def isDig (c : Nat) : Bool := decide (48 ≤ c ∧ c ≤ 57)
def spNumb : Sp := fun vs H Q _ => ∃ l : List Nat, vs = [.str (TxtG.T l)] ∧ l.length ≤ 600 ∧ (l.filter isDig = [] → ∀ H', Same H H' → Q .non H') ∧ ∀ n, l.filter isDig ≠ [] → PySem.intText? (TxtG.T (l.filter isDig)) = some n → ∀ H', Same H H' → Q (.int n) H'
theorem lit_digits : ("0123456789" : Str) = TxtG.T [48, 49, 50, 51, 52, 53, 54, 55, 56, 57] := by decide +kernel
theorem lit_empty : Str.ofString "" = TxtG.T [] := by decide +kernel
theorem in_digits (c : Nat) : (!(Builtin.Str.occurrences (TxtG.T [48, 49, 50, 51, 52, 53, 54, 55, 56, 57]) ⟨#[c]⟩ 0 (TxtG.T [48, 49, 50, 51, 52, 53, 54, 55, 56, 57]).length 1).isEmpty) = isDig c := by
  rw [StrLaws.found_one, SplS.T_cps]
  unfold isDig
  by_cases h : 48 ≤ c ∧ c ≤ 57
  · rw [decide_eq_true h]
    refine decide_eq_true ?_
    obtain ⟨h1, h2⟩ := h
    simp
    omega
  · rw [decide_eq_false h]
    refine decide_eq_false fun z => h ?_
    simp at z
    omega
theorem join_nil : ∀ l : List (List Nat), Txt.join (TxtG.T []) (l.map TxtG.T) = TxtG.T l.flatten := by
  intro l
  show Builtin.Str.glued _ _ = _
  rw [StrLaws.glued_eq_join]
  induction l with
  | nil => rfl
  | cons a l ih =>
    cases l with
    | nil => show TxtG.T a = _; simp
    | cons b l =>
      show TxtG.T a ++ TxtG.T [] ++ PySem.Str.join (TxtG.T []) ((b :: l).map TxtG.T) = _
      rw [ih, TxtG.T_app, TxtG.T_app]
      simp
def figD (figs : List Nat) : PyData := .list (figs.map fun c => PyData.str (TxtG.T [c]))
theorem fig_all {K : PySem.W.Frag} {H : Hp} : ∀ figs : List Nat, DpAll K H ((((figs.map fun c => [c]).map TxtG.T).map V.str)) (figs.map fun c => PyData.str (TxtG.T [c]))
  | [] => .nil
  | c :: figs => .cons (.str _) (fig_all figs)
theorem fig_ok : ∀ c, c < 58 → PyData.canLay0 (.str (TxtG.T [c])) = true := by decide +kernel
theorem fig_lay : ∀ figs : List Nat, (∀ c ∈ figs, isDig c = true) → PyData.canLayAll0 (figs.map fun c => PyData.str (TxtG.T [c])) = true
  | [], _ => by simp [PyData.canLayAll0]
  | c :: figs, h => by
    have h1 : c < 58 := by have := of_decide_eq_true (h c (by simp)); omega
    show (PyData.canLay0 (.str (TxtG.T [c])) && PyData.canLayAll0 (figs.map fun c => PyData.str (TxtG.T [c]))) = true
    rw [fig_ok c h1, fig_lay figs fun x hx => h x (by simp [hx])]
    rfl
theorem fig_deep : ∀ figs : List Nat, PyData.depthAll (figs.map fun c => PyData.str (TxtG.T [c])) ≤ 1
  | [] => by simp [PyData.depthAll]
  | c :: figs => by
    have := fig_deep figs
    simp only [List.map_cons, PyData.depthAll, PyData.depth]
    omega
theorem figD_shaped {figs : List Nat} (h : ∀ c ∈ figs, isDig c = true) : SeqAt.shaped (figD figs) = true := by
  show (PyData.canLay0 (figD figs) && decide (PyData.depth (figD figs) ≤ 64)) = true
  rw [Bool.and_eq_true]
  have := fig_deep figs
  refine ⟨by unfold figD; simp only [PyData.canLay0]; exact fig_lay figs h, decide_eq_true ?_⟩
  unfold figD
  simp only [PyData.depth]
  omega
section
variable {P : Program} {w : World} {K : PySem.W.Frag} {mg : Str → Option Value} {base : Heap}
theorem ok_great {f g : Addr} {fd gd : FuncData} (F : Fun K "_law_great" "_law_great" s_law_great f fd) (B : Blt mg) (N : At P w K mg base CX0 1 "_law_taken" ["_law_row_here", "_law_many"] (spTaken K) g gd) : FnOk P w K mg base CX0 2 f fd ["_law_row_here", "_law_many"] (spGreat K) := by
  refine F.ok sc_law_great (fun vs H Q E h => ?_) (fun cdv A outer s H vs Q E hr h => ?_)
  · obtain ⟨L, a, ns, m, rfl, _⟩ := h
    rfl
  · obtain ⟨L, a, ns, m, rfl, m0, D, k⟩ := h
    refine ⟨_, pss_one (ps_ret (pe_op op_mod (pe_callTy (call_int1) (by rfl) B.int boot_int (pa_cons (pe_op op_add (pe_op op_mul (pe_at N hr (pa_cons (pv 0) (pa_cons (pe_op op_pow pe_int pe_int) pa_nil))) (pe_op op_pow pe_int pe_int)) (pe_at N hr (pa_cons (pv 0) (pa_cons (pe_op op_pow pe_int pe_int) pa_nil)))) pa_nil)) (pv 1))), ?_⟩
    have e10 : (10 : Int) ^ (9 : Int).toNat = 1000000000 := by decide
    refine ⟨_, rfl, _, _, rfl, rfl, ⟨by decide, by decide⟩, L, a, ns, _, rfl, by decide, by decide, D, fun n1 H1 n10 n11 D1 b1 => ?_⟩
    refine ⟨_, _, rfl, rfl, ⟨by decide, by decide⟩, _, _, rfl, rfl, .inr ⟨by decide, by decide⟩, ?_⟩
    refine ⟨_, rfl, _, _, rfl, rfl, ⟨by decide, by decide⟩, L, a, ns, _, rfl, by decide, by decide, D1, fun n2 H2 n20 n21 D2 b2 => ?_⟩
    refine ⟨_, _, rfl, rfl, .inl ⟨_, rfl, _, rfl, _, _, rfl, rfl, m0, ?_⟩⟩
    exact k _ _ (Int.emod_nonneg _ (by omega)) (Int.emod_lt_of_pos _ m0) D2 (b1.trans b2)
theorem ok_numb {f : Addr} {fd : FuncData} (F : Fun K "_law_number" "_law_number" s_law_number f fd) (B : Blt mg) : FnOk P w K mg base CX0 1 f fd ["_law_text"] spNumb := by
  refine F.ok sc_law_number (fun vs H Q E h => ?_) (fun cdv A outer s H vs Q E hr h => ?_)
  · obtain ⟨l, rfl, _⟩ := h
    rfl
  · obtain ⟨l, rfl, hz, k0, k1⟩ := h
    have hu64 := hr.units
    refine ⟨_, pss_cons (ps_setLc (i := 1) (own := [("_law_sign", 2)]) (g := gName 2) rfl sc_law_number.nd rfl rfl (sw_true rfl rfl rfl (by decide +kernel)) (pi_str (pv 0)) (blkOk_by (N := n_law_number) (sc := defScope s_law_number) (by decide +kernel))
          (fun _ _ _ _ _ => pg_name (i := 2) sc_law_number.nd rfl (Or.inl rfl)) (fun _ _ _ _ _ => pts_one (pt_cmpR op_in_str (pv 2) pe_str (by rfl))) (fun _ _ _ _ _ => pv 2))
      (pss_one (ps_ret (pe_ifExp (pt_cmpR (op_neD hu64) (pv 1) (pe_lst pa_nil) (nomark _)) (pe_callTy (call_int_str) (by rfl) B.int boot_int (pa_cons (pe_join pe_str (pv 1)) pa_nil)) pe_non))), ?_⟩
    refine ⟨_, rfl, _, rfl, fun D nD => ?_⟩
    have hs : (TxtG.T l).cps.size = l.length := by show l.toArray.size = _; simp
    refine lc_fm (walk_str (z := TxtG.T l)) l isDig (fun c => c) (fun _ v (c : Nat) => v = V.str (TxtG.T [c])) hs.symm (by rw [hs]; omega) nD (fun _ _ _ _ _ _ _ q => q) (fun _ _ => True.intro) ?_ ?_
    · rintro n c v G G' N' M' hp sm _ ⟨rfl, c', hc, rfl⟩ no go
      obtain rfl : c = c' := by
        have e : (TxtG.T l).cps[n]? = l[n]? := by show l.toArray[n]? = _; simp
        rw [e, hp] at hc
        exact Option.some.inj hc
      refine ⟨rfl, _, rfl, _, _, rfl, rfl, _, rfl, ?_⟩
      rw [lit_digits, in_digits]
      cases hd : isDig c with
      | true => exact iteT ⟨_, rfl, go _ _ hd (Same.refl _) rfl⟩
      | false => exact iteF (no _ hd (Same.refl _))
    · intro G ys sm eD rel
      rw [List.map_id'] at rel
      have e := paired_eq (fun c : Nat => V.str (TxtG.T [c])) rel
      have eys : ys = ((((l.filter isDig).map fun c => [c]).map TxtG.T).map V.str) := by
        rw [e, List.map_map, List.map_map]
        rfl
      refine nm_of ?_
      dsimp only
      refine ⟨_, rfl, by show 0 ≤ sizeLine; decide, fun q nq => ?_⟩
      have sq := same_new (o := .lst []) nq
      have eD2 := sq _ _ eD
      have hf : ∀ c ∈ l.filter isDig, isDig c = true := fun c hc => (List.mem_filter.mp hc).2
      have hfl : (l.filter isDig).length ≤ l.length := List.length_filter_le _ _
      generalize l.filter isDig = figs at eys hf hfl k0 k1
      refine ⟨figD figs, figD [], .lst (SqL.of eD2) (by rw [eys]; exact fig_all figs), .lst (SqL.of upd_same) .nil, figD_shaped hf, figD_shaped (fun c h => nomatch h), _, rfl, ?_⟩
      by_cases c : figs = []
      · subst c
        rw [show (!PyData.eqv (figD []) (figD [])) = false from by decide +kernel]
        exact iteF (k0 rfl _ (sm.trans sq))
      · rw [show (!PyData.eqv (figD figs) (figD [])) = true from by
          cases figs with
          | nil => exact absurd rfl c
          | cons a l => rfl]
        refine iteT ?_
        refine ⟨⟨_, rfl⟩, _, rfl, _, D, (figs.map fun c => [c]).map TxtG.T, rfl, rfl, .inl (SqL.of (by rw [eD2, eys])), ?_, ?_⟩
        · have e0 : (Str.ofString "").length = 0 := by decide +kernel
          have : ∀ gs : List Nat, (((gs.map fun c => [c]).map TxtG.T).map (·.length)).sum = gs.length := by
            intro gs
            induction gs with
            | nil => rfl
            | cons g gs ih =>
              simp [TxtG.T_len] at ih ⊢
              omega
          rw [e0, this]
          omega
        · rw [lit_empty, join_nil]
          have e1 : (figs.map fun c => [c]).flatten = figs := by
            clear hf hfl k0 k1 eys c eD eD2
            induction figs with
            | nil => rfl
            | cons a l ih =>
              show [a] ++ (l.map fun c => [c]).flatten = a :: l
              rw [ih]
              rfl
          rw [e1]
          have hd : NumText.AllDigits (TxtG.T figs).cps.toList := by
            rw [SplS.T_cps]
            intro x hx
            exact of_decide_eq_true (hf x hx)
          have e2 := PySem.intText_digits hd (by rw [SplS.T_cps]; exact c) (by rw [TxtG.T_len]; omega)
          exact ⟨_, _, rfl, e2, by rw [TxtG.T_len]; omega, k1 _ c e2 _ (sm.trans sq)⟩
end
/-! ### check_number -/
def spCheckNum : Sp := fun vs H Q _ => ∃ (i lo hi : Int), vs = [.int i, .int lo, .int hi] ∧ lo ≤ i ∧ i ≤ hi ∧ Q .non H
section
variable {P : Program} {w : World} {K : PySem.W.Frag} {mg : Str → Option Value} {base : Heap}
theorem ok_checkNum {f g : Addr} {fd gd : FuncData} (F : Fun K "check_number" "check_number" s_check_number f fd) (N : At P w K mg base CX0 1 "is_number" ["value", "least", "greatest"] (spNum K) g gd) :
    FnOk P w K mg base CX0 2 f fd ["value", "least", "greatest"] spCheckNum := by
  refine F.ok sc_check_number (fun vs H Q E h => ?_) (fun cdv A outer s H vs Q E hr h => ?_)
  · obtain ⟨i, lo, hi, rfl, _⟩ := h
    rfl
  · obtain ⟨i, lo, hi, rfl, h1, h2, h⟩ := h
    refine ⟨_, pss_one (ps_if (pt_not (pt_val (pe_at N hr (pa_cons (pv 0) (pa_cons (pv 1) (pa_cons (pv 2) pa_nil)))))) (pss_one ps_never) pss_nil), ?_⟩
    refine ⟨_, rfl, _, rfl, _, rfl, _, _, _, rfl, True.intro, _, rfl, ?_⟩
    have e : numB (.int i) lo hi = true := by
      show (decide (lo ≤ i) && decide (i ≤ hi)) = true
      simp; omega
    rw [e]
    exact iteF h
end
/-! ### stones and places of a row, distances, stones that reach -/
def spItem (K : PySem.W.Frag) (C : Addr) : Sp := fun vs H Q _ => ∃ (p : Addr) (xs : List (Int × Int)) (i : Nat) (x : Int × Int), vs = [.ref p, .int (i : Nat)] ∧ RowAt K C H p xs ∧ xs[i]? = some x ∧ ∀ a, SqT K H a [.int x.1, .int x.2] → Q (.ref a) H
def plV (xs : List (Int × Int)) : List V := xs.map fun x => V.int x.1
def spPlaces (K : PySem.W.Frag) (C : Addr) : Sp := fun vs H Q _ => ∃ (p : Addr) (xs : List (Int × Int)), vs = [.ref p] ∧ RowAt K C H p xs ∧ xs.length ≤ 40 ∧ ∀ z H', Same H H' → H z = none → H' z = some (.tup (plV xs)) → Q (.ref z) H'
theorem pl_get {xs : List (Int × Int)} {a : Nat} (h : a < xs.length) : atI (plV xs) ((a : Nat) : Int) = some (.int (pl xs a)) := by
  refine atI_nat ?_
  unfold plV pl
  rw [List.getElem?_map]
  simp [List.getD, h]
theorem filter_all {α : Type} (l : List α) : l.filter (fun _ => true) = l := List.filter_eq_self.mpr fun _ _ => rfl
section
variable {P : Program} {w : World} {K : PySem.W.Frag} {mg : Str → Option Value} {base : Heap}
theorem ok_item {f C g1 : Addr} {fd d1 : FuncData} (F : Fun K "__getitem__" "Row.__getitem__" s_Row_getitem f fd) (B : Blt mg) (R : RowC K mg C) (N1 : At P w K mg base CX0 2 "check_stone" ["stone", "count"] spCheckStone g1 d1) :
    FnOk P w K mg base CX0 3 f fd ["self", "stone"] (spItem K C) := by
  refine F.ok sc_Row_getitem (fun vs H Q E h => ?_) (fun cdv A outer s H vs Q E hr h => ?_)
  · obtain ⟨p, xs, i, x, rfl, _⟩ := h
    rfl
  · obtain ⟨p, xs, i, x, rfl, ⟨dx, t, us, ep, hT, hS⟩, hx, k⟩ := h
    refine ⟨_, pss_cons (ps_expr (pe_at N1 hr (pa_cons (pv 1) (pa_cons (pe_callB call_len_seq (by rfl) B.len PySem.boot_len (pa_cons (pe_fld (pv 0) rfl) pa_nil)) pa_nil))))
      (pss_one (ps_ret (pe_ix ix_tup (pe_fld (pv 0) rfl) (pv 1) (fun _ _ => rfl)))), ?_⟩
    obtain ⟨a, ha, sa⟩ := hS.2 i x hx
    have hi := (List.getElem?_eq_some_iff.mp hx).1
    refine ⟨_, rfl, _, rfl, p, C, dx, _, _, rfl, ep, R.cl, R.nS, rfl, t, us, rfl, .inr hT, ?_⟩
    refine ⟨i, xs.length, by rw [hS.1]; rfl, hi, ?_⟩
    exact ⟨_, rfl, p, C, dx, _, _, rfl, ep, R.cl, R.nS, rfl, _, rfl, t, us, ((i : Nat) : Int), _, rfl, rfl, hT, atI_nat ha, k a sa⟩
theorem ok_places {f C : Addr} {fd : FuncData} (F : Fun K "places" "Row.places" s_Row_places f fd) (B : Blt mg) (R : RowC K mg C) : FnOk P w K mg base CX0 1 f fd ["self"] (spPlaces K C) := by
  refine F.ok sc_Row_places (fun vs H Q E h => ?_) (fun cdv A outer s H vs Q E hr h => ?_)
  · obtain ⟨p, xs, rfl, _⟩ := h
    rfl
  · obtain ⟨p, xs, rfl, ⟨dx, t, us, ep, hT, hS⟩, hz, k⟩ := h
    refine ⟨_, pss_one (ps_ret (pe_tupleOf (by rfl) B.tuple (pe_lc (own := [("place", 1), ("_", 2)]) (g := gTup K 2 (gCons (gName 1) (gCons (gName 2) gNil))) (tt := tYes) rfl sc_Row_places.nd (pi_tup (pe_fld (pv 0) rfl)) (blkOk_by (N := n_Row_places) (sc := defScope s_Row_places) (by decide +kernel))
        (fun _ _ _ _ _ => (show PG _ _ (gTup K 2 (gCons (gName 1) (gCons (gName 2) gNil))) from pg_tup rfl (pgs_cons (pg_name (i := 1) sc_Row_places.nd rfl (Or.inl rfl)) (pgs_cons (pg_name (i := 2) sc_Row_places.nd rfl (Or.inl rfl)) pgs_nil)))) (fun _ _ _ _ _ => pts_nil) (fun _ _ _ _ _ => pv 1)))), ?_⟩
    refine ⟨_, rfl, p, C, dx, _, _, rfl, ep, R.cl, R.nS, rfl, t, rfl, ⟨_, hT⟩, fun D nD => lc_fm (walk_tup (K := K) (a := t) (xs := us)) xs (fun _ => true) (fun x => x.1) (fun _ v n => v = V.int n) hS.1.symm (by rw [hS.1]; omega) nD (fun _ _ _ _ _ _ _ q => q) (fun _ e => sqT_same hT e) ?_ ?_⟩
    · rintro n x v G G' N M hp sm _ ⟨rfl, hx⟩ _ go
      obtain ⟨a, ha, sa⟩ := hS.2 n x hp
      obtain rfl : v = .ref a := Option.some.inj (hx.symm.trans ha)
      exact ⟨a, _, rfl, sqT_same sa sm, rfl, _, _, rfl, _, _, rfl, rfl, rfl, _, rfl, go _ _ rfl (Same.refl _) rfl⟩
    · intro G ys sm eD rel
      rw [filter_all] at rel
      have e := paired_eq (fun n : Int => V.int n) rel
      rw [List.map_map] at e
      refine .inl ⟨D, ys, rfl, SqL.of eD, fun q nq => k q _ (sm.trans (same_new nq)) (Same.free sm nq) ?_⟩
      rw [upd_same, e]
      rfl
end
/-! ### rows without one stone, moved rows, places of a row -/
def pk (xs : List (Int × Int)) (L : List Nat) : List (Int × Int) := L.map fun k => xs.getD k (0, 0)
theorem pk_len {xs : List (Int × Int)} {L : List Nat} : (pk xs L).length = L.length := by unfold pk; rw [List.length_map]
theorem pk_get {xs : List (Int × Int)} {L : List Nat} {k m : Nat} (h : L[k]? = some m) (hm : m < xs.length) : (pk xs L)[k]? = xs[m]? := by
  unfold pk
  rw [List.getElem?_map, h]
  simp [List.getD, hm]
theorem pk_all (xs : List (Int × Int)) : pk xs (List.range xs.length) = xs := by
  apply List.ext_getElem?
  intro k
  by_cases h : k < xs.length
  · rw [pk_get (m := k) (by simp [h]) h]
  · rw [List.getElem?_eq_none (by rw [pk_len]; simpa using h), List.getElem?_eq_none (by omega)]
theorem stones_pk {K : PySem.W.Frag} {H : Hp} {us ys : List V} {xs : List (Int × Int)} {L : List Nat} (h : StonesAt K H us xs) (bd : ∀ k ∈ L, k < xs.length) (rel : Paired (fun v i => us[i]? = some v) ys L) : StonesAt K H ys (pk xs L) := by
  refine ⟨by rw [pk_len]; exact paired_len rel, fun k x hk => ?_⟩
  have hl : k < L.length := by have := (List.getElem?_eq_some_iff.mp hk).1; rwa [pk_len] at this
  have ek : L[k]? = some L[k] := by simp [hl]
  obtain ⟨v, hv, hu⟩ := paired_at rel ek
  rw [pk_get ek (bd _ (List.getElem_mem hl))] at hk
  obtain ⟨a, ha, sa⟩ := h.2 _ x hk
  rw [ha] at hu
  exact ⟨a, by rw [hv]; exact hu.symm, sa⟩
theorem wf_pk {xs : List (Int × Int)} {M : List Nat} (h : Wf 0 xs) (s : M.Sublist (List.range xs.length)) : Wf 0 (pk xs M) := by
  have := s.map fun k => xs.getD k (0, 0)
  have e : (List.range xs.length).map (fun k => xs.getD k (0, 0)) = xs := pk_all xs
  rw [e] at this
  exact h.sublist this
theorem pk_erase {xs ys : List (Int × Int)} {y : Int × Int} : pk (xs ++ y :: ys) ((List.range (xs ++ y :: ys).length).filter fun i => decide (i ≠ xs.length)) = xs ++ ys := by
  have e : (List.range (xs ++ y :: ys).length).filter (fun i => decide (i ≠ xs.length)) = List.range xs.length ++ (List.range ys.length).map (fun k => xs.length + 1 + k) := by
    have : (xs ++ y :: ys).length = xs.length + (1 + ys.length) := by simp; omega
    rw [this, List.range_add, List.filter_append]
    congr 1
    · refine List.filter_eq_self.mpr fun k hk => ?_
      have := List.mem_range.mp hk
      simp
      omega
    · rw [List.range_add, List.map_append, List.filter_append]
      have e1 : (List.map (fun x => xs.length + x) (List.range 1)).filter (fun i => decide (i ≠ xs.length)) = [] := by simp
      rw [e1, List.nil_append, List.map_map]
      refine (List.filter_eq_self.mpr fun k hk => ?_).trans (List.map_congr_left fun k _ => by show xs.length + (1 + k) = _; omega)
      obtain ⟨m, _, rfl⟩ := List.mem_map.mp hk
      show decide (xs.length + (1 + m) ≠ xs.length) = true
      exact decide_eq_true (by omega)
  rw [e]
  unfold pk
  rw [List.map_append, List.map_map]
  congr 1
  · refine Eq.trans (List.map_congr_left fun k hk => ?_) (pk_all xs)
    have := List.mem_range.mp hk
    simp [List.getD, List.getElem?_append_left this]
  · refine Eq.trans (List.map_congr_left fun k hk => ?_) (pk_all ys)
    have := List.mem_range.mp hk
    show (xs ++ y :: ys).getD (xs.length + 1 + k) (0, 0) = ys.getD k (0, 0)
    rw [List.getD_eq_getElem?_getD, List.getD_eq_getElem?_getD, List.getElem?_append_right (by omega), show xs.length + 1 + k - xs.length = k + 1 by omega]
    rfl
theorem inV_int {j : Int} {ms : List Int} : inV (.int j) (ms.map V.int) = decide (j ∈ ms) := by
  unfold inV
  rw [List.any_map, Bool.eq_iff_iff, List.any_eq_true, decide_eq_true_eq]
  constructor
  · rintro ⟨y, hy, e⟩
    have : y = j := by simpa [eqV] using e
    exact this ▸ hy
  · intro h
    exact ⟨j, h, by simp [eqV]⟩
theorem flat_ints (ms : List Int) : (ms.map V.int).all flatV = true := by
  rw [List.all_eq_true]
  intro v hv
  obtain ⟨k, _, rfl⟩ := List.mem_map.mp hv
  rfl
theorem ivs_ints (ns : List Nat) : ivs ns = (ns.map fun (k : Nat) => (k : Int)).map V.int := by
  unfold ivs
  rw [List.map_map]
  rfl
theorem inV_ivs {j : Nat} {ns : List Nat} : inV (.int (j : Int)) (ivs ns) = decide (j ∈ ns) := by
  rw [ivs_ints, inV_int, decide_eq_decide]
  constructor
  · intro h
    obtain ⟨k, hk, e⟩ := List.mem_map.mp h
    have : k = j := by omega
    exact this ▸ hk
  · exact fun h => List.mem_map.mpr ⟨j, h, rfl⟩
theorem flat_ivs' (T : List Nat) : (ivs T).all flatV = true := by rw [ivs_ints]; exact flat_ints _
def spWithoutB (K : PySem.W.Frag) (C : Addr) : Sp := fun vs H Q _ => ∃ (p b : Addr) (xs : List (Int × Int)) (k : Nat), vs = [.ref p, .ref b] ∧ RowAt K C H p xs ∧ Wf 0 xs ∧ xs.length ≤ 40 ∧ SqT K H b [.int (k : Nat)] ∧ k < xs.length ∧
  ∀ z H', Same H H' → H z = none → RowAt K C H' z (pk xs ((List.range xs.length).filter fun i => decide (i ≠ k))) → Q (.ref z) H'
def spWithoutE (K : PySem.W.Frag) (C : Addr) : Sp := fun vs H Q E => ∃ w0 rest, vs = w0 :: rest ∧ rest.length ≤ 1000 ∧ ∀ p, H p = none → spWithoutB K C [w0, V.ref p] (upd H p (.tup rest)) Q E
theorem wf_up : ∀ {xs : List (Int × Int)} {lo lo' : Int}, Wf lo xs → (∀ x ∈ xs, lo' ≤ x.1) → Wf lo' xs
  | [], _, _, _, _ => True.intro
  | x :: xs, _, _, w, h => ⟨h x List.mem_cons_self, w.2⟩
def shR (xs : List (Int × Int)) (s : Int) : List (Int × Int) := xs.map fun x => (x.1 + s, x.2)
theorem shR_len (xs : List (Int × Int)) (s : Int) : (shR xs s).length = xs.length := by unfold shR; rw [List.length_map]
theorem wf_shR {s : Int} : ∀ {xs : List (Int × Int)} {lo : Int}, Wf lo xs → (∀ x ∈ xs, x.1 + s ≤ 1000000000) → Wf (lo + s) (shR xs s)
  | [], _, _, _ => True.intro
  | x :: xs, lo, w, h => by
    have q := wf_shR w.2.2.2.2 fun y hy => h y (List.mem_cons_of_mem _ hy)
    rw [show x.1 + 1 + s = (x.1 + s) + 1 by omega] at q
    exact ⟨by have := w.1; show lo + s ≤ x.1 + s; omega, h x List.mem_cons_self, w.2.2.1, w.2.2.2.1, q⟩
def spShiftG (K : PySem.W.Frag) (C : Addr) : Sp := fun vs H Q _ => ∃ (p : Addr) (xs : List (Int × Int)) (s : Int), vs = [.ref p, .int s] ∧ RowAt K C H p xs ∧ Wf 0 xs ∧ xs.length ≤ 40 ∧ -1000000000 ≤ s ∧ s ≤ 1000000000 ∧ Wf 0 (shR xs s) ∧
  ∀ z H', Same H H' → H z = none → RowAt K C H' z (shR xs s) → Q (.ref z) H'
section
variable {P : Program} {w : World} {K : PySem.W.Frag} {mg : Str → Option Value} {base : Heap}
theorem ok_shiftG {f g n4 C : Addr} {fd d4 : FuncData} (F : Fun K "__rshift__" "Row.__rshift__" s_Row_rshift f fd) (R : RowC K mg C) (L : Lims mg) (M : Mk K C g) (G : FnR P w K mg base CX0 3 g (spMake K C)) (N4 : At P w K mg base CX0 2 "check_number" ["value", "least", "greatest"] spCheckNum n4 d4) :
    FnOk P w K mg base CX0 5 f fd ["self", "distance"] (spShiftG K C) := by
  obtain ⟨⟨tp, mp⟩, _⟩ := id L
  refine F.ok sc_Row_rshift (fun vs H Q E h => ?_) (fun cdv A outer s H vs Q E hr h => ?_)
  · obtain ⟨p, xs, s, rfl, _⟩ := h
    rfl
  · obtain ⟨p, xs, d, rfl, hR, hw, hz, h0, h1, hd, k⟩ := h
    obtain ⟨dx, t, us, ep, hT, hS⟩ := id hR
    have r2 : Room 2 _ := hr.mono (by decide)
    refine ⟨_, pss_cons (ps_expr (pe_at N4 r2 (pa_cons (pv 1) (pa_cons (pe_un un_neg (pe_glob (v := .int 1000000000) (by rfl) mp ⟨_, rfl⟩)) (pa_cons (pe_glob (v := .int 1000000000) (by rfl) mp ⟨_, rfl⟩) pa_nil)))))
      (pss_cons (ps_setLc (i := 2) (own := [("place", 3), ("height", 4)]) (g := gTup K 2 (gCons (gName 3) (gCons (gName 4) gNil))) (tt := tYes) rfl sc_Row_rshift.nd rfl rfl (sw_true rfl rfl rfl (by decide +kernel)) (pi_tup (pe_fld (pv 0) rfl)) (blkOk_by (N := n_Row_rshift) (sc := defScope s_Row_rshift) (by decide +kernel))
          (fun _ _ _ _ _ => (show PG _ _ (gTup K 2 (gCons (gName 3) (gCons (gName 4) gNil))) from pg_tup rfl (pgs_cons (pg_name (i := 3) sc_Row_rshift.nd rfl (Or.inl rfl)) (pgs_cons (pg_name (i := 4) sc_Row_rshift.nd rfl (Or.inl rfl)) pgs_nil)))) (fun _ _ _ _ _ => pts_nil)
          (fun _ _ _ _ _ => (show PE _ _ (tTup (tCons (tOp (rI0 fun i j => .int (i + j)) (tVar 3) (tVar 1)) (tCons (tVar 4) tNil))) from pe_tup (pa_cons (pe_op op_add (pv 3) (pv 1)) (pa_cons (pv 4) pa_nil)))))
      (pss_one (ps_ret (Own.pe_makeS M G hr (by rfl) R.mgC pass0 (pv 2))))), ?_⟩
    refine ⟨_, rfl, 1000000000, rfl, d, -1000000000, 1000000000, rfl, by omega, by omega, ?_⟩
    refine ⟨_, rfl, p, C, dx, _, _, rfl, ep, R.cl, R.nS, rfl, ?_⟩
    refine ⟨t, rfl, ⟨_, hT⟩, fun D nD => lc_fm (walk_tup (K := K) (a := t) (xs := us)) (shR xs d) (fun _ => true) (fun x => x) (fun G v (x : Int × Int) => ∃ a : Addr, v = .ref a ∧ SqT K G a [.int x.1, .int x.2]) (by rw [shR_len, hS.1]) (by rw [hS.1]; omega) nD (fun H H' v b acc hD bt ⟨a, h1, h2⟩ => ⟨a, h1, sqT_but h2 hD bt⟩) (fun _ e => sqT_same hT e) ?_ ?_⟩
    · rintro n y x G G' N' M' hj sm _ ⟨rfl, hxx⟩ _ go
      have hn : n < xs.length := by have := (List.getElem?_eq_some_iff.mp hj).1; rwa [shR_len] at this
      obtain ⟨y0, hy⟩ : ∃ y, xs[n]? = some y := ⟨xs[n], by simp⟩
      have ey : y = (y0.1 + d, y0.2) := by
        have e : (shR xs d)[n]? = some (y0.1 + d, y0.2) := by unfold shR; rw [List.getElem?_map, hy]; rfl
        exact Option.some.inj (hj.symm.trans e)
      subst ey
      obtain ⟨a, ha, sa⟩ := hS.2 _ _ hy
      obtain rfl : x = .ref a := Option.some.inj (hxx.symm.trans ha)
      refine ⟨a, _, rfl, sqT_same sa sm, rfl, _, _, rfl, _, _, rfl, rfl, rfl, ?_⟩
      refine ⟨_, rfl, _, rfl, _, _, rfl, rfl, _, rfl, by show 2 ≤ sizeLine; decide, fun td nt => ?_⟩
      exact go _ _ rfl (same_new nt) ⟨td, rfl, SqT.of (by rw [upd_same])⟩
    · intro G ys sm eD rel
      rw [filter_all, List.map_id'] at rel
      have sZ : StonesAt K G ys (shR xs d) := ⟨paired_len rel, fun j x h => by obtain ⟨v, hv, a, rfl, sa⟩ := paired_at rel h; exact ⟨a, hv, sa⟩⟩
      refine nm_of ?_
      exact ⟨_, rfl, D, _, rfl, .inr (SqL.of eD), make_row sZ hd (by rw [shR_len]; exact hz) fun z H' s' nz ra => k z H' (sm.trans s') (Same.free sm nz) ra⟩
theorem ok_withoutE {f g gi C : Addr} {fd gd : FuncData} (F : Fun K "without" "Row.without" s_Row_without f fd) (B : Blt mg) (R : RowC K mg C) (M : Mk K C gi) (G : FnR P w K mg base CX0 3 gi (spMake K C))
    (N : At P w K mg base CX0 2 "check_stone" ["stone", "count"] spCheckStone g gd) : FnR P w K mg base CX0 5 f (spWithoutE K C) := by
  refine star1 F sc_Row_without (fun _ _ _ _ _ _ _ => rfl) (fun _ _ _ _ _ _ _ _ _ => rfl) (fun cdv A outer s H vs Q E hr h => ?_)
  obtain ⟨p, b, xs, k, rfl, ⟨dx, t, us, hp, hT, hS⟩, hw, hz, hb, hk, h1⟩ := h
  have r2 : Room 2 _ := hr.mono (by decide)
  refine ⟨_, pss_cons (ps_set (i := 2) sc_Row_without.nd rfl (Or.inl rfl) (pe_callB call_len_seq (by rfl) B.len PySem.boot_len (pa_cons (pe_fld (pv 0) rfl) pa_nil))) (pss_cons (ps_for PassesOwn.never rfl (pi_tup (pv 1)) (pg_name (i := 3) sc_Row_without.nd rfl (Or.inl rfl))
      (pss_one (ps_expr (pe_at N r2 (pa_cons (pv 3) (pa_cons (pv 2) pa_nil))))))
    (pss_cons (ps_setLc (i := 4) (own := [("stone", 3)]) (g := gName 3) rfl sc_Row_without.nd rfl rfl (sw_true rfl rfl rfl (by decide +kernel)) (pi_range1 (by rfl) B.range (pa_cons (pv 2) pa_nil)) (blkOk_by (N := n_Row_without) (sc := defScope s_Row_without) (by decide +kernel))
        (fun _ _ _ _ _ => pg_name (i := 3) sc_Row_without.nd rfl (Or.inl rfl)) (fun _ _ _ _ _ => pts_one (show PT _ _ (tTest (tOp (rIn K true) (tVar 3) (tVar 1))) from pt_cmpR (op_notIn_seq) (pv 3) (pv 1) (by rfl))) (fun _ _ _ _ _ => (show PE _ _ (tOp (rIxT K) (tFld K (tVar 0) "_stones") (tVar 3)) from pe_ix ix_tup (pe_fld (pv 0) rfl) (pv 3) (fun _ _ => rfl))))
    (pss_one (ps_ret (Own.pe_makeS M G hr (by rfl) R.mgC pass0 (pv 4)))))), ?_⟩
  refine ⟨_, rfl, p, C, dx, _, _, rfl, hp, R.cl, R.nS, rfl, t, us, rfl, .inr hT, ?_⟩
  refine ⟨_, rfl, b, rfl, ⟨_, hb⟩, for_tup (K := K) (a := b) (xs := [V.int (k : Nat)]) (fun j sl H1 => ∃ s3 s4 : Option V, sl = [some (.ref p), some (.ref b), some (.int (us.length : Int)), s3, s4] ∧ H1 = H) ⟨_, _, rfl, rfl⟩ ?_ ?_ ?_⟩
  · rintro j sl H1 _ ⟨_, _, _, rfl⟩
    exact hb
  · rintro j v sl H1 hv ⟨s3, s4, rfl, rfl⟩
    obtain rfl : v = V.int (k : Nat) := by
      match j, hv with
      | 0, hv => exact (Option.some.inj hv).symm
      | j + 1, hv => simp at hv
    exact ⟨_, rfl, _, rfl, k, us.length, rfl, by rw [hS.1]; exact hk, _, _, rfl, rfl⟩
  · rintro sl H1 ⟨s3, s4, rfl, rfl⟩
    refine ⟨_, rfl, (us.length : Int), rfl, by rw [hS.1]; omega, by rw [hS.1]; omega, fun D nD => ?_⟩
    rw [show (us.length : Int).toNat = xs.length by rw [hS.1]; omega]
    refine lc_fm (walk_range (lo := 0) (n := xs.length)) (List.range xs.length) (fun i => decide (i ≠ k)) (fun i => i) (fun _ v i => us[i]? = some v) List.length_range (by omega) nD (fun _ _ _ _ _ _ _ q => q) (fun _ _ => True.intro) ?_ ?_
    · rintro n i x G G' N' M' hi sm _ ⟨rfl, hxx⟩ no go
      obtain rfl : x = V.int (n : Int) := hxx.trans (congrArg V.int (Int.zero_add _))
      obtain ⟨hi1, hi2⟩ := List.getElem?_eq_some_iff.mp hi
      have hn : n < xs.length := by simpa using hi1
      obtain rfl : n = i := by simpa using hi2
      obtain ⟨x, hx⟩ : ∃ x, xs[n]? = some x := ⟨xs[n], by simp [hn]⟩
      obtain ⟨a, ha, sa⟩ := hS.2 n x hx
      refine ⟨rfl, _, rfl, _, rfl, b, [V.int (k : Nat)], rfl, .inr (sqT_same hb sm), rfl, rfl, _, rfl, ?_⟩
      rw [if_pos rfl, show [V.int (k : Nat)] = ivs [k] from rfl, inV_ivs]
      by_cases c : n = k
      · rw [decide_eq_true (show n ∈ [k] by simp [c])]
        exact iteF (no _ (decide_eq_false fun z => z c) (Same.refl _))
      · rw [decide_eq_false (show ¬ n ∈ [k] by simp [c])]
        exact iteT ⟨_, rfl, p, C, dx, _, _, rfl, sm _ _ hp, R.cl, R.nS, rfl, _, rfl, t, us, ((n : Nat) : Int), _, rfl, rfl, sqT_same hT sm, atI_nat ha, go _ _ (decide_eq_true c) (Same.refl _) ha⟩
    · intro G ys sm eD rel
      rw [List.map_id'] at rel
      refine ⟨_, rfl, D, _, rfl, .inr (SqL.of eD), make_row (stones_pk (hS.same sm) (fun m hm => List.mem_range.mp (List.mem_filter.mp hm).1) rel) (wf_pk hw List.filter_sublist) ?_ fun z H' s' nz ra => h1 z H' (sm.trans s') (Same.free sm nz) ra⟩
      rw [pk_len]
      refine Nat.le_trans (List.length_filter_le _ _) ?_
      rw [List.length_range]
      exact hz
/-- places that stand in the row -/
def spHas (K : PySem.W.Frag) (C : Addr) : Sp := fun vs H Q _ => ∃ (p : Addr) (xs : List (Int × Int)) (x : Int × Int), vs = [.ref p, .int x.1] ∧ RowAt K C H p xs ∧ Wf 0 xs ∧ xs.length ≤ 40 ∧ x ∈ xs ∧ ∀ H', Same H H' → Q (.bl true) H'
theorem ok_hasR {f g1 C pP gP : Addr} {fd d1 dP : FuncData} (F : Fun K "__contains__" "Row.__contains__" s_Row_contains f fd) (B : Blt mg) (R : RowC K mg C) (L : Lims mg)
    (pr : PropOf K C "places" pP gP) (P1 : FnOk P w K mg base CX0 1 gP dP ["self"] (spPlaces K C)) (bP : Binds K dP ["self"] []) (N : At P w K mg base CX0 1 "is_number" ["value", "least", "greatest"] (spNum K) g1 d1) :
    FnOk P w K mg base CX0 3 f fd ["self", "place"] (spHas K C) := by
  obtain ⟨⟨tp, mp⟩, _⟩ := id L
  refine F.ok sc_Row_contains (fun vs H Q E h => ?_) (fun cdv A outer s H vs Q E hr h => ?_)
  · obtain ⟨p, xs, x, rfl, _⟩ := h
    rfl
  · obtain ⟨p, xs, x, rfl, hR, hw, hz, hx, k⟩ := h
    obtain ⟨dx, t, us, ep, hT, hS⟩ := id hR
    have r1 : Room 1 _ := hr.mono (by decide)
    refine ⟨_, pss_one (ps_ret (pe_and (pe_at N r1 (pa_cons (pv 1) (pa_cons (pe_int) (pa_cons (pe_glob (v := .int 1000000000) (by rfl) mp ⟨tp, rfl⟩) pa_nil)))) (pe_one (pe_cmpR (op_in_seq) (pv 1) (pe_prop (pv 0) R.cl pr P1 hr bP .nil pass0 rfl) (by rfl))))), ?_⟩
    obtain ⟨n, hn⟩ := List.getElem?_of_mem hx
    obtain ⟨_, _, w1, _, _⟩ := hw.get hn
    have w0 : 0 ≤ x.1 := hw.low hn
    refine ⟨_, rfl, _, _, _, rfl, True.intro, ?_⟩
    rw [numB_int w0 w1]
    refine ⟨_, rfl, iteT ?_⟩
    refine ⟨_, rfl, _, rfl, p, dx, _, rfl, ep, p, xs, rfl, hR, hz, fun z H' s' nz ez => ?_⟩
    refine ⟨z, _, rfl, .inr (SqT.of ez), rfl, ?_, ?_⟩
    · unfold plV
      rw [List.all_map]
      exact List.all_eq_true.mpr fun _ _ => rfl
    · have e : inV (.int x.1) (plV xs) = true := by
        have : plV xs = (xs.map (·.1)).map V.int := by unfold plV; rw [List.map_map]; rfl
        rw [this, inV_int]
        exact decide_eq_true (List.mem_map.mpr ⟨x, hx, rfl⟩)
      rw [if_neg Bool.false_ne_true, e]
      exact k _ s'
end
/-! ### the lines of a chart -/
theorem com_len3 : ∀ n w o, w.length ≤ n → (TxtG.com n w o).length ≤ w.length + o.length + (w.length - 1) / 3
  | 0, w, o, h => by
    have : w = [] := List.length_eq_zero_iff.mp (by omega)
    subst this
    simp [TxtG.com]
  | n + 1, w, o, h => by
    unfold TxtG.com
    split
    · simp
    · rename_i c
      have := com_len3 n (w.take (w.length - 3)) (44 :: (w.drop (w.length - 3) ++ o)) (by rw [List.length_take]; omega)
      rw [List.length_take, List.length_cons, List.length_append, List.length_drop] at this
      omega
theorem com_fig : ∀ n w o, (TxtG.com n w o).filter isDig = (w ++ o).filter isDig
  | 0, w, o => rfl
  | n + 1, w, o => by
    unfold TxtG.com
    split
    · rfl
    · rw [com_fig n, List.filter_append, List.filter_cons_of_neg (by decide), List.filter_append, List.filter_append, ← List.append_assoc, ← List.filter_append, List.take_append_drop]
theorem digs_fig (a : Int) : (FmtS.digs a).filter isDig = FmtS.digs a := List.filter_eq_self.mpr fun c hc => decide_eq_true (digs_all c hc)
theorem comT_fig (a : Int) : (TxtG.comT a).filter isDig = FmtS.digs a := by
  unfold TxtG.comT
  rw [com_fig, List.append_nil, digs_fig]
theorem comT_13 {a : Int} (h0 : 0 ≤ a) (h1 : a ≤ 1000000000) : (TxtG.comT a).length ≤ 13 := by
  have := TxtG.digs_len h0 (by omega)
  have := com_len3 ((FmtS.digs a).length + 1) (FmtS.digs a) [] (by omega)
  unfold TxtG.comT
  simp at this
  omega
theorem fill_fig (w : Nat) (l : List Nat) : (TxtG.fillL w l).filter isDig = l.filter isDig := by
  unfold TxtG.fillL
  rw [List.filter_append]
  have : (List.replicate ((w : Int) - (l.length : Int)).toNat 32).filter isDig = [] := by
    rw [List.filter_eq_nil_iff]
    intro c hc
    rw [List.eq_of_mem_replicate hc]
    decide
  rw [this, List.nil_append]
theorem fill_w {w : Nat} {l : List Nat} (h : l.length ≤ w) : (TxtG.fillL w l).length = w := by
  unfold TxtG.fillL
  rw [List.length_append, List.length_replicate]
  omega
theorem fill_no {w : Nat} {l : List Nat} (h : 10 ∉ l) : 10 ∉ TxtG.fillL w l := fun z => by
  unfold TxtG.fillL at z
  rcases List.mem_append.mp z with z | z
  · exact absurd (List.eq_of_mem_replicate z) (by decide)
  · exact h z
theorem com_no : ∀ n w o, 10 ∉ w → 10 ∉ o → 10 ∉ TxtG.com n w o
  | 0, w, o, h1, h2 => fun z => (List.mem_append.mp z).elim h1 h2
  | n + 1, w, o, h1, h2 => by
    unfold TxtG.com
    split
    · exact fun z => (List.mem_append.mp z).elim h1 h2
    · refine com_no n _ _ (fun z => h1 (List.mem_of_mem_take z)) fun z => ?_
      rcases List.mem_cons.mp z with z | z
      · cases z
      · rcases List.mem_append.mp z with z | z
        · exact h1 (List.mem_of_mem_drop z)
        · exact h2 z
def lineN (k : Nat) (x : Int × Int) (t : List Nat) : List Nat := TxtG.fillL 2 (FmtS.digs (k : Int)) ++ [32] ++ TxtG.fillL 13 (TxtG.comT x.1) ++ [32] ++ TxtG.fillL 13 (TxtG.comT x.2) ++ [32] ++ TxtG.fillL 3 t
theorem lineN_T (k : Nat) (x : Int × Int) (t : List Nat) : TxtG.lineT k x t = TxtG.T (lineN k x t) := rfl
theorem cutS_T (l : List Nat) (lo hi : Option Int) : cutS (TxtG.T l) lo hi = TxtG.T ((l.drop (HT.sIx l.length 0 lo)).take (HT.sIx l.length l.length hi - HT.sIx l.length 0 lo)) := by
  unfold cutS
  rw [SplS.T_cps, TxtG.T_len]
  rfl
/-- what the parts of a line are -/
structure Cuts (l A B C D : List Nat) : Prop where
  len : l.length = 34
  a : cutS (TxtG.T l) none (some 2) = TxtG.T A
  b : cutS (TxtG.T l) (some 3) (some 16) = TxtG.T B
  c : cutS (TxtG.T l) (some 17) (some 30) = TxtG.T C
  d : cutS (TxtG.T l) (some 31) none = TxtG.T D
  s1 : l[2]? = some 32
  s2 : l[16]? = some 32
  s3 : l[30]? = some 32
theorem cuts_of {A B C D : List Nat} (ha : A.length = 2) (hb : B.length = 13) (hc : C.length = 13) (hd : D.length = 3) : Cuts (A ++ [32] ++ B ++ [32] ++ C ++ [32] ++ D) A B C D := by
  have hl : (A ++ [32] ++ B ++ [32] ++ C ++ [32] ++ D).length = 34 := by simp [ha, hb, hc, hd]
  have e1 : A ++ [32] ++ B ++ [32] ++ C ++ [32] ++ D = A ++ ([32] ++ B ++ [32] ++ C ++ [32] ++ D) := by simp
  have e2 : A ++ [32] ++ B ++ [32] ++ C ++ [32] ++ D = (A ++ [32]) ++ (B ++ ([32] ++ C ++ [32] ++ D)) := by simp
  have e3 : A ++ [32] ++ B ++ [32] ++ C ++ [32] ++ D = (A ++ [32] ++ B ++ [32]) ++ (C ++ ([32] ++ D)) := by simp
  have e4 : A ++ [32] ++ B ++ [32] ++ C ++ [32] ++ D = (A ++ [32] ++ B ++ [32] ++ C ++ [32]) ++ D := by simp
  refine ⟨hl, ?_, ?_, ?_, ?_, ?_, ?_, ?_⟩
  · rw [cutS_T, hl]
    show TxtG.T ((List.drop 0 _).take 2) = _
    rw [List.drop_zero, e1, List.take_left' ha]
  · rw [cutS_T, hl]
    show TxtG.T ((List.drop 3 _).take 13) = _
    rw [e2, List.drop_left' (by simp [ha]), List.take_left' hb]
  · rw [cutS_T, hl]
    show TxtG.T ((List.drop 17 _).take 13) = _
    rw [e3, List.drop_left' (by simp [ha, hb]), List.take_left' hc]
  · rw [cutS_T, hl]
    show TxtG.T ((List.drop 31 _).take 3) = _
    rw [e4, List.drop_left' (by simp [ha, hb, hc]), List.take_of_length_le (by omega)]
  · rw [e1, List.getElem?_append_right (by omega), ha]
    rfl
  · rw [show A ++ [32] ++ B ++ [32] ++ C ++ [32] ++ D = (A ++ [32] ++ B) ++ (32 :: (C ++ [32] ++ D)) by simp, List.getElem?_append_right (by simp [ha, hb])]
    simp [ha, hb]
  · rw [show A ++ [32] ++ B ++ [32] ++ C ++ [32] ++ D = (A ++ [32] ++ B ++ [32] ++ C) ++ (32 :: D) by simp, List.getElem?_append_right (by simp [ha, hb, hc])]
    simp [ha, hb, hc]
theorem digs_2 : ∀ u : Nat, u < 100 → (FmtS.digs (u : Int)).length ≤ 2 := by
  have : ∀ u : Nat, u < 100 → (FmtS.digs (Int.ofNat u)).length ≤ 2 := by decide +kernel
  exact this
theorem chart_split {xs : List (Int × Int)} {gs : List (Nat × Nat)} (h : xs ≠ []) (ht : ∀ k, 10 ∉ tickL gs k) : Txt.split (chartT xs gs) (TxtG.T [10]) = ((List.range xs.length).map fun k => lineN k (xs.getD k (0, 0)) (tickL gs k)).map TxtG.T := by
  have e : chartT xs gs = TxtG.T (SplS.joinL 10 ((List.range xs.length).map fun k => lineN k (xs.getD k (0, 0)) (tickL gs k))) := by
    unfold chartT linesOf
    rw [← SplS.txtJoin_T, List.map_map]
    rfl
  rw [e]
  refine SplS.split_join (fun z => h (by
    have := congrArg List.length z
    simp at this
    exact this)) fun p hp => ?_
  obtain ⟨k, _, rfl⟩ := List.mem_map.mp hp
  unfold lineN
  intro z
  have n1 := fill_no (w := 2) (no_10 (a := (k : Int)))
  have n2 : ∀ a : Int, 10 ∉ TxtG.fillL 13 (TxtG.comT a) := fun a => fill_no (com_no _ _ _ no_10 (by simp))
  have n3 := fill_no (w := 3) (ht k)
  simp only [List.mem_append, List.mem_singleton] at z
  rcases z with (((((z | z) | z) | z) | z) | z) | z
  · exact n1 z
  · cases z
  · exact n2 _ z
  · cases z
  · exact n2 _ z
  · cases z
  · exact n3 z
theorem valV_same {xs : List (Int × Int)} {r : Bool} {i : Nat} {gs fs : List (Nat × Nat)} (h1 : Ticks xs r i gs) (h2 : Ticks xs r i fs) (k : Nat) : valV (kvs gs) (Sum.inl (k : Int) : Key) = valV (kvs fs) (Sum.inl (k : Int) : Key) := by
  have n1 : (gs.map (·.1)).Nodup := (List.pairwise_map.mpr h1.up).imp fun {a b} h => Nat.ne_of_lt h
  have n2 : (fs.map (·.1)).Nodup := (List.pairwise_map.mpr h2.up).imp fun {a b} h => Nat.ne_of_lt h
  rcases valV_cases n1 k with ⟨u, hu, e⟩ | ⟨hn, e⟩
  · rw [e, kvs_at n2 ((h2.has k u).mpr ((h1.has k u).mp hu))]
  · rw [e, valV_none fun u hu => hn u ((h1.has k u).mpr ((h2.has k u).mp hu))]
/-- what a chart's last column tells -/
def tickO (gs : List (Nat × Nat)) (k : Nat) : Option V := valV (kvs gs) (Sum.inl (k : Int) : Key)
theorem tick_cases {xs : List (Int × Int)} {r : Bool} {i : Nat} {gs : List (Nat × Nat)} (h : Ticks xs r i gs) (hz : xs.length ≤ 40) (k : Nat) : (∃ u : Nat, u < 100 ∧ tickO gs k = some (.int (u : Int)) ∧ tickL gs k = FmtS.digs (u : Int)) ∨ (tickO gs k = none ∧ tickL gs k = [45]) := by
  have n1 : (gs.map (·.1)).Nodup := (List.pairwise_map.mpr h.up).imp fun {a b} h => Nat.ne_of_lt h
  unfold tickO tickL
  rcases valV_cases n1 k with ⟨u, hu, e⟩ | ⟨_, e⟩
  · have := tick_small ((h.has k u).mp hu)
    rw [List.length_range] at this
    exact .inl ⟨u, by omega, e, by rw [e]⟩
  · exact .inr ⟨e, by rw [e]⟩
theorem tick_3 {xs : List (Int × Int)} {r : Bool} {i : Nat} {gs : List (Nat × Nat)} (h : Ticks xs r i gs) (hz : xs.length ≤ 40) (k : Nat) : (tickL gs k).length ≤ 3 ∧ 10 ∉ tickL gs k := by
  rcases tick_cases h hz k with ⟨u, hu, _, e⟩ | ⟨_, e⟩
  · rw [e]
    exact ⟨by have := digs_2 u hu; omega, no_10⟩
  · rw [e]
    exact ⟨by decide, by decide⟩
theorem numb_of {vs : List V} {H : Hp} {Q : VK} {E : XK} {l : List Nat} {tv : V} (hv : vs = [.str (TxtG.T l)]) (hl : l.length ≤ 600) (h0 : l.filter isDig = [] → tv = .non) (h1 : ∀ n, l.filter isDig ≠ [] → PySem.intText? (TxtG.T (l.filter isDig)) = some n → tv = .int n)
    (k : ∀ H', Same H H' → Q tv H') : spNumb vs H Q E := ⟨l, hv, hl, fun h H' s => h0 h ▸ k H' s, fun n h e H' s => h1 n h e ▸ k H' s⟩
theorem numb_num {vs : List V} {H : Hp} {Q : VK} {E : XK} {l : List Nat} {a : Int} (hv : vs = [.str (TxtG.T l)]) (hl : l.length ≤ 600) (hf : l.filter isDig = FmtS.digs a) (a0 : 0 ≤ a) (a1 : a ≤ 1000000000) (k : ∀ H', Same H H' → Q (.int a) H') : spNumb vs H Q E := by
  refine numb_of hv hl (fun h => absurd (hf.symm.trans h) (TxtG.digs_ne a)) (fun n _ e => ?_) k
  rw [hf, read_digs a0 a1] at e
  injection e with e
  rw [e]
def tV (gs : List (Nat × Nat)) (k : Nat) : V := (tickO gs k).getD .non
def tD (gs : List (Nat × Nat)) (k : Nat) : PyData := match tickO gs k with
  | some (.int u) => .int u
  | _ => .none
theorem tD_dp {K : PySem.W.Frag} {H : Hp} {xs : List (Int × Int)} {r : Bool} {i : Nat} {gs : List (Nat × Nat)} (h : Ticks xs r i gs) (hz : xs.length ≤ 40) (k : Nat) : Dp K H (tV gs k) (tD gs k) := by
  unfold tV tD
  rcases tick_cases h hz k with ⟨u, _, e, _⟩ | ⟨e, _⟩
  · rw [e]; exact .int _
  · rw [e]; exact .non
def rowD (k a b : Int) (t : PyData) : PyData := .list [.int k, .int a, .int b, t]
theorem rowD_shaped (k a b : Int) (gs : List (Nat × Nat)) (n : Nat) : SeqAt.shaped (rowD k a b (tD gs n)) = true := by
  have h1 : PyData.canLay0 (tD gs n) = true ∧ PyData.depth (tD gs n) ≤ 1 := by
    unfold tD
    split
    · simp [PyData.canLay0, PyData.depth]
    · simp [PyData.canLay0, PyData.depth]
  show (PyData.canLay0 (rowD k a b (tD gs n)) && decide (PyData.depth (rowD k a b (tD gs n)) ≤ 64)) = true
  rw [Bool.and_eq_true]
  refine ⟨by simp [rowD, PyData.canLay0, PyData.canLayAll0, h1.1], decide_eq_true ?_⟩
  have := h1.2
  simp only [rowD, PyData.depth, PyData.depthAll]
  omega
theorem numb_tick {xs : List (Int × Int)} {r : Bool} {i : Nat} {gs : List (Nat × Nat)} (h : Ticks xs r i gs) (hz : xs.length ≤ 40) (k : Nat) {vs : List V} {H : Hp} {Q : VK} {E : XK} (hv : vs = [.str (TxtG.T (TxtG.fillL 3 (tickL gs k)))]) (kk : ∀ H', Same H H' → Q (tV gs k) H') : spNumb vs H Q E := by
  have hl := fill_w (tick_3 h hz k).1
  refine numb_of hv (by omega) (fun hf => ?_) (fun n hf e => ?_) kk
  · rw [fill_fig] at hf
    unfold tV
    rcases tick_cases h hz k with ⟨u, _, e1, e2⟩ | ⟨e1, e2⟩
    · rw [e2, digs_fig] at hf
      exact absurd hf (TxtG.digs_ne _)
    · rw [e1]; rfl
  · rw [fill_fig] at hf e
    unfold tV
    rcases tick_cases h hz k with ⟨u, hu, e1, e2⟩ | ⟨e1, e2⟩
    · rw [e2, digs_fig, read_digs (by omega) (by omega)] at e
      injection e with e
      rw [e1, ← e]; rfl
    · rw [e2] at hf
      exact absurd rfl hf
theorem dash_tick {xs : List (Int × Int)} {r : Bool} {i : Nat} {gs : List (Nat × Nat)} (h : Ticks xs r i gs) (hz : xs.length ≤ 40) (k : Nat) : decide (V.str (TxtG.T (TxtG.fillL 3 (tickL gs k))) = V.str (TxtG.T [32, 32, 45])) = !(tickO gs k).isSome := by
  rcases tick_cases h hz k with ⟨u, hu, e1, e2⟩ | ⟨e1, e2⟩
  · rw [e1, e2]
    refine decide_eq_false fun z => ?_
    have z := SplS.T_inj (by injection z : TxtG.T (TxtG.fillL 3 (FmtS.digs (u : Int))) = TxtG.T [32, 32, 45])
    have := congrArg (List.filter isDig) z
    rw [fill_fig, digs_fig] at this
    exact TxtG.digs_ne _ (this.trans rfl)
  · rw [e1, e2]
    exact decide_eq_true rfl
theorem nilCall {sp : Sp} {σ : L2.St} {H : Hp} {v : V} {Q : VK} {E : XK} (h : sp [v] H Q E) : tNil σ H (fun xs H2 => sp ((v :: xs) ++ []) H2 Q E) := h
def spIsChart (K : PySem.W.Frag) (C : Addr) : Sp := fun vs H Q _ => ∃ (z : Addr) (xs : List (Int × Int)) (i : Nat) (r : Bool), vs = [.ref z, .int (i : Int), .str (sideS r)] ∧ RowAt K C H z xs ∧ Wf 0 xs ∧ xs.length ≤ 40 ∧ i < xs.length ∧ ∀ H', Same H H' → Q (.bl true) H'
theorem lit_sp3 : ("   " : Str) = TxtG.T [32, 32, 32] := by decide +kernel
theorem lit_dash : ("  -" : Str) = TxtG.T [32, 32, 45] := by decide +kernel
section
variable {P : Program} {w : World} {K : PySem.W.Frag} {mg : Str → Option Value} {base : Heap}
theorem ok_isChart {f C C2 C3 gL gI g1 g2 g3 : Addr} {fd d1 d2 d3 : FuncData} (F : Fun K "_law_is_chart" "_law_is_chart" s_law_is_chart f fd) (B : Blt mg) (R : RowC K mg C) (SL : Sign K C "__len__" gL) (GL : FnR P w K mg base CX0 1 gL (spLen K C))
    (SG : Sign K C "__getitem__" gI) (fi : PySem.W.fnIn K gI = true) (GI : FnR P w K mg base CX0 3 gI (spItem K C))
    (CH : At P w K mg base (L2.CX P w) 4 "chart" ["row", "stone", "side"] (spChart K C C2 C3) g1 d1) (FT : At P w K mg base (L2.CX P w) 3 "fall_ticks" ["row", "stone", "side"] (spTicks K C C2 C3) g2 d2)
    (NU : At P w K mg base CX0 1 "_law_number" ["_law_text"] spNumb g3 d3) : FnOk P w K mg base CX0 5 f fd ["_law_one", "_law_stone", "_law_side"] (spIsChart K C) := by
  refine F.ok sc_law_is_chart (fun vs H Q E h => ?_) (fun cdv A outer s H vs Q E hr h => ?_)
  · obtain ⟨z, xs, i, r, rfl, _⟩ := h
    rfl
  · obtain ⟨z, xs, i, r, rfl, hR, hw, hz, hi, k⟩ := h
    obtain ⟨dx, t0, us0, ep, hT, hS⟩ := id hR
    have hu := hu_of hr
    have hu64 := hr.units
    have r4 : Room 4 _ := hr.mono (by decide)
    have r3 : Room 3 _ := hr.mono (by decide)
    have r2 : Room 2 _ := hr.mono (by decide)
    have r1 : Room 1 _ := hr.mono (by decide)
    refine ⟨_, pss_cons (ps_par (i := 3) (j := 4) (by rfl) sc_law_is_chart.nd rfl rfl (by decide) rfl rfl (pa_cons (pe_split (pe_call CH.ok r4 (by rfl) CH.m CH.kp CH.b .nil passL (pa_cons (pv 0) (pa_cons (pv 1) (pa_cons (pv 2) pa_nil)))) pe_str) (pa_cons (pe_call FT.ok r3 (by rfl) FT.m FT.kp FT.b .nil passL (pa_cons (pv 0) (pa_cons (pv 1) (pa_cons (pv 2) pa_nil)))) pa_nil)) (by rfl))
      (pss_cons (ps_if (pt_cmpR (op_ne) (pe_callB call_len_seq (by rfl) B.len PySem.boot_len (pa_cons (pv 3) pa_nil)) (pe_callB (Own.call_len SL.at_ SL.fn GL r2 pass0) (by rfl) B.len PySem.boot_len (pa_cons (pv 0) pa_nil)) (nomark _)) (pss_one (ps_ret pe_bl)) pss_nil)
      (pss_cons (ps_for PassesOwn.never rfl (pi_range1 (by rfl) B.range (pa_cons (pe_callB (Own.call_len SL.at_ SL.fn GL r2 pass0) (by rfl) B.len PySem.boot_len (pa_cons (pv 0) pa_nil)) pa_nil)) (pg_name (i := 5) sc_law_is_chart.nd rfl (Or.inl rfl))
        (pss_cons (ps_set (i := 6) sc_law_is_chart.nd rfl (Or.inl rfl) (pe_ix ix_list (pv 3) (pv 5) (fun _ _ => rfl)))
        (pss_cons (ps_set (i := 7) sc_law_is_chart.nd rfl (Or.inl rfl) (pe_lst (pa_cons (pe_at NU r1 (pa_cons (pe_slice sl_str (pv 6) po_none (po_some pe_int)) pa_nil)) (pa_cons (pe_at NU r1 (pa_cons (pe_slice sl_str (pv 6) (po_some pe_int) (po_some pe_int)) pa_nil)) (pa_cons (pe_at NU r1 (pa_cons (pe_slice sl_str (pv 6) (po_some pe_int) (po_some pe_int)) pa_nil)) (pa_cons (pe_at NU r1 (pa_cons (pe_slice sl_str (pv 6) (po_some pe_int) po_none) pa_nil)) pa_nil))))))
        (pss_cons (ps_if (PW.pt (pw_or (pt_cmpR (op_ne) (pe_callB call_len (by rfl) B.len PySem.boot_len (pa_cons (pv 6) pa_nil)) (pe_int) (nomark _)) (pw_or1 (pt_cmpR (op_neD hu64) (pv 7) (pe_lst (pa_cons (pv 5) (pa_cons (pe_ix ix_tup (Cut.pe_sub SG.at_ fi SG.fn GI r4 pass0 (pv 0) (pv 5) (fun _ _ => rfl)) (pe_int) (fun _ _ => rfl)) (pa_cons (pe_ix ix_tup (Cut.pe_sub SG.at_ fi SG.fn GI r4 pass0 (pv 0) (pv 5) (fun _ _ => rfl)) (pe_int) (fun _ _ => rfl)) (pa_cons (pe_dget2 hu (pv 4) (pv 5) pe_non ⟨by rfl, by rfl, by rfl, by rfl⟩) pa_nil))))) (nomark _))))) (pss_one (ps_ret pe_bl)) pss_nil)
        (pss_one (ps_if (PW.pt (pw_or (pt_cmpR (op_ne) (pe_op op_add_str (pe_op op_add_str (pe_ix ix_str (pv 6) pe_int (fun _ _ => rfl)) (pe_ix ix_str (pv 6) pe_int (fun _ _ => rfl))) (pe_ix ix_str (pv 6) pe_int (fun _ _ => rfl))) (pe_str) (nomark _)) (pw_or1 (pt_cmpR (op_ne) (pe_cmp (pc_dnotin hu (pv 5) (pv 4))) (pe_cmpR (op_eq) (pe_slice sl_str (pv 6) (po_some pe_int) po_none) (pe_str) (nomark _)) (nomark _))))) (pss_one (ps_ret pe_bl)) pss_nil))))))
      (pss_one (ps_ret pe_bl)))), ?_⟩
    have hne : xs ≠ [] := fun e => by rw [e] at hi; exact absurd hi (Nat.not_lt_zero _)
    have kn : Known K H (.int (i : Int)) := True.intro
    refine ⟨_, rfl, _, rfl, _, rfl, z, xs, _, _, _, rfl, hR, hw, hz, kn, .str _, side_shaped r, fun e => absurd e (by rw [numB_int (by omega) (by omega)]; exact fun z => nomatch z), fun _ e => absurd e (by cases r <;> decide +kernel), fun i' r' ei er hi' gs G2 s2 hgs => ?_⟩
    obtain rfl : i = i' := by injection ei with ei; omega
    obtain rfl : r = r' := by
      injection er with er
      revert er
      cases r <;> cases r' <;> decide +kernel
    have t3 := fun k => tick_3 hgs hz k
    have hlen : ∀ p ∈ (List.range xs.length).map (fun k => lineN k (xs.getD k (0, 0)) (tickL gs k)), p.length ≤ 34 := by
      intro p hp
      obtain ⟨n, hn, rfl⟩ := List.mem_map.mp hp
      have hn := List.mem_range.mp hn
      obtain ⟨x, hx⟩ : ∃ x, xs[n]? = some x := ⟨xs[n], by simp [hn]⟩
      have xe : xs.getD n (0, 0) = x := by rw [List.getD_eq_getElem?_getD, hx]; rfl
      obtain ⟨_, _, w1, w2, w3⟩ := hw.get hx
      rw [xe]
      exact Nat.le_of_eq (cuts_of (fill_w (digs_2 n (by omega))) (fill_w (comT_13 (hw.low hx) w1)) (fill_w (comT_13 (by omega) w3)) (fill_w (t3 n).1)).len
    have hcl : (chartT xs gs).length ≤ 35 * 40 := by
      have e : chartT xs gs = TxtG.T (SplS.joinL 10 ((List.range xs.length).map fun k => lineN k (xs.getD k (0, 0)) (tickL gs k))) := by
        unfold chartT linesOf
        rw [← SplS.txtJoin_T, List.map_map]
        rfl
      rw [e, TxtG.T_len]
      have := joinL_len (c := 10) hlen
      rw [List.length_map, List.length_range] at this
      omega
    refine ⟨⟨_, rfl⟩, _, _, rfl, rfl, by decide +kernel, by rw [sizeLine_eq]; omega, fun q nq => ?_⟩
    rw [lit_nl, chart_split hne fun k => (t3 k).2]
    have sq := same_new (o := .lst ((((List.range xs.length).map fun k => lineN k (xs.getD k (0, 0)) (tickL gs k)).map TxtG.T).map V.str)) nq
    have eq0 : (upd G2 q (.lst ((((List.range xs.length).map fun k => lineN k (xs.getD k (0, 0)) (tickL gs k)).map TxtG.T).map V.str))) q = some (.lst ((((List.range xs.length).map fun k => lineN k (xs.getD k (0, 0)) (tickL gs k)).map TxtG.T).map V.str)) := upd_same
    generalize upd G2 q (.lst ((((List.range xs.length).map fun k => lineN k (xs.getD k (0, 0)) (tickL gs k)).map TxtG.T).map V.str)) = H3 at sq eq0 ⊢
    have s3 := s2.trans sq
    have kn3 : Known K H3 (.int (i : Int)) := True.intro
    refine ⟨_, rfl, _, rfl, _, rfl, z, xs, _, _, _, rfl, hR.same s3, hw, hz, kn3, .str _, side_shaped r, fun e => absurd e (by rw [numB_int (by omega) (by omega)]; exact fun z => nomatch z), fun _ e => absurd e (by cases r <;> decide +kernel), fun i' r' ei er hi' d fs H4 s4 nd ed hfs => ⟨_, _, rfl, ?_⟩⟩
    obtain rfl : i = i' := by injection ei with ei; omega
    obtain rfl : r = r' := by
      injection er with er
      revert er
      cases r <;> cases r' <;> decide +kernel
    have s4' := s3.trans s4
    have eq4 := s4 _ _ eq0
    have ep4 := s4' _ _ ep
    have hR4 := hR.same s4'
    have lq : ((((List.range xs.length).map fun k => lineN k (xs.getD k (0, 0)) (tickL gs k)).map TxtG.T).map V.str).length = xs.length := by simp
    dsimp only
    show tSeq _ _ _ _ _
    refine seq_of ?_
    refine ⟨_, rfl, q, _, rfl, .inl (SqL.of eq4), _, rfl, z, dx, _, rfl, ep4, z, xs, rfl, hR4, _, rfl, by omega, by omega, rfl, _, rfl, ?_⟩
    rw [lq, show (!decide (V.int (xs.length : Int) = V.int (xs.length : Int))) = false from by rw [decide_eq_true rfl]; rfl]
    refine iteF (next_of ?_)
    dsimp only
    show tSeq _ _ _ _ _
    refine seq_of ?_
    refine ⟨_, rfl, z, dx, _, rfl, ep4, z, xs, rfl, hR4, _, rfl, by omega, by omega, xs.length, rfl, by omega, by omega, for_range (lo := 0) (n := xs.length) (fun j σ G => ∃ (s5 s6 s7 : Option V), σ = [some (.ref z), some (.int (i : Int)), some (.str (sideS r)), some (.ref q), some (.ref d), s5, s6, s7] ∧ Same H4 G) ?_ ?_ ?_⟩
    · exact ⟨none, none, none, rfl, Same.refl _⟩
    · rintro j σ G hj ⟨s5, s6, s7, rfl, sG⟩
      refine nm_of ?_
      have e0 : (0 : Int) + (j : Int) = (j : Int) := Int.zero_add _
      rw [e0]
      obtain ⟨x, hx⟩ : ∃ x, xs[j]? = some x := ⟨xs[j], by simp [hj]⟩
      have xe : xs.getD j (0, 0) = x := by rw [List.getD_eq_getElem?_getD, hx]; rfl
      obtain ⟨_, _, w1, w2, w3⟩ := hw.get hx
      have w0 : 0 ≤ x.1 := hw.low hx
      have ct := cuts_of (fill_w (digs_2 j (by omega))) (fill_w (comT_13 w0 w1)) (fill_w (comT_13 (a := x.2) (by omega) w3)) (fill_w (t3 j).1)
      have el : ((((List.range xs.length).map fun k => lineN k (xs.getD k (0, 0)) (tickL gs k)).map TxtG.T).map V.str)[j]? = some (V.str (TxtG.T (lineN j x (tickL gs j)))) := by
        rw [List.getElem?_map, List.getElem?_map, List.getElem?_map, List.getElem?_range hj]
        show some (V.str (TxtG.T (lineN j (xs.getD j (0, 0)) (tickL gs j)))) = _
        rw [xe]
      have lt : (TxtG.T (lineN j x (tickL gs j))).length = 34 := by rw [TxtG.T_len]; exact ct.len
      have ls : (TxtG.T (lineN j x (tickL gs j))).length ≤ sizeLine := by rw [lt]; decide
      have tk : tickL gs j = tickL fs j := by unfold tickL; rw [valV_same hgs hfs j]
      dsimp only
      show tSeq _ _ _ _ _
      refine seq_of (asg_of ?_)
      refine ⟨_, rfl, _, rfl, q, _, (j : Int), _, rfl, rfl, SqL.of (sG _ _ eq4), atI_nat el, nm_of ?_⟩
      dsimp only
      show tSeq _ _ _ _ _
      refine seq_of (asg_of ?_)
      refine ⟨_, rfl, _, rfl, _, rfl, ls, ?_⟩
      dsimp only
      refine nilCall (sp := spNumb) ?_
      refine numb_num (a := (j : Int)) (congrArg (fun s => [V.str s]) ct.a) (by rw [fill_w (digs_2 j (by omega))]; decide) (by rw [fill_fig, digs_fig]) (by omega) (by omega) fun G1 z1 => ?_
      refine ⟨_, rfl, _, rfl, _, rfl, _, rfl, ls, ?_⟩
      dsimp only
      refine nilCall (sp := spNumb) ?_
      refine numb_num (a := x.1) (congrArg (fun s => [V.str s]) ct.b) (by rw [fill_w (comT_13 w0 w1)]; decide) (by rw [fill_fig, comT_fig]) w0 w1 fun G2' z2 => ?_
      refine ⟨_, rfl, _, rfl, _, rfl, _, rfl, ls, ?_⟩
      dsimp only
      refine nilCall (sp := spNumb) ?_
      refine numb_num (a := x.2) (congrArg (fun s => [V.str s]) ct.c) (by rw [fill_w (comT_13 (a := x.2) (by omega) w3)]; decide) (by rw [fill_fig, comT_fig]) (by omega) w3 fun G3 z3 => ?_
      refine ⟨_, rfl, _, rfl, _, rfl, ls, ?_⟩
      dsimp only
      refine nilCall (sp := spNumb) ?_
      refine numb_tick hfs hz j (by rw [← tk]; exact congrArg (fun s => [V.str s]) ct.d) fun G4 z4 => ?_
      have sGG := ((sG.trans z1).trans z2).trans (z3.trans z4)
      refine ⟨by show 4 ≤ sizeLine; decide, fun l7 n7 => ?_⟩
      have z7 := same_new (o := .lst [V.int (j : Int), V.int x.1, V.int x.2, tV fs j]) n7
      have e7 : (upd G4 l7 (.lst [V.int (j : Int), V.int x.1, V.int x.2, tV fs j])) l7 = some (.lst [V.int (j : Int), V.int x.1, V.int x.2, tV fs j]) := upd_same
      have s5' := sGG.trans z7
      generalize upd G4 l7 (.lst [V.int (j : Int), V.int x.1, V.int x.2, tV fs j]) = G5 at z7 e7 s5' ⊢
      refine nm_of ?_
      show tSeq _ _ _ _ _
      refine seq_of ?_
      refine ⟨_, rfl, _, 34, rfl, ⟨ls, lt.symm⟩, rfl, _, rfl, ?_⟩
      refine iteF ?_
      have s45 := s4'.trans s5'
      have ed5 := s5' _ _ ed
      refine ⟨_, rfl, _, rfl, _, rfl, _, rfl, z, dx, _, rfl, s45 _ _ ep, z, xs, j, x, rfl, hR.same s45, hx, fun a1 ha1 => ⟨a1, _, ((0 : Nat) : Int), _, rfl, rfl, ha1, atI_nat (j := 0) rfl, ?_⟩⟩
      refine ⟨_, rfl, _, rfl, z, dx, _, rfl, s45 _ _ ep, z, xs, j, x, rfl, hR.same s45, hx, fun a2 ha2 => ⟨a2, _, ((1 : Nat) : Int), _, rfl, rfl, ha2, atI_nat (j := 1) rfl, ?_⟩⟩
      refine ⟨_, rfl, d, rfl, (.inl ⟨kvs fs, .inl ed5⟩), _, rfl, _, .inl ⟨kvs fs, Sum.inl (j : Int), .inl ed5, rfl, rfl⟩, ?_⟩
      refine ⟨by show 4 ≤ sizeLine; decide, fun l8 n8 => ?_⟩
      have z8 := same_new (o := .lst [V.int (j : Int), V.int x.1, V.int x.2, tV fs j]) n8
      have e8 : (upd G5 l8 (.lst [V.int (j : Int), V.int x.1, V.int x.2, tV fs j])) l8 = some (.lst [V.int (j : Int), V.int x.1, V.int x.2, tV fs j]) := upd_same
      have s6' := s5'.trans z8
      change upd G5 l8 (.lst [V.int (j : Int), V.int x.1, V.int x.2, tV fs j]) l8 = _ at e8
      refine ⟨rowD (j : Int) x.1 x.2 (tD fs j), rowD (j : Int) x.1 x.2 (tD fs j), .lst (SqL.of (z8 _ _ e7)) (.cons (.int _) (.cons (.int _) (.cons (.int _) (.cons (tD_dp hfs hz j) .nil)))), .lst (SqL.of e8) (.cons (.int _) (.cons (.int _) (.cons (.int _) (.cons (tD_dp hfs hz j) .nil)))), rowD_shaped _ _ _ _ _, rowD_shaped _ _ _ _ _, _, rfl, ?_⟩
      rw [show (!PyData.eqv (rowD (j : Int) x.1 x.2 (tD fs j)) (rowD (j : Int) x.1 x.2 (tD fs j))) = false from by rw [SeqAt.eqv_refl _ (SeqAt.canLay_of_shaped (rowD_shaped _ _ _ _ _))]; rfl]
      refine iteF (next_of ?_)
      dsimp only
      have at_ : ∀ n : Nat, (lineN j x (tickL gs j))[n]? = some 32 → atI (TxtG.T (lineN j x (tickL gs j))).cps.toList (n : Int) = some 32 := fun n h => atI_nat (by rw [SplS.T_cps]; exact h)
      refine ⟨_, rfl, _, ((2 : Nat) : Int), 32, rfl, rfl, ls, at_ 2 ct.s1, ?_⟩
      refine ⟨_, rfl, _, ((16 : Nat) : Int), 32, rfl, rfl, ls, at_ 16 ct.s2, _, _, rfl, rfl, by decide, ?_⟩
      refine ⟨_, rfl, _, ((30 : Nat) : Int), 32, rfl, rfl, ls, at_ 30 ct.s3, _, _, rfl, rfl, by decide, rfl, _, rfl, ?_⟩
      have e3 : decide (V.str ((⟨#[32]⟩ : Str) ++ ⟨#[32]⟩ ++ ⟨#[32]⟩) = V.str (Str.ofString "   ")) = true := by decide +kernel
      rw [show (!decide (V.str ((⟨#[32]⟩ : Str) ++ ⟨#[32]⟩ ++ ⟨#[32]⟩) = V.str (Str.ofString "   "))) = false from by rw [e3]; rfl]
      refine iteF ?_
      have ed6 := s6' _ _ ed
      refine ⟨_, rfl, _, rfl, d, _, rfl, .inl ⟨kvs fs, Sum.inl (j : Int), .inl ed6, rfl, rfl⟩, ?_⟩
      refine ⟨_, rfl, _, rfl, _, rfl, ls, rfl, rfl, _, rfl, ?_⟩
      have ed' := ct.d
      have eE : cutS (TxtG.T (lineN j x (tickL gs j))) (some 31) none = TxtG.T (TxtG.fillL 3 (tickL fs j)) := by rw [← tk]; exact ct.d
      rw [eE, lit_dash, dash_tick hfs hz j]
      rw [show (!decide (V.bl (!(valV (kvs fs) (Sum.inl (j : Int) : Key)).isSome) = V.bl (!(tickO fs j).isSome))) = false from by
        show (!decide (V.bl (!(tickO fs j).isSome) = V.bl (!(tickO fs j).isSome))) = false
        rw [decide_eq_true rfl]
        rfl]
      refine iteF (next_of ?_)
      exact ⟨_, _, _, rfl, s6'⟩
    · rintro σ G ⟨s5, s6, s7, rfl, sG⟩
      exact k G (s4'.trans sG)
end
/-! ### lists of bytes, and what is encoded is decoded -/
theorem bI_all {K : PySem.W.Frag} {H : Hp} : ∀ ns : List Int, DpAll K H (ns.map V.int) (ns.map PyData.int)
  | [] => .nil
  | n :: ns => .cons (.int n) (bI_all ns)
theorem bI_lay : ∀ ns : List Int, PyData.canLayAll0 (ns.map PyData.int) = true
  | [] => by simp [PyData.canLayAll0]
  | n :: ns => by simp [PyData.canLayAll0, PyData.canLay0, bI_lay ns]
theorem bI_deep : ∀ ns : List Int, PyData.depthAll (ns.map PyData.int) ≤ 1
  | [] => by simp [PyData.depthAll]
  | n :: ns => by
    have := bI_deep ns
    simp only [List.map_cons, PyData.depthAll, PyData.depth]
    omega
def bI (ns : List Int) : PyData := .list (ns.map PyData.int)
theorem bI_shaped (ns : List Int) : SeqAt.shaped (bI ns) = true := by
  show (PyData.canLay0 (bI ns) && decide (PyData.depth (bI ns) ≤ 64)) = true
  rw [Bool.and_eq_true]
  have := bI_deep ns
  refine ⟨by unfold bI; simp only [PyData.canLay0]; exact bI_lay ns, decide_eq_true ?_⟩
  unfold bI
  simp only [PyData.depth]
  omega
theorem bI_eqv (ns : List Int) : PyData.eqv (bI ns) (bI ns) = true := SeqAt.eqv_refl _ (SeqAt.canLay_of_shaped (bI_shaped ns))
theorem bI_dp {K : PySem.W.Frag} {H : Hp} {p : Addr} {ns : List Int} (h : SqL K H p (ns.map V.int)) : Dp K H (.ref p) (bI ns) := .lst h (bI_all ns)
theorem bI_one {a b : Int} : PyData.eqv (bI [a]) (bI [b]) = decide (a = b) := by
  by_cases h : a = b
  · subst h; rw [bI_eqv, decide_eq_true rfl]
  · rw [decide_eq_false h]
    simp [bI, PyData.eqv, PyData.eqvAll, h]
theorem cut_take {us : List V} (o : Nat) : cutV us none (some (o : Int)) = us.take o := by
  unfold cutV
  have e0 : HT.sIx us.length 0 none = 0 := rfl
  have e1 : HT.sIx us.length us.length (some (o : Int)) = min o us.length := by
    unfold HT.sIx
    simp
    omega
  rw [e0, e1]
  simp
theorem atI_last {us : List V} {v : V} (h : us.length ≤ 100000) : atI (us ++ [v]) (-1) = some v := by
  have e : atI (us ++ [v]) (-1) = (us ++ [v])[us.length]? := by
    unfold atI
    have : ixN (us ++ [v]).length (-1) = some us.length := by
      unfold ixN
      simp
      omega
    rw [this]
    rfl
  rw [e]
  simp
/-! ### what is encoded is decoded -/
theorem rdLoop_grp : ∀ (k m : Nat), m ≤ k → ∀ (pre suf : List Int) (num wt : Int), ∃ num' wt' b : Int, rdLoop (pre ++ grp7 m ++ suf) ((pre ++ grp7 m ++ suf).length + 1 - pre.length) pre.length num wt = .inl (num', wt', pre.length + (grp7 m).length - 1, b) ∧ num' + b * wt' = num + (m : Int) * wt ∧ (0 < m → b ≠ 0) := by
  intro k
  induction k with
  | zero =>
    intro m hm pre suf num wt
    obtain rfl : m = 0 := by omega
    have e : (pre ++ grp7 0 ++ suf)[pre.length]? = some 0 := by
      rw [grp7_lt (by decide)]
      simp
    refine ⟨num, wt, 0, ?_, by simp, fun h => absurd h (by decide)⟩
    rw [rdLoop_some e, if_neg (by decide), grp7_lt (by decide)]
    simp
  | succ k ih =>
    intro m hm pre suf num wt
    by_cases c : m < 128
    · have e : (pre ++ grp7 m ++ suf)[pre.length]? = some (m : Int) := by
        rw [grp7_lt c]
        simp
      refine ⟨num, wt, (m : Int), ?_, rfl, fun h => by omega⟩
      rw [rdLoop_some e, if_neg (by omega), grp7_lt c]
      simp
    · have e : (pre ++ grp7 m ++ suf)[pre.length]? = some ((128 + m % 128 : Nat) : Int) := by
        rw [grp7_ge (by omega)]
        simp
      have ea : pre ++ grp7 m ++ suf = (pre ++ [((128 + m % 128 : Nat) : Int)]) ++ grp7 (m / 128) ++ suf := by
        rw [grp7_ge (n := m) (by omega)]
        simp
      obtain ⟨num', wt', b, h1, h2, h3⟩ := ih (m / 128) (by omega) (pre ++ [((128 + m % 128 : Nat) : Int)]) suf (num + (((128 + m % 128 : Nat) : Int) - 128) * wt) (wt * 128)
      refine ⟨num', wt', b, ?_, ?_, fun _ => h3 (by omega)⟩
      · rw [rdLoop_some e, if_pos (by omega)]
        rw [← ea] at h1
        have l1 : (pre ++ [((128 + m % 128 : Nat) : Int)]).length = pre.length + 1 := by simp
        rw [l1] at h1
        rw [h1, grp7_ge (n := m) (by omega), List.length_cons]
        congr 4
        omega
      · rw [h2]
        have e1 : (((128 + m % 128 : Nat) : Int) - 128) = ((m % 128 : Nat) : Int) := by omega
        rw [e1]
        have e2 : (m : Int) = ((m / 128 : Nat) : Int) * 128 + ((m % 128 : Nat) : Int) := by omega
        rw [e2]
        generalize ((m / 128 : Nat) : Int) = a
        generalize ((m % 128 : Nat) : Int) = b
        rw [Int.add_mul, Int.mul_assoc a 128 wt, Int.mul_comm 128 wt]
        omega
theorem grp7_pos (n : Nat) : 0 < (grp7 n).length := by
  by_cases c : n < 128
  · rw [grp7_lt c]; simp
  · rw [grp7_ge (by omega)]; simp
theorem rdNum_grp {n : Nat} {lo hi : Int} (pre suf : List Int) (h0 : lo ≤ (n : Int)) (h1 : (n : Int) ≤ hi) : rdNum (pre ++ grp7 n ++ suf) pre.length lo hi = .inl ((n : Int), pre.length + (grp7 n).length) := by
  obtain ⟨num', wt', b, e1, e2, e3⟩ := rdLoop_grp n n (Nat.le_refl _) pre suf 0 1
  unfold rdNum
  rw [e1]
  have e4 : num' + b * wt' = (n : Int) := by rw [e2]; omega
  have gp := grp7_pos n
  have nz : ¬ (b = 0 ∧ pre.length < pre.length + (grp7 n).length - 1) := by
    rintro ⟨z1, z2⟩
    by_cases c : n = 0
    · subst c
      rw [grp7_lt (show (0 : Nat) < 128 by decide)] at z2
      simp at z2
    · exact e3 (by omega) z1
  dsimp only
  rw [if_neg nz, e4, if_pos ⟨h0, h1⟩, Nat.sub_add_cancel (by omega)]
theorem encT_pre (xs : List (Int × Int)) (j : Nat) : ∀ n, j ≤ n → ∃ suf, encT xs n = encT xs j ++ suf
  | 0, h => ⟨[], by
    obtain rfl : j = 0 := by omega
    simp⟩
  | n + 1, h => by
    by_cases c : j = n + 1
    · exact ⟨[], by rw [c]; simp⟩
    · obtain ⟨suf, e⟩ := encT_pre xs j n (by omega)
      refine ⟨suf ++ grp7 ((xs.getD n (0, 0)).1 - prevP xs n).toNat ++ grp7 (xs.getD n (0, 0)).2.toNat, ?_⟩
      show encT xs n ++ _ ++ _ = _
      rw [e]
      simp
theorem encT_head (xs : List (Int × Int)) : ∀ j, ∃ suf, encT xs j = 68 :: (xs.length : Int) :: suf
  | 0 => ⟨[], rfl⟩
  | j + 1 => by
    obtain ⟨suf, e⟩ := encT_head xs j
    refine ⟨suf ++ grp7 ((xs.getD j (0, 0)).1 - prevP xs j).toNat ++ grp7 (xs.getD j (0, 0)).2.toNat, ?_⟩
    show encT xs j ++ _ ++ _ = _
    rw [e]
    simp
theorem prevP_low {xs : List (Int × Int)} (hw : Wf 0 xs) {j : Nat} {x : Int × Int} (hx : xs[j]? = some x) : prevP xs j + (if j = 0 then 0 else 1) ≤ x.1 ∧ 0 ≤ prevP xs j := by
  unfold prevP
  by_cases c : j = 0
  · rw [if_pos c, if_pos c]
    have := hw.low hx
    omega
  · rw [if_neg c, if_neg c]
    have hj := (List.getElem?_eq_some_iff.mp hx).1
    obtain ⟨y, hy⟩ : ∃ y, xs[j - 1]? = some y := ⟨xs[j - 1]'(by omega), by simp⟩
    rw [List.getD_eq_getElem?_getD, hy]
    have h2 := hw.low hy
    have := (hw.get hx).2.1 y (by omega) hy
    show y.1 + 1 ≤ x.1 ∧ 0 ≤ y.1
    omega
theorem decT_enc {xs : List (Int × Int)} (hw : Wf 0 xs) : ∀ j, j ≤ xs.length → decT (encR xs) j = .inl (xs.take j, prevP xs j, (encT xs j).length)
  | 0, _ => rfl
  | j + 1, h => by
    obtain ⟨x, hx⟩ : ∃ x, xs[j]? = some x := ⟨xs[j]'(by omega), by simp⟩
    have xe : xs.getD j (0, 0) = x := by rw [List.getD_eq_getElem?_getD, hx]; rfl
    obtain ⟨_, _, w1, w2, w3⟩ := hw.get hx
    obtain ⟨p1, p0⟩ := prevP_low hw hx
    have x0 : 0 ≤ x.1 := hw.low hx
    have ih := decT_enc hw j (by omega)
    obtain ⟨suf, es⟩ := encT_pre xs (j + 1) xs.length h
    have e1 : encT xs (j + 1) = encT xs j ++ grp7 (x.1 - prevP xs j).toNat ++ grp7 x.2.toNat := by
      show encT xs j ++ grp7 ((xs.getD j (0, 0)).1 - prevP xs j).toNat ++ grp7 (xs.getD j (0, 0)).2.toNat = _
      rw [xe]
    have a1 : encR xs = encT xs j ++ grp7 (x.1 - prevP xs j).toNat ++ (grp7 x.2.toNat ++ suf ++ [cks (encT xs xs.length)]) := by
      unfold encR
      rw [es, e1]
      simp
    have a2 : encR xs = (encT xs j ++ grp7 (x.1 - prevP xs j).toNat) ++ grp7 x.2.toNat ++ (suf ++ [cks (encT xs xs.length)]) := by
      rw [a1]
      simp
    have d1 : rdNum (encR xs) (encT xs j).length (if j = 0 then 0 else 1) (1000000000 - prevP xs j) = .inl (x.1 - prevP xs j, (encT xs j).length + (grp7 (x.1 - prevP xs j).toNat).length) := by
      have q := rdNum_grp (n := (x.1 - prevP xs j).toNat) (lo := if j = 0 then 0 else 1) (hi := 1000000000 - prevP xs j) (encT xs j) (grp7 x.2.toNat ++ suf ++ [cks (encT xs xs.length)]) (by omega) (by omega)
      rw [← a1] at q
      rw [q, Int.toNat_of_nonneg (by split at p1 <;> omega)]
    have d2 : rdNum (encR xs) ((encT xs j).length + (grp7 (x.1 - prevP xs j).toNat).length) 1 1000000000 = .inl (x.2, (encT xs (j + 1)).length) := by
      have q := rdNum_grp (n := x.2.toNat) (lo := 1) (hi := 1000000000) (encT xs j ++ grp7 (x.1 - prevP xs j).toNat) (suf ++ [cks (encT xs xs.length)]) (by omega) (by omega)
      rw [← a2, List.length_append] at q
      rw [q, Int.toNat_of_nonneg (by omega), e1]
      simp [Nat.add_assoc]
    unfold decT
    rw [ih]
    dsimp only
    rw [d1]
    dsimp only
    rw [d2]
    dsimp only
    have e2 : prevP xs (j + 1) = x.1 := by
      unfold prevP
      rw [if_neg (by omega), Nat.add_sub_cancel, xe]
    have e3 : prevP xs j + (x.1 - prevP xs j) = x.1 := by omega
    have e4 : xs.take (j + 1) = xs.take j ++ [x] := by rw [List.take_add_one, hx]; rfl
    rw [e2, e3, e4]
theorem decR_enc {xs : List (Int × Int)} (hw : Wf 0 xs) (hz : xs.length ≤ 40) : decR (encR xs) = .inl xs := by
  obtain ⟨suf, es⟩ := encT_head xs xs.length
  have h0 : (encR xs)[0]? = some 68 := by unfold encR; rw [es]; rfl
  have h1 : (encR xs)[1]? = some (xs.length : Int) := by unfold encR; rw [es]; rfl
  have d := decT_enc hw xs.length (Nat.le_refl _)
  rw [List.take_length] at d
  have e : endErr (encR xs) (encT xs xs.length).length = none := by
    unfold endErr encR
    have g1 : (encT xs xs.length ++ [cks (encT xs xs.length)])[(encT xs xs.length).length]? = some (cks (encT xs xs.length)) := by simp
    have g2 : (encT xs xs.length ++ [cks (encT xs xs.length)]).take (encT xs xs.length).length = encT xs xs.length := by simp
    rw [g1]
    dsimp only
    rw [g2, if_neg (fun z => z rfl), if_neg (by simp)]
  unfold decR
  rw [h0]
  dsimp only
  rw [if_neg (fun z => z rfl), h1]
  dsimp only
  rw [if_neg (by omega), Int.toNat_natCast, d]
  dsimp only
  rw [e]
theorem cut_ints (ns : List Int) (lo hi : Option Int) : ∃ ms : List Int, cutV (ns.map V.int) lo hi = ms.map V.int ∧ (B8 ns → B8 ms) ∧ ms.length ≤ ns.length := by
  unfold cutV
  refine ⟨(ns.drop (HT.sIx (ns.map V.int).length 0 lo)).take (HT.sIx (ns.map V.int).length (ns.map V.int).length hi - HT.sIx (ns.map V.int).length 0 lo), ?_, fun h n hn => h n (List.mem_of_mem_drop (List.mem_of_mem_take hn)), ?_⟩
  · rw [List.map_take, List.map_drop]
  · rw [List.length_take, List.length_drop]
    omega
theorem b8_app {xs ys : List Int} (h1 : B8 xs) (h2 : B8 ys) : B8 (xs ++ ys) := fun n h => (List.mem_append.mp h).elim (h1 n) (h2 n)
theorem b8_one {n : Int} (h0 : 0 ≤ n) (h1 : n < 256) : B8 [n] := fun m h => by
  rw [List.mem_singleton.mp h]
  exact ⟨h0, h1⟩
theorem b8_cks (ns : List Int) : B8 [cks ns] := b8_one (cks_range ns).1 (by have := (cks_range ns).2; omega)
theorem b8_enc {xs : List (Int × Int)} (h : xs.length ≤ 40) : B8 (encR xs) := b8_app (encT_byte xs h _) (b8_cks _)
theorem int_all {K : PySem.W.Frag} {H : Hp} {us : List V} {ns : List Int} (e : us = ns.map V.int) : ∀ u ∈ us, ∀ H', Same H H' → Known K H' u := by
  subst e
  intro u hu H' _
  obtain ⟨n, _, rfl⟩ := List.mem_map.mp hu
  exact True.intro
theorem int_good {ns : List Int} (h : B8 ns) : ¬ ∃ u ∈ ns.map V.int, numB u 0 255 = false := by
  rintro ⟨u, hu, z⟩
  obtain ⟨n, hn, rfl⟩ := List.mem_map.mp hu
  obtain ⟨a, b⟩ := h n hn
  rw [numB_int a (by omega)] at z
  cases z
/-! ### k20's law -/
def scl (t : Int) (xs : List (Int × Int)) : List (Int × Int) := xs.map fun x => (t * x.1, t * x.2)
theorem scl_len (t : Int) (xs : List (Int × Int)) : (scl t xs).length = xs.length := by unfold scl; rw [List.length_map]
theorem wf_scl {t : Int} (ht : 1 ≤ t) : ∀ {xs : List (Int × Int)} {lo : Int}, Wf lo xs → (∀ x ∈ xs, t * x.1 ≤ 1000000000 ∧ t * x.2 ≤ 1000000000) → Wf (t * lo) (scl t xs)
  | [], _, _, _ => True.intro
  | x :: xs, lo, w, h => by
    have q := wf_scl ht w.2.2.2.2 fun y hy => h y (List.mem_cons_of_mem _ hy)
    obtain ⟨h1, h2⟩ := h x List.mem_cons_self
    have e : t * (x.1 + 1) = t * x.1 + t := by rw [Int.mul_add, Int.mul_one]
    have h3 : 1 * 1 ≤ t * x.2 := Int.mul_le_mul ht w.2.2.1 (by decide) (by omega)
    exact ⟨Int.mul_le_mul_of_nonneg_left w.1 (by omega), h1, by show 1 ≤ t * x.2; omega, h2, Wf.mono (by show t * x.1 + 1 ≤ t * (x.1 + 1); omega) q⟩
theorem wf_app : ∀ {xs ys : List (Int × Int)} {lo : Int}, Wf lo xs → Wf lo ys → (∀ x ∈ xs, ∀ y ∈ ys, x.1 + 1 ≤ y.1) → Wf lo (xs ++ ys)
  | [], _, _, _, w', _ => w'
  | x :: xs, ys, lo, w, w', h => ⟨w.1, w.2.1, w.2.2.1, w.2.2.2.1, wf_app w.2.2.2.2 (wf_up w' fun y hy => h x List.mem_cons_self y hy) fun a ha y hy => h a (List.mem_cons_of_mem _ ha) y hy⟩
theorem joinL_app (c : Nat) : ∀ {ps qs : List (List Nat)}, ps ≠ [] → qs ≠ [] → SplS.joinL c (ps ++ qs) = SplS.joinL c ps ++ c :: SplS.joinL c qs
  | [], _, h, _ => absurd rfl h
  | [p], [], _, h => absurd rfl h
  | [p], q :: qs, _, _ => rfl
  | p :: q :: ps, qs, _, h => by
    have ih := joinL_app c (ps := q :: ps) (qs := qs) (by simp) h
    show p ++ c :: SplS.joinL c ((q :: ps) ++ qs) = (p ++ c :: SplS.joinL c (q :: ps)) ++ c :: SplS.joinL c qs
    rw [ih, List.append_assoc]
    rfl
theorem rowL_app {xs ys : List (Int × Int)} : SplS.joinL 10 (([xs, ys].filter fun l => decide (0 < l.length)).map rowL) = rowL (xs ++ ys) := by
  cases xs with
  | nil =>
    cases ys with
    | nil => rfl
    | cons y ys => rfl
  | cons x xs =>
    cases ys with
    | nil => rw [List.append_nil]; rfl
    | cons y ys =>
      show rowL (x :: xs) ++ 10 :: rowL (y :: ys) = rowL ((x :: xs) ++ (y :: ys))
      unfold rowL
      rw [List.map_append, joinL_app 10 (by simp) (by simp)]
theorem shR_back (xs : List (Int × Int)) (s : Int) : shR (shR xs s) (0 - s) = xs := by
  unfold shR
  rw [List.map_map]
  refine Eq.trans (List.map_congr_left fun x _ => ?_) (List.map_id xs)
  show (x.1 + s + (0 - s), x.2) = id x
  rw [show x.1 + s + (0 - s) = x.1 by omega]
  rfl
theorem catA_of {K : PySem.W.Frag} {H : Hp} {Q : VK} {a b : Addr} {xs ys : List V} (ha : SqT K H a xs) (hb : SqT K H b ys) (hz : xs.length + ys.length ≤ sizeLine) (k : ∀ r H', Same H H' → SqT K H' r (xs ++ ys) → Q (.ref r) H') : rCatA K (.ref a) (.ref b) H Q :=
  ⟨a, b, xs, ys, rfl, rfl, ha, hb, hz, fun e => k b H (Same.refl _) (by rw [e]; exact hb), fun _ e => k a H (Same.refl _) (by rw [e, List.append_nil]; exact ha), fun _ _ p np => k p _ (same_new np) (SqT.of upd_same)⟩
theorem rowL_len {xs : List (Int × Int)} (hw : Wf 0 xs) : (rowL xs).length ≤ 28 * xs.length := by
  have := joinL_len (c := 10) (b := 27) (ps := xs.map lineL) fun p hp => by
    obtain ⟨x, hx, rfl⟩ := List.mem_map.mp hp
    obtain ⟨n, hn⟩ := List.getElem?_of_mem hx
    obtain ⟨_, _, w1, w2, w3⟩ := hw.get hn
    exact lineL_len (hw.low hn) w1 w2 w3
  rw [List.length_map] at this
  exact this
theorem cut01 (a b : V) (l : List V) : cutV (a :: b :: l) none (some 1) = [a] := cut_take (us := a :: b :: l) 1
theorem cut12 (a b : V) (l : List V) : cutV (a :: b :: l) (some 1) (some 2) = [b] := by
  unfold cutV
  have e0 : HT.sIx (a :: b :: l).length 0 (some 1) = 1 := by rw [show (1 : Int) = ((1 : Nat) : Int) from rfl, HT.sIx_nat]; simp
  have e1 : HT.sIx (a :: b :: l).length (a :: b :: l).length (some 2) = 2 := by rw [show (2 : Int) = ((2 : Nat) : Int) from rfl, HT.sIx_nat]; simp
  rw [e0, e1]
  rfl
def tI (ns : List Int) : PyData := .tuple (ns.map PyData.int)
theorem tI_shaped (ns : List Int) : SeqAt.shaped (tI ns) = true := by
  show (PyData.canLay0 (tI ns) && decide (PyData.depth (tI ns) ≤ 64)) = true
  rw [Bool.and_eq_true]
  have := bI_deep ns
  refine ⟨by unfold tI; simp only [PyData.canLay0]; exact bI_lay ns, decide_eq_true ?_⟩
  unfold tI
  simp only [PyData.depth]
  omega
theorem plV_ints (xs : List (Int × Int)) : plV xs = (xs.map (·.1)).map V.int := by unfold plV; rw [List.map_map]; rfl
theorem encR_head (xs : List (Int × Int)) : ∃ suf, encR xs = 68 :: (xs.length : Int) :: suf := by
  obtain ⟨suf, e⟩ := encT_head xs xs.length
  exact ⟨suf ++ [cks (encT xs xs.length)], by unfold encR; rw [e]; rfl⟩
def spLaw (K : PySem.W.Frag) : Sp := fun vs H Q _ => ∃ (a : Addr) (ns : List Int), vs = [.ref a] ∧ SqL K H a (ns.map V.int) ∧ ns.length ≤ 63 ∧ ∀ H', Q (.bl true) H'
section
variable {P : Program} {w : World} {K : PySem.W.Frag} {mg : Str → Option Value} {base : Heap}
theorem ok_law {C C1 C10 gL gE gA gS gW gH pP gP qP hP f1 f2 f3 f4 f5 f6 f7 f8 f9 f10 f11 : Addr} {fd dP eP d1 d2 d3 d4 d5 d6 d7 d8 d9 d10 d11 : FuncData} {fo ro : Value} {f : Addr} (F : Fun K "law" "law" s_law f fd) (B : Blt mg) (R : RowC K mg C)
    (SL : Sign K C "__len__" gL) (GL : FnR P w K mg base CX0 1 gL (spLen K C)) (nn : PySem.W.findIn K (.ref C) "__ne__" = some (some (.builtin "object.__ne__"))) (so : PySem.W.subIn K (.ref C) (.type "object") = some true)
    (SE : Sign K C "__eq__" gE) (GE : FnR P w K mg base CX0 1 gE (spSame K C)) (SA : Sign K C "__add__" gA) (GA : FnR P w K mg base CX0 5 gA (spAdd K C))
    (SS : Sign K C "__rshift__" gS) (GS : FnR P w K mg base CX0 5 gS (spShiftG K C)) (noR : PySem.W.findIn K (.ref C) "__rrshift__" = some none) (noI : PySem.W.subIn K (.type "int") (.ref C) = some false) (j1 : PySem.W.findIn K (.type "int") "__rshift__" = some (some fo)) (j2 : PySem.W.findIn K (.type "int") "__rrshift__" = some (some ro)) (j3 : isSeqSlot (some fo) = false)
    (W : Meth K C "without" gW) (GW : FnR P w K mg base CX0 5 gW (spWithoutE K C)) (SH : Sign K C "__contains__" gH) (GH : FnR P w K mg base CX0 3 gH (spHas K C))
    (pr : PropOf K C "stones" pP gP) (P1 : FnOk P w K mg base CX0 1 gP dP ["self"] (spGet K C)) (bP : Binds K dP ["self"] []) (qr : PropOf K C "places" qP hP) (Q1 : FnOk P w K mg base CX0 1 hP eP ["self"] (spPlaces K C)) (bQ : Binds K eP ["self"] [])
    (T1 : At P w K mg base CX0 1 "_law_taken" ["_law_row_here", "_law_many"] (spTaken K) f1 d1) (S2 : At P w K mg base CX0 2 "_law_stones" ["_law_row_here", "_law_most"] (spStones K) f2 d2) (R6 : At P w K mg base CX0 6 "_law_row" ["_law_stones_here"] (spRow K C) f3 d3)
    (GR : At P w K mg base CX0 2 "_law_great" ["_law_row_here", "_law_many"] (spGreat K) f4 d4) (FO : At P w K mg base CX0 3 "format_row" ["row"] (spFmt K C) f5 d5) (PA : At P w K mg base CX0 5 "parse_row" ["text"] (spParse K C) f6 d6)
    (PB : At P w K mg base (L2.CX P w) 2 "pack_bytes" ["values"] (spPack K C10) f7 d7) (UB : At P w K mg base CX0 1 "unpack_bytes" ["data"] spUnpack f8 d8)
    (EN : At P w K mg base (L2.CX P w) 3 "encode_row" ["row"] (spEnc K C) f9 d9) (DE : At P w K mg base (L2.CX P w) 5 "decode_row" ["data"] (spDec K C C1) f10 d10)
    (IC : At P w K mg base CX0 5 "_law_is_chart" ["_law_one", "_law_stone", "_law_side"] (spIsChart K C) f11 d11) :
    FnOk P w K mg base CX0 8 f fd ["_law_script"] (spLaw K) := by
  refine F.ok sc_law (fun vs H Q E h => ?_) (fun cdv A outer s H vs Q E hr h => ?_)
  · obtain ⟨a, ns, rfl, _⟩ := h
    rfl
  · obtain ⟨a, ns, rfl, hs, hn63, k⟩ := h
    have hu := hu_of hr
    have hu64 := hr.units
    have r6 : Room 6 _ := hr.mono (by decide)
    have r5 : Room 5 _ := hr.mono (by decide)
    have r3 : Room 3 _ := hr.mono (by decide)
    have r2 : Room 2 _ := hr.mono (by decide)
    have r1 : Room 1 _ := hr.mono (by decide)
    refine ⟨_, pss_cons (ps_set (i := 1) sc_law.nd rfl (Or.inl rfl) (pe_lst (pa_cons (pv 0) (pa_cons (pe_int) (pa_cons (pe_int) (pa_cons (pe_int) pa_nil))))))
      (pss_cons (ps_for PassesOwn.never rfl (pi_range1 (by rfl) B.range (pa_cons (pe_int) pa_nil)) (pg_name (i := 2) sc_law.nd rfl (Or.inl rfl))
        (pss_cons (ps_set (i := 3) sc_law.nd rfl (Or.inr rfl) (pe_op op_add (pe_int) (pe_at GR r2 (pa_cons (pv 1) (pa_cons (pe_ix ix_list (pe_lst (pa_cons (pe_int) (pa_cons (pe_op op_pow pe_int pe_int) pa_nil))) (pe_at T1 r1 (pa_cons (pv 1) (pa_cons (pe_int) pa_nil))) (fun _ _ => rfl)) pa_nil)))))
        (pss_cons (ps_setLc (i := 4) (own := [("_law_place", 5), ("_law_height", 6)]) (g := gTup K 2 (gCons (gName 5) (gCons (gName 6) gNil))) (tt := tYes) rfl sc_law.nd rfl rfl (sw_true rfl rfl rfl (by decide +kernel)) (pi_list (pe_at S2 r2 (pa_cons (pv 1) (pa_cons (pe_int) pa_nil)))) (blkOk_by (N := n_law) (sc := defScope s_law) (by decide +kernel))
            (fun _ _ _ _ _ => (show PG _ _ (gTup K 2 (gCons (gName 5) (gCons (gName 6) gNil))) from pg_tup rfl (pgs_cons (pg_name (i := 5) sc_law.nd rfl (Or.inl rfl)) (pgs_cons (pg_name (i := 6) sc_law.nd rfl (Or.inl rfl)) pgs_nil)))) (fun _ _ _ _ _ => pts_nil)
            (fun _ _ _ _ _ => pe_tup (pa_cons (pe_op op_mul (pv 3) (pv 5)) (pa_cons (pe_op op_mul (pv 3) (pv 6)) pa_nil))))
        (pss_cons (ps_set (i := 7) sc_law.nd rfl (Or.inl rfl) (pe_op op_add (pe_op op_mul pe_int (pv 3)) (pe_at T1 r1 (pa_cons (pv 1) (pa_cons (pe_int) pa_nil)))))
        (pss_cons (ps_set (i := 8) sc_law.nd rfl (Or.inl rfl) (pe_at S2 r2 (pa_cons (pv 1) (pa_cons (pe_int) pa_nil))))
        (pss_cons (ps_par (i := 9) (j := 10) (by rfl) sc_law.nd rfl rfl (by decide) rfl rfl (pa_cons (pe_at R6 r6 (pa_cons (pv 4) pa_nil)) (pa_cons (pe_op (Own.op_binI (op := .RShift) R.first SS.at_ SS.fn noR noI j1 j2 j3 GS r5 pass0) (pe_at R6 r6 (pa_cons (pv 8) pa_nil)) (pv 7)) pa_nil)) (by rfl))
        (pss_cons (ps_asg (pe_tup (pa_cons (pe_op (Own.op_bin (op := .Add) (C := C) (g := gA) R.first SA.at_ SA.fn GA r5 pass0) (pv 9) (pv 10)) (pa_cons (pe_op (Own.op_bin (op := .Add) (C := C) (g := gA) R.first SA.at_ SA.fn GA r5 pass0) (pv 9) (pv 10)) pa_nil))) (pg_tup rfl (pgs_cons (pg_name (i := 11) sc_law.nd rfl (Or.inr rfl)) (pgs_cons (pg_name (i := 12) sc_law.nd rfl (Or.inl rfl)) pgs_nil))))
        (pss_cons (ps_for PassesOwn.never rfl (pi_range1 (by rfl) B.range (pa_cons (pe_callB (Own.call_len SL.at_ SL.fn GL r2 pass0) (by rfl) B.len PySem.boot_len (pa_cons (pv 10) pa_nil)) pa_nil)) (pg_name (i := 13) sc_law.nd rfl (Or.inl rfl))
          (pss_one (ps_set (i := 12) sc_law.nd rfl (Or.inl rfl) (pe_methR (pv 12) R.cl W GW r5 pass0 (pa_cons (pe_callB (Own.call_len SL.at_ SL.fn GL r2 pass0) (by rfl) B.len PySem.boot_len (pa_cons (pv 9) pa_nil)) pa_nil)))))
        (pss_cons (ps_if (PW.pt (pw_or (pt_cmpR (Own.op_neOwn nn so SE.at_ SE.fn GE r2 pass0) (pv 12) (pv 9) (nomark _)) (pw_or (pt_cmpR (Own.op_neOwn nn so SE.at_ SE.fn GE r2 pass0) (pe_op (Own.op_binI (op := .RShift) R.first SS.at_ SS.fn noR noI j1 j2 j3 GS r5 pass0) (pv 10) (pe_op op_sub (pe_int) (pv 7))) (pe_at R6 r6 (pa_cons (pv 8) pa_nil)) (nomark _))
            (pw_or1 (pt_cmpR (op_ne) (pe_callB (Own.call_len SL.at_ SL.fn GL r2 pass0) (by rfl) B.len PySem.boot_len (pa_cons (pv 11) pa_nil)) (pe_op op_add (pe_callB (Own.call_len SL.at_ SL.fn GL r2 pass0) (by rfl) B.len PySem.boot_len (pa_cons (pv 9) pa_nil)) (pe_callB (Own.call_len SL.at_ SL.fn GL r2 pass0) (by rfl) B.len PySem.boot_len (pa_cons (pv 10) pa_nil))) (nomark _)))))) (pss_one (ps_ret pe_bl)) pss_nil)
        (pss_cons (ps_if (PW.pt (pw_or (pt_cmpR (Own.op_neOwn nn so SE.at_ SE.fn GE r2 pass0) (pe_at PA r5 (pa_cons (pe_at FO r3 (pa_cons (pv 11) pa_nil)) pa_nil)) (pv 11) (nomark _)) (pw_or1 (pt_cmpR (Own.op_neOwn nn so SE.at_ SE.fn GE r2 pass0) (pe_call DE.ok r5 (by rfl) DE.m DE.kp DE.b .nil passL (pa_cons (pe_call EN.ok r3 (by rfl) EN.m EN.kp EN.b .nil passL (pa_cons (pv 11) pa_nil)) pa_nil)) (pv 11) (nomark _))))) (pss_one (ps_ret pe_bl)) pss_nil)
        (pss_cons (ps_if (pt_cmpR (op_ne) (pe_at FO r3 (pa_cons (pv 11) pa_nil)) (pe_join pe_str (pe_lc (own := [("_law_some", 14)]) (g := gName 14) rfl sc_law.nd (pi_tup (pe_tup (pa_cons (pv 9) (pa_cons (pv 10) pa_nil)))) (blkOk_by (N := n_law) (sc := defScope s_law) (by decide +kernel))
            (fun _ _ _ _ _ => pg_name (i := 14) sc_law.nd rfl (Or.inl rfl)) (fun _ _ _ _ _ => pts_one (pt_cmpR (op_gt) (pe_callB (Own.call_len SL.at_ SL.fn GL r2 pass0) (by rfl) B.len PySem.boot_len (pa_cons (pv 14) pa_nil)) (pe_int) (nomark _))) (fun _ _ _ _ _ => (show PE _ _ (tCall (spFmt K C) [] E0 (tCons (tVar 14) tNil)) from pe_at FO r3 (pa_cons (pv 14) pa_nil))))) (nomark _)) (pss_one (ps_ret pe_bl)) pss_nil)
        (pss_cons (ps_set (i := 15) sc_law.nd rfl (Or.inl rfl) (pe_at UB r1 (pa_cons (pe_call EN.ok r3 (by rfl) EN.m EN.kp EN.b .nil passL (pa_cons (pv 11) pa_nil)) pa_nil)))
        (pss_cons (ps_if (PW.pt (pw_or (pt_cmpR (op_ne) (pe_call PB.ok r2 (by rfl) PB.m PB.kp PB.b .nil passL (pa_cons (pv 15) pa_nil)) (pe_call EN.ok r3 (by rfl) EN.m EN.kp EN.b .nil passL (pa_cons (pv 11) pa_nil)) (nomark _)) (pw_or1 (pt_cmpR (op_neD hu64) (pe_op op_cat (pe_slice sl_list (pv 15) po_none (po_some pe_int)) (pe_slice sl_list (pv 15) (po_some pe_int) (po_some pe_int))) (pe_lst (pa_cons (pe_int) (pa_cons (pe_callB (Own.call_len SL.at_ SL.fn GL r2 pass0) (by rfl) B.len PySem.boot_len (pa_cons (pv 11) pa_nil)) pa_nil))) (nomark _))))) (pss_one (ps_ret pe_bl)) pss_nil)
        (pss_cons (ps_if (PW.pt (pw_or (pt_cmpR (op_neD hu64) (pe_lc (own := [("_law_place", 5)]) (g := gName 5) rfl sc_law.nd (pi_tup (pe_prop (pv 11) R.cl qr Q1 r2 bQ .nil pass0 rfl)) (blkOk_by (N := n_law) (sc := defScope s_law) (by decide +kernel))
              (fun _ _ _ _ _ => pg_name (i := 5) sc_law.nd rfl (Or.inl rfl)) (fun _ _ _ _ _ => pts_one (pt_cmpR (Own.op_notInO SH.at_ SH.fn GH r3 pass0) (pv 5) (pv 11) (by rfl))) (fun _ _ _ _ _ => pv 5)) (pe_lst pa_nil) (nomark _))
            (pw_or1 (pt_cmpR (op_neD hu64) (pe_prop (pv 11) R.cl qr Q1 r2 bQ .nil pass0 rfl) (pe_op op_catA (pe_prop (pv 9) R.cl qr Q1 r2 bQ .nil pass0 rfl) (pe_prop (pv 10) R.cl qr Q1 r2 bQ .nil pass0 rfl)) (nomark _))))) (pss_one (ps_ret pe_bl)) pss_nil)
        (pss_one (ps_for PassesOwn.never rfl (pi_range1 (by rfl) B.range (pa_cons (pe_callB ((call_min2 rfl)) (by rfl) B.min boot_min (pa_cons (pe_int) (pa_cons (pe_callB (Own.call_len SL.at_ SL.fn GL r2 pass0) (by rfl) B.len PySem.boot_len (pa_cons (pv 11) pa_nil)) pa_nil))) pa_nil)) (pg_name (i := 13) sc_law.nd rfl (Or.inl rfl))
          (pss_one (ps_if (pt_not (pt_val (pe_at IC r5 (pa_cons (pv 11) (pa_cons (pe_at T1 r1 (pa_cons (pv 1) (pa_cons (pe_callB (Own.call_len SL.at_ SL.fn GL r2 pass0) (by rfl) B.len PySem.boot_len (pa_cons (pv 11) pa_nil)) pa_nil))) (pa_cons (pe_ix ix_list (pe_lst (pa_cons (pe_str) (pa_cons (pe_str) pa_nil))) (pv 13) (fun _ _ => rfl)) pa_nil)))))) (pss_one (ps_ret pe_bl)) pss_nil))))))))))))))))))
      (pss_one (ps_ret pe_bl))), ?_⟩
    refine ⟨_, rfl, by show 4 ≤ sizeLine; decide, fun L0 nL => ?_⟩
    have D0 : Drw K (upd H L0 (.lst [.ref a, .int 0, .int 0, .int 0])) L0 a ns := ⟨0, 0, 0, upd_same, by decide, by decide, by decide, (same_new nL).seq hs⟩
    generalize upd H L0 (.lst [.ref a, .int 0, .int 0, .int 0]) = H1 at D0 ⊢
    refine nm_of ?_
    refine ⟨3, rfl, by decide, by decide, for_range (lo := 0) (n := 3) (fun j σ G => ∃ (s2 s3 s4 s5 s6 s7 s8 s9 s10 s11 s12 s13 s14 s15 : Option V), σ = [some (.ref a), some (.ref L0), s2, s3, s4, s5, s6, s7, s8, s9, s10, s11, s12, s13, s14, s15] ∧ Drw K G L0 a ns) ?_ ?_ ?_⟩
    · exact ⟨_, _, _, _, _, _, _, _, _, _, _, _, _, _, rfl, D0⟩
    · rintro jt σ G hj ⟨s2, s3, s4, s5, s6, s7, s8, s9, s10, s11, s12, s13, s14, s15, rfl, D⟩
      refine nm_of ?_
      have e6 : (10 : Int) ^ (6 : Int).toNat = 1000000 := by decide
      -- times
      refine seq_of (asg_of ?_)
      refine ⟨_, rfl, _, _, rfl, rfl, ⟨by decide, by decide⟩, by show 2 ≤ sizeLine; decide, fun l1 nl1 => ?_⟩
      obtain ⟨yL, eL⟩ := D.cell.list
      have l1L : l1 ≠ L0 := fun e => by rw [e, eL] at nl1; cases nl1
      dsimp only
      rw [e6]
      have sl1 := same_new (o := .lst [V.int 1, V.int 1000000]) nl1
      refine ⟨_, rfl, L0, a, ns, 2, rfl, by decide, by decide, D.up sl1, fun k1 H2 k10 k11 D2 b2 => ?_⟩
      obtain ⟨z1, hz1, ez1⟩ := pick (vs := [1, 1000000]) rfl k10 k11
      refine ⟨l1, _, k1, _, rfl, rfl, SqL.of (b2 _ _ l1L upd_same), ez1, ?_⟩
      have z1b : 1 ≤ z1 ∧ z1 ≤ 1000000 := by simp at hz1; omega
      refine ⟨L0, a, ns, z1, rfl, by omega, D2, fun n1 H3 n10 n11 D3 b3 => ?_⟩
      clear b2 b3 ez1 hz1 sl1 l1L nl1 eL D2 D
      refine ⟨_, _, rfl, rfl, nm_of ?_⟩
      obtain ⟨t, ht⟩ : ∃ t : Int, t = 1 + n1 := ⟨_, rfl⟩
      dsimp only
      rw [← ht]
      have t0 : 1 ≤ t := by omega
      have t1 : t ≤ 1000000 := by omega
      clear n10 n11 ht k10 k11 z1b
      show tSeq _ _ _ _ _
      refine seq_of ?_
      -- the first stones
      refine ⟨_, rfl, L0, a, ns, 10, rfl, by decide, by decide, D3, fun sl us xs H4 D4 b4 nsl esl hS hw hd hz => ?_⟩
      refine ⟨sl, rfl, ⟨_, SqL.of esl⟩, fun Dl nDl => ?_⟩
      have hb : ∀ x ∈ xs, t * x.1 ≤ 102000000 ∧ t * x.1 ≤ 102 * t ∧ t * x.2 ≤ 1000000000 ∧ 0 ≤ t * x.1 := fun x hx => by
        obtain ⟨q0, q1, q2, q3⟩ := hd x hx
        have m1 : t * x.1 ≤ 1000000 * 102 := Int.mul_le_mul t1 (by omega) q0 (by decide)
        have m2 : t * x.2 ≤ 1000000 * 40 := Int.mul_le_mul t1 q3 (by omega) (by decide)
        have m3 : t * x.1 ≤ t * 102 := Int.mul_le_mul_of_nonneg_left (by omega) (by omega)
        have m4 : 0 ≤ t * x.1 := Int.mul_nonneg (by omega) q0
        exact ⟨by omega, by rw [Int.mul_comm 102]; exact m3, by omega, m4⟩
      refine lc_fm (walk_list (K := K) (a := sl) (xs := us)) xs (fun _ => true) (fun x => (t * x.1, t * x.2)) (fun G v (x : Int × Int) => ∃ b : Addr, v = .ref b ∧ SqT K G b [.int x.1, .int x.2]) hS.1.symm (by rw [hS.1]; omega) nDl (fun H H' v b acc hD bt ⟨c, h1, h2⟩ => ⟨c, h1, sqT_but h2 hD bt⟩) (fun _ e => SqL.of (e _ _ esl)) ?_ ?_
      · rintro n x v G1 G2 N' M' hp sm _ ⟨rfl, hx⟩ _ go
        obtain ⟨b, hb', sb⟩ := hS.2 n x hp
        obtain rfl : v = .ref b := Option.some.inj (hx.symm.trans hb')
        obtain ⟨q0, q1, q2, q3⟩ := hd x (List.mem_of_getElem? hp)
        refine ⟨b, _, rfl, sqT_same sb sm, rfl, _, _, rfl, _, _, rfl, rfl, rfl, ?_⟩
        refine ⟨_, rfl, _, rfl, _, _, rfl, rfl, .inl ⟨by omega, by omega⟩, _, rfl, _, rfl, _, _, rfl, rfl, .inl ⟨by omega, by omega⟩, by show 2 ≤ sizeLine; decide, fun T nT => ?_⟩
        exact go _ _ rfl (same_new nT) ⟨T, rfl, SqT.of upd_same⟩
      intro G5 as s5' eD rel
      rw [List.filter_eq_self.mpr (fun _ _ => rfl)] at rel
      have hA : StonesAt K G5 as (scl t xs) := ⟨paired_len rel, fun j x h => by obtain ⟨v, hv, b, rfl, sa⟩ := paired_at rel h; exact ⟨b, hv, sa⟩⟩
      have D5 := D4.up s5'
      have DlL : Dl ≠ L0 := fun e => by
        obtain ⟨yL, eL⟩ := D4.cell.list
        rw [e, eL] at nDl
        cases nDl
      have wA : Wf 0 (scl t xs) := by
        have := wf_scl t0 hw fun x hx => ⟨by have := (hb x hx).1; omega, (hb x hx).2.2.1⟩
        rwa [Int.mul_zero] at this
      have lA : (scl t xs).length ≤ 10 := by rw [scl_len]; omega
      have bA : ∀ x ∈ scl t xs, x.1 ≤ 102 * t := fun x hx => by
        obtain ⟨y, hy, rfl⟩ := List.mem_map.mp hx
        exact (hb y hy).2.1
      generalize scl t xs = A at hA wA lA bA
      clear rel b4 nsl esl hS hw hd hz hb nDl s5' D4 D3
      refine nm_of ?_
      dsimp only
      show tSeq _ _ _ _ _
      refine seq_of (asg_of ?_)
      -- how far the later ones stand
      refine ⟨_, rfl, _, _, rfl, rfl, .inl ⟨by decide, by decide⟩, _, rfl, L0, a, ns, 1000, rfl, by decide, by decide, D5, fun n2 H6 n20 n21 D6 b6 => ?_⟩
      obtain ⟨yL, eL⟩ := D5.cell.list
      have eD6 := b6 _ _ DlL eD
      have hA6 := hA.but eL b6
      clear eD hA b6 eL D5
      refine ⟨_, _, rfl, rfl, nm_of ?_⟩
      obtain ⟨by_, hby⟩ : ∃ b : Int, b = 500 * t + n2 := ⟨_, rfl⟩
      dsimp only
      rw [← hby]
      have by0 : 500 * t ≤ by_ ∧ by_ ≤ 600000000 := by omega
      show tSeq _ _ _ _ _
      refine seq_of (asg_of ?_)
      -- the later ones
      refine ⟨_, rfl, L0, a, ns, 10, rfl, by decide, by decide, D6, fun sl vs ys H7 D7 b7 nsl esl hS hw hd hz => ?_⟩
      obtain ⟨yL, eL⟩ := D6.cell.list
      have eD7 := b7 _ _ DlL eD6
      have hA7 := hA6.but eL b7
      have lY : ys.length ≤ 10 := by omega
      have bY : ∀ y ∈ ys, 0 ≤ y.1 ∧ y.1 ≤ 102 := fun y hy => ⟨(hd y hy).1, by have := (hd y hy).2.1; omega⟩
      clear eD6 hA6 b7 eL D6 n20 n21 hby nsl hd hz
      refine nm_of ?_
      dsimp only
      show tSeq _ _ _ _ _
      refine seq_of ?_
      -- the rows
      refine ⟨_, rfl, Dl, as, A, rfl, SqL.of eD7, hA7, wA, by omega, fun z1 H8 s8 nz1 R1 => ?_⟩
      refine ⟨_, rfl, sl, vs, ys, rfl, SqL.of (s8 _ _ esl), hS.same s8, hw, by omega, fun z0 H9 s9 nz0 R0' => ?_⟩
      have wB : Wf 0 (shR ys by_) := wf_up (wf_shR hw fun x hx => by have := bY x hx; omega) fun x hx => by
        obtain ⟨y, hy, rfl⟩ := List.mem_map.mp hx
        have := bY y hy
        show 0 ≤ y.1 + by_
        omega
      obtain ⟨d0, _, _, e0, _, _⟩ := id R0'
      refine ⟨_, rfl, z0, d0, _, _, rfl, rfl, e0, z0, ys, by_, rfl, R0', hw, by omega, by omega, by omega, wB, fun z2 H10 s10 nz2 R2 => ⟨_, _, rfl, ?_⟩⟩
      have s710 := (s8.trans s9).trans s10
      have D10 := D7.up s710
      have R1 := (R1.same s9).same s10
      have esl := s710 _ _ esl
      have hS := hS.same s710
      clear eD7 hA7 s8 s9 s10 nz1 nz0 nz2 e0 R0' s710 D7
      have wAB : Wf 0 (A ++ shR ys by_) := wf_app wA wB fun x hx y hy => by
        have h1 := bA x hx
        obtain ⟨q, hq, rfl⟩ := List.mem_map.mp hy
        have := (bY q hq).1
        show x.1 + 1 ≤ q.1 + by_
        omega
      have lB : (shR ys by_).length ≤ 10 := by rw [shR_len]; exact lY
      dsimp only
      show tSeq _ _ _ _ _
      refine seq_of (asg_of ?_)
      obtain ⟨d1, t1', u1', e1, T1', S1'⟩ := id R1
      obtain ⟨d2, t2', u2', e2, T2', S2'⟩ := id R2
      refine ⟨_, rfl, _, rfl, z1, d1, _, z2, d2, _, rfl, rfl, e1, e2, z1, z2, A, shR ys by_, rfl, R1, R2, wAB, by rw [List.length_append]; omega, fun z3 H11 s11 nz3 R3 => ?_⟩
      refine ⟨_, rfl, _, rfl, z1, d1, _, z2, d2, _, rfl, rfl, s11 _ _ e1, s11 _ _ e2, z1, z2, A, shR ys by_, rfl, R1.same s11, R2.same s11, wAB, by rw [List.length_append]; omega, fun z4 H12 s12 nz4 R4 => ?_⟩
      refine ⟨by show 2 ≤ sizeLine; decide, fun T nT => ⟨T, [V.ref z3, V.ref z4], rfl, SqT.of upd_same, rfl, _, _, rfl, _, _, rfl, rfl, ?_⟩⟩
      have sT := same_new (o := .tup [V.ref z3, V.ref z4]) nT
      have s1013 := (s11.trans s12).trans sT
      have D13 := D10.up s1013
      have R1 := R1.same s1013
      have R2 := R2.same s1013
      have R3 := (R3.same s12).same sT
      have R4 := R4.same sT
      have esl := s1013 _ _ esl
      have hS := hS.same s1013
      generalize upd H12 T (.tup [V.ref z3, V.ref z4]) = H13 at D13 R1 R2 R3 R4 esl hS ⊢
      clear sT s1013 s11 s12 nz3 nz4 e1 e2 T1' T2' S1' S2' D10
      generalize hBB : shR ys by_ = BB at wB wAB lB R2 R3 R4
      obtain ⟨d1, _, _, e1, _, _⟩ := id R1
      obtain ⟨d2, _, _, e2, _, _⟩ := id R2
      obtain ⟨d3, _, _, e3, _, _⟩ := id R3
      dsimp only
      show tSeq _ _ _ _ _
      refine seq_of ?_
      -- the later stones are taken away
      refine ⟨_, rfl, z2, d2, _, rfl, e2, z2, BB, rfl, R2, _, rfl, by omega, by omega, BB.length, rfl, by omega, by omega, for_range (lo := 0) (n := BB.length) (fun j σ G => ∃ (z : Addr) (s13' : Option V), σ = [some (.ref a), some (.ref L0), some (.int (0 + (jt : Nat))), some (.int t), some (.ref Dl), s5, s6, some (.int by_), some (.ref sl), some (.ref z1), some (.ref z2), some (.ref z3), some (.ref z), s13', s14, s15] ∧ Same H13 G ∧ RowAt K C G z (A ++ BB.drop j)) ?_ ?_ ?_⟩
      · exact ⟨z4, _, rfl, Same.refl _, by rw [List.drop_zero]; exact R4⟩
      · rintro j σ G hj ⟨z, s13', rfl, sG, hRz⟩
        refine nm_of ?_
        refine asg_of ?_
        obtain ⟨dz, _, _, ez, _, _⟩ := id hRz
        obtain ⟨y, hy⟩ : ∃ y, BB[j]? = some y := ⟨BB[j], by simp [hj]⟩
        have ed : BB.drop j = y :: BB.drop (j + 1) := by
          rw [List.drop_eq_getElem_cons hj]
          congr 1
          have := List.getElem?_eq_getElem hj
          rw [hy] at this
          injection this with this
          exact this.symm
        rw [ed] at hRz
        refine ⟨_, rfl, z, dz, _, rfl, ez, rfl, _, rfl, z1, d1, _, rfl, sG _ _ e1, z1, A, rfl, R1.same sG, _, rfl, by omega, by omega, .ref z, [.int (A.length : Nat)], rfl, by show 1 ≤ 1000; decide, fun b nb => ?_⟩
        have sb := same_new (o := .tup [V.int (A.length : Nat)]) nb
        have wj : Wf 0 (A ++ y :: BB.drop (j + 1)) := by
          rw [← ed]
          exact wAB.sublist ((List.Sublist.refl A).append (List.drop_sublist j BB))
        refine ⟨z, b, A ++ y :: BB.drop (j + 1), A.length, rfl, hRz.same sb, wj, by rw [List.length_append, List.length_cons, List.length_drop]; omega, SqT.of upd_same, by rw [List.length_append, List.length_cons]; omega, fun z' G' s' nz' hz' => ?_⟩
        rw [pk_erase] at hz'
        exact ⟨z', _, rfl, (sG.trans sb).trans s', hz'⟩
      rintro σ G ⟨zb, s13', rfl, sG, Rb⟩
      rw [List.drop_length, List.append_nil] at Rb
      have D14 := D13.up sG
      have R1 := R1.same sG
      have R2 := R2.same sG
      have R3 := R3.same sG
      have esl := sG _ _ esl
      have hS := hS.same sG
      have e1 := sG _ _ e1
      have e2 := sG _ _ e2
      have e3 := sG _ _ e3
      clear sG R4 D13
      obtain ⟨db, _, _, eb, _, _⟩ := id Rb
      dsimp only
      show tSeq _ _ _ _ _
      refine seq_of ?_
      -- sums
      refine ⟨_, rfl, _, rfl, zb, db, _, z1, d1, _, rfl, rfl, eb, e1, zb, z1, A, rfl, Rb, R1, true, rfl, _, rfl, ?_⟩
      refine iteF ?_
      have wBk : Wf 0 (shR BB (0 - by_)) := by rw [← hBB, shR_back]; exact hw
      refine ⟨_, rfl, _, rfl, _, _, rfl, rfl, z2, d2, _, _, rfl, rfl, e2, z2, BB, 0 - by_, rfl, R2, wB, by omega, by omega, by omega, wBk, fun z5 G1 g1 n5 R5 => ?_⟩
      rw [← hBB, shR_back] at R5
      refine ⟨_, rfl, sl, vs, ys, rfl, SqL.of (g1 _ _ esl), hS.same g1, hw, by omega, fun z6 G2 g2 n6 R6' => ?_⟩
      have R5 := R5.same g2
      obtain ⟨d5, _, _, e5, _, _⟩ := id R5
      obtain ⟨d6, _, _, e6', _, _⟩ := id R6'
      refine ⟨z5, d5, _, z6, d6, _, rfl, rfl, e5, e6', z5, z6, ys, rfl, R5, R6', true, rfl, _, rfl, ?_⟩
      refine iteF ?_
      have g12 := g1.trans g2
      have R1 := R1.same g12
      have R2 := R2.same g12
      have R3 := R3.same g12
      have D15 := D14.up g12
      have e1 := g12 _ _ e1
      have e2 := g12 _ _ e2
      have e3 := g12 _ _ e3
      clear R5 R6' e5 e6' n5 n6 g1 g2 g12 D14 esl hS eb Rb
      refine ⟨_, rfl, z3, d3, _, rfl, e3, z3, A ++ BB, rfl, R3, _, rfl, by rw [List.length_append]; omega, by rw [List.length_append]; omega, ?_⟩
      refine ⟨_, rfl, z1, d1, _, rfl, e1, z1, A, rfl, R1, _, rfl, by omega, by omega, ?_⟩
      refine ⟨_, rfl, z2, d2, _, rfl, e2, z2, BB, rfl, R2, _, rfl, by omega, by omega, _, _, rfl, rfl, rfl, _, rfl, ?_⟩
      rw [show (!decide (V.int ((A ++ BB).length : Int) = V.int ((A.length : Int) + (BB.length : Int)))) = false from by
        rw [List.length_append, Int.natCast_add, decide_eq_true rfl]
        rfl]
      refine iteF (next_of ?_)
      dsimp only
      show tSeq _ _ _ _ _
      refine seq_of ?_
      -- texts and bytes lead back
      have hAB := decR_enc wAB (by rw [List.length_append]; omega)
      have l40 : (A ++ BB).length ≤ 40 := by rw [List.length_append]; omega
      have bE : B8 (encR (A ++ BB)) := b8_enc l40
      have lE : (encR (A ++ BB)).length ≤ 203 ∧ 2 ≤ (encR (A ++ BB)).length := by
        have q := encT_len (A ++ BB) (fun x hx => by
          obtain ⟨n, hn⟩ := List.getElem?_of_mem hx
          obtain ⟨_, _, w1, w2, w3⟩ := wAB.get hn
          exact ⟨wAB.low hn, w1, by omega, w3⟩) _ (Nat.le_refl _)
        obtain ⟨suf, es⟩ := encT_head (A ++ BB) (A ++ BB).length
        have q2 := congrArg List.length es
        unfold encR
        rw [List.length_append] at q ⊢
        simp at q q2 ⊢
        omega
      refine ⟨_, rfl, z3, A ++ BB, rfl, R3, wAB, l40, fun G1 g1 => ?_⟩
      refine ⟨A ++ BB, rfl, wAB, l40, fun z5 G2 g2 n5 R5 => ?_⟩
      have g12 := g1.trans g2
      obtain ⟨d5, _, _, e5, _, _⟩ := id R5
      refine ⟨_, rfl, z5, d5, _, z3, d3, _, rfl, rfl, e5, g12 _ _ e3, z5, z3, A ++ BB, rfl, R5, R3.same g12, true, rfl, _, rfl, ?_⟩
      refine iteF ?_
      refine ⟨_, rfl, z3, A ++ BB, rfl, R3.same g12, wAB, l40, fun G3 g3 => ?_⟩
      refine ⟨encR (A ++ BB), rfl, bE, by omega, fun e he => absurd (hAB.symm.trans he) (fun z => nomatch z), fun xs' hx' z6 G4 g4 n6 R6' => ?_⟩
      obtain rfl : A ++ BB = xs' := by rw [hAB] at hx'; injection hx'
      obtain ⟨d6, _, _, e6', _, _⟩ := id R6'
      have g14 := (g12.trans g3).trans g4
      refine ⟨_, rfl, z6, d6, _, z3, d3, _, rfl, rfl, e6', g14 _ _ e3, z6, z3, A ++ BB, rfl, R6', R3.same g14, true, rfl, _, rfl, ?_⟩
      refine iteF (next_of ?_)
      have R1 := R1.same g14
      have R2 := R2.same g14
      have R3 := R3.same g14
      have D16 := D15.up g14
      have e1 := g14 _ _ e1
      have e2 := g14 _ _ e2
      have e3 := g14 _ _ e3
      clear R5 R6' e5 e6' n5 n6 g1 g2 g3 g4 g12 g14 D15
      dsimp only
      show tSeq _ _ _ _ _
      refine seq_of ?_
      -- lines join
      refine ⟨_, rfl, z3, A ++ BB, rfl, R3, wAB, l40, fun G1 g1 => ?_⟩
      refine ⟨⟨_, rfl⟩, _, rfl, _, rfl, by show 2 ≤ sizeLine; decide, fun q nq => ?_⟩
      have gq := g1.trans (same_new (o := .tup [V.ref z1, V.ref z2]) nq)
      have eq0 : (upd G1 q (.tup [V.ref z1, V.ref z2])) q = some (.tup [V.ref z1, V.ref z2]) := upd_same
      generalize upd G1 q (.tup [V.ref z1, V.ref z2]) = G2 at gq eq0 ⊢
      refine ⟨q, rfl, ⟨_, SqT.of eq0⟩, fun Dj nDj => ?_⟩
      refine lc_fm (walk_tup (K := K) (a := q) (xs := [V.ref z1, V.ref z2])) [A, BB] (fun l => decide (0 < l.length)) rowL (fun _ v (l : List Nat) => v = V.str (TxtG.T l)) rfl (by show 2 < 1000000; decide) nDj (fun _ _ _ _ _ _ _ q => q) (fun _ e => SqT.of (e _ _ eq0)) ?_ ?_
      · rintro n l v G3 G4 N' M' hp sm _ ⟨rfl, hv⟩ no go
        obtain ⟨z, dz, rfl, hR', wl, ll, ez⟩ : ∃ z dz, v = V.ref z ∧ RowAt K C G4 z l ∧ Wf 0 l ∧ l.length ≤ 10 ∧ ∃ fs, G4 z = some (.ins C dz fs) := by
          have gs := gq.trans sm
          match n, hp, hv with
          | 0, hp, hv => cases hp; cases hv; exact ⟨z1, d1, rfl, R1.same gs, wA, lA, _, gs _ _ e1⟩
          | 1, hp, hv => cases hp; cases hv; exact ⟨z2, d2, rfl, R2.same gs, wB, lB, _, gs _ _ e2⟩
          | n + 2, hp, hv => simp at hp
        obtain ⟨fs, ez⟩ := ez
        refine ⟨rfl, _, rfl, z, dz, _, rfl, ez, z, l, rfl, hR', _, rfl, by omega, by omega, _, _, rfl, rfl, _, rfl, ?_⟩
        by_cases c : 0 < l.length
        · rw [decide_eq_true (show (0 : Int) < (l.length : Int) by omega)]
          exact iteT ⟨_, rfl, z, l, rfl, hR', wl, by omega, fun G5 g5 => go _ _ (decide_eq_true c) g5 rfl⟩
        · rw [decide_eq_false (show ¬ (0 : Int) < (l.length : Int) by omega)]
          exact iteF (no _ (decide_eq_false c) (Same.refl _))
      intro G3 ls g3 eDj rel
      have ev := paired_eq (fun l : List Nat => V.str (TxtG.T l)) rel
      have els : ls = ((([A, BB].filter fun l => decide (0 < l.length)).map rowL).map TxtG.T).map V.str := by
        rw [ev, List.map_map, List.map_map, List.map_map]
        rfl
      have g13 := gq.trans g3
      refine ⟨_, Dj, (([A, BB].filter fun l => decide (0 < l.length)).map rowL).map TxtG.T, rfl, rfl, .inl (SqL.of (by rw [eDj, els])), ?_, ?_⟩
      · have q1 := rowL_len wA
        have q2 := rowL_len wB
        have sl : ∀ (ls : List (List (Int × Int))), (∀ l ∈ ls, (rowL l).length ≤ 280) → (((ls.map rowL).map TxtG.T).map (·.length)).sum ≤ 280 * ls.length := by
          intro ls
          induction ls with
          | nil => intro _; simp
          | cons y ys ih =>
            intro h
            have h1 := h y (by simp)
            have h2 := ih fun z hz => h z (by simp [hz])
            simp [TxtG.T_len] at h2 ⊢
            omega
        have q3 := sl ([A, BB].filter fun l => decide (0 < l.length)) fun l hl => by
          have hl := (List.mem_filter.mp hl).1
          simp only [List.mem_cons, List.not_mem_nil, or_false] at hl
          rcases hl with rfl | rfl <;> omega
        have q4 : ([A, BB].filter fun l => decide (0 < l.length)).length ≤ 2 := List.length_filter_le _ _
        have l1 : (Str.ofString "\n").length = 1 := by decide +kernel
        rw [l1, List.length_map, List.length_map]
        omega
      rw [lit_nl, SplS.txtJoin_T, rowL_app]
      refine ⟨rfl, _, rfl, ?_⟩
      rw [show (!decide (V.str (TxtG.T (rowL (A ++ BB))) = V.str (TxtG.T (rowL (A ++ BB))))) = false from by rw [decide_eq_true rfl]; rfl]
      refine iteF (next_of ?_)
      have R1 := R1.same g13
      have R2 := R2.same g13
      have R3 := R3.same g13
      have D17 := D16.up g13
      have e1 := g13 _ _ e1
      have e2 := g13 _ _ e2
      have e3 := g13 _ _ e3
      clear rel ev els g3 eDj nDj g13 gq g1 nq eq0 D16
      dsimp only
      show tSeq _ _ _ _ _
      refine seq_of (asg_of ?_)
      -- values
      refine ⟨_, rfl, z3, A ++ BB, rfl, R3, wAB, l40, fun G4 g4 => ?_⟩
      refine ⟨byteArr (encR (A ++ BB)), rfl, by rw [ByL.byteArr_size]; omega, fun u nu => nm_of ?_⟩
      rw [ByL.bytV_arr bE]
      have gu := g4.trans (same_new (o := .lst ((encR (A ++ BB)).map V.int)) nu)
      have eu : (upd G4 u (.lst ((encR (A ++ BB)).map V.int))) u = some (.lst ((encR (A ++ BB)).map V.int)) := upd_same
      have R1 := R1.same gu
      have R2 := R2.same gu
      have R3 := R3.same gu
      have D18 := D17.up gu
      have e1 := gu _ _ e1
      have e2 := gu _ _ e2
      have e3 := gu _ _ e3
      generalize upd G4 u (.lst ((encR (A ++ BB)).map V.int)) = G5 at eu R1 R2 R3 D18 e1 e2 e3 ⊢
      clear gu nu g4 D17
      dsimp only
      show tSeq _ _ _ _ _
      refine seq_of ?_
      refine ⟨_, rfl, .ref u, rfl, .inl ⟨u, (encR (A ++ BB)).map V.int, rfl, SqL.of eu, tyL (SqL.of eu), by rw [List.length_map]; omega, int_all rfl, fun ns' e b8 G6 g6 => ?_, fun bad => absurd bad (int_good bE)⟩⟩
      obtain rfl : encR (A ++ BB) = ns' := ints_inj e
      refine ⟨_, rfl, z3, A ++ BB, rfl, R3.same g6, wAB, l40, fun G7 g7 => ?_⟩
      refine ⟨rfl, _, rfl, ?_⟩
      rw [show (!decide (V.byt (byteArr (encR (A ++ BB))) = V.byt (byteArr (encR (A ++ BB))))) = false from by rw [decide_eq_true rfl]; rfl]
      refine iteF ?_
      have g57 := g6.trans g7
      obtain ⟨suf, esuf⟩ := encR_head (A ++ BB)
      have eu7 := g57 _ _ eu
      rw [esuf, List.map_cons, List.map_cons] at eu7
      refine ⟨_, rfl, _, rfl, u, _, rfl, SqL.of eu7, fun q1 n1 => ?_⟩
      rw [cut01]
      have h1 := same_new (o := .lst [V.int 68]) n1
      have f1 : (upd G7 q1 (.lst [V.int 68])) q1 = some (.lst [V.int 68]) := upd_same
      generalize upd G7 q1 (.lst [V.int 68]) = F1 at h1 f1 ⊢
      refine ⟨_, rfl, _, rfl, _, rfl, u, _, rfl, SqL.of (h1 _ _ eu7), fun q2 n2 => ?_⟩
      rw [cut12]
      have h2 := same_new (o := .lst [V.int ((A ++ BB).length : Int)]) n2
      have f2 : (upd F1 q2 (.lst [V.int ((A ++ BB).length : Int)])) q2 = some (.lst [V.int ((A ++ BB).length : Int)]) := upd_same
      generalize upd F1 q2 (.lst [V.int ((A ++ BB).length : Int)]) = F2 at h2 f2 ⊢
      refine ⟨q1, q2, _, _, rfl, rfl, h2 _ _ f1, f2, by show 1 + 1 ≤ sizeLine; decide, fun q3 n3 => ?_⟩
      have h3 := same_new (o := .lst ([V.int 68] ++ [V.int ((A ++ BB).length : Int)])) n3
      have f3 : (upd F2 q3 (.lst ([V.int 68] ++ [V.int ((A ++ BB).length : Int)]))) q3 = some (.lst (([68, ((A ++ BB).length : Int)] : List Int).map V.int)) := upd_same
      generalize upd F2 q3 (.lst ([V.int 68] ++ [V.int ((A ++ BB).length : Int)])) = F3 at h3 f3 ⊢
      have h13 := (g57.trans h1).trans (h2.trans h3)
      refine ⟨_, rfl, z3, d3, _, rfl, h13 _ _ e3, z3, A ++ BB, rfl, R3.same h13, _, rfl, by omega, by omega, by show 2 ≤ sizeLine; decide, fun q4 n4 => ?_⟩
      have h4 := same_new (o := .lst [V.int 68, V.int ((A ++ BB).length : Int)]) n4
      have f4 : (upd F3 q4 (.lst [V.int 68, V.int ((A ++ BB).length : Int)])) q4 = some (.lst (([68, ((A ++ BB).length : Int)] : List Int).map V.int)) := upd_same
      generalize upd F3 q4 (.lst [V.int 68, V.int ((A ++ BB).length : Int)]) = F4 at h4 f4 ⊢
      refine ⟨bI [68, ((A ++ BB).length : Int)], bI [68, ((A ++ BB).length : Int)], bI_dp (SqL.of (h4 _ _ f3)), bI_dp (SqL.of f4), bI_shaped _, bI_shaped _, _, rfl, ?_⟩
      rw [show (!PyData.eqv (bI [68, ((A ++ BB).length : Int)]) (bI [68, ((A ++ BB).length : Int)])) = false from by rw [bI_eqv]; rfl]
      refine iteF (next_of ?_)
      have h14 := h13.trans h4
      have R1 := R1.same h14
      have R2 := R2.same h14
      have R3 := R3.same h14
      have D19 := D18.up h14
      have e1 := h14 _ _ e1
      have e2 := h14 _ _ e2
      have e3 := h14 _ _ e3
      clear h1 h2 h3 h4 h13 h14 f1 f2 f3 f4 n1 n2 n3 n4 eu7 esuf g57 g6 g7 eu D18 suf
      dsimp only
      show tSeq _ _ _ _ _
      refine seq_of ?_
      -- places
      refine ⟨_, rfl, z3, d3, _, rfl, e3, z3, A ++ BB, rfl, R3, l40, fun zp G1 g1 np ep => ?_⟩
      refine ⟨zp, rfl, ⟨_, SqT.of ep⟩, fun Dq nDq => ?_⟩
      have lp : (plV (A ++ BB)).length = (A ++ BB).length := by unfold plV; rw [List.length_map]
      refine lc_fm (walk_tup (K := K) (a := zp) (xs := plV (A ++ BB))) (A ++ BB) (fun _ => false) (fun x => x.1) (fun _ v (i : Int) => v = V.int i) lp.symm (by rw [lp]; omega) nDq (fun _ _ _ _ _ _ _ q => q) (fun _ e => SqT.of (e _ _ ep)) ?_ ?_
      · rintro n x v G3 G4 N' M' hp sm _ ⟨rfl, hv⟩ no go
        obtain rfl : v = V.int x.1 := by
          have : (plV (A ++ BB))[n]? = some (V.int x.1) := by unfold plV; rw [List.getElem?_map, hp]; rfl
          exact Option.some.inj (hv.symm.trans this)
        have gs := g1.trans sm
        refine ⟨rfl, _, rfl, _, rfl, z3, d3, _, rfl, gs _ _ e3, z3, A ++ BB, x, rfl, R3.same gs, wAB, l40, List.mem_of_getElem? hp, fun G5 g5 => ⟨true, rfl, _, rfl, ?_⟩⟩
        exact iteF (no _ rfl g5)
      intro G3 ls g3 eDq rel
      have els : ls = [] := by
        rw [List.filter_eq_nil_iff.mpr (fun _ _ => Bool.false_ne_true)] at rel
        cases rel
        rfl
      subst els
      refine ⟨by show 0 ≤ sizeLine; decide, fun q5 n5 => ?_⟩
      have h5 := same_new (o := .lst []) n5
      refine ⟨bI [], bI [], bI_dp (SqL.of (h5 _ _ eDq)), bI_dp (SqL.of upd_same), bI_shaped _, bI_shaped _, _, rfl, ?_⟩
      rw [show (!PyData.eqv (bI []) (bI [])) = false from by rw [bI_eqv]; rfl]
      refine iteF ?_
      have g5 := (g1.trans g3).trans h5
      have R1 := R1.same g5
      have R2 := R2.same g5
      have R3 := R3.same g5
      have D20 := D19.up g5
      have e1 := g5 _ _ e1
      have e2 := g5 _ _ e2
      have e3 := g5 _ _ e3
      generalize upd G3 q5 (.lst []) = G5 at R1 R2 R3 D20 e1 e2 e3 ⊢
      clear g5 h5 n5 eDq rel g3 nDq g1 np ep lp D19
      refine ⟨_, rfl, z3, d3, _, rfl, e3, z3, A ++ BB, rfl, R3, l40, fun y3 G6 g6 m3 h3 => ?_⟩
      refine ⟨_, rfl, z1, d1, _, rfl, g6 _ _ e1, z1, A, rfl, R1.same g6, by omega, fun y1 G7 g7 m1 h1 => ?_⟩
      have g67 := g6.trans g7
      refine ⟨_, rfl, z2, d2, _, rfl, g67 _ _ e2, z2, BB, rfl, R2.same g67, by omega, fun y2 G8 g8 m2 h2 => ?_⟩
      refine catA_of (SqT.of (g8 _ _ h1)) (SqT.of h2) (by rw [plV_ints, plV_ints]; simp; rw [sizeLine_eq]; omega) fun r G9 g9 hr' => ?_
      have ea : plV A ++ plV BB = plV (A ++ BB) := by unfold plV; rw [List.map_append]
      rw [ea, plV_ints] at hr'
      rw [plV_ints] at h3
      refine ⟨tI ((A ++ BB).map (·.1)), tI ((A ++ BB).map (·.1)), .tup (SqT.of (g9 _ _ (g8 _ _ (g7 _ _ h3)))) (bI_all _), .tup hr' (bI_all _), tI_shaped _, tI_shaped _, _, rfl, ?_⟩
      rw [show (!PyData.eqv (tI ((A ++ BB).map (·.1))) (tI ((A ++ BB).map (·.1)))) = false from by rw [SeqAt.eqv_refl _ (SeqAt.canLay_of_shaped (tI_shaped _))]; rfl]
      refine iteF (next_of ?_)
      have g69 := (g67.trans g8).trans g9
      have R3 := R3.same g69
      have D21 := D20.up g69
      have e3 := g69 _ _ e3
      clear g69 g67 g9 g8 g7 g6 hr' h1 h2 h3 m1 m2 m3 R1 R2 e1 e2 D20 ea
      -- charts
      generalize A ++ BB = ZZ at *
      refine ⟨_, rfl, z3, d3, _, rfl, e3, z3, ZZ, rfl, R3, _, rfl, by omega, by omega, _, _, rfl, ?_⟩
      refine ⟨_, rfl, by split <;> omega, by split <;> omega, ?_⟩
      refine for_range (lo := 0) (n := (if (ZZ.length : Int) < 2 then (ZZ.length : Int) else 2).toNat) (fun c σ G => ∃ (s13'' : Option V), σ = [some (.ref a), some (.ref L0), some (.int (0 + (jt : Nat))), some (.int t), some (.ref Dl), s5, s6, some (.int by_), some (.ref sl), some (.ref z1), some (.ref z2), some (.ref z3), some (.ref zb), s13'', s14, some (.ref u)] ∧ Drw K G L0 a ns ∧ RowAt K C G z3 ZZ) ?_ ?_ ?_
      · exact ⟨_, rfl, D21, R3⟩
      · rintro c σ G hc ⟨s13'', rfl, DG, RG⟩
        refine nm_of ?_
        have e0 : (0 : Int) + (c : Int) = (c : Int) := Int.zero_add _
        rw [e0]
        have hc2 : c < 2 ∧ c < ZZ.length := by
          split at hc <;> omega
        obtain ⟨dg, _, _, eg, _, _⟩ := id RG
        refine ⟨_, rfl, _, rfl, _, rfl, z3, dg, _, rfl, eg, z3, ZZ, rfl, RG, _, rfl, by omega, by omega, L0, a, ns, (ZZ.length : Int), rfl, by omega, by omega, DG, fun m H5 m0 m1 D5 b5 => ?_⟩
        obtain ⟨yL, eL⟩ := DG.cell.list
        have RG5 := RG.but eL b5
        refine ⟨by show 2 ≤ sizeLine; decide, fun pl npl => ?_⟩
        have spl := same_new (o := .lst [V.str "left", V.str "right"]) npl
        obtain ⟨r, hr'⟩ : ∃ r : Bool, ([V.str "left", V.str "right"] : List V)[c]? = some (.str (sideS r)) := by
          match c, hc2.1 with
          | 0, _ => exact ⟨false, rfl⟩
          | 1, _ => exact ⟨true, rfl⟩
        obtain ⟨mm, rfl⟩ : ∃ mm : Nat, m = (mm : Int) := ⟨m.toNat, by omega⟩
        refine ⟨_, rfl, pl, _, (c : Int), _, rfl, rfl, SqL.of upd_same, atI_nat hr', z3, ZZ, mm, r, rfl, RG5.same spl, wAB, l40, by omega, fun H6 g6 => ?_⟩
        refine ⟨_, rfl, ?_⟩
        refine iteF (next_of ?_)
        exact ⟨_, rfl, (D5.up spl).up g6, (RG5.same spl).same g6⟩
      · rintro σ G ⟨s13'', rfl, DG, RG⟩
        exact ⟨_, _, _, _, _, _, _, _, _, _, _, _, _, _, rfl, DG⟩
    · rintro sl G _
      exact k G
end
theorem all_mk {l : PySem.W.OpenLaw} {w : World} {K : PySem.W.Frag} {h : Heap} {mg : Str → Option Value} {fa C f_ini f_len f_add f_gti f_rsh f_eqm f_wit f_con f_num f_chn f_cst f_csi f_bes f_iss f_rer f_tic f_fmt f_par f_pst f_rig f_non f_cha f_pac f_unp f_enc f_grp f_chk f_dec f_bat f_rdn f_cen f_tak f_gre f_sto f_row f_nub f_isc f_law : Addr} (X : K.In h) (G : h.Ns mainGlobals mg) (hfa : mg "law" = some (.ref fa))
    {od_ini an_ini od_len an_len od_add an_add od_gti an_gti od_rsh an_rsh od_eqm an_eqm od_wit an_wit od_con an_con od_num an_num od_chn an_chn od_cst an_cst od_csi an_csi od_bes an_bes od_iss an_iss od_rer an_rer od_tic an_tic od_fmt an_fmt od_par an_par od_pst an_pst od_rig an_rig od_non an_non od_cha an_cha od_pac an_pac od_unp an_unp od_enc an_enc od_grp an_grp od_chk an_chk od_dec an_dec od_bat an_bat od_rdn an_rdn od_cen an_cen od_tak an_tak od_gre an_gre od_sto an_sto od_row an_row od_nub an_nub od_isc an_isc od_law an_law : Option Addr} {sl_ini sl_len sl_add sl_gti sl_rsh sl_eqm sl_wit sl_con sl_num sl_chn sl_cst sl_csi sl_bes sl_iss sl_rer sl_tic sl_fmt sl_par sl_pst sl_rig sl_non sl_cha sl_pac sl_unp sl_enc sl_grp sl_chk sl_dec sl_bat sl_rdn sl_cen sl_tak sl_gre sl_sto sl_row sl_nub sl_isc sl_law : Array (Option Value)} {oc_ini kV_ini dc_ini pm_ini cd_ini ct_ini oc_len kV_len dc_len pm_len cd_len ct_len oc_add kV_add dc_add pm_add cd_add ct_add oc_gti kV_gti dc_gti pm_gti cd_gti ct_gti oc_rsh kV_rsh dc_rsh pm_rsh cd_rsh ct_rsh oc_eqm kV_eqm dc_eqm pm_eqm cd_eqm ct_eqm oc_wit kV_wit dc_wit pm_wit cd_wit ct_wit oc_con kV_con dc_con pm_con cd_con ct_con oc_num kV_num dc_num pm_num cd_num ct_num oc_chn kV_chn dc_chn pm_chn cd_chn ct_chn oc_cst kV_cst dc_cst pm_cst cd_cst ct_cst oc_csi kV_csi dc_csi pm_csi cd_csi ct_csi oc_bes kV_bes dc_bes pm_bes cd_bes ct_bes oc_iss kV_iss dc_iss pm_iss cd_iss ct_iss oc_rer kV_rer dc_rer pm_rer cd_rer ct_rer oc_tic kV_tic dc_tic pm_tic cd_tic ct_tic oc_fmt kV_fmt dc_fmt pm_fmt cd_fmt ct_fmt oc_par kV_par dc_par pm_par cd_par ct_par oc_pst kV_pst dc_pst pm_pst cd_pst ct_pst oc_rig kV_rig dc_rig pm_rig cd_rig ct_rig oc_non kV_non dc_non pm_non cd_non ct_non oc_cha kV_cha dc_cha pm_cha cd_cha ct_cha oc_pac kV_pac dc_pac pm_pac cd_pac ct_pac oc_unp kV_unp dc_unp pm_unp cd_unp ct_unp oc_enc kV_enc dc_enc pm_enc cd_enc ct_enc oc_grp kV_grp dc_grp pm_grp cd_grp ct_grp oc_chk kV_chk dc_chk pm_chk cd_chk ct_chk oc_dec kV_dec dc_dec pm_dec cd_dec ct_dec oc_bat kV_bat dc_bat pm_bat cd_bat ct_bat oc_rdn kV_rdn dc_rdn pm_rdn cd_rdn ct_rdn oc_cen kV_cen dc_cen pm_cen cd_cen ct_cen oc_tak kV_tak dc_tak pm_tak cd_tak ct_tak oc_gre kV_gre dc_gre pm_gre cd_gre ct_gre oc_sto kV_sto dc_sto pm_sto cd_sto ct_sto oc_row kV_row dc_row pm_row cd_row ct_row oc_nub kV_nub dc_nub pm_nub cd_nub ct_nub oc_isc kV_isc dc_isc pm_isc cd_isc ct_isc oc_law kV_law dc_law pm_law cd_law ct_law : Value} {S : Addr} {tP tH tM : Tok} {odS : Option Addr} {itS : Array Value} {nS : Nat} {slS : Array (Option Value)} {p_pla f_pla : Addr} {od_pla an_pla : Option Addr} {sl_pla : Array (Option Value)} {oc_pla kV_pla dc_pla pm_pla cd_pla ct_pla : Value} {rs_pla : List Value} {p_get f_get : Addr} {od_get an_get : Option Addr} {sl_get : Array (Option Value)} {oc_get kV_get dc_get pm_get cd_get ct_get : Value} {rs_get : List Value} {tg tfc tfb tgb tfw tws tmf : Tok} {xc6 : Addr} {xc7 : Addr} {xc10 : Addr} {xc1 : Addr} {nmc1 qc1 : Str} {Nc1 : Addr} {bsc1 bmc1 subc1 : List Value} {snc1 : List Str} {abc1 : Bool} {colc1 : Option Bool} {ddc1 : Option Addr} {m0c1 m1c1 m2c1 m3c1 m5c1 : Option Value} {f_i1 g_i1 e_i1 : Addr} {od_i1 an_i1 : Option Addr} {sl_i1 : Array (Option Value)} {oc_i1 kV_i1 dc_i1 pm_i1 ct_i1 : Value} {cg_i1 : Value} {dg_i1 : Option Addr} {sg_i1 : Array (Option Value)} {ce_i1 : Value} {de_i1 : Option Addr} {vs_i1 : Array Value} {se_i1 : Array (Option Value)} {fi_i1 : Str} {tf_i1 : Tok} {cdd_i1 : ClassData}
    (aC : PySem.W.nsIn K mainGlobals "Row" = some (some (.ref C)))
    (a_ini : PySem.W.findIn K (.ref C) "__init__" = some (some (.ref f_ini)))
    (i_ini : PySem.W.isFn K (.ref f_ini) = true)
    (l_ini : K.lookup f_ini = some ⟨oc_ini, od_ini, .func (PySem.W.fnOf "__init__" "Row.__init__" (defArgs s_Row_init) (defBody s_Row_init) (defScope s_Row_init) .none kV_ini dc_ini pm_ini an_ini cd_ini ct_ini), sl_ini⟩)
    (c_ini : PySem.W.codeIn K cd_ini "Row.__init__" = true)
    (k_ini : PySem.W.keepIn K (.ref f_ini) = true)
    (a_len : PySem.W.findIn K (.ref C) "__len__" = some (some (.ref f_len)))
    (i_len : PySem.W.isFn K (.ref f_len) = true)
    (l_len : K.lookup f_len = some ⟨oc_len, od_len, .func (PySem.W.fnOf "__len__" "Row.__len__" (defArgs s_Row_len) (defBody s_Row_len) (defScope s_Row_len) .none kV_len dc_len pm_len an_len cd_len ct_len), sl_len⟩)
    (c_len : PySem.W.codeIn K cd_len "Row.__len__" = true)
    (k_len : PySem.W.keepIn K (.ref f_len) = true)
    (a_add : PySem.W.findIn K (.ref C) "__add__" = some (some (.ref f_add)))
    (i_add : PySem.W.isFn K (.ref f_add) = true)
    (l_add : K.lookup f_add = some ⟨oc_add, od_add, .func (PySem.W.fnOf "__add__" "Row.__add__" (defArgs s_Row_add) (defBody s_Row_add) (defScope s_Row_add) .none kV_add dc_add pm_add an_add cd_add ct_add), sl_add⟩)
    (c_add : PySem.W.codeIn K cd_add "Row.__add__" = true)
    (k_add : PySem.W.keepIn K (.ref f_add) = true)
    (a_gti : PySem.W.findIn K (.ref C) "__getitem__" = some (some (.ref f_gti)))
    (i_gti : PySem.W.isFn K (.ref f_gti) = true)
    (l_gti : K.lookup f_gti = some ⟨oc_gti, od_gti, .func (PySem.W.fnOf "__getitem__" "Row.__getitem__" (defArgs s_Row_getitem) (defBody s_Row_getitem) (defScope s_Row_getitem) .none kV_gti dc_gti pm_gti an_gti cd_gti ct_gti), sl_gti⟩)
    (c_gti : PySem.W.codeIn K cd_gti "Row.__getitem__" = true)
    (k_gti : PySem.W.keepIn K (.ref f_gti) = true)
    (n_gti : PySem.W.fnIn K f_gti = true)
    (a_rsh : PySem.W.findIn K (.ref C) "__rshift__" = some (some (.ref f_rsh)))
    (i_rsh : PySem.W.isFn K (.ref f_rsh) = true)
    (l_rsh : K.lookup f_rsh = some ⟨oc_rsh, od_rsh, .func (PySem.W.fnOf "__rshift__" "Row.__rshift__" (defArgs s_Row_rshift) (defBody s_Row_rshift) (defScope s_Row_rshift) .none kV_rsh dc_rsh pm_rsh an_rsh cd_rsh ct_rsh), sl_rsh⟩)
    (c_rsh : PySem.W.codeIn K cd_rsh "Row.__rshift__" = true)
    (k_rsh : PySem.W.keepIn K (.ref f_rsh) = true)
    (a_eqm : PySem.W.findIn K (.ref C) "__eq__" = some (some (.ref f_eqm)))
    (i_eqm : PySem.W.isFn K (.ref f_eqm) = true)
    (l_eqm : K.lookup f_eqm = some ⟨oc_eqm, od_eqm, .func (PySem.W.fnOf "__eq__" "Row.__eq__" (defArgs s_Row_eq) (defBody s_Row_eq) (defScope s_Row_eq) .none kV_eqm dc_eqm pm_eqm an_eqm cd_eqm ct_eqm), sl_eqm⟩)
    (c_eqm : PySem.W.codeIn K cd_eqm "Row.__eq__" = true)
    (k_eqm : PySem.W.keepIn K (.ref f_eqm) = true)
    (a_wit : PySem.W.findIn K (.ref C) "without" = some (some (.ref f_wit)))
    (i_wit : PySem.W.isFn K (.ref f_wit) = true)
    (l_wit : K.lookup f_wit = some ⟨oc_wit, od_wit, .func (PySem.W.fnOf "without" "Row.without" (defArgs s_Row_without) (defBody s_Row_without) (defScope s_Row_without) .none kV_wit dc_wit pm_wit an_wit cd_wit ct_wit), sl_wit⟩)
    (c_wit : PySem.W.codeIn K cd_wit "Row.without" = true)
    (k_wit : PySem.W.keepIn K (.ref f_wit) = true)
    (a_con : PySem.W.findIn K (.ref C) "__contains__" = some (some (.ref f_con)))
    (i_con : PySem.W.isFn K (.ref f_con) = true)
    (l_con : K.lookup f_con = some ⟨oc_con, od_con, .func (PySem.W.fnOf "__contains__" "Row.__contains__" (defArgs s_Row_contains) (defBody s_Row_contains) (defScope s_Row_contains) .none kV_con dc_con pm_con an_con cd_con ct_con), sl_con⟩)
    (c_con : PySem.W.codeIn K cd_con "Row.__contains__" = true)
    (k_con : PySem.W.keepIn K (.ref f_con) = true)
    (a_num : PySem.W.nsIn K mainGlobals "is_number" = some (some (.ref f_num)))
    (l_num : K.lookup f_num = some ⟨oc_num, od_num, .func (PySem.W.fnOf "is_number" "is_number" (defArgs s_is_number) (defBody s_is_number) (defScope s_is_number) .none kV_num dc_num pm_num an_num cd_num ct_num), sl_num⟩)
    (c_num : PySem.W.codeIn K cd_num "is_number" = true)
    (k_num : PySem.W.keepIn K (.ref f_num) = true)
    (a_chn : PySem.W.nsIn K mainGlobals "check_number" = some (some (.ref f_chn)))
    (l_chn : K.lookup f_chn = some ⟨oc_chn, od_chn, .func (PySem.W.fnOf "check_number" "check_number" (defArgs s_check_number) (defBody s_check_number) (defScope s_check_number) .none kV_chn dc_chn pm_chn an_chn cd_chn ct_chn), sl_chn⟩)
    (c_chn : PySem.W.codeIn K cd_chn "check_number" = true)
    (k_chn : PySem.W.keepIn K (.ref f_chn) = true)
    (a_cst : PySem.W.nsIn K mainGlobals "check_stone" = some (some (.ref f_cst)))
    (l_cst : K.lookup f_cst = some ⟨oc_cst, od_cst, .func (PySem.W.fnOf "check_stone" "check_stone" (defArgs s_check_stone) (defBody s_check_stone) (defScope s_check_stone) .none kV_cst dc_cst pm_cst an_cst cd_cst ct_cst), sl_cst⟩)
    (c_cst : PySem.W.codeIn K cd_cst "check_stone" = true)
    (k_cst : PySem.W.keepIn K (.ref f_cst) = true)
    (a_csi : PySem.W.nsIn K mainGlobals "check_side" = some (some (.ref f_csi)))
    (l_csi : K.lookup f_csi = some ⟨oc_csi, od_csi, .func (PySem.W.fnOf "check_side" "check_side" (defArgs s_check_side) (defBody s_check_side) (defScope s_check_side) .none kV_csi dc_csi pm_csi an_csi cd_csi ct_csi), sl_csi⟩)
    (c_csi : PySem.W.codeIn K cd_csi "check_side" = true)
    (k_csi : PySem.W.keepIn K (.ref f_csi) = true)
    (a_bes : PySem.W.nsIn K mainGlobals "stones_beside" = some (some (.ref f_bes)))
    (l_bes : K.lookup f_bes = some ⟨oc_bes, od_bes, .func (PySem.W.fnOf "stones_beside" "stones_beside" (defArgs s_stones_beside) (defBody s_stones_beside) (defScope s_stones_beside) .none kV_bes dc_bes pm_bes an_bes cd_bes ct_bes), sl_bes⟩)
    (c_bes : PySem.W.codeIn K cd_bes "stones_beside" = true)
    (k_bes : PySem.W.keepIn K (.ref f_bes) = true)
    (a_iss : PySem.W.nsIn K mainGlobals "_is_stone" = some (some (.ref f_iss)))
    (l_iss : K.lookup f_iss = some ⟨oc_iss, od_iss, .func (PySem.W.fnOf "_is_stone" "_is_stone" (defArgs s_is_stone) (defBody s_is_stone) (defScope s_is_stone) .none kV_iss dc_iss pm_iss an_iss cd_iss ct_iss), sl_iss⟩)
    (c_iss : PySem.W.codeIn K cd_iss "_is_stone" = true)
    (k_iss : PySem.W.keepIn K (.ref f_iss) = true)
    (a_rer : PySem.W.nsIn K mainGlobals "_reaches" = some (some (.ref f_rer)))
    (l_rer : K.lookup f_rer = some ⟨oc_rer, od_rer, .func (PySem.W.fnOf "_reaches" "_reaches" (defArgs s_reaches) (defBody s_reaches) (defScope s_reaches) .none kV_rer dc_rer pm_rer an_rer cd_rer ct_rer), sl_rer⟩)
    (c_rer : PySem.W.codeIn K cd_rer "_reaches" = true)
    (k_rer : PySem.W.keepIn K (.ref f_rer) = true)
    (a_tic : PySem.W.nsIn K mainGlobals "fall_ticks" = some (some (.ref f_tic)))
    (l_tic : K.lookup f_tic = some ⟨oc_tic, od_tic, .func (PySem.W.fnOf "fall_ticks" "fall_ticks" (defArgs s_fall_ticks) (defBody s_fall_ticks) (defScope s_fall_ticks) .none kV_tic dc_tic pm_tic an_tic cd_tic ct_tic), sl_tic⟩)
    (c_tic : PySem.W.codeIn K cd_tic "fall_ticks" = true)
    (k_tic : PySem.W.keepIn K (.ref f_tic) = true)
    (a_fmt : PySem.W.nsIn K mainGlobals "format_row" = some (some (.ref f_fmt)))
    (l_fmt : K.lookup f_fmt = some ⟨oc_fmt, od_fmt, .func (PySem.W.fnOf "format_row" "format_row" (defArgs s_format_row) (defBody s_format_row) (defScope s_format_row) .none kV_fmt dc_fmt pm_fmt an_fmt cd_fmt ct_fmt), sl_fmt⟩)
    (c_fmt : PySem.W.codeIn K cd_fmt "format_row" = true)
    (k_fmt : PySem.W.keepIn K (.ref f_fmt) = true)
    (a_par : PySem.W.nsIn K mainGlobals "parse_row" = some (some (.ref f_par)))
    (l_par : K.lookup f_par = some ⟨oc_par, od_par, .func (PySem.W.fnOf "parse_row" "parse_row" (defArgs s_parse_row) (defBody s_parse_row) (defScope s_parse_row) .none kV_par dc_par pm_par an_par cd_par ct_par), sl_par⟩)
    (c_par : PySem.W.codeIn K cd_par "parse_row" = true)
    (k_par : PySem.W.keepIn K (.ref f_par) = true)
    (a_pst : PySem.W.nsIn K mainGlobals "_parsed_stone" = some (some (.ref f_pst)))
    (l_pst : K.lookup f_pst = some ⟨oc_pst, od_pst, .func (PySem.W.fnOf "_parsed_stone" "_parsed_stone" (defArgs s_parsed_stone) (defBody s_parsed_stone) (defScope s_parsed_stone) .none kV_pst dc_pst pm_pst an_pst cd_pst ct_pst), sl_pst⟩)
    (c_pst : PySem.W.codeIn K cd_pst "_parsed_stone" = true)
    (k_pst : PySem.W.keepIn K (.ref f_pst) = true)
    (a_rig : PySem.W.nsIn K mainGlobals "_is_right_word" = some (some (.ref f_rig)))
    (l_rig : K.lookup f_rig = some ⟨oc_rig, od_rig, .func (PySem.W.fnOf "_is_right_word" "_is_right_word" (defArgs s_is_right_word) (defBody s_is_right_word) (defScope s_is_right_word) .none kV_rig dc_rig pm_rig an_rig cd_rig ct_rig), sl_rig⟩)
    (c_rig : PySem.W.codeIn K cd_rig "_is_right_word" = true)
    (k_rig : PySem.W.keepIn K (.ref f_rig) = true)
    (a_non : PySem.W.nsIn K mainGlobals "_is_notation_of_number" = some (some (.ref f_non)))
    (l_non : K.lookup f_non = some ⟨oc_non, od_non, .func (PySem.W.fnOf "_is_notation_of_number" "_is_notation_of_number" (defArgs s_is_notation_of_number) (defBody s_is_notation_of_number) (defScope s_is_notation_of_number) .none kV_non dc_non pm_non an_non cd_non ct_non), sl_non⟩)
    (c_non : PySem.W.codeIn K cd_non "_is_notation_of_number" = true)
    (k_non : PySem.W.keepIn K (.ref f_non) = true)
    (a_cha : PySem.W.nsIn K mainGlobals "chart" = some (some (.ref f_cha)))
    (l_cha : K.lookup f_cha = some ⟨oc_cha, od_cha, .func (PySem.W.fnOf "chart" "chart" (defArgs s_chart) (defBody s_chart) (defScope s_chart) .none kV_cha dc_cha pm_cha an_cha cd_cha ct_cha), sl_cha⟩)
    (c_cha : PySem.W.codeIn K cd_cha "chart" = true)
    (k_cha : PySem.W.keepIn K (.ref f_cha) = true)
    (a_pac : PySem.W.nsIn K mainGlobals "pack_bytes" = some (some (.ref f_pac)))
    (l_pac : K.lookup f_pac = some ⟨oc_pac, od_pac, .func (PySem.W.fnOf "pack_bytes" "pack_bytes" (defArgs s_pack_bytes) (defBody s_pack_bytes) (defScope s_pack_bytes) .none kV_pac dc_pac pm_pac an_pac cd_pac ct_pac), sl_pac⟩)
    (c_pac : PySem.W.codeIn K cd_pac "pack_bytes" = true)
    (k_pac : PySem.W.keepIn K (.ref f_pac) = true)
    (a_unp : PySem.W.nsIn K mainGlobals "unpack_bytes" = some (some (.ref f_unp)))
    (l_unp : K.lookup f_unp = some ⟨oc_unp, od_unp, .func (PySem.W.fnOf "unpack_bytes" "unpack_bytes" (defArgs s_unpack_bytes) (defBody s_unpack_bytes) (defScope s_unpack_bytes) .none kV_unp dc_unp pm_unp an_unp cd_unp ct_unp), sl_unp⟩)
    (c_unp : PySem.W.codeIn K cd_unp "unpack_bytes" = true)
    (k_unp : PySem.W.keepIn K (.ref f_unp) = true)
    (a_enc : PySem.W.nsIn K mainGlobals "encode_row" = some (some (.ref f_enc)))
    (l_enc : K.lookup f_enc = some ⟨oc_enc, od_enc, .func (PySem.W.fnOf "encode_row" "encode_row" (defArgs s_encode_row) (defBody s_encode_row) (defScope s_encode_row) .none kV_enc dc_enc pm_enc an_enc cd_enc ct_enc), sl_enc⟩)
    (c_enc : PySem.W.codeIn K cd_enc "encode_row" = true)
    (k_enc : PySem.W.keepIn K (.ref f_enc) = true)
    (a_grp : PySem.W.nsIn K mainGlobals "_groups" = some (some (.ref f_grp)))
    (l_grp : K.lookup f_grp = some ⟨oc_grp, od_grp, .func (PySem.W.fnOf "_groups" "_groups" (defArgs s_groups) (defBody s_groups) (defScope s_groups) .none kV_grp dc_grp pm_grp an_grp cd_grp ct_grp), sl_grp⟩)
    (c_grp : PySem.W.codeIn K cd_grp "_groups" = true)
    (k_grp : PySem.W.keepIn K (.ref f_grp) = true)
    (a_chk : PySem.W.nsIn K mainGlobals "_checksum" = some (some (.ref f_chk)))
    (l_chk : K.lookup f_chk = some ⟨oc_chk, od_chk, .func (PySem.W.fnOf "_checksum" "_checksum" (defArgs s_checksum) (defBody s_checksum) (defScope s_checksum) .none kV_chk dc_chk pm_chk an_chk cd_chk ct_chk), sl_chk⟩)
    (c_chk : PySem.W.codeIn K cd_chk "_checksum" = true)
    (k_chk : PySem.W.keepIn K (.ref f_chk) = true)
    (a_dec : PySem.W.nsIn K mainGlobals "decode_row" = some (some (.ref f_dec)))
    (l_dec : K.lookup f_dec = some ⟨oc_dec, od_dec, .func (PySem.W.fnOf "decode_row" "decode_row" (defArgs s_decode_row) (defBody s_decode_row) (defScope s_decode_row) .none kV_dec dc_dec pm_dec an_dec cd_dec ct_dec), sl_dec⟩)
    (c_dec : PySem.W.codeIn K cd_dec "decode_row" = true)
    (k_dec : PySem.W.keepIn K (.ref f_dec) = true)
    (a_bat : PySem.W.nsIn K mainGlobals "_byte_at" = some (some (.ref f_bat)))
    (l_bat : K.lookup f_bat = some ⟨oc_bat, od_bat, .func (PySem.W.fnOf "_byte_at" "_byte_at" (defArgs s_byte_at) (defBody s_byte_at) (defScope s_byte_at) .none kV_bat dc_bat pm_bat an_bat cd_bat ct_bat), sl_bat⟩)
    (c_bat : PySem.W.codeIn K cd_bat "_byte_at" = true)
    (k_bat : PySem.W.keepIn K (.ref f_bat) = true)
    (a_rdn : PySem.W.nsIn K mainGlobals "_read_number" = some (some (.ref f_rdn)))
    (l_rdn : K.lookup f_rdn = some ⟨oc_rdn, od_rdn, .func (PySem.W.fnOf "_read_number" "_read_number" (defArgs s_read_number) (defBody s_read_number) (defScope s_read_number) .none kV_rdn dc_rdn pm_rdn an_rdn cd_rdn ct_rdn), sl_rdn⟩)
    (c_rdn : PySem.W.codeIn K cd_rdn "_read_number" = true)
    (k_rdn : PySem.W.keepIn K (.ref f_rdn) = true)
    (a_cen : PySem.W.nsIn K mainGlobals "_check_end" = some (some (.ref f_cen)))
    (l_cen : K.lookup f_cen = some ⟨oc_cen, od_cen, .func (PySem.W.fnOf "_check_end" "_check_end" (defArgs s_check_end) (defBody s_check_end) (defScope s_check_end) .none kV_cen dc_cen pm_cen an_cen cd_cen ct_cen), sl_cen⟩)
    (c_cen : PySem.W.codeIn K cd_cen "_check_end" = true)
    (k_cen : PySem.W.keepIn K (.ref f_cen) = true)
    (a_tak : PySem.W.nsIn K mainGlobals "_law_taken" = some (some (.ref f_tak)))
    (l_tak : K.lookup f_tak = some ⟨oc_tak, od_tak, .func (PySem.W.fnOf "_law_taken" "_law_taken" (defArgs s_law_taken) (defBody s_law_taken) (defScope s_law_taken) .none kV_tak dc_tak pm_tak an_tak cd_tak ct_tak), sl_tak⟩)
    (c_tak : PySem.W.codeIn K cd_tak "_law_taken" = true)
    (k_tak : PySem.W.keepIn K (.ref f_tak) = true)
    (a_gre : PySem.W.nsIn K mainGlobals "_law_great" = some (some (.ref f_gre)))
    (l_gre : K.lookup f_gre = some ⟨oc_gre, od_gre, .func (PySem.W.fnOf "_law_great" "_law_great" (defArgs s_law_great) (defBody s_law_great) (defScope s_law_great) .none kV_gre dc_gre pm_gre an_gre cd_gre ct_gre), sl_gre⟩)
    (c_gre : PySem.W.codeIn K cd_gre "_law_great" = true)
    (k_gre : PySem.W.keepIn K (.ref f_gre) = true)
    (a_sto : PySem.W.nsIn K mainGlobals "_law_stones" = some (some (.ref f_sto)))
    (l_sto : K.lookup f_sto = some ⟨oc_sto, od_sto, .func (PySem.W.fnOf "_law_stones" "_law_stones" (defArgs s_law_stones) (defBody s_law_stones) (defScope s_law_stones) .none kV_sto dc_sto pm_sto an_sto cd_sto ct_sto), sl_sto⟩)
    (c_sto : PySem.W.codeIn K cd_sto "_law_stones" = true)
    (k_sto : PySem.W.keepIn K (.ref f_sto) = true)
    (a_row : PySem.W.nsIn K mainGlobals "_law_row" = some (some (.ref f_row)))
    (l_row : K.lookup f_row = some ⟨oc_row, od_row, .func (PySem.W.fnOf "_law_row" "_law_row" (defArgs s_law_row) (defBody s_law_row) (defScope s_law_row) .none kV_row dc_row pm_row an_row cd_row ct_row), sl_row⟩)
    (c_row : PySem.W.codeIn K cd_row "_law_row" = true)
    (k_row : PySem.W.keepIn K (.ref f_row) = true)
    (a_nub : PySem.W.nsIn K mainGlobals "_law_number" = some (some (.ref f_nub)))
    (l_nub : K.lookup f_nub = some ⟨oc_nub, od_nub, .func (PySem.W.fnOf "_law_number" "_law_number" (defArgs s_law_number) (defBody s_law_number) (defScope s_law_number) .none kV_nub dc_nub pm_nub an_nub cd_nub ct_nub), sl_nub⟩)
    (c_nub : PySem.W.codeIn K cd_nub "_law_number" = true)
    (k_nub : PySem.W.keepIn K (.ref f_nub) = true)
    (a_isc : PySem.W.nsIn K mainGlobals "_law_is_chart" = some (some (.ref f_isc)))
    (l_isc : K.lookup f_isc = some ⟨oc_isc, od_isc, .func (PySem.W.fnOf "_law_is_chart" "_law_is_chart" (defArgs s_law_is_chart) (defBody s_law_is_chart) (defScope s_law_is_chart) .none kV_isc dc_isc pm_isc an_isc cd_isc ct_isc), sl_isc⟩)
    (c_isc : PySem.W.codeIn K cd_isc "_law_is_chart" = true)
    (k_isc : PySem.W.keepIn K (.ref f_isc) = true)
    (a_law : PySem.W.nsIn K mainGlobals "law" = some (some (.ref f_law)))
    (l_law : K.lookup f_law = some ⟨oc_law, od_law, .func (PySem.W.fnOf "law" "law" (defArgs s_law) (defBody s_law) (defScope s_law) .none kV_law dc_law pm_law an_law cd_law ct_law), sl_law⟩)
    (c_law : PySem.W.codeIn K cd_law "law" = true)
    (k_law : PySem.W.keepIn K (.ref f_law) = true)
    (z_isinstance : PySem.W.nsIn K mainGlobals "isinstance" = some none)
    (z_int : PySem.W.nsIn K mainGlobals "int" = some none)
    (z_bool : PySem.W.nsIn K mainGlobals "bool" = some none)
    (z_len : PySem.W.nsIn K mainGlobals "len" = some none)
    (z_tuple : PySem.W.nsIn K mainGlobals "tuple" = some none)
    (z_list : PySem.W.nsIn K mainGlobals "list" = some none)
    (z_range : PySem.W.nsIn K mainGlobals "range" = some none)
    (z_enumerate : PySem.W.nsIn K mainGlobals "enumerate" = some none)
    (z_abs : PySem.W.nsIn K mainGlobals "abs" = some none)
    (z_max : PySem.W.nsIn K mainGlobals "max" = some none)
    (z_min : PySem.W.nsIn K mainGlobals "min" = some none)
    (z_sorted : PySem.W.nsIn K mainGlobals "sorted" = some none)
    (aS : PySem.W.nsIn K mainGlobals "SIDES" = some (some (.ref S)))
    (lS : K.lookup S = some ⟨.type "tuple", odS, .seq itS nS, slS⟩)
    (pS : itS.size ≤ sizeLine)
    (vS : Vals [.str "left", .str "right"] itS.toList)
    (aP : PySem.W.nsIn K mainGlobals "GREATEST_PLACE" = some (some (.int 1000000000 tP)))
    (aH : PySem.W.nsIn K mainGlobals "GREATEST_HEIGHT" = some (some (.int 1000000000 tH)))
    (pg : PySem.W.plainGet K C Str.empty = true)
    (hd : PySem.W.hasDictIn K C = true)
    (po : PySem.W.plainOver K C = true)
    (sa : PySem.W.findIn K (.ref C) "__setattr__" = some (some (.builtin "object.__setattr__")))
    (mk : PySem.W.makesIn K C = true)
    (kc : PySem.W.keepIn K (.ref C) = true)
    (nQ : PySem.W.findIn K (.ref C) "_stones" = some none)
    (mM : PySem.W.findIn K (.ref C) "MAX_STONES" = some (some (.int 40 tM)))
    (gM : PySem.W.specialIn K (.int 40 tM) "__get__" = some none)
    (sf : PySem.W.selfFirst K C = true)
    (ca : PySem.W.findIn K (.ref C) "__class__" = some (some (.builtin "object.__class__")))
    (cn : PySem.W.specialIn K (.builtin "object.__class__") "__get__" = some (some (.builtin "getset_descriptor.__get__")))
    (ct : PySem.W.takesIn K (.builtin "object.__class__") = some true)
    (cm : PySem.W.mroIn K C (.type "object") = some true)
    (pa_pla : PySem.W.findIn K (.ref C) "places" = some (some (.ref p_pla)))
    (pb_pla : PySem.W.specialIn K (.ref p_pla) "__get__" = some (some (.builtin "property.__get__")))
    (pc_pla : PySem.W.takesIn K (.ref p_pla) = some true)
    (pd_pla : PySem.W.recIn K p_pla "property" = some (.ref f_pla :: rs_pla))
    (l_pla : K.lookup f_pla = some ⟨oc_pla, od_pla, .func (PySem.W.fnOf "places" "Row.places" (defArgs s_Row_places) (defBody s_Row_places) (defScope s_Row_places) .none kV_pla dc_pla pm_pla an_pla cd_pla ct_pla), sl_pla⟩)
    (c_pla : PySem.W.codeIn K cd_pla "Row.places" = true)
    (k_pla : PySem.W.keepIn K (.ref f_pla) = true)
    (pa_get : PySem.W.findIn K (.ref C) "stones" = some (some (.ref p_get)))
    (pb_get : PySem.W.specialIn K (.ref p_get) "__get__" = some (some (.builtin "property.__get__")))
    (pc_get : PySem.W.takesIn K (.ref p_get) = some true)
    (pd_get : PySem.W.recIn K p_get "property" = some (.ref f_get :: rs_get))
    (l_get : K.lookup f_get = some ⟨oc_get, od_get, .func (PySem.W.fnOf "stones" "Row.stones" (defArgs s_Row_stones) (defBody s_Row_stones) (defScope s_Row_stones) .none kV_get dc_get pm_get an_get cd_get ct_get), sl_get⟩)
    (c_get : PySem.W.codeIn K cd_get "Row.stones" = true)
    (k_get : PySem.W.keepIn K (.ref f_get) = true)
    (z_divmod : PySem.W.nsIn K mainGlobals "divmod" = some none)
    (z_all : PySem.W.nsIn K mainGlobals "all" = some none)
    (z_bytes : PySem.W.nsIn K mainGlobals "bytes" = some none)
    (z_str : PySem.W.nsIn K mainGlobals "str" = some none)
    (noR : PySem.W.findIn K (.ref C) "__rrshift__" = some none)
    (noI : PySem.W.subIn K (.type "int") (.ref C) = some false)
    (j1 : PySem.W.findIn K (.type "int") "__rshift__" = some (some (.builtin "int.__rshift__")))
    (j2 : PySem.W.findIn K (.type "int") "__rrshift__" = some (some (.builtin "int.__rrshift__")))
    (nn : PySem.W.findIn K (.ref C) "__ne__" = some (some (.builtin "object.__ne__")))
    (so : PySem.W.subIn K (.ref C) (.type "object") = some true)
    (cr1C : PySem.W.readsIn K C (.type "type") = true)
    (cr2C : PySem.W.specialIn K (.ref C) "__getattribute__" = some (some (.builtin "type.__getattribute__")))
    (cvM : PySem.W.findCls K (.ref C) (.type "type") "MAX_STONES" = some (.val (.int 40 tM)))
    (aG : PySem.W.nsIn K mainGlobals "GROUP" = some (some (.int 128 tg)))
    (aFC : PySem.W.nsIn K mainGlobals "FIRST_CHECKSUM" = some (some (.int 8 tfc)))
    (aFB : PySem.W.nsIn K mainGlobals "FIRST_BYTE" = some (some (.int 68 tfb)))
    (aGB : PySem.W.nsIn K mainGlobals "GREATEST_BYTE" = some (some (.int 255 tgb)))
    (aFW : PySem.W.nsIn K mainGlobals "FIRST_WORD" = some (some (.str "stone" tfw)))
    (aWS : PySem.W.nsIn K mainGlobals "WORDS" = some (some (.int 3 tws)))
    (aMF : PySem.W.nsIn K mainGlobals "MOST_FIGURES" = some (some (.int 10 tmf)))
    (nc6 : PySem.W.nsIn K mainGlobals "UnknownStone" = some (some (.ref xc6)))
    (exc6 : PySem.W.excIn K xc6 [.type "ValueError", .type "Exception", .type "BaseException", .type "object"] "ValueError.__new__" = true)
    (kpc6 : PySem.W.keepIn K (.ref xc6) = true)
    (suc6 : PySem.W.subIn K (.ref xc6) (.type "BaseException") = some true)
    (tyc6 : PySem.W.typeIn K (.ref xc6) = some (.type "type"))
    (nc7 : PySem.W.nsIn K mainGlobals "InvalidSide" = some (some (.ref xc7)))
    (exc7 : PySem.W.excIn K xc7 [.type "ValueError", .type "Exception", .type "BaseException", .type "object"] "ValueError.__new__" = true)
    (kpc7 : PySem.W.keepIn K (.ref xc7) = true)
    (suc7 : PySem.W.subIn K (.ref xc7) (.type "BaseException") = some true)
    (tyc7 : PySem.W.typeIn K (.ref xc7) = some (.type "type"))
    (nc10 : PySem.W.nsIn K mainGlobals "InvalidCount" = some (some (.ref xc10)))
    (exc10 : PySem.W.excIn K xc10 [.type "ValueError", .type "Exception", .type "BaseException", .type "object"] "ValueError.__new__" = true)
    (kpc10 : PySem.W.keepIn K (.ref xc10) = true)
    (suc10 : PySem.W.subIn K (.ref xc10) (.type "BaseException") = some true)
    (tyc10 : PySem.W.typeIn K (.ref xc10) = some (.type "type"))
    (opq : PySem.W.nsIn K PySem.cStatics "thirdparty.any" = some none)
    (tps : (l.prog.main.scope.names.lookup ("super" : Str)).isSome = false)
    (z_super : PySem.W.nsIn K mainGlobals "super" = some none)
    (nc1 : PySem.W.nsIn K mainGlobals "DecodeError" = some (some (.ref xc1)))
    (suc1 : PySem.W.subIn K (.ref xc1) (.type "BaseException") = some true)
    (tyc1 : PySem.W.typeIn K (.ref xc1) = some (.type "type"))
    (kpc1 : PySem.W.keepIn K (.ref xc1) = true)
    (oxc1 : PySem.W.findIn K (.ref xc1) "offset" = some none)
    (xlc1 : K.lookup xc1 = some (excClassObj nmc1 qc1 xc1 Nc1 bsc1 bmc1 true snc1 subc1 abc1 colc1 ddc1 m0c1 m1c1 m2c1 m3c1 m5c1 "ValueError.__new__"))
    (xrc1 : PySem.HandSPX.refsVE bmc1 = true)
    (sac1 : PySem.W.findIn K (.ref xc1) "__setattr__" = some (some (.builtin "object.__setattr__")))
    (a_i1 : PySem.W.findIn K (.ref xc1) "__init__" = some (some (.ref f_i1)))
    (t_i1 : PySem.W.typeIn K (.ref f_i1) = some (.type "function"))
    (l_i1 : K.lookup f_i1 = some ⟨oc_i1, od_i1, .func (PySem.W.fnX "__init__" "DecodeError.__init__" (defArgs s_DecodeError_init) (defBody s_DecodeError_init) (defScope s_DecodeError_init) [("__class__", g_i1)] .none kV_i1 dc_i1 pm_i1 an_i1 (.ref e_i1) ct_i1), sl_i1⟩)
    (c_i1 : PySem.W.codeIn K (.ref e_i1) "DecodeError.__init__" = true)
    (g1_i1 : K.lookup g_i1 = some ⟨cg_i1, dg_i1, .cell (some (.ref xc1)), sg_i1⟩)
    (g2_i1 : PySem.W.clsIn K xc1 = some cdd_i1)
    (g3_i1 : PySem.W.mroIn K xc1 (.ref xc1) = some true)
    (g4_i1 : PySem.W.ks_superIn K xc1 xc1 "__init__" = some (some (.builtin "ValueError.__init__")))
    (g5_i1 : PySem.W.subIn K (.ref xc1) (.type "ValueError") = some true)
    (e1_i1 : K.lookup e_i1 = some ⟨ce_i1, de_i1, .fields vs_i1, se_i1⟩)
    (e2_i1 : vs_i1[2]? = some (.str fi_i1 tf_i1))
    (e3_i1 : ((l.prog.main.file : Str) == fi_i1) = true) :
    ∃ fd : FuncData, (∀ (s : Shared) (v : Value), BindsTo s fd ⟨[v], []⟩ [("_law_script", v)]) ∧ ∀ base : Heap, K.In base → base.Ns mainGlobals mg → FnOk l.prog w K mg base CX0 8 fa fd ["_law_script"] (spLaw K) := by
  have e := hfa.symm.trans (PySem.W.mg_of X G a_law)
  obtain rfl : f_law = fa := by cases e; rfl
  have B : Blt mg := ⟨PySem.W.mg_none_of X G z_isinstance, PySem.W.mg_none_of X G z_int, PySem.W.mg_none_of X G z_bool, PySem.W.mg_none_of X G z_len, PySem.W.mg_none_of X G z_tuple, PySem.W.mg_none_of X G z_list, PySem.W.mg_none_of X G z_range, PySem.W.mg_none_of X G z_enumerate, PySem.W.mg_none_of X G z_abs, PySem.W.mg_none_of X G z_max, PySem.W.mg_none_of X G z_min, PySem.W.mg_none_of X G z_sorted⟩
  have F_ini := fun_mk (st := s_Row_init) l_ini c_ini k_ini
  have F_len := fun_mk (st := s_Row_len) l_len c_len k_len
  have b_len := F_len.binds (ps := ["self"]) fun _ _ _ _ _ _ us hl => match us, hl with | [_], _ => rfl
  have F_add := fun_mk (st := s_Row_add) l_add c_add k_add
  have b_add := F_add.binds (ps := ["self", "other"]) fun _ _ _ _ _ _ us hl => match us, hl with | [_, _], _ => rfl
  have F_gti := fun_mk (st := s_Row_getitem) l_gti c_gti k_gti
  have b_gti := F_gti.binds (ps := ["self", "stone"]) fun _ _ _ _ _ _ us hl => match us, hl with | [_, _], _ => rfl
  have F_rsh := fun_mk (st := s_Row_rshift) l_rsh c_rsh k_rsh
  have b_rsh := F_rsh.binds (ps := ["self", "distance"]) fun _ _ _ _ _ _ us hl => match us, hl with | [_, _], _ => rfl
  have F_eqm := fun_mk (st := s_Row_eq) l_eqm c_eqm k_eqm
  have b_eqm := F_eqm.binds (ps := ["self", "other"]) fun _ _ _ _ _ _ us hl => match us, hl with | [_, _], _ => rfl
  have F_wit := fun_mk (st := s_Row_without) l_wit c_wit k_wit
  have F_con := fun_mk (st := s_Row_contains) l_con c_con k_con
  have b_con := F_con.binds (ps := ["self", "place"]) fun _ _ _ _ _ _ us hl => match us, hl with | [_, _], _ => rfl
  have F_num := fun_mk (st := s_is_number) l_num c_num k_num
  have D_num : DefAt K mg "is_number" s_is_number ["value", "least", "greatest"] f_num _ := ⟨F_num, PySem.W.mg_of X G a_num, F_num.binds fun _ _ _ _ _ _ us hl => match us, hl with | [_, _, _], _ => rfl⟩
  have F_chn := fun_mk (st := s_check_number) l_chn c_chn k_chn
  have D_chn : DefAt K mg "check_number" s_check_number ["value", "least", "greatest"] f_chn _ := ⟨F_chn, PySem.W.mg_of X G a_chn, F_chn.binds fun _ _ _ _ _ _ us hl => match us, hl with | [_, _, _], _ => rfl⟩
  have F_cst := fun_mk (st := s_check_stone) l_cst c_cst k_cst
  have D_cst : DefAt K mg "check_stone" s_check_stone ["stone", "count"] f_cst _ := ⟨F_cst, PySem.W.mg_of X G a_cst, F_cst.binds fun _ _ _ _ _ _ us hl => match us, hl with | [_, _], _ => rfl⟩
  have F_csi := fun_mk (st := s_check_side) l_csi c_csi k_csi
  have D_csi : DefAt K mg "check_side" s_check_side ["side"] f_csi _ := ⟨F_csi, PySem.W.mg_of X G a_csi, F_csi.binds fun _ _ _ _ _ _ us hl => match us, hl with | [_], _ => rfl⟩
  have F_bes := fun_mk (st := s_stones_beside) l_bes c_bes k_bes
  have D_bes : DefAt K mg "stones_beside" s_stones_beside ["stone", "side", "count"] f_bes _ := ⟨F_bes, PySem.W.mg_of X G a_bes, F_bes.binds fun _ _ _ _ _ _ us hl => match us, hl with | [_, _, _], _ => rfl⟩
  have F_iss := fun_mk (st := s_is_stone) l_iss c_iss k_iss
  have D_iss : DefAt K mg "_is_stone" s_is_stone ["stone", "least_place"] f_iss _ := ⟨F_iss, PySem.W.mg_of X G a_iss, F_iss.binds fun _ _ _ _ _ _ us hl => match us, hl with | [_, _], _ => rfl⟩
  have F_rer := fun_mk (st := s_reaches) l_rer c_rer k_rer
  have D_rer : DefAt K mg "_reaches" s_reaches ["stone", "other"] f_rer _ := ⟨F_rer, PySem.W.mg_of X G a_rer, F_rer.binds fun _ _ _ _ _ _ us hl => match us, hl with | [_, _], _ => rfl⟩
  have F_tic := fun_mk (st := s_fall_ticks) l_tic c_tic k_tic
  have D_tic : DefAt K mg "fall_ticks" s_fall_ticks ["row", "stone", "side"] f_tic _ := ⟨F_tic, PySem.W.mg_of X G a_tic, F_tic.binds fun _ _ _ _ _ _ us hl => match us, hl with | [_, _, _], _ => rfl⟩
  have F_fmt := fun_mk (st := s_format_row) l_fmt c_fmt k_fmt
  have D_fmt : DefAt K mg "format_row" s_format_row ["row"] f_fmt _ := ⟨F_fmt, PySem.W.mg_of X G a_fmt, F_fmt.binds fun _ _ _ _ _ _ us hl => match us, hl with | [_], _ => rfl⟩
  have F_par := fun_mk (st := s_parse_row) l_par c_par k_par
  have D_par : DefAt K mg "parse_row" s_parse_row ["text"] f_par _ := ⟨F_par, PySem.W.mg_of X G a_par, F_par.binds fun _ _ _ _ _ _ us hl => match us, hl with | [_], _ => rfl⟩
  have F_pst := fun_mk (st := s_parsed_stone) l_pst c_pst k_pst
  have D_pst : DefAt K mg "_parsed_stone" s_parsed_stone ["line", "number"] f_pst _ := ⟨F_pst, PySem.W.mg_of X G a_pst, F_pst.binds fun _ _ _ _ _ _ us hl => match us, hl with | [_, _], _ => rfl⟩
  have F_rig := fun_mk (st := s_is_right_word) l_rig c_rig k_rig
  have D_rig : DefAt K mg "_is_right_word" s_is_right_word ["word", "index"] f_rig _ := ⟨F_rig, PySem.W.mg_of X G a_rig, F_rig.binds fun _ _ _ _ _ _ us hl => match us, hl with | [_, _], _ => rfl⟩
  have F_non := fun_mk (st := s_is_notation_of_number) l_non c_non k_non
  have D_non : DefAt K mg "_is_notation_of_number" s_is_notation_of_number ["word"] f_non _ := ⟨F_non, PySem.W.mg_of X G a_non, F_non.binds fun _ _ _ _ _ _ us hl => match us, hl with | [_], _ => rfl⟩
  have F_cha := fun_mk (st := s_chart) l_cha c_cha k_cha
  have D_cha : DefAt K mg "chart" s_chart ["row", "stone", "side"] f_cha _ := ⟨F_cha, PySem.W.mg_of X G a_cha, F_cha.binds fun _ _ _ _ _ _ us hl => match us, hl with | [_, _, _], _ => rfl⟩
  have F_pac := fun_mk (st := s_pack_bytes) l_pac c_pac k_pac
  have D_pac : DefAt K mg "pack_bytes" s_pack_bytes ["values"] f_pac _ := ⟨F_pac, PySem.W.mg_of X G a_pac, F_pac.binds fun _ _ _ _ _ _ us hl => match us, hl with | [_], _ => rfl⟩
  have F_unp := fun_mk (st := s_unpack_bytes) l_unp c_unp k_unp
  have D_unp : DefAt K mg "unpack_bytes" s_unpack_bytes ["data"] f_unp _ := ⟨F_unp, PySem.W.mg_of X G a_unp, F_unp.binds fun _ _ _ _ _ _ us hl => match us, hl with | [_], _ => rfl⟩
  have F_enc := fun_mk (st := s_encode_row) l_enc c_enc k_enc
  have D_enc : DefAt K mg "encode_row" s_encode_row ["row"] f_enc _ := ⟨F_enc, PySem.W.mg_of X G a_enc, F_enc.binds fun _ _ _ _ _ _ us hl => match us, hl with | [_], _ => rfl⟩
  have F_grp := fun_mk (st := s_groups) l_grp c_grp k_grp
  have D_grp : DefAt K mg "_groups" s_groups ["number"] f_grp _ := ⟨F_grp, PySem.W.mg_of X G a_grp, F_grp.binds fun _ _ _ _ _ _ us hl => match us, hl with | [_], _ => rfl⟩
  have F_chk := fun_mk (st := s_checksum) l_chk c_chk k_chk
  have D_chk : DefAt K mg "_checksum" s_checksum ["values"] f_chk _ := ⟨F_chk, PySem.W.mg_of X G a_chk, F_chk.binds fun _ _ _ _ _ _ us hl => match us, hl with | [_], _ => rfl⟩
  have F_dec := fun_mk (st := s_decode_row) l_dec c_dec k_dec
  have D_dec : DefAt K mg "decode_row" s_decode_row ["data"] f_dec _ := ⟨F_dec, PySem.W.mg_of X G a_dec, F_dec.binds fun _ _ _ _ _ _ us hl => match us, hl with | [_], _ => rfl⟩
  have F_bat := fun_mk (st := s_byte_at) l_bat c_bat k_bat
  have D_bat : DefAt K mg "_byte_at" s_byte_at ["data", "offset"] f_bat _ := ⟨F_bat, PySem.W.mg_of X G a_bat, F_bat.binds fun _ _ _ _ _ _ us hl => match us, hl with | [_, _], _ => rfl⟩
  have F_rdn := fun_mk (st := s_read_number) l_rdn c_rdn k_rdn
  have D_rdn : DefAt K mg "_read_number" s_read_number ["data", "start", "least", "greatest"] f_rdn _ := ⟨F_rdn, PySem.W.mg_of X G a_rdn, F_rdn.binds fun _ _ _ _ _ _ us hl => match us, hl with | [_, _, _, _], _ => rfl⟩
  have F_cen := fun_mk (st := s_check_end) l_cen c_cen k_cen
  have D_cen : DefAt K mg "_check_end" s_check_end ["data", "offset"] f_cen _ := ⟨F_cen, PySem.W.mg_of X G a_cen, F_cen.binds fun _ _ _ _ _ _ us hl => match us, hl with | [_, _], _ => rfl⟩
  have F_tak := fun_mk (st := s_law_taken) l_tak c_tak k_tak
  have D_tak : DefAt K mg "_law_taken" s_law_taken ["_law_row_here", "_law_many"] f_tak _ := ⟨F_tak, PySem.W.mg_of X G a_tak, F_tak.binds fun _ _ _ _ _ _ us hl => match us, hl with | [_, _], _ => rfl⟩
  have F_gre := fun_mk (st := s_law_great) l_gre c_gre k_gre
  have D_gre : DefAt K mg "_law_great" s_law_great ["_law_row_here", "_law_many"] f_gre _ := ⟨F_gre, PySem.W.mg_of X G a_gre, F_gre.binds fun _ _ _ _ _ _ us hl => match us, hl with | [_, _], _ => rfl⟩
  have F_sto := fun_mk (st := s_law_stones) l_sto c_sto k_sto
  have D_sto : DefAt K mg "_law_stones" s_law_stones ["_law_row_here", "_law_most"] f_sto _ := ⟨F_sto, PySem.W.mg_of X G a_sto, F_sto.binds fun _ _ _ _ _ _ us hl => match us, hl with | [_, _], _ => rfl⟩
  have F_row := fun_mk (st := s_law_row) l_row c_row k_row
  have D_row : DefAt K mg "_law_row" s_law_row ["_law_stones_here"] f_row _ := ⟨F_row, PySem.W.mg_of X G a_row, F_row.binds fun _ _ _ _ _ _ us hl => match us, hl with | [_], _ => rfl⟩
  have F_nub := fun_mk (st := s_law_number) l_nub c_nub k_nub
  have D_nub : DefAt K mg "_law_number" s_law_number ["_law_text"] f_nub _ := ⟨F_nub, PySem.W.mg_of X G a_nub, F_nub.binds fun _ _ _ _ _ _ us hl => match us, hl with | [_], _ => rfl⟩
  have F_isc := fun_mk (st := s_law_is_chart) l_isc c_isc k_isc
  have D_isc : DefAt K mg "_law_is_chart" s_law_is_chart ["_law_one", "_law_stone", "_law_side"] f_isc _ := ⟨F_isc, PySem.W.mg_of X G a_isc, F_isc.binds fun _ _ _ _ _ _ us hl => match us, hl with | [_, _, _], _ => rfl⟩
  have F_law := fun_mk (st := s_law) l_law c_law k_law
  have D_law : DefAt K mg "law" s_law ["_law_script"] f_law _ := ⟨F_law, PySem.W.mg_of X G a_law, F_law.binds fun _ _ _ _ _ _ us hl => match us, hl with | [_], _ => rfl⟩
  have F_pla := fun_mk (st := s_Row_places) l_pla c_pla k_pla
  have b_pla := F_pla.binds (ps := ["self"]) fun _ _ _ _ _ _ us hl => match us, hl with | [_], _ => rfl
  have P_pla : PropOf K C "places" p_pla f_pla := ⟨pa_pla, pb_pla, pc_pla, ⟨rs_pla, pd_pla⟩⟩
  have F_get := fun_mk (st := s_Row_stones) l_get c_get k_get
  have b_get := F_get.binds (ps := ["self"]) fun _ _ _ _ _ _ us hl => match us, hl with | [_], _ => rfl
  have P_get : PropOf K C "stones" p_get f_get := ⟨pa_get, pb_get, pc_get, ⟨rs_get, pd_get⟩⟩
  have L : Lims mg := ⟨⟨tP, PySem.W.mg_of X G aP⟩, ⟨tH, PySem.W.mg_of X G aH⟩⟩
  have R : RowC K mg C := ⟨⟨pg, hd, po, sa⟩, nQ, ⟨_, mM, ⟨tM, rfl⟩, gM, by decide⟩, PySem.W.mg_of X G aC, sf, ca, cn, ct, cm⟩
  have M : Mk K C f_ini := ⟨mk, a_ini, i_ini, kc⟩
  have hS : ∀ H : Hp, SqT K H S [.str "left", .str "right"] := fun H => .inr ⟨_, itS, nS, lS, rfl, rfl, pS, vS⟩
  have R6 : RaiseC K mg "UnknownStone" xc6 := ⟨exc6, PySem.W.mg_of X G nc6, kpc6, suc6, tyc6⟩
  have R7 : RaiseC K mg "InvalidSide" xc7 := ⟨exc7, PySem.W.mg_of X G nc7, kpc7, suc7, tyc7⟩
  have R10 : RaiseC K mg "InvalidCount" xc10 := ⟨exc10, PySem.W.mg_of X G nc10, kpc10, suc10, tyc10⟩
  have T1 : OexC K xc1 := ⟨⟨_, _, _, _, _, _, _, _, _, _, _, _, _, _, _, xlc1, xrc1⟩, sac1, suc1, tyc1, kpc1⟩
  have S1 : SupX.SupD l.prog K g_i1 xc1 := ⟨⟨_, _, _, g1_i1⟩, ⟨_, g2_i1⟩, g3_i1, g4_i1, g5_i1, opq, tps⟩
  refine ⟨PySem.W.fnOf "law" "law" (defArgs s_law) (defBody s_law) (defScope s_law) .none kV_law dc_law pm_law an_law cd_law ct_law, fun s v => .of_eq rfl, fun base _ _ => ?_⟩
  have I1 : ExI l.prog w K mg base "DecodeError" "offset" xc1 := ⟨T1, PySem.W.mg_of X G nc1, ⟨f_i1, _, a_i1, t_i1, ok_deInit l_i1 c_i1 S1 e1_i1 rfl e2_i1 e3_i1 (PySem.W.mg_none_of X G z_super) oxc1, .all fun us hl => match us, hl with | [_, _], _ => rfl⟩⟩
  have A_num := D_num.at (ok_num (P := l.prog) (w := w) (base := base) F_num B)
  have A_bes := D_bes.at (ok_beside (P := l.prog) (w := w) (base := base) F_bes B)
  have A_iss := D_iss.at (ok_isStone F_iss B L A_num)
  have G_ini : FnR l.prog w K mg base CX0 3 f_ini (spMake K C) := ok_init F_ini B R A_iss
  have G_len := toR (ok_len (P := l.prog) (w := w) (base := base) F_len B R) b_len
  have G_add := toR (ok_add F_add B R M G_ini) b_add
  have O_get := ok_get (P := l.prog) (w := w) (base := base) F_get R
  have SL : Sign K C "__len__" f_len := ⟨a_len, i_len⟩

  have A_cs0 := D_cst.at (ok_checkStone F_cst A_num)
  have A_cst := D_cst.at (ok_checkStoneX F_cst R6 A_num)
  have A_csi := D_csi.at (ok_checkSideX (P := l.prog) (w := w) (base := base) F_csi R7 (PySem.W.mg_of X G aS) hS)
  have A_rer := D_rer.at (ok_reaches (P := l.prog) (w := w) (base := base) F_rer B)
  have A_tic := D_tic.at (ok_ticks F_tic B R ⟨a_len, i_len⟩ G_len P_get O_get b_get A_cst A_csi A_bes A_rer)
  have A_cha := D_cha.at (ok_chart F_cha B R P_get O_get b_get A_tic)
  have CM : CodM mg := ⟨⟨_, PySem.W.mg_of X G aG⟩, ⟨_, PySem.W.mg_of X G aFC⟩, ⟨_, PySem.W.mg_of X G aFB⟩, ⟨_, PySem.W.mg_of X G aGB⟩, PySem.W.mg_none_of X G z_divmod, PySem.W.mg_none_of X G z_all, PySem.W.mg_none_of X G z_bytes⟩
  have TM : TxtM mg := ⟨⟨_, PySem.W.mg_of X G aFW⟩, ⟨_, PySem.W.mg_of X G aWS⟩, ⟨_, PySem.W.mg_of X G aMF⟩⟩
  have A_non := D_non.at (ok_notN (P := l.prog) (w := w) (base := base) F_non B TM)
  have A_rig := D_rig.at (ok_right F_rig B TM A_non)
  have A_pst := D_pst.at (ok_stoneT F_pst B TM A_rig)
  have A_fmt := D_fmt.at (ok_fmt F_fmt B TM R P_get O_get b_get)
  have A_par := D_par.at (ok_parse F_par B (PySem.W.mg_none_of X G z_str) R M G_ini A_pst)
  have A_pac := D_pac.at (ok_pack F_pac B CM R10 A_num)
  have A_unp := D_unp.at (ok_unpack (P := l.prog) (w := w) (base := base) F_unp B)
  have A_grp := D_grp.at (ok_groups (P := l.prog) (w := w) (base := base) F_grp B CM)
  have A_ck1 := D_chk.at (ok_cks (P := l.prog) (w := w) (base := base) F_chk B CM)
  have A_ck2 := D_chk.at (ok_cksB (P := l.prog) (w := w) (base := base) F_chk B CM)
  have A_enc := D_enc.at (ok_enc F_enc B CM R ⟨a_len, i_len⟩ G_len P_get O_get b_get A_grp A_ck1 A_pac)
  have A_bat := D_bat.at (ok_byteAt F_bat B I1)
  have A_rdn := D_rdn.at (ok_read F_rdn B CM I1 A_bat)
  have A_cen := D_cen.at (ok_end F_cen B I1 A_bat A_ck2)
  have A_dec := D_dec.at (ok_dec ⟨cr1C, cr2C⟩ ⟨cvM, ⟨tM, rfl⟩⟩ F_dec B CM L R M G_ini I1 A_bat A_rdn A_cen)
  have G_gti := toR (ok_item F_gti B R A_cs0) b_gti
  have O_pla := ok_places (P := l.prog) (w := w) (base := base) F_pla B R
  have A_chn := D_chn.at (ok_checkNum F_chn A_num)
  have G_rsh := toR (ok_shiftG F_rsh R L M G_ini A_chn) b_rsh
  have G_wit := ok_withoutE F_wit B R M G_ini A_cs0
  have G_eqm := toR (ok_same (P := l.prog) (w := w) (base := base) F_eqm B R) b_eqm
  have G_con := toR (ok_hasR F_con B R L P_pla O_pla b_pla A_num) b_con
  have A_tak := D_tak.at (ok_taken (P := l.prog) (w := w) (base := base) F_tak B)
  have A_gre := D_gre.at (ok_great F_gre B A_tak)
  have A_sto := D_sto.at (ok_stones F_sto B A_tak)
  have A_row := D_row.at (ok_row F_row B R M G_ini G_add ⟨a_add, i_add⟩)
  have A_nub := D_nub.at (ok_numb (P := l.prog) (w := w) (base := base) F_nub B)
  have A_isc := D_isc.at (ok_isChart F_isc B R ⟨a_len, i_len⟩ G_len ⟨a_gti, i_gti⟩ n_gti G_gti A_cha A_tic A_nub)
  exact ok_law F_law B R ⟨a_len, i_len⟩ G_len nn so ⟨a_eqm, i_eqm⟩ G_eqm ⟨a_add, i_add⟩ G_add ⟨a_rsh, i_rsh⟩ G_rsh noR noI j1 j2 (by decide) ⟨a_wit, i_wit, k_wit⟩ G_wit ⟨a_con, i_con⟩ G_con P_get O_get b_get P_pla O_pla b_pla A_tak A_sto A_row A_gre A_fmt A_par A_pac A_unp A_enc A_dec A_isc
theorem walk {l : PySem.W.OpenLaw} {q : Program} {loose : List Str} {XP : (Str → Option Value) → Heap → Prop} {YP : World → Heap → Prop} {d : DefRec} {K : Params → PySem.W.Frag} (hn : l.most = some 63) (hdf : d.params.defaults = [])
    (hY : ∀ (w : World) (h : Heap), YP w h → (K w.params).In h)
    (F : ∀ (w : World) (mg : Str → Option Value) (fa : Addr) (h : Heap), (K w.params).In h → h.Ns mainGlobals mg → mg d.name = some (.ref fa) →
      ∃ fd : FuncData, (∀ (s : Shared) (u : Value), BindsTo s fd ⟨[u], []⟩ [("_law_script", u)]) ∧ ∀ base : Heap, (K w.params).In base → base.Ns mainGlobals mg → FnOk l.prog w (K w.params) mg base CX0 8 fa fd ["_law_script"] (spLaw (K w.params))) :
    PySem.W.WalkO q loose XP YP l.row.toRowW d [] (fun f vs => PySem.call f vs) :=
  L2.walk_of (n := 63) (k := 8) (x := "_law_script") (CX := fun _ => CX0) (sp := fun w => spLaw (K w.params)) hn (by decide) hdf ⟨rfl, by decide, by decide⟩ hY F (fun _ _ a ns hl _ hS => ⟨a, ns, rfl, hS, hl, fun _ => rfl⟩) fun _ _ _ _ _ z => z
end RD
end
open PySem PySem.W PyProof.Rows
set_option maxRecDepth 100000 in
set_option maxHeartbeats 0 in
theorem PySem.Challenge.cw_rowdominoes_k20_whole_texts_bytes_and_su_holds : PySem.Challenge.rw_rowdominoes_k20_whole_texts_bytes_and_su.Holds := by
  w_on; o_law; k_head; (case hw => w_witness2)
  k_fill
  refine RD.walk (l := PySem.Challenge.rw_rowdominoes_k20_whole_texts_bytes_and_su) rfl rfl (fun w h Y => PySem.W.kIn_of Y) ?F
  case F =>
    intro w mg fa h KX G hmg
    refine' RD.all_mk KX G hmg ?aC ?a_ini ?i_ini ?l_ini ?c_ini ?k_ini ?a_len ?i_len ?l_len ?c_len ?k_len ?a_add ?i_add ?l_add ?c_add ?k_add ?a_gti ?i_gti ?l_gti ?c_gti ?k_gti ?n_gti ?a_rsh ?i_rsh ?l_rsh ?c_rsh ?k_rsh ?a_eqm ?i_eqm ?l_eqm ?c_eqm ?k_eqm ?a_wit ?i_wit ?l_wit ?c_wit ?k_wit ?a_con ?i_con ?l_con ?c_con ?k_con ?a_num ?l_num ?c_num ?k_num ?a_chn ?l_chn ?c_chn ?k_chn ?a_cst ?l_cst ?c_cst ?k_cst ?a_csi ?l_csi ?c_csi ?k_csi ?a_bes ?l_bes ?c_bes ?k_bes ?a_iss ?l_iss ?c_iss ?k_iss ?a_rer ?l_rer ?c_rer ?k_rer ?a_tic ?l_tic ?c_tic ?k_tic ?a_fmt ?l_fmt ?c_fmt ?k_fmt ?a_par ?l_par ?c_par ?k_par ?a_pst ?l_pst ?c_pst ?k_pst ?a_rig ?l_rig ?c_rig ?k_rig ?a_non ?l_non ?c_non ?k_non ?a_cha ?l_cha ?c_cha ?k_cha ?a_pac ?l_pac ?c_pac ?k_pac ?a_unp ?l_unp ?c_unp ?k_unp ?a_enc ?l_enc ?c_enc ?k_enc ?a_grp ?l_grp ?c_grp ?k_grp ?a_chk ?l_chk ?c_chk ?k_chk ?a_dec ?l_dec ?c_dec ?k_dec ?a_bat ?l_bat ?c_bat ?k_bat ?a_rdn ?l_rdn ?c_rdn ?k_rdn ?a_cen ?l_cen ?c_cen ?k_cen ?a_tak ?l_tak ?c_tak ?k_tak ?a_gre ?l_gre ?c_gre ?k_gre ?a_sto ?l_sto ?c_sto ?k_sto ?a_row ?l_row ?c_row ?k_row ?a_nub ?l_nub ?c_nub ?k_nub ?a_isc ?l_isc ?c_isc ?k_isc ?a_law ?l_law ?c_law ?k_law ?z_isinstance ?z_int ?z_bool ?z_len ?z_tuple ?z_list ?z_range ?z_enumerate ?z_abs ?z_max ?z_min ?z_sorted ?aS ?lS ?pS ?vS ?aP ?aH ?pg ?hd ?po ?sa ?mk ?kc ?nQ ?mM ?gM ?sf ?ca ?cn ?ct ?cm ?pa_pla ?pb_pla ?pc_pla ?pd_pla ?l_pla ?c_pla ?k_pla ?pa_get ?pb_get ?pc_get ?pd_get ?l_get ?c_get ?k_get ?z_divmod ?z_all ?z_bytes ?z_str ?noR ?noI ?j1 ?j2 ?nn ?so ?cr1C ?cr2C ?cvM ?aG ?aFC ?aFB ?aGB ?aFW ?aWS ?aMF ?nc6 ?exc6 ?kpc6 ?suc6 ?tyc6 ?nc7 ?exc7 ?kpc7 ?suc7 ?tyc7 ?nc10 ?exc10 ?kpc10 ?suc10 ?tyc10 ?opq ?tps ?z_super ?nc1 ?suc1 ?tyc1 ?kpc1 ?oxc1 ?xlc1 ?xrc1 ?sac1 ?a_i1 ?t_i1 ?l_i1 ?c_i1 ?g1_i1 ?g2_i1 ?g3_i1 ?g4_i1 ?g5_i1 ?e1_i1 ?e2_i1 ?e3_i1
    (case aC => k_is)
    (case a_ini => k_is)
    (case i_ini => k_is)
    (case l_ini => k_is)
    (case c_ini => k_is)
    (case k_ini => k_is)
    (case a_len => k_is)
    (case i_len => k_is)
    (case l_len => k_is)
    (case c_len => k_is)
    (case k_len => k_is)
    (case a_add => k_is)
    (case i_add => k_is)
    (case l_add => k_is)
    (case c_add => k_is)
    (case k_add => k_is)
    (case a_gti => k_is)
    (case i_gti => k_is)
    (case l_gti => k_is)
    (case c_gti => k_is)
    (case k_gti => k_is)
    (case n_gti => k_is)
    (case a_rsh => k_is)
    (case i_rsh => k_is)
    (case l_rsh => k_is)
    (case c_rsh => k_is)
    (case k_rsh => k_is)
    (case a_eqm => k_is)
    (case i_eqm => k_is)
    (case l_eqm => k_is)
    (case c_eqm => k_is)
    (case k_eqm => k_is)
    (case a_wit => k_is)
    (case i_wit => k_is)
    (case l_wit => k_is)
    (case c_wit => k_is)
    (case k_wit => k_is)
    (case a_con => k_is)
    (case i_con => k_is)
    (case l_con => k_is)
    (case c_con => k_is)
    (case k_con => k_is)
    (case a_num => k_is)
    (case l_num => k_is)
    (case c_num => k_is)
    (case k_num => k_is)
    (case a_chn => k_is)
    (case l_chn => k_is)
    (case c_chn => k_is)
    (case k_chn => k_is)
    (case a_cst => k_is)
    (case l_cst => k_is)
    (case c_cst => k_is)
    (case k_cst => k_is)
    (case a_csi => k_is)
    (case l_csi => k_is)
    (case c_csi => k_is)
    (case k_csi => k_is)
    (case a_bes => k_is)
    (case l_bes => k_is)
    (case c_bes => k_is)
    (case k_bes => k_is)
    (case a_iss => k_is)
    (case l_iss => k_is)
    (case c_iss => k_is)
    (case k_iss => k_is)
    (case a_rer => k_is)
    (case l_rer => k_is)
    (case c_rer => k_is)
    (case k_rer => k_is)
    (case a_tic => k_is)
    (case l_tic => k_is)
    (case c_tic => k_is)
    (case k_tic => k_is)
    (case a_fmt => k_is)
    (case l_fmt => k_is)
    (case c_fmt => k_is)
    (case k_fmt => k_is)
    (case a_par => k_is)
    (case l_par => k_is)
    (case c_par => k_is)
    (case k_par => k_is)
    (case a_pst => k_is)
    (case l_pst => k_is)
    (case c_pst => k_is)
    (case k_pst => k_is)
    (case a_rig => k_is)
    (case l_rig => k_is)
    (case c_rig => k_is)
    (case k_rig => k_is)
    (case a_non => k_is)
    (case l_non => k_is)
    (case c_non => k_is)
    (case k_non => k_is)
    (case a_cha => k_is)
    (case l_cha => k_is)
    (case c_cha => k_is)
    (case k_cha => k_is)
    (case a_pac => k_is)
    (case l_pac => k_is)
    (case c_pac => k_is)
    (case k_pac => k_is)
    (case a_unp => k_is)
    (case l_unp => k_is)
    (case c_unp => k_is)
    (case k_unp => k_is)
    (case a_enc => k_is)
    (case l_enc => k_is)
    (case c_enc => k_is)
    (case k_enc => k_is)
    (case a_grp => k_is)
    (case l_grp => k_is)
    (case c_grp => k_is)
    (case k_grp => k_is)
    (case a_chk => k_is)
    (case l_chk => k_is)
    (case c_chk => k_is)
    (case k_chk => k_is)
    (case a_dec => k_is)
    (case l_dec => k_is)
    (case c_dec => k_is)
    (case k_dec => k_is)
    (case a_bat => k_is)
    (case l_bat => k_is)
    (case c_bat => k_is)
    (case k_bat => k_is)
    (case a_rdn => k_is)
    (case l_rdn => k_is)
    (case c_rdn => k_is)
    (case k_rdn => k_is)
    (case a_cen => k_is)
    (case l_cen => k_is)
    (case c_cen => k_is)
    (case k_cen => k_is)
    (case a_tak => k_is)
    (case l_tak => k_is)
    (case c_tak => k_is)
    (case k_tak => k_is)
    (case a_gre => k_is)
    (case l_gre => k_is)
    (case c_gre => k_is)
    (case k_gre => k_is)
    (case a_sto => k_is)
    (case l_sto => k_is)
    (case c_sto => k_is)
    (case k_sto => k_is)
    (case a_row => k_is)
    (case l_row => k_is)
    (case c_row => k_is)
    (case k_row => k_is)
    (case a_nub => k_is)
    (case l_nub => k_is)
    (case c_nub => k_is)
    (case k_nub => k_is)
    (case a_isc => k_is)
    (case l_isc => k_is)
    (case c_isc => k_is)
    (case k_isc => k_is)
    (case a_law => k_is)
    (case l_law => k_is)
    (case c_law => k_is)
    (case k_law => k_is)
    (case z_isinstance => k_is)
    (case z_int => k_is)
    (case z_bool => k_is)
    (case z_len => k_is)
    (case z_tuple => k_is)
    (case z_list => k_is)
    (case z_range => k_is)
    (case z_enumerate => k_is)
    (case z_abs => k_is)
    (case z_max => k_is)
    (case z_min => k_is)
    (case z_sorted => k_is)
    (case aS => k_is)
    (case lS => k_is)
    (case pS => decide)
    (case vS => exact .cons ⟨_, rfl⟩ (.cons ⟨_, rfl⟩ .nil))
    (case aP => k_is)
    (case aH => k_is)
    (case pg => k_is)
    (case hd => k_is)
    (case po => k_is)
    (case sa => k_is)
    (case mk => k_is)
    (case kc => k_is)
    (case nQ => k_is)
    (case mM => k_is)
    (case gM => k_is)
    (case sf => k_is)
    (case ca => k_is)
    (case cn => k_is)
    (case ct => k_is)
    (case cm => k_is)
    (case pa_pla => k_is)
    (case pb_pla => k_is)
    (case pc_pla => k_is)
    (case pd_pla => k_is)
    (case l_pla => k_is)
    (case c_pla => k_is)
    (case k_pla => k_is)
    (case pa_get => k_is)
    (case pb_get => k_is)
    (case pc_get => k_is)
    (case pd_get => k_is)
    (case l_get => k_is)
    (case c_get => k_is)
    (case k_get => k_is)
    (case z_divmod => k_is)
    (case z_all => k_is)
    (case z_bytes => k_is)
    (case z_str => k_is)
    (case noR => k_is)
    (case noI => k_is)
    (case j1 => k_is)
    (case j2 => k_is)
    (case nn => k_is)
    (case so => k_is)
    (case cr1C => k_is)
    (case cr2C => k_is)
    (case cvM => k_is)
    (case aG => k_is)
    (case aFC => k_is)
    (case aFB => k_is)
    (case aGB => k_is)
    (case aFW => k_is)
    (case aWS => k_is)
    (case aMF => k_is)
    (case nc6 => k_is)
    (case exc6 => k_exc)
    (case kpc6 => k_is)
    (case suc6 => k_is)
    (case tyc6 => k_is)
    (case nc7 => k_is)
    (case exc7 => k_exc)
    (case kpc7 => k_is)
    (case suc7 => k_is)
    (case tyc7 => k_is)
    (case nc10 => k_is)
    (case exc10 => k_exc)
    (case kpc10 => k_is)
    (case suc10 => k_is)
    (case tyc10 => k_is)
    (case opq => first | exact rfl | kernel_rfl | decide +kernel | k_is)
    (case tps => first | exact rfl | decide +kernel)
    (case z_super => k_is)
    (case nc1 => k_is)
    (case suc1 => k_is)
    (case tyc1 => k_is)
    (case kpc1 => k_is)
    (case oxc1 => k_is)
    (case xlc1 => k_is)
    (case xrc1 => first | exact rfl | decide +kernel)
    (case sac1 => k_is)
    (case a_i1 => k_is)
    (case t_i1 => k_is)
    (case l_i1 => k_is)
    (case c_i1 => k_is)
    (case g1_i1 => k_is)
    (case g2_i1 => k_is)
    (case g3_i1 => first | exact rfl | kernel_rfl | decide +kernel | k_is)
    (case g4_i1 => first | exact rfl | kernel_rfl | decide +kernel | k_is)
    (case g5_i1 => k_is)
    (case e1_i1 => k_is)
    (case e2_i1 => first | exact rfl | decide +kernel)
    (case e3_i1 => first | exact rfl | decide +kernel)
#print axioms PySem.Challenge.cw_rowdominoes_k20_whole_texts_bytes_and_su_holds
