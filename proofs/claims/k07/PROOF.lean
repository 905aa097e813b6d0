import PyProof.Rows.All
import Wide.All
import OpenK.AllK
import Wide.FinOn
import KE.KOpsOwn
import KE.GoesMore
import KE.GoesEnum
import HandS.ForMost
import HandS.Star
import HandS.Conv
import HandS.Deep
import HandS.DictTup
import HandS.IsInst
import HandS.Walk
import HandS.SlotsOwn
import HandS.TupAny
import HandS.Property
import HandS.SortInts
import HandS.OwnEq
import HandS.Style
import PySem.Challenge.RW_rowdominoes_k07_fewest_pushes
set_option Elab.async false
set_option maxRecDepth 100000
section
set_option maxHeartbeats 4000000
/-! Own signs of own classes, as rules of the hand layer. -/
namespace Own
open PySem PySem.Spec PyProof.Rows L2

section
variable {X : Cx} {CX : CXT} {n : Nat} {C g : Addr} {sp : Sp} {E : XK}

/-- an instance of C, as the library's rules want it -/
theorem insAt {pins : List (Addr × Obj)} {sl : L2.St} {H : Hp} {st : Shared} {a dx : Addr} {fs : List (Str × V)} (inv : Inv X pins sl H st) (ea : H a = some (.ins C dx fs)) :
    ∃ od, PySem.W.InstAt st.heap a (PySem.W.instObj C dx) C (some od) := by
  obtain ⟨mm, ob, _⟩ := ins_get inv.hok ea
  obtain ⟨od, at1, _⟩ := ob.look
  exact ⟨od, at1⟩
/-- the def of a sign, called with the object and one more -/
theorem run2 {pins : List (Addr × Obj)} {sl : L2.St} {H : Hp} {st : Shared} {Q : VK} {a : Addr} {y : V} {u : Value} (F : FnR X.prog X.w X.K X.mg X.base CX n g sp) (hr : Room n X.A) (hx : Passes CX X E) (inv : Inv X pins sl H st) (ry : RelV y u)
    (h : sp [.ref a, y] H Q E) : wpAny (model X.prog X.w) X.A (call (.ref g) [.ref a, u]) (PySem.W.CmpBack (EP X pins sl Q)) X.xe st := by
  have go := wpAny_call (run_fnR (us := [.ref a, u]) (vs := [.ref a, y]) F hr hx inv (.cons rfl (.cons ry .nil)) h)
  refine wpAny_mono go (fun r st' z => ?_) fun _ _ z => z
  obtain ⟨z', H', inv', rz, qz⟩ := z
  exact SlX.cmpback rz ⟨z', H', inv', rz, qz⟩

/-- x op y: the class of x has the sign's def, y is an instance of it, too -/
def rBin (C : Addr) (sp : Sp) (E : XK) : R2 := fun x y H Q => ∃ a dx fs b dy gs, x = .ref a ∧ y = .ref b ∧ H a = some (.ins C dx fs) ∧ H b = some (.ins C dy gs) ∧ sp [x, y] H Q E
theorem op_bin {op : Operator} (hc : PySem.W.selfFirst X.K C = true) (hs : PySem.W.findIn X.K (.ref C) (PySem.dunder op.info.2) = some (some (.ref g))) (hf : PySem.W.isFn X.K (.ref g) = true)
    (F : FnR X.prog X.w X.K X.mg X.base CX n g sp) (hr : Room n X.A) (hx : Passes CX X E) : OpR X (binaryOp op) (rBin C sp E) := by
  intro pins st sl H x y v u Q inv rx ry h
  obtain ⟨a, dx, fs, b, dy, gs, rfl, rfl, ea, eb, h⟩ := h
  obtain rfl : v = Value.ref a := rx
  obtain rfl : u = Value.ref b := ry
  obtain ⟨_, ja⟩ := insAt inv ea
  obtain ⟨_, jb⟩ := insAt inv eb
  obtain ⟨_, fr⟩ := inv.fr
  exact PySem.W.binop_K fr inv.ok.mod.kin ja jb.type hc hs hf (run2 (y := .ref b) F hr hx inv rfl h)

/-- x op y: y an int, a bool, None or a text -/
def flatTy : V → Option String
  | .int _ => some "int"
  | .bl _ => some "bool"
  | .non => some "NoneType"
  | .str _ => some "str"
  | _ => none
theorem typeOf_flat {y : V} {u : Value} {t : String} (h : flatTy y = some t) (r : RelV y u) : typeOf u = pure (.type t) := by
  cases y with
  | int i => obtain ⟨k, rfl⟩ := r; cases h; rfl
  | bl i => cases r; cases h; rfl
  | non => cases r; cases h; rfl
  | str i => obtain ⟨k, rfl⟩ := r; cases h; rfl
  | byt i => cases h
  | flt i => cases h
  | ref i => cases h
  | ty i => cases h
def rBinF (K : PySem.W.Frag) (C : Addr) (nm : String) (sp : Sp) (E : XK) : R2 := fun x y H Q => ∃ a dx fs t fo ro, x = .ref a ∧ H a = some (.ins C dx fs) ∧ flatTy y = some t ∧
  PySem.W.findIn K (.type t) (PySem.dunder nm) = some fo ∧ PySem.W.findIn K (.type t) (dunderR nm) = some ro ∧ PySem.W.subIn K (.type t) (.ref C) = some false ∧ sp [x, y] H Q E

/-- len(x): the class of x has __len__ -/
def rLen (C : Addr) (sp : Sp) (E : XK) : List V → Hp → VK → Prop := fun xs H Q => ∃ a dx fs, xs = [.ref a] ∧ H a = some (.ins C dx fs) ∧ sp [.ref a] H (fun z H' => ∃ k : Int, z = .int k ∧ 0 ≤ k ∧ k < 2 ^ 63 ∧ Q z H') E
theorem call_len (hs : PySem.W.findIn X.K (.ref C) "__len__" = some (some (.ref g))) (hf : PySem.W.isFn X.K (.ref g) = true) (F : FnR X.prog X.w X.K X.mg X.base CX n g sp) (hr : Room (n + 1) X.A) (hx : Passes CX X E) :
    CallR X (.builtin "len") (rLen C sp E) := by
  intro pins st sl H xs us Q inv r h
  obtain ⟨a, dx, fs, rfl, ea, h⟩ := h
  obtain ⟨u, rfl, ru⟩ := r.one
  obtain rfl : u = Value.ref a := ru
  obtain ⟨_, ja⟩ := insAt inv ea
  obtain ⟨_, fr⟩ := inv.fr
  have go := wpAny_call (SlX.run_at (A := X.A.in1) (us := [.ref a]) (ws := [.ref a]) F hr.in1 inv.env0.in1 hx inv (.cons rfl .nil) h)
  refine PySem.W.len_K fr inv.ok.mod.kin ja hs hf (wpAny_mono go (fun v st' z => ?_) fun _ _ z => z)
  obtain ⟨z', H', inv', rz, k, rfl, h0, h1, qz⟩ := z
  obtain ⟨t, rfl⟩ := rz
  exact ⟨⟨h0, h1⟩, .int k, H', inv'.tok _, ⟨_, rfl⟩, qz⟩
end

/-! ### C(), C(e), C(*e) where __init__ has a star -/
section
variable {X : Cx} {CX : CXT} {k : Nat} {f C : Addr} {sp : Sp} {E : XK} {x : Str} {e : Expr} {te : TE} {p ps pos : Pos}
theorem pe_makeR0 (M : Mk X.K C f) (F : FnR X.prog X.w X.K X.mg X.base CX k f sp) (hr : Room (k + 1) X.A) (hg : Gl X x) (hm : X.mg x = some (.ref C)) (hx : Passes CX X E) (hdb : (x == ("__debug__" : Str)) = false := by decide) :
    PE X (.Call (.Name x p) [] [] pos) (StX.tMakeR C sp E tNil) := by
  refine ⟨fun pins st sl H Q inv h => wpAny_Call_Name_kw (ld_glob inv hg hm ?_ hdb)⟩
  exact PySem.W.callWith_K0 inv.kIn M.kp (StX.run_makeR (us := []) M F hr hx inv .nil h)
/-- C(*e) -/
def tMakeS (K : PySem.W.Frag) (C : Addr) (sp : Sp) (E : XK) (te : TE) : TE := fun sl H Q => te sl H fun y H1 => ∃ a xs, y = V.ref a ∧ (SqT K H1 a xs ∨ SqL K H1 a xs) ∧ ∀ z dz, H1 z = Option.none → H1 dz = Option.none → dz ≠ z →
  sp (V.ref z :: xs) (upd (upd H1 dz (.own z)) z (.ins C dz [])) (fun v H2 => v = .non ∧ Q (.ref z) H2) E
theorem pe_makeS (M : Mk X.K C f) (F : FnR X.prog X.w X.K X.mg X.base CX k f sp) (hr : Room (k + 1) X.A) (hg : Gl X x) (hm : X.mg x = some (.ref C)) (hx : Passes CX X E) (he : PE X e te) (hdb : (x == ("__debug__" : Str)) = false := by decide)
    (hst : starEach [.Starred e ps] X.env = [(true, eval e X.env)] := by rfl) : PE X (.Call (.Name x p) [.Starred e ps] [] pos) (tMakeS X.K C sp E te) := by
  refine ⟨fun pins st sl H Q inv h => wpAny_Call_Name_kw (ld_glob inv hg hm ?_ hdb)⟩
  refine PySem.W.callWith_S (h₀ := X.base) inv.ok.mod.kin M.kp (thn (he.run pins st sl H _ inv h) fun v s1 z => ?_) hst
  obtain ⟨y, H1, inv1, ry, a, xs, ey, hxs, q⟩ := z
  subst ey
  obtain rfl : v = Value.ref a := ry
  exact StX.star_any inv1 hxs fun us s2 inv2 rv => ⟨inv2.kIn, StX.run_makeR M F hr hx inv2 rv q⟩
end

/-! ### enumerate(tuple) -/
section
def Item (K : PySem.W.Frag) (a : Addr) : It :=
  ⟨fun i H => ∃ (xs : List V) (x : V), SqT K H a xs ∧ xs[i]? = some x, fun i H v H' => ∃ T x, v = .ref T ∧ H T = none ∧ H' = upd H T (.tup [.int (i : Nat), x]) ∧ ∀ ys, SqT K H a ys → ys[i]? = some x, fun i H => ∃ ys : List V, SqT K H a ys ∧ ys.length = i⟩
theorem walk_item {K : PySem.W.Frag} {a : Addr} {xs : List V} : Walk (Item K a) xs.length (fun H => SqT K H a xs) (YPair (fun i => some (.int (i : Nat))) (fun i => xs[i]?)) := by
  refine ⟨fun i _ hi q => ⟨xs, xs[i], q, by simp [hi]⟩, fun _ q => ⟨xs, q, rfl⟩, fun i H v H' _ q y => ?_⟩
  obtain ⟨T, x, e1, e2, e3, e4⟩ := y
  exact ⟨T, .int (i : Nat), x, e1, e2, e3, rfl, e4 xs q⟩
theorem two_cases {b en it : Addr} (hb : b ∈ [en, it]) : b = en ∨ b = it := by simpa using hb
theorem turn_item {P : Program} {w : World} {K : PySem.W.Frag} {elts : List Expr} {kk : Nat} {tpos : Pos} (a en it : Addr) (hat : a ≠ it) :
    Turn P w K (.Tuple elts kk tpos) (Item K a) [en, it] en (fun i h => (∃ old, IsEnum h en it ((i : Nat) : Int) old) ∧ h.IsTupleIter it a i ∧ en ≠ it ∧ en ≠ a) where
  mem := by simp
  obj := fun i h st b hb => by
    obtain ⟨⟨_, q⟩, ⟨oo, q1, _, q2⟩, _⟩ := st
    rcases two_cases hb with rfl | rfl
    · exact ⟨_, q, fun v z => nomatch z⟩
    · exact ⟨oo, q1, fun v z => by rw [q2] at z; cases z⟩
  keep := fun i h h' st k => let ⟨⟨old, q⟩, q1, q2⟩ := st; ⟨⟨old, k en (by simp) _ q⟩, q1.at fun o z => k it (by simp) o z, q2⟩
  item := by
    intro X hP hw hK hc i pins st sl H E inv free now hg
    subst hP hw hK
    obtain ⟨⟨old, q⟩, q1, q2, q3⟩ := now
    obtain ⟨xs, x, hq, hx⟩ := hg
    obtain ⟨its, rv, hp, _⟩ := inv.tuple hq
    obtain ⟨u, hu, ru⟩ := rv.get hx
    have lt1 : en < st.heap.objs.size := Heap.lt_size q
    have lt2 : it < st.heap.objs.size := by obtain ⟨_, z, _⟩ := q1; exact Heap.lt_size z
    have lt3 : a < st.heap.objs.size := by obtain ⟨_, z, _⟩ := hp; exact Heap.lt_size z
    have dr := Draws.tuple (prog := X.prog) (w := X.w) (A := X.A.in1) (show X.A.in1.handled = none from inv.ok.hd hc) it a hat its.toArray
    have hi : i < its.toArray.size := by
      have := (List.getElem?_eq_some_iff.mp hu).1
      simpa using this
    refine wpAny_pyNext_enum_itemD dr q ⟨q1, hp⟩ hi q2 (by simp [q2, q3]) fun x' h1 tk hx' ho hs1 hT hsz hk => ?_
    obtain rfl : x' = u := by
      have z : its.toArray[i]? = some u := by simpa using hu
      rw [z] at hx'
      exact (Option.some.inj hx').symm
    refine ⟨_, rfl, wpAny_letOwnedTupleGo_enum (s := { st with heap := h1, toks := tk + 1 }) ho fun h2 he2 sb => ?_⟩
    have hT2 : h2.get? st.heap.objs.size = some { cls := .type "tuple", data := .seq #[.int i tk, x'] } := (sb.2 _ (Nat.ne_of_gt lt1)).trans hT
    have pair : ObjOk X.prog X.w (upd H st.heap.objs.size (.tup [.int (i : Nat), x])) h2 st.heap.objs.size (.tup [.int (i : Nat), x]) :=
      ⟨by show 2 ≤ sizeLine; decide, [.int i tk, x'], .cons ⟨_, rfl⟩ (.cons ru .nil), ⟨_, hT2, rfl, _, rfl⟩⟩
    have inv2 : Inv X pins sl (upd H st.heap.objs.size (.tup [.int (i : Nat), x])) { st with heap := h2, toks := tk + 1 } :=
      inv.turnedNew (ch := [en, it]) (fun b ob hb z => (sb.2 b (fun y => hb (by simp [y]))).trans (hk b ob (fun y => hb (by simp [y])) (fun y => hb (by simp [y])) z)) free (Nat.le_refl _) pair
    refine ⟨.ref st.heap.objs.size, _, inv2, rfl, ⟨_, x, rfl, inv.hok.fresh (Nat.le_refl _), rfl, fun ys hy => by rw [inv.tuple_inj hy hq]; exact hx⟩, ⟨⟨x', ?_⟩, hs1.1.at fun o z => (sb.2 it (Ne.symm q2)).trans z, q2, q3⟩, fun b hb => ?_⟩
    · have e1 : ((i + 1 : Nat) : Int) = (i : Int) + 1 := by omega
      rw [e1]
      exact he2
    · have hb' : b < st.heap.objs.size := by
        rcases two_cases hb with rfl | rfl
        · exact lt1
        · exact lt2
      rw [upd_ne (Nat.ne_of_lt hb')]
      exact (free b hb).1
  done := by
    intro X hP hw hK hc i pins st sl H E inv free now hg
    subst hP hw hK
    obtain ⟨⟨old, q⟩, q1, q2, q3⟩ := now
    obtain ⟨xs, hq, hx⟩ := hg
    obtain ⟨its, rv, hp, _⟩ := inv.tuple hq
    obtain ⟨f0, f1, f2, f3, f4, f5⟩ := free it (by simp)
    have len := rv.length
    have dr := Draws.tuple (prog := X.prog) (w := X.w) (A := X.A.in1) (show X.A.in1.handled = none from inv.ok.hd hc) it a hat (its.toArray)
    have hn : i = its.toArray.size := by rw [List.size_toArray, ← len, hx]
    subst hn
    exact wpAny_pyNext_enum_endD dr q ⟨q1, hp⟩ fun h1 eb => ⟨rfl, inv.turned (t' := st.toks) (fun b o hb z => eb b o hb z) f0 f1 f3 f4 f5⟩
  self := fun A i s Q E now h => let ⟨⟨_, q⟩, _⟩ := now; wpAny_pyIter_enum q h

theorem new_enum {v : Value} {o : Obj} {G : Heap → Prop} (B : Begins v o G) :
    Meets (Builtin.«enumerate.__new__» ⟨[.type "enumerate", v], []⟩) (fun _ R st => G st.heap ∧
      R (.ok (.ret (.ref (st.heap.push o).objs.size))) { st with heap := (st.heap.push o).push { cls := .type "enumerate", data := .fields #[.none, .bool false, .ref st.heap.objs.size, rawInt 0, .none, .none] } }) :=
  .of_wp fun prog w A R st h => by
    obtain ⟨hp, g, d, tk, os⟩ := st; obtain ⟨h1, h⟩ := h
    have hsub := sub_enumerate
    have it1 : ∀ {A' : Around} {E : Value → Shared → Prop} {Q : Value → Shared → Prop}, Q (.ref hp.objs.size) ⟨hp.push o, g, d, tk, os⟩ → wpAny (model prog w) A' (pyIter v) Q E ⟨hp, g, d, tk, os⟩ :=
      fun z => B.iter prog w _ _ ⟨hp, g, d, tk, os⟩ _ h1 z
    wp_walk using it1
    refine wpAny_stack_any fun fs => wpAny_pure ?_
    split
    · rename_i c _ _ _ _ _
      cases (c == Value.type "enumerate")
      · wp_walk using it1
        exact ⟨_, rfl, h⟩
      · wp_walk using it1
        exact ⟨_, rfl, h⟩
    · wp_walk using it1
      exact ⟨_, rfl, h⟩
section
variable {prog : Program} {w : World} {A : Around} {E : Value → Shared → Prop} {st : Shared}
theorem call_enum {v : Value} {o : Obj} {G : Heap → Prop} {Q : Value → Shared → Prop} (B : Begins v o G) (h1 : G st.heap)
    (h : ∀ h', IsEnum h' (st.heap.objs.size + 1) st.heap.objs.size 0 .none → h'.get? st.heap.objs.size = some o → h'.objs.size = st.heap.objs.size + 2 →
      (∀ b u, st.heap.get? b = some u → h'.get? b = some u) → Q (.ref (st.heap.objs.size + 1)) { st with heap := h' }) :
    wpAny (model prog w) A (call (.type "enumerate") [v]) Q E st := by
  refine callType_new F.called_enumerate (by decide) (F.typeCall_enumerate_1 _) (F.newCall_enumerate_1 _) (fun obj => F.args_object_init_2 obj _) F.entry_enumerate_new (new_enum B) ⟨h1, ?_⟩
  have sz : (st.heap.push o).objs.size = st.heap.objs.size + 1 := Heap.size_push ..
  show _ ∧ _
  rw [sz]
  have en : IsEnum ((st.heap.push o).push { cls := .type "enumerate", data := .fields #[.none, .bool false, .ref st.heap.objs.size, rawInt 0, .none, .none] }) (st.heap.objs.size + 1) st.heap.objs.size 0 .none := by
    have z := Heap.get?_push_size (st.heap.push o) (o := { cls := .type "enumerate", data := .fields #[.none, .bool false, .ref st.heap.objs.size, rawInt 0, .none, .none] }) rfl
    rw [sz] at z
    exact z
  exact ⟨⟨_, en, rfl⟩, h _ en (Heap.get?_push_of_some _ (Heap.get?_push_size _ B.free)) (by rw [Heap.size_push, sz]) fun b u z => Heap.get?_push_of_some _ (Heap.get?_push_of_some _ z)⟩
end
def iEnumT (K : PySem.W.Frag) (ta : TA) : TI := fun sl H R => ta sl H fun vs H1 => ∃ a xs, vs = [.ref a] ∧ SqT K H1 a xs ∧ R (Item K a) H1
theorem pi_enumT {X : Cx} {e : Expr} {ta : TA} {p pos tpos : Pos} {elts : List Expr} {kk : Nat} (hg : Gl X "enumerate") (hm : X.mg "enumerate" = none) (ha : PA X [e] ta) (hs : starEach [e] X.env = [(false, eval e X.env)] := by rfl) :
    PI X (.Tuple elts kk tpos) (.Call (.Name "enumerate" p) [e] [] pos) (iEnumT X.K ta) := by
  refine ⟨fun pins st sl H R inv h => Call_ (ld_blt inv hg hm boot_enumerate (PyProof.Rows.callWith_type1 (thn (ha.run pos pins st sl H _ inv h) fun us s1 z => ?_) hs rfl))⟩
  obtain ⟨vs, H1, inv1, r1, a, xs, ex, hq, q⟩ := z
  subst ex
  obtain ⟨u, rfl, ru⟩ := r1.one
  obtain rfl : u = Value.ref a := ru
  obtain ⟨its, rv, hp, _⟩ := inv1.tuple hq
  have lt3 : a < s1.heap.objs.size := by obtain ⟨_, z, _⟩ := hp; exact Heap.lt_size z
  refine call_enum (begins_tuple a its.toArray) hp fun h' en hit hsz hk => wpAny_pyIter_enum en ?_
  have inv2 : Inv X pins sl H1 { s1 with heap := h' } := inv1.kept (t' := s1.toks) hk
  refine ⟨s1.heap.objs.size + 1, [s1.heap.objs.size + 1, s1.heap.objs.size], _, _, H1, rfl, inv2, turn_item a (s1.heap.objs.size + 1) s1.heap.objs.size (Nat.ne_of_lt lt3), ⟨⟨.none, en⟩, ⟨_, hit, rfl, rfl⟩, Nat.succ_ne_self _, Nat.ne_of_gt (Nat.lt_succ_of_lt lt3)⟩, fun b hb => ?_, q⟩
  have low : s1.heap.objs.size ≤ b := by
    rcases two_cases hb with rfl | rfl
    · exact Nat.le_add_right _ _
    · exact Nat.le_refl _
  exact inv1.fpOk low (inv1.hok.fresh low)
end

/-! ### list(range(a, b, -1)) -/
section
def dnV (a b : Int) : List V := (List.range (a - b).toNat).map fun i => V.int (a - (i : Nat))
theorem dnV_length (a b : Int) : (dnV a b).length = (a - b).toNat := by unfold dnV; simp
def tDown (ta : TA) : TE := fun sl H Q => ta sl H fun vs H1 => ∃ i j : Int, vs = [.int i, .int j, .int (-1)] ∧ -1000000 ≤ i ∧ i ≤ 1000000 ∧ -1000000 ≤ j ∧ j ≤ 1000000 ∧ ∀ q, H1 q = none → Q (.ref q) (upd H1 q (.lst (dnV i j)))
theorem pe_listDown {X : Cx} {a b c : Expr} {ta : TA} {p pos rp rpos : Pos} (hc : X.calm = true) (hg : Gl X "list") (hm : X.mg "list" = none) (hg2 : Gl X "range") (hm2 : X.mg "range" = none) (ha : PA X [a, b, c] ta)
    (hs : starEach [a, b, c] X.env = (false, eval a X.env) :: starEach [b, c] X.env := by rfl) (hpl : (backTo rpos (starEach [b, c] X.env)).any (·.1) = false := by rfl)
    (na : starEach [.Call (.Name "range" rp) [a, b, c] [] rpos] X.env = (false, eval (.Call (.Name "range" rp) [a, b, c] [] rpos) X.env) :: starEach [] X.env := by rfl) :
    PE X (.Call (.Name "list" p) [.Call (.Name "range" rp) [a, b, c] [] rpos] [] pos) (tDown ta) := by
  refine ⟨fun pins st sl H Q inv h => ?_⟩
  refine Call_ (ld_blt inv hg hm boot_list (PyProof.Rows.callWith_type1 (args_cons ?_ na) na))
  refine Call_ (ld_blt inv hg2 hm2 boot_range (PyProof.Rows.callWith_type1 (thn (ha.run rpos pins st sl H _ inv h) fun us s1 z => ?_) hs hpl))
  obtain ⟨vs, H1, inv1, r1, i, j, e, b1, b2, b3, b4, q⟩ := z
  subst e
  cases r1 with
  | cons r rr =>
    cases rr with
    | cons r' rr =>
      cases rr with
      | cons r'' rr =>
        cases rr
        obtain ⟨t, rfl⟩ := r
        obtain ⟨t', rfl⟩ := r'
        obtain ⟨t'', rfl⟩ := r''
        obtain ⟨c0, c1, c2, c3⟩ := RgC.neg (i := i) (j := j) (by omega) (by omega) (by omega) (by omega)
        refine call_range_3 c0 (args_nil ?_) (.inl (PyProof.noPylong_small c1))
        have inv2 : Inv X pins sl H1 { s1 with heap := s1.heap.push { cls := .type "range", data := .fields #[.int i t, .int j t', .int (-1) t''] } } := inv1.kept (t' := s1.toks) fun b o e => Heap.get?_push_of_some _ e
        refine call_list_range (n := (i - j).toNat) (inv2.ok.hd hc) (IsRange.new ..) c2 c3 (by omega) fun h' tk acc c' hk e' hi => ?_
        refine ⟨.ref _, upd H1 _ (.lst (dnV i j)), inv2.laid hk (Nat.le_refl _) (show ObjOk X.prog X.w _ _ _ (.lst (dnV i j)) from ⟨?_, acc.toList, c', ?_, ?_⟩), rfl, q _ (inv2.hok.fresh (Nat.le_refl _))⟩
        · rw [dnV_length, sizeLine_eq]; omega
        · have e : acc.toList.length = (i - j).toNat := by rw [Array.length_toList]; exact hi.1
          unfold dnV
          rw [← e]
          refine vals_of_get acc.toList _ fun k u hk => ?_
          obtain ⟨t, rfl⟩ := hi.2 k u (by rw [← hk, Array.getElem?_toList])
          exact ⟨t, by congr 1; omega⟩
        · rw [Array.toArray_toList]; exact e'
end
end Own

namespace RD
open PySem PySem.Spec PyProof.Rows L2
def top (i : Nat) : Stmt := PySem.Challenge.pw_rowdominoes_k07_fewest_pushes.main.body.getD i (.Pass ⟨0, 0, 0, 0⟩)
abbrev s_InvalidRow_init : Stmt := inClass (top 3) 0
abbrev s_is_number : Stmt := top 9
abbrev s_check_number : Stmt := top 10
abbrev s_check_stone : Stmt := top 11
abbrev s_check_side : Stmt := top 12
abbrev s_stones_beside : Stmt := top 16
abbrev s_felled_by : Stmt := top 17
abbrev s_is_stone : Stmt := top 18
abbrev s_Row_init : Stmt := inClass (top 19) 1
abbrev s_Row_stones : Stmt := inClass (top 19) 3
abbrev s_Row_places : Stmt := inClass (top 19) 4
abbrev s_Row_len : Stmt := inClass (top 19) 5
abbrev s_Row_getitem : Stmt := inClass (top 19) 6
abbrev s_Row_iter : Stmt := inClass (top 19) 7
abbrev s_Row_contains : Stmt := inClass (top 19) 8
abbrev s_Row_add : Stmt := inClass (top 19) 9
abbrev s_Row_rshift : Stmt := inClass (top 19) 10
abbrev s_Row_invert : Stmt := inClass (top 19) 11
abbrev s_Row_eq : Stmt := inClass (top 19) 12
abbrev s_Row_call : Stmt := inClass (top 19) 13
abbrev s_fewest_pushes : Stmt := top 21
abbrev s_fewest_up_to : Stmt := top 22
abbrev s_law_taken : Stmt := top 24
abbrev s_law_stones : Stmt := top 25
abbrev s_law_row : Stmt := top 26
abbrev s_law_fallen : Stmt := top 27
abbrev s_law_least : Stmt := top 28
abbrev s_law : Stmt := top 29
abbrev n_is_number : List Str := ["value", "least", "greatest"]
theorem sc_is_number : FnScope ["value", "least", "greatest"] ["value", "least", "greatest"] (defScope s_is_number) := ⟨rfl, rfl, rfl, by decide +kernel, rfl, by decide +kernel, by decide +kernel⟩
abbrev n_check_number : List Str := ["value", "least", "greatest"]
theorem sc_check_number : FnScope ["value", "least", "greatest"] ["value", "least", "greatest"] (defScope s_check_number) := ⟨rfl, rfl, rfl, by decide +kernel, rfl, by decide +kernel, by decide +kernel⟩
abbrev n_check_stone : List Str := ["stone", "count"]
theorem sc_check_stone : FnScope ["stone", "count"] ["stone", "count"] (defScope s_check_stone) := ⟨rfl, rfl, rfl, by decide +kernel, rfl, by decide +kernel, by decide +kernel⟩
abbrev n_check_side : List Str := ["side"]
theorem sc_check_side : FnScope ["side"] ["side"] (defScope s_check_side) := ⟨rfl, rfl, rfl, by decide +kernel, rfl, by decide +kernel, by decide +kernel⟩
abbrev n_stones_beside : List Str := ["stone", "side", "count"]
theorem sc_stones_beside : FnScope ["stone", "side", "count"] ["stone", "side", "count"] (defScope s_stones_beside) := ⟨rfl, rfl, rfl, by decide +kernel, rfl, by decide +kernel, by decide +kernel⟩
abbrev n_felled_by : List Str := ["stones", "standing", "stone", "side", "start", "reach", "felled", "other", "place", "height", "distance"]
theorem sc_felled_by : FnScope ["stones", "standing", "stone", "side", "start", "reach", "felled", "other", "place", "height", "distance"] ["stones", "standing", "stone", "side"] (defScope s_felled_by) := ⟨rfl, rfl, rfl, by decide +kernel, rfl, by decide +kernel, by decide +kernel⟩
abbrev n_is_stone : List Str := ["stone", "least_place", "place", "height"]
theorem sc_is_stone : FnScope ["stone", "least_place", "place", "height"] ["stone", "least_place"] (defScope s_is_stone) := ⟨rfl, rfl, rfl, by decide +kernel, rfl, by decide +kernel, by decide +kernel⟩
abbrev n_Row_init : List Str := ["self", "stones", "least_place", "index", "stone"]
theorem sc_Row_init : FnScope ["self", "stones", "least_place", "index", "stone"] ["self", "stones"] (defScope s_Row_init) := ⟨rfl, rfl, rfl, by decide +kernel, rfl, by decide +kernel, by decide +kernel⟩
abbrev n_Row_stones : List Str := ["self"]
theorem sc_Row_stones : FnScope ["self"] ["self"] (defScope s_Row_stones) := ⟨rfl, rfl, rfl, by decide +kernel, rfl, by decide +kernel, by decide +kernel⟩
abbrev n_Row_places : List Str := ["self", "place", "_"]
theorem sc_Row_places : FnScope ["self", "place", "_"] ["self"] (defScope s_Row_places) := ⟨rfl, rfl, rfl, by decide +kernel, rfl, by decide +kernel, by decide +kernel⟩
abbrev n_Row_len : List Str := ["self"]
theorem sc_Row_len : FnScope ["self"] ["self"] (defScope s_Row_len) := ⟨rfl, rfl, rfl, by decide +kernel, rfl, by decide +kernel, by decide +kernel⟩
abbrev n_Row_getitem : List Str := ["self", "stone"]
theorem sc_Row_getitem : FnScope ["self", "stone"] ["self", "stone"] (defScope s_Row_getitem) := ⟨rfl, rfl, rfl, by decide +kernel, rfl, by decide +kernel, by decide +kernel⟩
abbrev n_Row_iter : List Str := ["self"]
theorem sc_Row_iter : FnScope ["self"] ["self"] (defScope s_Row_iter) := ⟨rfl, rfl, rfl, by decide +kernel, rfl, by decide +kernel, by decide +kernel⟩
abbrev n_Row_contains : List Str := ["self", "place"]
theorem sc_Row_contains : FnScope ["self", "place"] ["self", "place"] (defScope s_Row_contains) := ⟨rfl, rfl, rfl, by decide +kernel, rfl, by decide +kernel, by decide +kernel⟩
abbrev n_Row_add : List Str := ["self", "other", "stones"]
theorem sc_Row_add : FnScope ["self", "other", "stones"] ["self", "other"] (defScope s_Row_add) := ⟨rfl, rfl, rfl, by decide +kernel, rfl, by decide +kernel, by decide +kernel⟩
abbrev n_Row_rshift : List Str := ["self", "distance", "stones", "place", "height"]
theorem sc_Row_rshift : FnScope ["self", "distance", "stones", "place", "height"] ["self", "distance"] (defScope s_Row_rshift) := ⟨rfl, rfl, rfl, by decide +kernel, rfl, by decide +kernel, by decide +kernel⟩
abbrev n_Row_invert : List Str := ["self", "places", "stones", "place", "height"]
theorem sc_Row_invert : FnScope ["self", "places", "stones", "place", "height"] ["self"] (defScope s_Row_invert) := ⟨rfl, rfl, rfl, by decide +kernel, rfl, by decide +kernel, by decide +kernel⟩
abbrev n_Row_eq : List Str := ["self", "other"]
theorem sc_Row_eq : FnScope ["self", "other"] ["self", "other"] (defScope s_Row_eq) := ⟨rfl, rfl, rfl, by decide +kernel, rfl, by decide +kernel, by decide +kernel⟩
abbrev n_Row_call : List Str := ["self", "stone", "side", "standing", "felled"]
theorem sc_Row_call : FnScope ["self", "stone", "side", "standing", "felled"] ["self", "stone", "side"] (defScope s_Row_call) := ⟨rfl, rfl, rfl, by decide +kernel, rfl, by decide +kernel, by decide +kernel⟩
abbrev n_fewest_pushes : List Str := ["row", "pushes_for", "last"]
theorem sc_fewest_pushes : FnScope ["row", "pushes_for", "last"] ["row"] (defScope s_fewest_pushes) := ⟨rfl, rfl, rfl, by decide +kernel, rfl, by decide +kernel, by decide +kernel⟩
abbrev n_fewest_up_to : List Str := ["row", "last", "pushes_for", "first", "_", "best", "stone", "pushes"]
theorem sc_fewest_up_to : FnScope ["row", "last", "pushes_for", "first", "_", "best", "stone", "pushes"] ["row", "last", "pushes_for"] (defScope s_fewest_up_to) := ⟨rfl, rfl, rfl, by decide +kernel, rfl, by decide +kernel, by decide +kernel⟩
abbrev n_law_taken : List Str := ["_law_row_here", "_law_many", "_law_found", "_law_cell"]
theorem sc_law_taken : FnScope ["_law_row_here", "_law_many", "_law_found", "_law_cell"] ["_law_row_here", "_law_many"] (defScope s_law_taken) := ⟨rfl, rfl, rfl, by decide +kernel, rfl, by decide +kernel, by decide +kernel⟩
abbrev n_law_stones : List Str := ["_law_row_here", "_law_most", "_law_found", "_law_place", "_law_k"]
theorem sc_law_stones : FnScope ["_law_row_here", "_law_most", "_law_found", "_law_place", "_law_k"] ["_law_row_here", "_law_most"] (defScope s_law_stones) := ⟨rfl, rfl, rfl, by decide +kernel, rfl, by decide +kernel, by decide +kernel⟩
abbrev n_law_row : List Str := ["_law_stones_here", "_law_row_here", "_law_stone"]
theorem sc_law_row : FnScope ["_law_stones_here", "_law_row_here", "_law_stone"] ["_law_stones_here"] (defScope s_law_row) := ⟨rfl, rfl, rfl, by decide +kernel, rfl, by decide +kernel, by decide +kernel⟩
abbrev n_law_fallen : List Str := ["_law_stones_here", "_law_standing", "_law_stone", "_law_side", "_law_found", "_law_level", "_law_tick", "_law_following", "_law_one", "_law_place", "_law_height", "_law_other", "_law_far"]
theorem sc_law_fallen : FnScope ["_law_stones_here", "_law_standing", "_law_stone", "_law_side", "_law_found", "_law_level", "_law_tick", "_law_following", "_law_one", "_law_place", "_law_height", "_law_other", "_law_far"] ["_law_stones_here", "_law_standing", "_law_stone", "_law_side"] (defScope s_law_fallen) := ⟨rfl, rfl, rfl, by decide +kernel, rfl, by decide +kernel, by decide +kernel⟩
abbrev n_law_least : List Str := ["_law_stones_here", "_law_level", "_law_known", "_law_count", "_law_following", "_law_standing", "_law_stone", "_law_side", "_law_fallen_here", "_law_k"]
theorem sc_law_least : FnScope ["_law_stones_here", "_law_level", "_law_known", "_law_count", "_law_following", "_law_standing", "_law_stone", "_law_side", "_law_fallen_here", "_law_k"] ["_law_stones_here"] (defScope s_law_least) := ⟨rfl, rfl, rfl, by decide +kernel, rfl, by decide +kernel, by decide +kernel⟩
abbrev n_law : List Str := ["_law_script", "_law_row_here", "_law_turn", "_law_stones_here", "_law_pushes", "_law_standing", "_law_stone", "_law_side", "_law_fallen_here", "_law_k"]
theorem sc_law : FnScope ["_law_script", "_law_row_here", "_law_turn", "_law_stones_here", "_law_pushes", "_law_standing", "_law_stone", "_law_side", "_law_fallen_here", "_law_k"] ["_law_script"] (defScope s_law) := ⟨rfl, rfl, rfl, by decide +kernel, rfl, by decide +kernel, by decide +kernel⟩
/-! ### the built-in names that the program leaves as they are -/
structure Blt (mg : Str → Option Value) : Prop where
  isinstance : mg "isinstance" = none
  int : mg "int" = none
  bool : mg "bool" = none
  len : mg "len" = none
  tuple : mg "tuple" = none
  list : mg "list" = none
  range : mg "range" = none
  enumerate : mg "enumerate" = none
  abs : mg "abs" = none
  max : mg "max" = none
  min : mg "min" = none
  sorted : mg "sorted" = none
/-! ### numbers and checks -/
/-- values whose kind is known -/
def Known (K : PySem.W.Frag) (H : Hp) : V → Prop
  | .int _ => True
  | .bl _ => True
  | .non => True
  | .str _ => True
  | .ref a => TyX K H (.ref a) (.type "tuple") ∨ TyX K H (.ref a) (.type "list")
  | _ => False
def numB : V → Int → Int → Bool
  | .int i, lo, hi => decide (lo ≤ i) && decide (i ≤ hi)
  | _, _, _ => false
def spNum (K : PySem.W.Frag) : Sp := fun vs H Q _ => ∃ v lo hi, vs = [v, .int lo, .int hi] ∧ Known K H v ∧ Q (.bl (numB v lo hi)) H
theorem known_ty {K : PySem.W.Frag} {H : Hp} {v : V} (h : Known K H v) : ∃ (t : String) (b c : Bool), TyX K H v (.type t) ∧ PySem.W.kitOne K (.type t) (.type "int") = some b ∧ PySem.W.kitOne K (.type t) (.type "bool") = some c ∧
    ((b = true ∧ c = false ∧ ∃ i, v = .int i) ∨ ((b = false ∨ c = true) ∧ ∀ i, v ≠ .int i)) := by
  cases v with
  | int i => exact ⟨"int", true, false, .base (.int i), kit_ty (by decide +kernel), kit_ty (by decide +kernel), .inl ⟨rfl, rfl, i, rfl⟩⟩
  | bl i => exact ⟨"bool", true, true, .base (.bl i), kit_ty (by decide +kernel), kit_ty (by decide +kernel), .inr ⟨.inr rfl, fun i z => nomatch z⟩⟩
  | non => exact ⟨"NoneType", false, false, .base .non, kit_ty (by decide +kernel), kit_ty (by decide +kernel), .inr ⟨.inl rfl, fun i z => nomatch z⟩⟩
  | str i => exact ⟨"str", false, false, .base (.str i), kit_ty (by decide +kernel), kit_ty (by decide +kernel), .inr ⟨.inl rfl, fun i z => nomatch z⟩⟩
  | ref a =>
    rcases h with h | h
    · exact ⟨"tuple", false, false, h, kit_ty (by decide +kernel), kit_ty (by decide +kernel), .inr ⟨.inl rfl, fun i z => nomatch z⟩⟩
    · exact ⟨"list", false, false, h, kit_ty (by decide +kernel), kit_ty (by decide +kernel), .inr ⟨.inl rfl, fun i z => nomatch z⟩⟩
  | byt _ => exact h.elim
  | flt _ => exact h.elim
  | ty _ => exact h.elim
theorem numB_no {v : V} {lo hi : Int} (h : ∀ i, v ≠ .int i) : numB v lo hi = false := by
  cases v with
  | int i => exact absurd rfl (h i)
  | _ => rfl
section
variable {P : Program} {w : World} {K : PySem.W.Frag} {mg : Str → Option Value} {base : Heap}
theorem ok_num {f : Addr} {fd : FuncData} (F : Fun K "is_number" "is_number" s_is_number f fd) (B : Blt mg) : FnOk P w K mg base CX0 1 f fd ["value", "least", "greatest"] (spNum K) := by
  refine F.ok sc_is_number (fun vs H Q E h => ?_) (fun cdv A outer s H vs Q E hr h => ?_)
  · obtain ⟨v, lo, hi, rfl, _⟩ := h
    rfl
  · obtain ⟨v, lo, hi, rfl, kn, h⟩ := h
    refine ⟨_, pss_one (ps_ret (pe_and (pe_callB call_isi (by rfl) B.isinstance boot_isinstance (pa_cons (pv 0) (pa_cons (pe_bltn (v := .ty "int") (by rfl) B.int boot_int rfl) pa_nil)))
      (pe_and (pe_not (pe_callB call_isi (by rfl) B.isinstance boot_isinstance (pa_cons (pv 0) (pa_cons (pe_bltn (v := .ty "bool") (by rfl) B.bool boot_bool rfl) pa_nil))))
      (pe_one (pe_chain op_le op_le (pv 1) (pv 0) (pv 2)))))), ?_⟩
    obtain ⟨t, b, c, ty, k1, k2, alt⟩ := known_ty kn
    refine ⟨_, rfl, _, _, _, _, b, rfl, .ty "int", ty, k1, b, rfl, ?_⟩
    rcases alt with ⟨rfl, rfl, i, rfl⟩ | ⟨alt, no⟩
    · refine iteT ⟨_, rfl, _, _, _, _, false, rfl, .ty "bool", ty, k2, false, rfl, true, rfl, ?_⟩
      refine iteT ⟨_, rfl, _, rfl, lo, i, rfl, rfl, _, rfl, ?_⟩
      refine ite2 (fun q => ?_) (fun q => ?_)
      · refine ⟨_, rfl, i, hi, rfl, rfl, ?_⟩
        have e : numB (.int i) lo hi = decide (i ≤ hi) := by
          show (decide (lo ≤ i) && decide (i ≤ hi)) = _
          rw [q, Bool.true_and]
        rw [e] at h
        exact h
      · have e : numB (.int i) lo hi = false := by
          show (decide (lo ≤ i) && decide (i ≤ hi)) = _
          rw [Bool.eq_false_iff.mpr q, Bool.false_and]
        rw [e] at h
        exact h
    · rw [numB_no no] at h
      cases b with
      | false => exact iteF h
      | true =>
        rcases alt with z | rfl
        · cases z
        · refine iteT ⟨_, rfl, _, _, _, _, true, rfl, .ty "bool", ty, k2, true, rfl, false, rfl, ?_⟩
          exact iteF h
end
/-! ### defs as they stand, and how they are called -/
structure DefAt (K : PySem.W.Frag) (mg : Str → Option Value) (x : Str) (st : Stmt) (ps : List Str) (f : Addr) (fd : FuncData) : Prop where
  fn : Fun K x x st f fd
  m : mg x = some (.ref f)
  b : Binds K fd ps []
structure At (P : Program) (w : World) (K : PySem.W.Frag) (mg : Str → Option Value) (base : Heap) (CX : CXT) (k : Nat) (x : Str) (ps : List Str) (sp : Sp) (f : Addr) (fd : FuncData) : Prop where
  ok : FnOk P w K mg base CX k f fd ps sp
  m : mg x = some (.ref f)
  kp : PySem.W.keepIn K (.ref f) = true
  b : Binds K fd ps []
theorem DefAt.at {P : Program} {w : World} {K : PySem.W.Frag} {mg : Str → Option Value} {base : Heap} {CX : CXT} {k : Nat} {x : Str} {st : Stmt} {ps : List Str} {sp : Sp} {f : Addr} {fd : FuncData} (D : DefAt K mg x st ps f fd)
    (ok : FnOk P w K mg base CX k f fd ps sp) : At P w K mg base CX k x ps sp f fd := ⟨ok, D.m, D.fn.kp, D.b⟩
section
variable {X : Cx} {k : Nat} {x : Str} {ps : List Str} {sp : Sp} {f : Addr} {fd : FuncData} {p pos : Pos} {e : Expr} {es : List Expr} {t : TA}
theorem pe_at (G : At X.prog X.w X.K X.mg X.base CX0 k x ps sp f fd) (hr : Room k X.A) (ha : PA X (e :: es) t) (hg : Gl X x := by rfl) (hdb : (x == ("__debug__" : Str)) = false := by decide)
    (he : starEach (e :: es) X.env = (false, eval e X.env) :: starEach es X.env := by rfl) (hpl : (backTo pos (starEach es X.env)).any (·.1) = false := by rfl) :
    PE X (.Call (.Name x p) (e :: es) [] pos) (tCall sp [] E0 t) := pe_call G.ok hr hg G.m G.kp G.b .nil pass0 ha hdb he hpl
end
/-! ### heaps that only grow -/
theorem sqT_same {K : PySem.W.Frag} {H H' : Hp} {a : Addr} {xs : List V} (h : SqT K H a xs) (e : Same H H') : SqT K H' a xs := SqT.ext h e
theorem same_new {H : Hp} {p : Addr} {o : HO} (h : H p = none) : Same H (upd H p o) := fun b u e => by rw [upd_ne (ne_of_none e h)]; exact e
/-- all but what stands at l is as it was -/
def But (l : Addr) (H H' : Hp) : Prop := ∀ b o, b ≠ l → H b = some o → H' b = some o
theorem Same.but {H H' : Hp} (e : Same H H') (l : Addr) : But l H H' := fun b o _ h => e b o h
theorem But.trans {l : Addr} {H H1 H2 : Hp} (a : But l H H1) (b : But l H1 H2) : But l H H2 := fun c o n h => b c o n (a c o n h)
theorem but_upd {H : Hp} {l : Addr} {o : HO} : But l H (upd H l o) := fun b u n e => by rw [upd_ne n]; exact e
theorem But.new {H H1 : Hp} {l p : Addr} {o : HO} (a : But l H H1) (h : H1 p = none) : But l H (upd H1 p o) := a.trans (Same.but (same_new h) l)
/-- laid ahead of which the heap was as H -/
theorem But.same {H H1 : Hp} {l : Addr} (a : But l H H1) (h : H l = none) : Same H H1 := fun b o e => a b o (ne_of_none e h) e

/-! ### stones: pairs of a place and a height -/
def StonesAt (K : PySem.W.Frag) (H : Hp) (vs : List V) (xs : List (Int × Int)) : Prop :=
  vs.length = xs.length ∧ ∀ (k : Nat) (x : Int × Int), xs[k]? = some x → ∃ a : Addr, vs[k]? = some (V.ref a) ∧ SqT K H a [.int x.1, .int x.2]
theorem StonesAt.same {K : PySem.W.Frag} {H H' : Hp} {vs : List V} {xs : List (Int × Int)} (h : StonesAt K H vs xs) (e : Same H H') : StonesAt K H' vs xs :=
  ⟨h.1, fun k x q => let ⟨a, q1, q2⟩ := h.2 k x q; ⟨a, q1, sqT_same q2 e⟩⟩
theorem StonesAt.nil {K : PySem.W.Frag} {H : Hp} : StonesAt K H [] [] := ⟨rfl, fun k x q => by simp at q⟩
theorem StonesAt.append {K : PySem.W.Frag} {H : Hp} {vs us : List V} {xs ys : List (Int × Int)} (h : StonesAt K H vs xs) (g : StonesAt K H us ys) : StonesAt K H (vs ++ us) (xs ++ ys) := by
  refine ⟨by rw [List.length_append, List.length_append, h.1, g.1], fun k x q => ?_⟩
  by_cases hk : k < xs.length
  · rw [List.getElem?_append_left hk] at q
    rw [List.getElem?_append_left (by rw [h.1]; exact hk)]
    exact h.2 k x q
  · rw [List.getElem?_append_right (by omega)] at q
    rw [List.getElem?_append_right (by rw [h.1]; omega), h.1]
    exact g.2 _ x q
theorem StonesAt.one {K : PySem.W.Frag} {H : Hp} {a : Addr} {x : Int × Int} (h : SqT K H a [.int x.1, .int x.2]) : StonesAt K H [.ref a] [x] := by
  refine ⟨rfl, fun k y q => ?_⟩
  cases k with
  | zero => simp at q; subst q; exact ⟨a, rfl, h⟩
  | succ k => simp at q
/-! ### sides -/
def sideS : Bool → Str
  | true => "right"
  | false => "left"
/-- the numbers beside a stone, the nearest one first -/
def beside (r : Bool) (i n : Nat) : List Nat := if r then (List.range (n - (i + 1))).map (fun k => i + 1 + k) else (List.range i).map (fun k => i - 1 - k)
def ivs (ns : List Nat) : List V := ns.map fun (k : Nat) => V.int (k : Int)
def spBeside : Sp := fun vs H Q _ => ∃ (i n : Nat) (r : Bool), vs = [.int i, .str (sideS r), .int n] ∧ i < n ∧ n ≤ 100 ∧ ∀ q, H q = none → Q (.ref q) (upd H q (.lst (ivs (beside r i n))))
def spCheckStone : Sp := fun vs H Q _ => ∃ (i n : Nat), vs = [.int i, .int n] ∧ i < n ∧ Q .non H
def spCheckSide : Sp := fun vs H Q _ => ∃ r : Bool, vs = [.str (sideS r)] ∧ Q .non H
section
variable {P : Program} {w : World} {K : PySem.W.Frag} {mg : Str → Option Value} {base : Heap}
theorem ok_checkStone {f g : Addr} {fd gd : FuncData} (F : Fun K "check_stone" "check_stone" s_check_stone f fd) (N : At P w K mg base CX0 1 "is_number" ["value", "least", "greatest"] (spNum K) g gd) :
    FnOk P w K mg base CX0 2 f fd ["stone", "count"] spCheckStone := by
  refine F.ok sc_check_stone (fun vs H Q E h => ?_) (fun cdv A outer s H vs Q E hr h => ?_)
  · obtain ⟨i, n, rfl, _⟩ := h
    rfl
  · obtain ⟨i, n, rfl, hi, h⟩ := h
    refine ⟨_, pss_one (ps_if (pt_not (pt_val (pe_at N hr (pa_cons (pv 0) (pa_cons (pe_int) (pa_cons (pe_op op_sub (pv 1) (pe_int)) pa_nil)))))) (pss_one ps_never) pss_nil), ?_⟩
    refine ⟨_, rfl, _, rfl, _, _, rfl, rfl, _, _, _, rfl, True.intro, _, rfl, ?_⟩
    have e : numB (.int (i : Int)) 0 ((n : Int) - 1) = true := by
      show (decide (0 ≤ (i : Int)) && decide ((i : Int) ≤ (n : Int) - 1)) = true
      simp; omega
    rw [e]
    exact iteF h
theorem sides_in {r : Bool} {ys : List V} (h : ys = [V.str "left", V.str "right"]) : inV (.str (sideS r)) ys = true := by
  subst h
  cases r <;> decide +kernel
theorem ok_checkSide {f S : Addr} {fd : FuncData} (F : Fun K "check_side" "check_side" s_check_side f fd) (mS : mg "SIDES" = some (.ref S)) (hS : ∀ H, SqT K H S [.str "left", .str "right"]) : FnOk P w K mg base CX0 1 f fd ["side"] spCheckSide := by
  refine F.ok sc_check_side (fun vs H Q E h => ?_) (fun cdv A outer s H vs Q E hr h => ?_)
  · obtain ⟨r, rfl, _⟩ := h
    rfl
  · obtain ⟨r, rfl, h⟩ := h
    refine ⟨_, pss_one (ps_if (pt_cmpR (op_notIn_seq) (pv 0) (pe_glob (v := .ref S) (by rfl) mS rfl) (by rfl)) (pss_one ps_never) pss_nil), ?_⟩
    refine ⟨_, rfl, S, _, rfl, .inr (hS H), rfl, rfl, _, rfl, ?_⟩
    rw [if_pos rfl, sides_in rfl]
    exact iteF h
theorem right_eq {r : Bool} : decide (V.str (sideS r) = V.str "right") = r := by cases r <;> decide +kernel
theorem beside_right {i n : Nat} (h : i < n) : Own.dnV 0 0 = [] ∧ rgV ((i : Int) + 1) (n : Int) = ivs (beside true i n) := by
  refine ⟨rfl, ?_⟩
  unfold rgV ivs beside
  rw [if_pos rfl, List.map_map]
  have e : ((n : Int) - ((i : Int) + 1)).toNat = n - (i + 1) := by omega
  rw [e]
  exact List.map_congr_left fun k _ => congrArg V.int (show (i : Int) + 1 + (k : Int) = ((i + 1 + k : Nat) : Int) by omega)
theorem beside_left {i n : Nat} : Own.dnV ((i : Int) - 1) (-1) = ivs (beside false i n) := by
  unfold Own.dnV ivs beside
  rw [if_neg (by decide), List.map_map]
  have e : ((i : Int) - 1 - (-1)).toNat = i := by omega
  rw [e]
  exact List.map_congr_left fun k hk => by have := List.mem_range.mp hk; exact congrArg V.int (show (i : Int) - 1 - (k : Int) = ((i - 1 - k : Nat) : Int) by omega)
theorem ok_beside {f : Addr} {fd : FuncData} (F : Fun K "stones_beside" "stones_beside" s_stones_beside f fd) (B : Blt mg) : FnOk P w K mg base CX0 1 f fd ["stone", "side", "count"] spBeside := by
  refine F.ok sc_stones_beside (fun vs H Q E h => ?_) (fun cdv A outer s H vs Q E hr h => ?_)
  · obtain ⟨i, n, r, rfl, _⟩ := h
    rfl
  · obtain ⟨i, n, r, rfl, hi, hn, h⟩ := h
    refine ⟨_, pss_cons (ps_if (pt_cmpR (op_eq) (pv 1) (pe_str) (nomark _)) (pss_one (ps_ret (pe_listRg rfl (by rfl) B.list (prg_2 (by rfl) B.range (pe_op op_add (pv 0) (pe_int)) (pv 2))))) pss_nil)
      (pss_one (ps_ret (Own.pe_listDown rfl (by rfl) B.list (by rfl) B.range (pa_cons (pe_op op_sub (pv 0) (pe_int)) (pa_cons (pe_un un_neg pe_int) (pa_cons (pe_un un_neg pe_int) pa_nil)))))), ?_⟩
    refine ⟨_, rfl, rfl, _, rfl, ?_⟩
    rw [right_eq]
    cases r with
    | true =>
      refine iteT ⟨_, rfl, _, _, rfl, rfl, _, rfl, _, _, rfl, rfl, ⟨by omega, by omega, by omega, by omega, by omega⟩, fun q hq => ?_⟩
      rw [(beside_right hi).2]
      exact h q hq
    | false =>
      refine iteF ⟨_, rfl, _, _, rfl, rfl, _, rfl, _, rfl, (i : Int) - 1, -1, rfl, by omega, by omega, by omega, by omega, fun q hq => ?_⟩
      rw [beside_left (n := n)]
      exact h q hq
end
/-! ### which stones a push fells -/
def ab (z : Int) : Int := if z < 0 then -z else z
def mx (i j : Int) : Int := if j > i then j else i
/-- one stone after another, as far as the reach goes -/
def scan (xs : List (Int × Int)) (sd : List Bool) (p0 : Int) : Int → List Nat → List Nat
  | _, [] => []
  | r, o :: os => match xs[o]? with
    | none => []
    | some x => if ab (x.1 - p0) > r then [] else if sd[o]? = some true then o :: scan xs sd p0 (mx r (ab (x.1 - p0) + x.2)) os else scan xs sd p0 r os
def felled (xs : List (Int × Int)) (sd : List Bool) (i : Nat) (r : Bool) : List Nat := match xs[i]? with
  | none => []
  | some x => i :: scan xs sd x.1 x.2 (beside r i xs.length)
theorem beside_lt {r : Bool} {i n : Nat} (hi : i < n) : ∀ k ∈ beside r i n, k < n := by
  intro k hk
  cases r with
  | true =>
    simp [beside] at hk
    obtain ⟨j, h1, h2⟩ := hk
    omega
  | false =>
    simp [beside] at hk
    obtain ⟨j, h1, h2⟩ := hk
    omega
theorem beside_len {r : Bool} {i n : Nat} (hi : i < n) : (beside r i n).length ≤ n := by
  cases r <;> simp [beside] <;> omega
theorem scan_len (xs : List (Int × Int)) (sd : List Bool) (p0 : Int) : ∀ (os : List Nat) (r : Int), (scan xs sd p0 r os).length ≤ os.length
  | [], r => by simp [scan]
  | o :: os, r => by
    unfold scan
    split
    · simp
    · rename_i x hx
      split
      · simp
      · split
        · have := scan_len xs sd p0 os (mx r (ab (x.1 - p0) + x.2)); simp; exact this
        · have := scan_len xs sd p0 os r; simp; omega
def spFelled (K : PySem.W.Frag) : Sp := fun vs H Q _ => ∃ (t b : Addr) (us : List V) (xs : List (Int × Int)) (sd : List Bool) (i : Nat) (r : Bool), vs = [.ref t, .ref b, .int i, .str (sideS r)] ∧ SqT K H t us ∧ StonesAt K H us xs ∧ SqL K H b (sd.map V.bl) ∧ sd.length = xs.length ∧ i < xs.length ∧ xs.length ≤ 40 ∧
  ∀ (ns : List Int) (p : Addr) (H' : Hp), ns.Perm ((felled xs sd i r).map fun (k : Nat) => (k : Int)) → ns.Pairwise (· ≤ ·) → Same H H' → H p = none → H' p = some (.lst (ns.map V.int)) → Q (.ref p) H'
theorem sqL_same {K : PySem.W.Frag} {H H' : Hp} {a : Addr} {xs : List V} (e : Same H H') (h : SqL K H a xs) : SqL K H' a xs := e.seq h
theorem ivs_get {ns : List Nat} {k : Nat} {v : V} (h : (ivs ns)[k]? = some v) : ∃ o, ns[k]? = some o ∧ v = V.int (o : Int) := by
  unfold ivs at h
  rw [List.getElem?_map] at h
  cases e : ns[k]? with
  | none => rw [e] at h; cases h
  | some o => rw [e] at h; exact ⟨o, rfl, (Option.some.inj h).symm⟩
theorem drop_get {α : Type} {l : List α} {k : Nat} {o : α} (h : l[k]? = some o) : l.drop k = o :: l.drop (k + 1) := by
  obtain ⟨h1, h2⟩ := List.getElem?_eq_some_iff.mp h
  rw [List.drop_eq_getElem_cons h1, h2]
section
variable {P : Program} {w : World} {K : PySem.W.Frag} {mg : Str → Option Value} {base : Heap}
theorem ok_felled {f g : Addr} {fd gd : FuncData} (F : Fun K "felled_by" "felled_by" s_felled_by f fd) (B : Blt mg) (N : At P w K mg base CX0 1 "stones_beside" ["stone", "side", "count"] spBeside g gd) :
    FnOk P w K mg base CX0 2 f fd ["stones", "standing", "stone", "side"] (spFelled K) := by
  refine F.ok sc_felled_by (fun vs H Q E h => ?_) (fun cdv A outer s H vs Q E hr h => ?_)
  · obtain ⟨t, b, us, xs, sd, i, r, rfl, _⟩ := h
    rfl
  · obtain ⟨t, b, us, xs, sd, i, r, rfl, hT, hS, hB, hl, hi, hn, k⟩ := h
    refine ⟨_, pss_cons (ps_asg (pe_ix ix_tup (pv 0) (pv 2) (fun _ _ => rfl)) (pg_tup rfl (pgs_cons (pg_name (i := 4) sc_felled_by.nd rfl (Or.inl rfl)) (pgs_cons (pg_name (i := 5) sc_felled_by.nd rfl (Or.inl rfl)) pgs_nil))))
      (pss_cons (ps_set (i := 6) sc_felled_by.nd rfl (Or.inl rfl) (pe_lst (pa_cons (pv 2) pa_nil)))
      (pss_cons (ps_for PassesOwn.never rfl (pi_list (pe_at N hr (pa_cons (pv 2) (pa_cons (pv 3) (pa_cons (pe_callB call_len_seq (by rfl) B.len PySem.boot_len (pa_cons (pv 0) pa_nil)) pa_nil))))) (pg_name (i := 7) sc_felled_by.nd rfl (Or.inl rfl))
        (pss_cons (ps_asg (pe_ix ix_tup (pv 0) (pv 7) (fun _ _ => rfl)) (pg_tup rfl (pgs_cons (pg_name (i := 8) sc_felled_by.nd rfl (Or.inl rfl)) (pgs_cons (pg_name (i := 9) sc_felled_by.nd rfl (Or.inl rfl)) pgs_nil))))
        (pss_cons (ps_set (i := 10) sc_felled_by.nd rfl (Or.inl rfl) (pe_callB (call_abs) (by rfl) B.abs boot_abs (pa_cons (pe_op op_sub (pv 8) (pv 4)) pa_nil)))
        (pss_cons (ps_if (pt_cmpR (op_gt) (pv 10) (pv 5) (nomark _)) (pss_one ps_break) pss_nil)
        (pss_one (ps_if (pt_val (pe_ix ix_list (pv 1) (pv 7) (fun _ _ => rfl))) (pss_cons (ps_expr (pe_bm PySem.F.plainAttrs_list PySem.F.slot_list_append PySem.F.type_list_append mt_append (pv 6) (pa_cons (pv 7) pa_nil))) (pss_one (ps_set (i := 5) sc_felled_by.nd rfl (Or.inl rfl) (pe_callB ((call_max2 rfl)) (by rfl) B.max boot_max (pa_cons (pv 5) (pa_cons (pe_op op_add (pv 10) (pv 9)) pa_nil)))))) pss_nil))))))
      (pss_one (ps_ret (pe_callB (cr_sortedI) (by rfl) B.sorted boot_sorted (pa_cons (pv 6) pa_nil)))))), ?_⟩
    obtain ⟨x, hx⟩ : ∃ x, xs[i]? = some x := ⟨xs[i], by simp [hi]⟩
    obtain ⟨a, ha, hsa⟩ := hS.2 i x hx
    -- start, reach = stones[stone]
    refine ⟨_, rfl, _, rfl, t, us, _, _, rfl, rfl, hT, atI_nat ha, a, _, rfl, hsa, rfl, _, _, rfl, _, _, rfl, rfl, ?_⟩
    -- felled = [stone]
    refine ⟨_, rfl, (by show 1 ≤ sizeLine; decide), fun pf nf => ?_⟩
    have s1 := same_new (o := .lst [V.int (i : Int)]) nf
    -- the stones beside
    refine ⟨_, rfl, _, rfl, _, rfl, t, us, rfl, .inr (sqT_same hT s1), ?_⟩
    refine ⟨i, xs.length, r, by rw [hS.1]; rfl, hi, by omega, fun q nq => ?_⟩
    have s2 := same_new (o := .lst (ivs (beside r i xs.length))) nq
    have hpq : pf ≠ q := ne_of_none upd_same nq
    have nf2 : H q = none := Same.free s1 nq
    have fin : ∀ (acc : List Nat) (H3 : Hp), felled xs sd i r = i :: acc → But pf H H3 → H3 pf = some (.lst (ivs (i :: acc))) → ∀ (s7 s8 s9 s10 : Option V) (rr : V),
        tRet (tCB (rSortedI K) (tCons (tVar 6) tNil)) { nx := fun _ H' => Q .non H', rt := Q } [some (.ref t), some (.ref b), some (.int i), some (.str (sideS r)), some (.int x.1), some rr, some (.ref pf), s7, s8, s9, s10] H3 := by
      intro acc H3 e1 e2 e3 s7 s8 s9 s10 rr
      refine ⟨_, rfl, pf, (i :: acc).map fun (k : Nat) => (k : Int), rfl, SqL.of (by rw [e3]; unfold ivs; rw [List.map_map]; rfl), fun ns' p pm rs np => ?_⟩
      have sm : Same H H3 := But.same e2 nf
      exact k ns' p _ (by rw [e1]; exact pm) rs (sm.trans (same_new np)) (Same.free sm np) upd_same
    refine ⟨q, rfl, ⟨_, SqL.of upd_same⟩, for_list (K := K) (a := q) (xs := ivs (beside r i xs.length)) (fun j σ H3 => ∃ (acc : List Nat) (rr : Int) (s7 s8 s9 s10 : Option V),
        σ = [some (.ref t), some (.ref b), some (.int i), some (.str (sideS r)), some (.int x.1), some (.int rr), some (.ref pf), s7, s8, s9, s10] ∧
        felled xs sd i r = i :: acc ++ scan xs sd x.1 rr ((beside r i xs.length).drop j) ∧ But pf H H3 ∧ H3 pf = some (.lst (ivs (i :: acc))) ∧ H3 q = some (.lst (ivs (beside r i xs.length))) ∧ acc.length ≤ j) ?_ ?_ ?_ ?_⟩
    · refine ⟨[], x.2, none, none, none, none, rfl, ?_, (Same.but s1 pf).trans (Same.but s2 pf), ?_, upd_same, Nat.le_refl _⟩
      · unfold felled
        rw [hx]
        rfl
      · rw [upd_ne hpq]
        exact upd_same
    · rintro j σ H3 _ ⟨_, _, _, _, _, _, _, _, _, _, e, _⟩
      exact SqL.of e
    · rintro j y σ H3 hy ⟨acc, rr, s7, s8, s9, s10, rfl, ef, bt, e1, e2, hacc⟩
      obtain ⟨o, ho, rfl⟩ := ivs_get hy
      have hj : j < (beside r i xs.length).length := (List.getElem?_eq_some_iff.mp ho).1
      have holt : o < xs.length := beside_lt hi o (List.mem_of_getElem? ho)
      obtain ⟨z, hz⟩ : ∃ z, xs[o]? = some z := ⟨xs[o], by simp [holt]⟩
      obtain ⟨c, hc, hsc⟩ := hS.2 o z hz
      have sm : Same H H3 := But.same bt nf
      -- place, height = stones[other]
      refine ⟨_, rfl, _, rfl, t, us, _, _, rfl, rfl, sqT_same hT sm, atI_nat hc, c, _, rfl, sqT_same hsc sm, rfl, _, _, rfl, _, _, rfl, rfl, ?_⟩
      -- distance = abs(place - start)
      refine ⟨_, rfl, _, rfl, _, _, rfl, rfl, _, rfl, ?_⟩
      -- if distance > reach: break
      refine ⟨_, rfl, _, rfl, _, _, rfl, rfl, _, rfl, ?_⟩
      rw [drop_get ho] at ef
      refine ite2 (fun hgt => ?_) (fun hgt => ?_)
      · have hgt' : ab (z.1 - x.1) > rr := of_decide_eq_true hgt
        have e0 : felled xs sd i r = i :: acc := by
          rw [ef]
          unfold scan
          rw [hz]
          simp only [hgt', if_true, List.append_nil]
        exact fin acc H3 e0 bt e1 _ _ _ _ _
      · have hgt' : ¬ ab (z.1 - x.1) > rr := fun z => hgt (decide_eq_true z)
        obtain ⟨d, hd⟩ : ∃ d, sd[o]? = some d := ⟨sd[o]'(by omega), by simp⟩
        have hd2 : (sd.map V.bl)[o]? = some (.bl d) := by rw [List.getElem?_map, hd]; rfl
        refine ⟨_, rfl, _, rfl, b, _, _, _, rfl, rfl, sqL_same sm hB, atI_nat hd2, d, rfl, ?_⟩
        cases d with
        | true =>
          refine iteT ⟨_, rfl, .inl ⟨rfl, _, SqL.of e1⟩, _, rfl, pf, _, _, rfl, rfl, e1, ?_, ?_⟩
          · unfold ivs
            rw [List.length_map, List.length_cons, sizeLine_eq]
            have := beside_len (r := r) hi
            omega
          refine ⟨_, rfl, _, rfl, _, rfl, _, _, rfl, rfl, _, _, rfl, ?_⟩
          refine ⟨acc ++ [o], mx rr (ab (z.1 - x.1) + z.2), _, _, _, _, rfl, ?_, bt.trans but_upd, ?_, ?_, ?_⟩
          · rw [ef]
            conv => lhs; unfold scan
            rw [hz]
            simp only [hgt', if_false, hd, if_true, List.cons_append, List.append_assoc, List.nil_append]
          · rw [upd_same]
            unfold ivs
            simp
          · rw [upd_ne hpq.symm]
            exact e2
          · simp; omega
        | false =>
          refine iteF ⟨acc, rr, _, _, _, _, rfl, ?_, bt, e1, e2, by omega⟩
          rw [ef]
          conv => lhs; unfold scan
          rw [hz]
          simp only [hgt', if_false, hd, Option.some.injEq, Bool.false_eq_true]
    · rintro σ H3 ⟨acc, rr, s7, s8, s9, s10, rfl, ef, bt, e1, e2, hacc⟩
      have e0 : felled xs sd i r = i :: acc := by
        rw [ef, List.drop_of_length_le (by unfold ivs; simp)]
        simp [scan]
      exact fin acc H3 e0 bt e1 _ _ _ _ _
end
/-! ### a stone of a row -/
theorem tyT {K : PySem.W.Frag} {H : Hp} {a : Addr} {xs : List V} (h : SqT K H a xs) : TyX K H (.ref a) (.type "tuple") := by
  rcases h with (h | ⟨o, h⟩) | ⟨o, its, n, h, c, _⟩
  · exact .base (.tup h)
  · exact .fTuple h
  · exact .kTuple h c
theorem tyL {K : PySem.W.Frag} {H : Hp} {a : Addr} {xs : List V} (h : SqL K H a xs) : TyX K H (.ref a) (.type "list") := by
  rcases h with (h | ⟨o, h⟩) | ⟨o, its, n, h, c, _⟩
  · exact .base (.lst h)
  · exact .base (.frz h)
  · exact .kList h c
/-- what a value is as a stone of a place from lo on -/
inductive StoneV (K : PySem.W.Frag) (H : Hp) (lo : Int) : V → Bool → Prop where
  | no {v : V} (k : Known K H v) (n : ∀ a, v = .ref a → TyX K H (.ref a) (.type "list")) : StoneV K H lo v false
  | len {a : Addr} {xs : List V} (h : SqT K H a xs) (n : xs.length ≠ 2) : StoneV K H lo (.ref a) false
  | two {a : Addr} {p h : V} (q : SqT K H a [p, h]) (kp : Known K H p) (kh : Known K H h) : StoneV K H lo (.ref a) (numB p lo 1000000000 && numB h 1 1000000000)
def spIsStone (K : PySem.W.Frag) : Sp := fun vs H Q _ => ∃ v lo b, vs = [v, .int lo] ∧ StoneV K H lo v b ∧ Q (.bl b) H
structure Lims (mg : Str → Option Value) : Prop where
  place : ∃ t, mg "GREATEST_PLACE" = some (.int 1000000000 t)
  height : ∃ t, mg "GREATEST_HEIGHT" = some (.int 1000000000 t)
/-- the class Row as the top has made it -/
structure RowC (K : PySem.W.Frag) (mg : Str → Option Value) (C : Addr) : Prop where
  cl : Cls K C
  nS : NoAttr K C "_stones"
  max : ∃ u, Con K C "MAX_STONES" (.int 40) u
  mgC : mg "Row" = some (.ref C)
  first : PySem.W.selfFirst K C = true
  ca : PySem.W.findIn K (.ref C) "__class__" = some (some (.builtin "object.__class__"))
  cn : PySem.W.specialIn K (.builtin "object.__class__") "__get__" = some (some (.builtin "getset_descriptor.__get__"))
  ct : PySem.W.takesIn K (.builtin "object.__class__") = some true
  cm : PySem.W.mroIn K C (.type "object") = some true
theorem RowC.ty {K : PySem.W.Frag} {mg : Str → Option Value} {C : Addr} (R : RowC K mg C) {H : Hp} {a dx : Addr} {fs : List (Str × V)} (h : H a = some (.ins C dx fs)) : TyX K H (.ref a) (.ref C) := .base (.ins h R.cl R.ca R.cn R.ct R.cm)
theorem kit_self {K : PySem.W.Frag} {C : Addr} : PySem.W.kitOne K (.ref C) (.ref C) = some true := by
  unfold PySem.W.kitOne
  rw [if_pos (by simp)]
/-- places that rise from lo on, heights that stones can have -/
def Wf : Int → List (Int × Int) → Prop
  | _, [] => True
  | lo, x :: xs => lo ≤ x.1 ∧ x.1 ≤ 1000000000 ∧ 1 ≤ x.2 ∧ x.2 ≤ 1000000000 ∧ Wf (x.1 + 1) xs
theorem Wf.get : ∀ {xs : List (Int × Int)} {lo : Int} {k : Nat} {x : Int × Int}, Wf lo xs → xs[k]? = some x → (k = 0 → lo ≤ x.1) ∧ (∀ y, 0 < k → xs[k - 1]? = some y → y.1 + 1 ≤ x.1) ∧ x.1 ≤ 1000000000 ∧ 1 ≤ x.2 ∧ x.2 ≤ 1000000000
  | [], _, _, _, _, e => by simp at e
  | z :: xs, lo, 0, x, w, e => by
    simp at e
    subst e
    exact ⟨fun _ => w.1, fun y h => absurd h (by decide), w.2.1, w.2.2.1, w.2.2.2.1⟩
  | z :: xs, lo, k + 1, x, w, e => by
    simp at e
    have ih := Wf.get w.2.2.2.2 e
    refine ⟨fun h => by omega, fun y _ hy => ?_, ih.2.2⟩
    cases k with
    | zero => simp at hy; subst hy; exact ih.1 rfl
    | succ k => simp at hy; exact ih.2.1 y (Nat.succ_pos _) (by simpa using hy)
def rowF (t : Addr) : List (Str × V) := [("_stones", .ref t)]
def RowAt (K : PySem.W.Frag) (C : Addr) (H : Hp) (p : Addr) (xs : List (Int × Int)) : Prop := ∃ dx t us, H p = some (.ins C dx (rowF t)) ∧ SqT K H t us ∧ StonesAt K H us xs
theorem RowAt.same {K : PySem.W.Frag} {C : Addr} {H H' : Hp} {p : Addr} {xs : List (Int × Int)} (h : RowAt K C H p xs) (e : Same H H') : RowAt K C H' p xs :=
  let ⟨dx, t, us, h1, h2, h3⟩ := h; ⟨dx, t, us, e _ _ h1, sqT_same h2 e, h3.same e⟩
def spInitB (K : PySem.W.Frag) (C : Addr) : Sp := fun vs H Q _ => ∃ (p dx t : Addr) (us : List V) (xs : List (Int × Int)), vs = [.ref p, .ref t] ∧ H p = some (.ins C dx []) ∧ SqT K H t us ∧ StonesAt K H us xs ∧ Wf 0 xs ∧ xs.length ≤ 40 ∧
  ∀ H', But p H H' → H' p = some (.ins C dx (rowF t)) → Q .non H'
section
variable {P : Program} {w : World} {K : PySem.W.Frag} {mg : Str → Option Value} {base : Heap}
/-- a def with one parameter and a star -/
theorem star1 {x qual p1 pv' : Str} {st : Stmt} {f : Addr} {fd : FuncData} {N : List Str} {k : Nat} {sp : Sp} (F : Fun K x qual st f fd) (S : FnScope N ([p1] ++ [pv']) (defScope st))
    (h0 : ∀ (kV doc pm : Value) (an : Option Addr) (cdv ct a : Value), bindArgs (PySem.W.fnOf x qual (defArgs st) (defBody st) (defScope st) .none kV doc pm an cdv ct) ⟨[a], []⟩ = (newTuple [] >>= fun t => pure [(p1, a), (pv', t)]))
    (h1 : ∀ (kV doc pm : Value) (an : Option Addr) (cdv ct a r : Value) (rs : List Value), bindArgs (PySem.W.fnOf x qual (defArgs st) (defBody st) (defScope st) .none kV doc pm an cdv ct) ⟨a :: r :: rs, []⟩ = (newTuple (r :: rs) >>= fun t => pure [(p1, a), (pv', t)]))
    (hbody : ∀ (cdv : Value) (A : Around) (outer : List Env) (s : Shared) (H : Hp) (vs : List V) (Q : VK) (E : XK), Room k (A.deeper (envOfC qual (defScope st) s.heap.objs.size f cdv)) → sp vs H Q E →
      ∃ t, PSs (cxOf CX0 P w K mg base N qual (defScope st) f cdv A outer s H E).nox (defBody st) t ∧ t { nx := fun _ H' => Q .non H', rt := Q } (start N vs) H) :
    FnR P w K mg base CX0 (k + 1) f (fun vs H Q E => ∃ w0 rest, vs = w0 :: rest ∧ rest.length ≤ 1000 ∧ ∀ p, H p = none → sp [w0, V.ref p] (upd H p (.tup rest)) Q E) := by
  obtain ⟨oc, od, kV, doc, pm, an, cdv, ct, osl, rfl, lk, hcd⟩ := F.ex
  have base := StX.fn_star (CX := CX0) (P := P) (w := w) (mg := mg) (base := base) (k := k) (ps := [p1]) (sp := sp) lk hcd S (fun _ _ _ _ _ _ _ _ _ _ _ z => z)
    (StX.bind_star1 (B := fun us => bindArgs (PySem.W.fnOf x qual (defArgs st) (defBody st) (defScope st) .none kV doc pm an cdv ct) ⟨us, []⟩) (fun a => h0 kV doc pm an cdv ct a) (fun a r rs => h1 kV doc pm an cdv ct a r rs))
    (fun A outer s H vs Q E hr hsp => by
      obtain ⟨t, h, q⟩ := hbody cdv A outer s H vs Q E hr hsp
      exact ⟨t, h.nox, q⟩)
  refine base.imp fun vs H Q E h => ?_
  obtain ⟨w0, rest, rfl, hz, h⟩ := h
  exact ⟨[w0], rest, rfl, rfl, by rw [sizeLine_eq]; omega, fun p hp => h p hp⟩
theorem ok_isStone {f g : Addr} {fd gd : FuncData} (F : Fun K "_is_stone" "_is_stone" s_is_stone f fd) (B : Blt mg) (L : Lims mg) (N : At P w K mg base CX0 1 "is_number" ["value", "least", "greatest"] (spNum K) g gd) :
    FnOk P w K mg base CX0 2 f fd ["stone", "least_place"] (spIsStone K) := by
  obtain ⟨⟨tp, mp⟩, ⟨th, mh⟩⟩ := id L
  refine F.ok sc_is_stone (fun vs H Q E h => ?_) (fun cdv A outer s H vs Q E hr h => ?_)
  · obtain ⟨v, lo, b, rfl, _⟩ := h
    rfl
  · obtain ⟨v, lo, b, rfl, sv, k⟩ := h
    refine ⟨_, pss_cons (ps_if (PW.pt (pw_or (pt_not (pt_val (pe_callB (call_isi) (by rfl) B.isinstance boot_isinstance (pa_cons (pv 0) (pa_cons (pe_bltn (v := .ty "tuple") (by rfl) B.tuple boot_tuple rfl) pa_nil))))) (pw_or1 (pt_cmpR (op_ne) (pe_callB call_len_seq (by rfl) B.len PySem.boot_len (pa_cons (pv 0) pa_nil)) (pe_int) (nomark _))))) (pss_one (ps_ret pe_bl)) pss_nil)
      (pss_cons (ps_asg (pv 0) (pg_tup rfl (pgs_cons (pg_name (i := 2) sc_is_stone.nd rfl (Or.inl rfl)) (pgs_cons (pg_name (i := 3) sc_is_stone.nd rfl (Or.inl rfl)) pgs_nil))))
      (pss_one (ps_ret (pe_and (pe_at N hr (pa_cons (pv 2) (pa_cons (pv 1) (pa_cons (pe_glob (v := .int 1000000000) (by rfl) mp ⟨_, rfl⟩) pa_nil)))) (pe_one (pe_at N hr (pa_cons (pv 3) (pa_cons (pe_int) (pa_cons (pe_glob (v := .int 1000000000) (by rfl) mh ⟨_, rfl⟩) pa_nil))))))))), ?_⟩
    cases sv with
    | no kn n =>
      have ty : ∃ t : String, TyX K H v (.type t) ∧ PySem.W.kitOne K (.type t) (.type "tuple") = some false := by
        cases v with
        | int i => exact ⟨_, .base (.int i), kit_ty (by decide +kernel)⟩
        | bl i => exact ⟨_, .base (.bl i), kit_ty (by decide +kernel)⟩
        | non => exact ⟨_, .base .non, kit_ty (by decide +kernel)⟩
        | str i => exact ⟨_, .base (.str i), kit_ty (by decide +kernel)⟩
        | ref a => exact ⟨_, n a rfl, kit_ty (by decide +kernel)⟩
        | byt _ => exact kn.elim
        | flt _ => exact kn.elim
        | ty _ => exact kn.elim
      obtain ⟨t, ty, kt⟩ := ty
      refine ⟨_, rfl, v, .ty "tuple", _, _, false, rfl, .ty _, ty, kt, false, rfl, ?_⟩
      refine iteT ?_
      exact iteT k
    | @len a xs hx n =>
      refine ⟨_, rfl, _, .ty "tuple", _, _, true, rfl, .ty _, tyT hx, kit_ty (by decide +kernel), true, rfl, ?_⟩
      refine iteF ?_
      refine ⟨_, rfl, a, xs, rfl, .inr hx, rfl, _, rfl, ?_⟩
      have e : (!decide (V.int (xs.length : Int) = V.int 2)) = true := by
        rw [dec_int]; simp; omega
      rw [e]
      exact iteT k
    | @two a p h q kp kh =>
      refine ⟨_, rfl, _, .ty "tuple", _, _, true, rfl, .ty _, tyT q, kit_ty (by decide +kernel), true, rfl, ?_⟩
      refine iteF ?_
      refine ⟨_, rfl, a, [p, h], rfl, .inr q, rfl, _, rfl, ?_⟩
      refine iteF ?_
      refine ⟨_, rfl, a, [p, h], rfl, q, rfl, _, _, rfl, _, _, rfl, rfl, ?_⟩
      refine ⟨_, rfl, _, rfl, _, _, _, rfl, kp, _, rfl, ?_⟩
      cases e : numB p lo 1000000000 with
      | true =>
        refine iteT ⟨_, rfl, _, _, _, rfl, kh, ?_⟩
        rw [e, Bool.true_and] at k
        exact k
      | false =>
        rw [e, Bool.false_and] at k
        exact iteF k
theorem numB_int {i lo hi : Int} (h1 : lo ≤ i) (h2 : i ≤ hi) : numB (.int i) lo hi = true := by
  show (decide (lo ≤ i) && decide (i ≤ hi)) = true
  rw [decide_eq_true h1, decide_eq_true h2]; rfl
theorem ok_init {f g C : Addr} {fd gd : FuncData} (F : Fun K "__init__" "Row.__init__" s_Row_init f fd) (B : Blt mg) (R : RowC K mg C) (N : At P w K mg base CX0 2 "_is_stone" ["stone", "least_place"] (spIsStone K) g gd) :
    FnR P w K mg base CX0 3 f (fun vs H Q E => ∃ w0 rest, vs = w0 :: rest ∧ rest.length ≤ 1000 ∧ ∀ p, H p = none → spInitB K C [w0, V.ref p] (upd H p (.tup rest)) Q E) := by
  refine star1 F sc_Row_init (fun _ _ _ _ _ _ _ => rfl) (fun _ _ _ _ _ _ _ _ _ => rfl) (fun cdv A outer s H vs Q E hr h => ?_)
  obtain ⟨p, dx, t, us, xs, rfl, hp, hT, hS, hw, hz, k⟩ := h
  obtain ⟨um, cm⟩ := R.max
  refine ⟨_, pss_cons (ps_set (i := 2) sc_Row_init.nd rfl (Or.inl rfl) (pe_int)) (pss_cons (ps_for PassesOwn.never rfl (Own.pi_enumT (by rfl) B.enumerate (pa_cons (pv 1) pa_nil)) (pg_tup rfl (pgs_cons (pg_name (i := 3) sc_Row_init.nd rfl (Or.inl rfl)) (pgs_cons (pg_name (i := 4) sc_Row_init.nd rfl (Or.inl rfl)) pgs_nil)))
      (pss_cons (ps_if (PW.pt (pw_or (pt_cmpR (op_eq) (pv 3) (pe_con (pv 0) rfl) (nomark _)) (pw_or1 (pt_not (pt_val (pe_at N hr (pa_cons (pv 4) (pa_cons (pv 2) pa_nil)))))))) (pss_one ps_never) pss_nil)
      (pss_one (ps_set (i := 2) sc_Row_init.nd rfl (Or.inl rfl) (pe_op op_add (pe_ix ix_tup (pv 4) (pe_int) (fun _ _ => rfl)) (pe_int))))))
    (pss_one (ps_fld (pv 0) (pv 1) rfl))), ?_⟩
  refine ⟨_, rfl, t, us, rfl, hT, for_it (Own.walk_item (K := K) (a := t) (xs := us)) (fun j σ H1 => ∃ (lo : Int) (s3 s4 : Option V), σ = [some (.ref p), some (.ref t), some (.int lo), s3, s4] ∧ Same H H1 ∧ (∀ x, xs[j]? = some x → lo ≤ x.1) ∧ 0 ≤ lo) ?_ ?_ ?_ ?_⟩
  · exact ⟨0, none, none, rfl, Same.refl _, fun x hx => (hw.get hx).1 rfl, Int.le_refl _⟩
  · rintro j σ H1 _ ⟨_, _, _, _, sm, _⟩
    exact sqT_same hT sm
  · rintro j v σ H1 H2 hj ⟨lo, s3, s4, rfl, sm, hlo, h0⟩ ⟨T, y, z, rfl, nT, rfl, e1, e2⟩
    obtain rfl : y = V.int (j : Int) := (Option.some.inj e1).symm
    have hjx : j < xs.length := by rw [← hS.1]; exact hj
    obtain ⟨x, hx⟩ : ∃ x, xs[j]? = some x := ⟨xs[j], by simp [hjx]⟩
    obtain ⟨c, hc, hsc⟩ := hS.2 j x hx
    obtain rfl : z = V.ref c := Option.some.inj (e2.symm.trans hc)
    have sm2 : Same H (upd H1 T (.tup [.int (j : Int), .ref c])) := sm.trans (same_new nT)
    obtain ⟨_, g2, g3, g4, g5⟩ := hw.get hx
    -- index, stone = the pair
    refine ⟨T, _, rfl, SqT.of upd_same, rfl, _, _, rfl, _, _, rfl, rfl, ?_⟩
    -- index == self.MAX_STONES
    refine ⟨_, rfl, _, rfl, p, C, dx, [], _, _, rfl, sm2 _ _ hp, R.cl, cm, rfl, rfl, _, rfl, ?_⟩
    have e40 : decide (V.int (j : Int) = V.int 40) = false := by rw [dec_int]; simp; omega
    rw [e40]
    refine iteF ?_
    -- not _is_stone(stone, least_place)
    refine ⟨_, rfl, _, rfl, _, _, _, rfl, StoneV.two (sqT_same hsc sm2) True.intro True.intro, _, rfl, ?_⟩
    rw [numB_int (hlo x hx) g3, numB_int g4 g5]
    refine iteF ?_
    -- least_place = stone[0] + 1
    refine ⟨_, rfl, c, _, (0 : Nat), _, rfl, rfl, sqT_same hsc sm2, atI_nat (j := 0) rfl, _, _, rfl, rfl, ?_⟩
    refine ⟨x.1 + 1, _, _, rfl, sm2, fun y hy => (hw.get hy).2.1 x (Nat.succ_pos _) (by simpa using hx), ?_⟩
    have := hlo x hx
    omega
  · rintro σ H1 ⟨lo, s3, s4, rfl, sm, _, _⟩
    refine ⟨_, rfl, _, rfl, p, C, dx, [], rfl, sm _ _ hp, R.cl, R.nS, (by show 0 < 1000; decide), ?_⟩
    exact k _ ((Same.but sm p).trans but_upd) upd_same
end
/-! ### a run: what a push fells while all stand -/
def allUp (n : Nat) : List Bool := List.replicate n true
def reachN (xs : List (Int × Int)) (i : Nat) (r : Bool) : Nat := (felled xs (allUp xs.length) i r).length - 1
def run (xs : List (Int × Int)) (i : Nat) (r : Bool) : Nat × Nat := if r then (i, i + reachN xs i r) else (i - reachN xs i r, i)
theorem scan_take {xs : List (Int × Int)} {sd : List Bool} {p0 : Int} (up : ∀ o, o < xs.length → sd[o]? = some true) : ∀ (os : List Nat) (r : Int), (∀ o ∈ os, o < xs.length) → scan xs sd p0 r os = os.take (scan xs sd p0 r os).length
  | [], r, _ => by simp [scan]
  | o :: os, r, h => by
    have ho := h o (by simp)
    unfold scan
    split
    · simp
    · rename_i x hx
      split
      · simp
      · rw [if_pos (up o ho)]
        rw [List.length_cons, List.take_succ_cons, ← scan_take up os _ fun z hz => h z (by simp [hz])]
theorem allUp_get {n o : Nat} (h : o < n) : (allUp n)[o]? = some true := by
  unfold allUp
  rw [List.getElem?_replicate, if_pos h]
theorem felled_take {xs : List (Int × Int)} {i : Nat} {r : Bool} (hi : i < xs.length) : felled xs (allUp xs.length) i r = i :: (beside r i xs.length).take (reachN xs i r) := by
  have hx : xs[i]? = some xs[i] := by simp [hi]
  have e : felled xs (allUp xs.length) i r = i :: scan xs (allUp xs.length) (xs[i]).1 (xs[i]).2 (beside r i xs.length) := by
    unfold felled
    rw [hx]
  have st := scan_take (xs := xs) (sd := allUp xs.length) (p0 := (xs[i]).1) (fun o ho => allUp_get ho) (beside r i xs.length) (xs[i]).2 (beside_lt hi)
  unfold reachN
  rw [e, List.length_cons, Nat.add_sub_cancel]
  exact congrArg (List.cons i) st
theorem reach_le {xs : List (Int × Int)} {i : Nat} {r : Bool} (hi : i < xs.length) : reachN xs i r ≤ (beside r i xs.length).length := by
  have hx : xs[i]? = some xs[i] := by simp [hi]
  unfold reachN felled
  rw [hx, List.length_cons, Nat.add_sub_cancel]
  exact scan_len _ _ _ _ _
theorem besideR_len {i n : Nat} : (beside true i n).length = n - (i + 1) := by simp [beside]
theorem besideL_len {i n : Nat} : (beside false i n).length = i := by simp [beside]
/-- first, first + 1, .. (c + 1 of them) -/
def rise (a c : Nat) : List Int := (List.range (c + 1)).map fun k => ((a + k : Nat) : Int)
theorem rise_le (a c : Nat) : (rise a c).Pairwise (· ≤ ·) := by
  unfold rise
  refine List.Pairwise.map _ (fun x y h => ?_) (List.pairwise_lt_range (n := c + 1))
  show ((a + x : Nat) : Int) ≤ ((a + y : Nat) : Int)
  have : x < y := h
  omega
theorem felled_perm {xs : List (Int × Int)} {i : Nat} {r : Bool} (hi : i < xs.length) : ((felled xs (allUp xs.length) i r).map fun (k : Nat) => (k : Int)).Perm (rise (run xs i r).1 (reachN xs i r)) := by
  rw [felled_take hi]
  have hle := reach_le (r := r) hi
  cases r with
  | true =>
    rw [besideR_len] at hle
    show (List.map _ _).Perm (rise i (reachN xs i true))
    generalize reachN xs i true = c at hle
    refine .of_eq ?_
    unfold rise beside
    rw [if_pos rfl, List.range_succ_eq_map, List.map_cons, List.map_cons, List.map_map, ← List.map_take, List.map_map, List.take_range]
    have e : min c (xs.length - (i + 1)) = c := by omega
    rw [e]
    refine congr (congrArg _ (by simp)) (List.map_congr_left fun k _ => ?_)
    show ((i + 1 + k : Nat) : Int) = ((i + (k + 1) : Nat) : Int)
    omega
  | false =>
    rw [besideL_len] at hle
    show (List.map _ _).Perm (rise (i - reachN xs i false) (reachN xs i false))
    generalize reachN xs i false = c at hle
    have e : List.map (fun (k : Nat) => (k : Int)) (i :: (beside false i xs.length).take c) = (rise (i - c) c).reverse := by
      unfold rise beside
      rw [if_neg (by decide), ← List.map_take, List.take_range]
      have e : min c i = c := by omega
      rw [e]
      apply List.ext_getElem
      · simp
      · intro j h1 h2
        have hj : j < c + 1 := by simpa using h1
        rw [List.getElem_reverse]
        cases j with
        | zero => simp; omega
        | succ j => simp; omega
    rw [e]
    exact List.reverse_perm _
theorem felled_sorted {xs : List (Int × Int)} {i : Nat} {r : Bool} {ns : List Int} (hi : i < xs.length) (p : ns.Perm ((felled xs (allUp xs.length) i r).map fun (k : Nat) => (k : Int))) (s : ns.Pairwise (· ≤ ·)) :
    ns = rise (run xs i r).1 (reachN xs i r) :=
  (p.trans (felled_perm hi)).eq_of_pairwise (fun x y _ _ h1 h2 => Int.le_antisymm h1 h2) s (rise_le _ _)
theorem run_last {xs : List (Int × Int)} {i : Nat} {r : Bool} (hi : i < xs.length) : (run xs i r).1 + reachN xs i r = (run xs i r).2 := by
  have hle := reach_le (r := r) hi
  unfold run
  cases r with
  | true => rfl
  | false =>
    rw [besideL_len] at hle
    show i - reachN xs i false + reachN xs i false = i
    omega
/-! ### Row's methods -/
def spLen (K : PySem.W.Frag) (C : Addr) : Sp := fun vs H Q _ => ∃ p xs, vs = [.ref p] ∧ RowAt K C H p xs ∧ Q (.int (xs.length : Int)) H
def spAdd (K : PySem.W.Frag) (C : Addr) : Sp := fun vs H Q _ => ∃ p q xs ys, vs = [.ref p, .ref q] ∧ RowAt K C H p xs ∧ RowAt K C H q ys ∧ Wf 0 (xs ++ ys) ∧ (xs ++ ys).length ≤ 40 ∧
  ∀ z H', Same H H' → H z = none → RowAt K C H' z (xs ++ ys) → Q (.ref z) H'
def spCall (K : PySem.W.Frag) (C : Addr) : Sp := fun vs H Q _ => ∃ p xs i r, vs = [.ref p, .int (i : Nat), .str (sideS r)] ∧ RowAt K C H p xs ∧ i < xs.length ∧ xs.length ≤ 40 ∧
  ∀ z H', Same H H' → H z = none → H' z = some (.tup [.int ((run xs i r).1 : Nat), .int ((run xs i r).2 : Nat)]) → Q (.ref z) H'
def spMake (K : PySem.W.Frag) (C : Addr) : Sp := fun vs H Q E => ∃ w0 rest, vs = w0 :: rest ∧ rest.length ≤ 1000 ∧ ∀ p, H p = none → spInitB K C [w0, V.ref p] (upd H p (.tup rest)) Q E
section
variable {P : Program} {w : World} {K : PySem.W.Frag} {mg : Str → Option Value} {base : Heap}
/-- what a new row's reading asks, once and for all -/
theorem make_row {C : Addr} {H : Hp} {us : List V} {xs : List (Int × Int)} {Q : VK} {E : XK} (hS : StonesAt K H us xs) (hw : Wf 0 xs) (hz : xs.length ≤ 40) (k : ∀ z H', Same H H' → H z = none → RowAt K C H' z xs → Q (.ref z) H') :
    ∀ z dz, H z = Option.none → H dz = Option.none → dz ≠ z → spMake K C (V.ref z :: us) (upd (upd H dz (.own z)) z (.ins C dz [])) (fun v H2 => v = .non ∧ Q (.ref z) H2) E := by
  intro z dz nz ndz ne
  have s0 : Same H (upd (upd H dz (.own z)) z (.ins C dz [])) := (same_new ndz).trans (same_new (by rw [upd_ne (Ne.symm ne)]; exact nz))
  refine ⟨_, us, rfl, by rw [hS.1]; omega, fun t nt => ?_⟩
  have s1 : Same H (upd (upd (upd H dz (.own z)) z (.ins C dz [])) t (.tup us)) := s0.trans (same_new nt)
  have ntz : z ≠ t := ne_of_none upd_same nt
  refine ⟨z, dz, t, us, xs, rfl, by rw [upd_ne ntz]; exact upd_same, SqT.of upd_same, hS.same s1, hw, hz, fun H' b e => ⟨rfl, ?_⟩⟩
  have sm : Same H H' := But.same ((Same.but s1 z).trans b) nz
  exact k z H' sm nz ⟨dz, t, us, e, SqT.of (b t _ (Ne.symm ntz) upd_same), hS.same sm⟩
theorem ok_len {f C : Addr} {fd : FuncData} (F : Fun K "__len__" "Row.__len__" s_Row_len f fd) (B : Blt mg) (R : RowC K mg C) : FnOk P w K mg base CX0 1 f fd ["self"] (spLen K C) := by
  refine F.ok sc_Row_len (fun vs H Q E h => ?_) (fun cdv A outer s H vs Q E hr h => ?_)
  · obtain ⟨p, xs, rfl, _⟩ := h
    rfl
  · obtain ⟨p, xs, rfl, ⟨dx, t, us, hp, hT, hS⟩, k⟩ := h
    refine ⟨_, pss_one (ps_ret (pe_callB call_len_seq (by rfl) B.len PySem.boot_len (pa_cons (pe_fld (pv 0) rfl) pa_nil))), ?_⟩
    refine ⟨_, rfl, p, C, dx, _, _, rfl, hp, R.cl, R.nS, rfl, t, us, rfl, .inr hT, ?_⟩
    rw [hS.1]
    exact k
theorem ok_add {f g C : Addr} {fd : FuncData} (F : Fun K "__add__" "Row.__add__" s_Row_add f fd) (B : Blt mg) (R : RowC K mg C) (M : Mk K C g)
    (G : FnR P w K mg base CX0 3 g (spMake K C)) : FnOk P w K mg base CX0 5 f fd ["self", "other"] (spAdd K C) := by
  refine F.ok sc_Row_add (fun vs H Q E h => ?_) (fun cdv A outer s H vs Q E hr h => ?_)
  · obtain ⟨p, q, xs, ys, rfl, _⟩ := h
    rfl
  · obtain ⟨p, q, xs, ys, rfl, hp, hq, hw, hz, k⟩ := h
    obtain ⟨dx, t, us, ep, hT, hS⟩ := id hp
    obtain ⟨dy, t', us', eq', hT', hS'⟩ := id hq
    refine ⟨_, pss_cons (ps_if (pt_not (pt_val (pe_callB (call_isi) (by rfl) B.isinstance boot_isinstance (pa_cons (pv 1) (pa_cons (pe_glob (v := .ref C) (by rfl) R.mgC rfl) pa_nil))))) (pss_one ps_never) pss_nil)
      (pss_cons (ps_set (i := 2) sc_Row_add.nd rfl (Or.inl rfl) (pe_op op_catA (pe_fld (pv 0) rfl) (pe_fld (pv 1) rfl)))
      (pss_one (ps_ret (Own.pe_makeS M G hr (by rfl) R.mgC pass0 (pv 2))))), ?_⟩
    refine ⟨_, rfl, _, .ref C, _, _, true, rfl, .own C, R.ty eq', kit_self, true, rfl, ?_⟩
    refine iteF ?_
    refine ⟨_, rfl, p, C, dx, _, _, rfl, ep, R.cl, R.nS, rfl, _, rfl, q, C, dy, _, _, rfl, eq', R.cl, R.nS, rfl, t, t', us, us', rfl, rfl, hT, hT', ?_, fun e => ?_, fun n e => ?_, fun n n' y ny => ?_⟩
    · rw [hS.1, hS'.1, ← List.length_append, sizeLine_eq]; omega
    · refine ⟨_, rfl, t', us', rfl, .inl hT', make_row (xs := xs ++ ys) ?_ hw hz k⟩
      have := hS.append hS'
      rw [e] at this
      exact this
    · refine ⟨_, rfl, t, us, rfl, .inl hT, make_row (xs := xs ++ ys) ?_ hw hz k⟩
      have := hS.append hS'
      rw [e, List.append_nil] at this
      exact this
    · have s1 := same_new (o := .tup (us ++ us')) ny
      refine ⟨_, rfl, y, _, rfl, .inl (SqT.of upd_same), make_row ((hS.append hS').same s1) hw hz fun z H' sm nz ra => k z H' (s1.trans sm) (Same.free s1 nz) ra⟩
theorem ok_call {f C g1 g2 g3 : Addr} {fd d1 d2 d3 : FuncData} (F : Fun K "__call__" "Row.__call__" s_Row_call f fd) (B : Blt mg) (R : RowC K mg C) (N1 : At P w K mg base CX0 2 "check_stone" ["stone", "count"] spCheckStone g1 d1)
    (N2 : At P w K mg base CX0 1 "check_side" ["side"] spCheckSide g2 d2) (N3 : At P w K mg base CX0 2 "felled_by" ["stones", "standing", "stone", "side"] (spFelled K) g3 d3) :
    FnOk P w K mg base CX0 3 f fd ["self", "stone", "side"] (spCall K C) := by
  refine F.ok sc_Row_call (fun vs H Q E h => ?_) (fun cdv A outer s H vs Q E hr h => ?_)
  · obtain ⟨p, xs, i, r, rfl, _⟩ := h
    rfl
  · obtain ⟨p, xs, i, r, rfl, ⟨dx, t, us, ep, hT, hS⟩, hi, hz, k⟩ := h
    refine ⟨_, pss_cons (ps_expr (pe_at N1 hr (pa_cons (pv 1) (pa_cons (pe_callB call_len_seq (by rfl) B.len PySem.boot_len (pa_cons (pe_fld (pv 0) rfl) pa_nil)) pa_nil))))
      (pss_cons (ps_expr (pe_at N2 (hr.mono (by decide)) (pa_cons (pv 2) pa_nil)))
      (pss_cons (ps_set (i := 3) sc_Row_call.nd rfl (Or.inl rfl) (pe_op op_rep (pe_lst (pa_cons (pe_bl) pa_nil)) (pe_callB call_len_seq (by rfl) B.len PySem.boot_len (pa_cons (pe_fld (pv 0) rfl) pa_nil))))
      (pss_cons (ps_set (i := 4) sc_Row_call.nd rfl (Or.inl rfl) (pe_at N3 hr (pa_cons (pe_fld (pv 0) rfl) (pa_cons (pv 3) (pa_cons (pv 1) (pa_cons (pv 2) pa_nil))))))
      (pss_one (ps_ret (pe_tup (pa_cons (pe_ix ix_list (pv 4) (pe_int) (fun _ _ => rfl)) (pa_cons (pe_ix ix_list (pv 4) (pe_un un_neg pe_int) (fun _ _ => rfl)) pa_nil)))))))), ?_⟩
    refine ⟨_, rfl, _, rfl, p, C, dx, _, _, rfl, ep, R.cl, R.nS, rfl, t, us, rfl, .inr hT, ?_⟩
    refine ⟨i, xs.length, by rw [hS.1]; rfl, hi, ?_⟩
    refine ⟨_, rfl, r, rfl, ?_⟩
    -- standing
    refine ⟨by show 1 ≤ sizeLine; decide, fun a na => ?_⟩
    have s1 := same_new (o := .lst [V.bl true]) na
    refine ⟨_, rfl, p, C, dx, _, _, rfl, s1 _ _ ep, R.cl, R.nS, rfl, t, us, rfl, .inr (sqT_same hT s1), ?_⟩
    refine ⟨a, _, _, rfl, rfl, upd_same, by omega, by rw [hS.1]; omega, by rw [hS.1, sizeLine_eq]; simp; omega, fun b nb => ?_⟩
    have s2 : Same H _ := s1.trans (same_new (o := .lst (List.replicate ((us.length : Int)).toNat [V.bl true]).flatten) nb)
    -- felled
    refine ⟨_, rfl, p, C, dx, _, _, rfl, s2 _ _ ep, R.cl, R.nS, rfl, _, rfl, _, rfl, _, rfl, ?_⟩
    have eb : (List.replicate ((us.length : Int)).toNat [V.bl true]).flatten = (allUp xs.length).map V.bl := by
      rw [hS.1]
      unfold allUp
      simp
    refine ⟨t, b, us, xs, allUp xs.length, i, r, rfl, sqT_same hT s2, hS.same s2, SqL.of (by rw [upd_same, eb]), by unfold allUp; simp, hi, hz, fun ns q H3 pm so sm nq e3 => ?_⟩
    rw [felled_sorted hi pm so] at e3
    have s3 := s2.trans sm
    have g0 : atI ((rise (run xs i r).1 (reachN xs i r)).map V.int) ((0 : Nat) : Int) = some (.int ((run xs i r).1 : Nat)) := by
      refine atI_nat ?_
      unfold rise
      simp
    have g1 : atI ((rise (run xs i r).1 (reachN xs i r)).map V.int) (-1) = some (.int ((run xs i r).2 : Nat)) := by
      unfold rise
      rw [List.range_succ, List.map_append, List.map_append]
      refine Eq.trans (atI_last _ (V.int (((run xs i r).1 + reachN xs i r : Nat) : Int))) ?_
      rw [run_last hi]
    refine ⟨_, rfl, q, _, _, _, rfl, rfl, SqL.of e3, g0, _, rfl, 1, rfl, q, _, (-1), _, rfl, rfl, SqL.of e3, g1, by show 2 ≤ sizeLine; decide, fun z nz => ?_⟩
    exact k z _ (s3.trans (same_new nz)) (Same.free s3 nz) upd_same
end
/-! ### the law's draws -/
def Drw (K : PySem.W.Frag) (H : Hp) (L a : Addr) (ns : List Int) : Prop := ∃ i s r : Int, H L = some (.lst [.ref a, .int i, .int s, .int r]) ∧ 0 ≤ i ∧ 0 ≤ s ∧ s < 2147483647 ∧ SqL K H a (ns.map V.int)
theorem Drw.up {K : PySem.W.Frag} {H H' : Hp} {L a : Addr} {ns : List Int} (h : Drw K H L a ns) (e : Same H H') : Drw K H' L a ns :=
  let ⟨i, s, r, h1, h2, h3, h4, h5⟩ := h; ⟨i, s, r, e _ _ h1, h2, h3, h4, e.seq h5⟩
theorem script_stays {K : PySem.W.Frag} {H : Hp} {L a : Addr} {ns : List Int} {o : HO} {vs : List V} (h : H L = some (.lst (.ref a :: vs))) (hs : SqL K H a (ns.map V.int)) : SqL K (upd H L o) a (ns.map V.int) := by
  have ne : ∀ u, H a = some u → (u = .lst (ns.map V.int) ∨ ∃ ob, u = .frz ob (.lst (ns.map V.int))) → a ≠ L := by
    intro u hu hk z
    subst z
    rw [h] at hu
    rcases hk with rfl | ⟨ob, rfl⟩
    · injection hu with e
      injection e with e
      cases ns <;> cases e
    · cases hu
  rcases hs with (hs | ⟨ob, hs⟩) | hs
  · exact .inl (.inl (by rw [upd_ne (ne _ hs (.inl rfl))]; exact hs))
  · exact .inl (.inr ⟨ob, by rw [upd_ne (ne _ hs (.inr ⟨ob, rfl⟩))]; exact hs⟩)
  · exact .inr hs
def spTaken (K : PySem.W.Frag) : Sp := fun vs H Q _ => ∃ (L a : Addr) (ns : List Int) (m : Int), vs = [.ref L, .int m] ∧ 0 < m ∧ m < 1073741824 ∧ Drw K H L a ns ∧
  ∀ (n : Int) (H' : Hp), 0 ≤ n → n < m → Drw K H' L a ns → But L H H' → Q (.int n) H'
section
variable {P : Program} {w : World} {K : PySem.W.Frag} {mg : Str → Option Value} {base : Heap}
theorem ok_taken {f : Addr} {fd : FuncData} (F : Fun K "_law_taken" "_law_taken" s_law_taken f fd) (B : Blt mg) : FnOk P w K mg base CX0 1 f fd ["_law_row_here", "_law_many"] (spTaken K) := by
  refine F.ok sc_law_taken (fun vs H Q E h => ?_) (fun cdv A outer s H vs Q E hr h => ?_)
  · obtain ⟨L, a, ns, m, rfl, _⟩ := h
    rfl
  · obtain ⟨L, a, ns, m, rfl, m0, m1, ⟨i, sd, r, hL, i0, sd0, sd1, hs⟩, k⟩ := h
    refine ⟨_, pss_cons (ps_if (pt_cmpR (op_gt) (pe_ix ix_list (pv 0) (pe_int) (fun _ _ => rfl)) (pe_int) (nomark _))
        (pss_cons (ps_set (i := 2) sc_law_taken.nd rfl (Or.inl rfl) (pe_op op_mod (pe_callTy (call_int1) (by rfl) B.int boot_int (pa_cons (pe_ix ix_list (pv 0) (pe_int) (fun _ _ => rfl)) pa_nil)) (pv 1)))
        (pss_cons (ps_asg (pe_op op_fdiv (pe_ix ix_list (pv 0) (pe_int) (fun _ _ => rfl)) (pv 1)) (pg_sub (pv 0) pe_int set_list))
        (pss_one (ps_ret (pv 2))))) pss_nil)
      (pss_cons (ps_asg (pe_op op_add (pe_ix ix_list (pv 0) (pe_int) (fun _ _ => rfl)) (pe_int)) (pg_sub (pv 0) pe_int set_list))
      (pss_cons (ps_if (pt_cmpR (op_gt) (pe_ix ix_list (pv 0) (pe_int) (fun _ _ => rfl)) (pe_callB call_len_seq (by rfl) B.len PySem.boot_len (pa_cons (pe_ix ix_list (pv 0) (pe_int) (fun _ _ => rfl)) pa_nil)) (nomark _))
        (pss_cons (ps_asg (pe_op op_mod (pe_callTy (call_int1) (by rfl) B.int boot_int (pa_cons (pe_op op_add (pe_op op_mul (pe_ix ix_list (pv 0) (pe_int) (fun _ _ => rfl)) pe_int) (pe_int)) pa_nil)) pe_int) (pg_sub (pv 0) pe_int set_list))
        (pss_one (ps_ret (pe_op op_mod (pe_callTy (call_int1) (by rfl) B.int boot_int (pa_cons (pe_op op_fdiv (pe_ix ix_list (pv 0) (pe_int) (fun _ _ => rfl)) pe_int) pa_nil)) (pv 1))))) pss_nil)
      (pss_cons (ps_set (i := 3) sc_law_taken.nd rfl (Or.inl rfl) (pe_ix ix_list (pe_ix ix_list (pv 0) (pe_int) (fun _ _ => rfl)) (pe_op op_sub (pe_ix ix_list (pv 0) (pe_int) (fun _ _ => rfl)) (pe_int)) (fun _ _ => rfl)))
      (pss_cons (ps_asg (pe_op op_mod (pe_callTy (call_int1) (by rfl) B.int boot_int (pa_cons (pe_op op_add (pe_op op_add (pe_op op_mul (pe_ix ix_list (pv 0) (pe_int) (fun _ _ => rfl)) pe_int) (pv 3)) (pe_int)) pa_nil)) pe_int) (pg_sub (pv 0) pe_int set_list))
      (pss_cons (ps_if (pt_cmpR (op_ge) (pv 3) (pe_op op_pow pe_int pe_int) (nomark _)) (pss_one (ps_asg (pe_op op_fdiv (pv 3) (pv 1)) (pg_sub (pv 0) pe_int set_list))) pss_nil)
      (pss_one (ps_ret (pe_op op_mod (pe_callTy (call_int1) (by rfl) B.int boot_int (pa_cons (pv 3) pa_nil)) (pv 1))))))))), ?_⟩
    -- if row[3] > 0
    refine ⟨_, rfl, ⟨L, _, ((3 : Nat) : Int), _, rfl, rfl, SqL.of hL, atI_nat (j := 3) rfl, _, _, rfl, rfl, _, rfl, ?_⟩⟩
    refine ite2 (fun hr3 => ?_) (fun hr3 => ?_)
    · refine ⟨_, rfl, ⟨L, _, ((3 : Nat) : Int), _, rfl, rfl, SqL.of hL, atI_nat (j := 3) rfl, .inl ⟨_, rfl, _, rfl, _, _, rfl, rfl, m0, ?_⟩⟩⟩
      refine ⟨_, rfl, ⟨L, _, ((3 : Nat) : Int), _, rfl, rfl, SqL.of hL, atI_nat (j := 3) rfl, _, rfl, _, _, rfl, rfl, ⟨m0, m1⟩, _, rfl, L, _, _, 3, rfl, rfl, hL, rfl, _, rfl, ?_⟩⟩
      exact k _ _ (Int.emod_nonneg _ (by omega)) (Int.emod_lt_of_pos _ m0) ⟨i, sd, _, upd_same, i0, sd0, sd1, script_stays hL hs⟩ but_upd
    · -- row[1] = row[1] + 1
      refine ⟨_, rfl, ⟨L, _, ((1 : Nat) : Int), _, rfl, rfl, SqL.of hL, atI_nat (j := 1) rfl, _, _, rfl, rfl, _, rfl, L, _, _, 1, rfl, rfl, hL, rfl, ?_⟩⟩
      have hs1 : SqL K (upd H L (.lst [.ref a, .int (i + 1), .int sd, .int r])) a (ns.map V.int) := script_stays hL hs
      have b1 : But L H (upd H L (.lst [.ref a, .int (i + 1), .int sd, .int r])) := but_upd
      have h1 : (upd H L (.lst [.ref a, .int (i + 1), .int sd, .int r])) L = some (.lst [.ref a, .int (i + 1), .int sd, .int r]) := upd_same
      generalize hH1 : upd H L (.lst [.ref a, .int (i + 1), .int sd, .int r]) = H1 at hs1 b1 h1
      rw [show upd H L (.lst ([V.ref a, V.int i, V.int sd, V.int r].set 1 (V.int (i + 1)))) = H1 from hH1]
      refine ⟨_, rfl, ⟨L, _, ((1 : Nat) : Int), _, rfl, rfl, SqL.of h1, atI_nat (j := 1) rfl, _, rfl, ⟨L, _, ((0 : Nat) : Int), _, rfl, rfl, SqL.of h1, atI_nat (j := 0) rfl, a, _, rfl, .inl hs1, _, _, rfl, rfl, _, rfl, ?_⟩⟩⟩
      refine ite2 (fun hgt => ?_) (fun hgt => ?_)
      · refine ⟨_, rfl, ⟨L, _, ((2 : Nat) : Int), _, rfl, rfl, SqL.of h1, atI_nat (j := 2) rfl, _, _, rfl, rfl, .inl ⟨by omega, by omega⟩, _, _, rfl, rfl, .inl ⟨_, rfl, _, _, rfl, rfl, (show (0 : Int) < 2147483647 by decide), _, rfl, L, _, _, 2, rfl, rfl, h1, rfl, ?_⟩⟩⟩
        have h2 : ∀ z : Int, (upd H1 L (.lst [.ref a, .int (i + 1), .int z, .int r])) L = some (.lst [.ref a, .int (i + 1), .int z, .int r]) := fun z => upd_same
        refine ⟨_, rfl, ⟨L, _, ((2 : Nat) : Int), _, rfl, rfl, SqL.of (h2 _), atI_nat (j := 2) rfl, _, _, rfl, rfl, ⟨by decide, by decide⟩, .inl ⟨_, rfl, _, rfl, _, _, rfl, rfl, m0, ?_⟩⟩⟩
        exact k _ _ (Int.emod_nonneg _ (by omega)) (Int.emod_lt_of_pos _ m0) ⟨i + 1, _, r, upd_same, by omega, Int.emod_nonneg _ (by decide), Int.emod_lt_of_pos _ (by decide), script_stays h1 hs1⟩ (b1.trans but_upd)
      · have hle : i + 1 ≤ (ns.length : Int) := by
          have : ¬ i + 1 > ((ns.map V.int).length : Int) := fun z => hgt (decide_eq_true z)
          rw [List.length_map] at this
          omega
        obtain ⟨c, hc⟩ : ∃ c, ns[i.toNat]? = some c := ⟨ns[i.toNat]'(by omega), by simp⟩
        have hc2 : atI (ns.map V.int) (i + 1 - 1) = some (.int c) := at_of (j := i.toNat) (by omega) (by rw [List.getElem?_map, hc]; rfl)
        refine ⟨_, rfl, ⟨L, _, ((0 : Nat) : Int), _, rfl, rfl, SqL.of h1, atI_nat (j := 0) rfl, _, rfl, ⟨L, _, ((1 : Nat) : Int), _, rfl, rfl, SqL.of h1, atI_nat (j := 1) rfl, _, _, rfl, rfl, a, _, _, _, rfl, rfl, hs1, hc2, ?_⟩⟩⟩
        refine ⟨_, rfl, ⟨L, _, ((2 : Nat) : Int), _, rfl, rfl, SqL.of h1, atI_nat (j := 2) rfl, _, _, rfl, rfl, .inl ⟨by omega, by omega⟩, _, rfl, _, _, rfl, rfl, _, _, rfl, rfl, .inl ⟨_, rfl, _, _, rfl, rfl, (show (0 : Int) < 2147483647 by decide), _, rfl, L, _, _, 2, rfl, rfl, h1, rfl, ?_⟩⟩⟩
        refine ⟨_, rfl, 10, 18, rfl, rfl, ⟨by decide, by decide, by decide⟩, _, _, rfl, rfl, _, rfl, ?_⟩
        have h2 : ∀ z : Int, (upd H1 L (.lst [.ref a, .int (i + 1), .int z, .int r])) L = some (.lst [.ref a, .int (i + 1), .int z, .int r]) := fun z => upd_same
        refine ite2 (fun hbig => ?_) (fun hbig => ?_)
        · refine ⟨_, rfl, _, rfl, _, _, rfl, rfl, ⟨m0, m1⟩, _, rfl, L, _, _, 3, rfl, rfl, h2 _, rfl, ?_⟩
          refine ⟨_, rfl, .inl ⟨_, rfl, _, rfl, _, _, rfl, rfl, m0, ?_⟩⟩
          exact k _ _ (Int.emod_nonneg _ (by omega)) (Int.emod_lt_of_pos _ m0) ⟨i + 1, _, _, upd_same, by omega, Int.emod_nonneg _ (by decide), Int.emod_lt_of_pos _ (by decide), script_stays (h2 _) (script_stays h1 hs1)⟩ ((b1.trans but_upd).trans but_upd)
        · refine ⟨_, rfl, .inl ⟨_, rfl, _, rfl, _, _, rfl, rfl, m0, ?_⟩⟩
          exact k _ _ (Int.emod_nonneg _ (by omega)) (Int.emod_lt_of_pos _ m0) ⟨i + 1, _, r, upd_same, by omega, Int.emod_nonneg _ (by decide), Int.emod_lt_of_pos _ (by decide), script_stays h1 hs1⟩ (b1.trans but_upd)
end
/-! ### objects that stay while a list changes -/
theorem sqT_but {K : PySem.W.Frag} {H H' : Hp} {a l : Addr} {xs ys : List V} (h : SqT K H a xs) (hl : H l = some (.lst ys)) (b : But l H H') : SqT K H' a xs := by
  rcases h with (h | ⟨o, h⟩) | h
  · exact .inl (.inl (b _ _ (ne_of h hl (by intro z; cases z)) h))
  · exact .inl (.inr ⟨o, b _ _ (ne_of h hl (by intro z; cases z)) h⟩)
  · exact .inr h
theorem StonesAt.but {K : PySem.W.Frag} {H H' : Hp} {l : Addr} {ys vs : List V} {xs : List (Int × Int)} (h : StonesAt K H vs xs) (hl : H l = some (.lst ys)) (b : But l H H') : StonesAt K H' vs xs :=
  ⟨h.1, fun k x q => let ⟨a, q1, q2⟩ := h.2 k x q; ⟨a, q1, sqT_but q2 hl b⟩⟩
theorem RowAt.but {K : PySem.W.Frag} {C : Addr} {H H' : Hp} {p l : Addr} {ys : List V} {xs : List (Int × Int)} (h : RowAt K C H p xs) (hl : H l = some (.lst ys)) (b : But l H H') : RowAt K C H' p xs :=
  let ⟨dx, t, us, h1, h2, h3⟩ := h; ⟨dx, t, us, b _ _ (ne_of h1 hl (by intro z; cases z)) h1, sqT_but h2 hl b, h3.but hl b⟩
/-- the law's own list: the script, a place in it, a seed, a rest -/
def Cell (H : Hp) (L a : Addr) : Prop := ∃ i s r : Int, H L = some (.lst [.ref a, .int i, .int s, .int r]) ∧ 0 ≤ i ∧ 0 ≤ s ∧ s < 2147483647
theorem Drw.cell {K : PySem.W.Frag} {H : Hp} {L a : Addr} {ns : List Int} (h : Drw K H L a ns) : Cell H L a := let ⟨i, s, r, h1, h2, h3, h4, _⟩ := h; ⟨i, s, r, h1, h2, h3, h4⟩
theorem Cell.list {H : Hp} {L a : Addr} (h : Cell H L a) : ∃ ys, H L = some (.lst ys) := let ⟨_, _, _, h, _⟩ := h; ⟨_, h⟩
theorem Cell.but {H H' : Hp} {L a p : Addr} (h : Cell H L a) (b : But p H H') (ne : L ≠ p) : Cell H' L a := let ⟨i, s, r, h1, h2⟩ := h; ⟨i, s, r, b _ _ ne h1, h2⟩
theorem Cell.same {H H' : Hp} {L a : Addr} (h : Cell H L a) (b : Same H H') : Cell H' L a := let ⟨i, s, r, h1, h2⟩ := h; ⟨i, s, r, b _ _ h1, h2⟩
theorem Drw.next {K : PySem.W.Frag} {H H' : Hp} {L a : Addr} {ns : List Int} (h : Drw K H L a ns) (b : But L H H') (c : Cell H' L a) : Drw K H' L a ns := by
  obtain ⟨i, s, r, h1, h2, h3, h4, hs⟩ := h
  obtain ⟨i', s', r', g1, g2, g3, g4⟩ := c
  refine ⟨i', s', r', g1, g2, g3, g4, ?_⟩
  have ne : ∀ u, H a = some u → (u = .lst (ns.map V.int) ∨ ∃ ob, u = .frz ob (.lst (ns.map V.int))) → a ≠ L := by
    intro u hu hk z
    subst z
    rw [h1] at hu
    rcases hk with rfl | ⟨ob, rfl⟩
    · injection hu with e
      injection e with e
      cases ns <;> cases e
    · cases hu
  rcases hs with (hs | ⟨ob, hs⟩) | hs
  · exact .inl (.inl (b _ _ (ne _ hs (.inl rfl)) hs))
  · exact .inl (.inr ⟨ob, b _ _ (ne _ hs (.inr ⟨ob, rfl⟩)) hs⟩)
  · exact .inr hs
theorem But.sub {H H' : Hp} {p L : Addr} (b : But p H H') (hp : H p = none) : But L H H' := fun c o _ e => b c o (ne_of_none e hp) e
/-- all but l stays; a new p may change, too -/
theorem But.two {H H1 H2 : Hp} {p L : Addr} (a : But L H H1) (hp : H p = none) (b : But p H1 H2) : But L H H2 := fun c o n e => b c o (ne_of_none e hp) (a c o n e)

/-! ### the law's stones -/
/-- stones as the law draws them -/
def Drawn (xs : List (Int × Int)) : Prop := ∀ x ∈ xs, 0 ≤ x.1 ∧ x.1 ≤ 1000 ∧ 1 ≤ x.2 ∧ x.2 ≤ 40
theorem Wf.snoc : ∀ {xs : List (Int × Int)} {lo : Int} {y : Int × Int}, Wf lo xs → lo ≤ y.1 → (∀ x ∈ xs, x.1 + 1 ≤ y.1) → y.1 ≤ 1000000000 → 1 ≤ y.2 → y.2 ≤ 1000000000 → Wf lo (xs ++ [y])
  | [], lo, y, _, h1, _, h2, h3, h4 => ⟨h1, h2, h3, h4, True.intro⟩
  | x :: xs, lo, y, w, _, h, h2, h3, h4 => ⟨w.1, w.2.1, w.2.2.1, w.2.2.2.1, Wf.snoc w.2.2.2.2 (h x (by simp)) (fun z hz => h z (by simp [hz])) h2 h3 h4⟩
theorem pick {m k : Int} {vs : List Int} (hm : m = (vs.length : Int)) (h0 : 0 ≤ k) (h1 : k < m) : ∃ z ∈ vs, atI (vs.map V.int) k = some (.int z) := by
  have hk : k.toNat < vs.length := by omega
  exact ⟨vs[k.toNat], by simp, at_of (j := k.toNat) (by omega) (by simp [hk])⟩
def spStones (K : PySem.W.Frag) : Sp := fun vs H Q _ => ∃ (L a : Addr) (ns : List Int) (m : Int), vs = [.ref L, .int m] ∧ 0 ≤ m ∧ m ≤ 30 ∧ Drw K H L a ns ∧
  ∀ (p : Addr) (us : List V) (xs : List (Int × Int)) (H' : Hp), Drw K H' L a ns → But L H H' → H p = none → H' p = some (.lst us) → StonesAt K H' us xs → Wf 0 xs → Drawn xs → (xs.length : Int) ≤ m → Q (.ref p) H'
section
variable {P : Program} {w : World} {K : PySem.W.Frag} {mg : Str → Option Value} {base : Heap}
theorem ok_stones {f g : Addr} {fd gd : FuncData} (F : Fun K "_law_stones" "_law_stones" s_law_stones f fd) (B : Blt mg) (N : At P w K mg base CX0 1 "_law_taken" ["_law_row_here", "_law_many"] (spTaken K) g gd) :
    FnOk P w K mg base CX0 2 f fd ["_law_row_here", "_law_most"] (spStones K) := by
  refine F.ok sc_law_stones (fun vs H Q E h => ?_) (fun cdv A outer s H vs Q E hr h => ?_)
  · obtain ⟨L, a, ns, m, rfl, _⟩ := h
    rfl
  · obtain ⟨L, a, ns, m, rfl, m0, m1, D, k⟩ := h
    refine ⟨_, pss_cons (ps_par rfl sc_law_stones.nd (i := 2) (j := 3) rfl rfl (by decide) rfl rfl (pa_cons (pe_lst pa_nil) (pa_cons (pe_at N hr (pa_cons (pv 0) (pa_cons (pe_int) pa_nil))) pa_nil)) (by rfl))
      (pss_cons (ps_for PassesOwn.never rfl (pi_range1 (by rfl) B.range (pa_cons (pe_at N hr (pa_cons (pv 0) (pa_cons (pe_op op_add (pv 1) (pe_int)) pa_nil))) pa_nil)) (pg_name (i := 4) sc_law_stones.nd rfl (Or.inl rfl))
        (pss_cons (ps_expr (pe_bm PySem.F.plainAttrs_list PySem.F.slot_list_append PySem.F.type_list_append mt_append (pv 2) (pa_cons (pe_tup (pa_cons (pv 3) (pa_cons (pe_op op_add (pe_int) (pe_at N hr (pa_cons (pv 0) (pa_cons (pe_ix ix_list (pe_lst (pa_cons (pe_int) (pa_cons (pe_int) (pa_cons (pe_int) (pa_cons (pe_int) pa_nil))))) (pe_at N hr (pa_cons (pv 0) (pa_cons (pe_int) pa_nil))) (fun _ _ => rfl)) pa_nil)))) pa_nil))) pa_nil)))
        (pss_one (ps_set (i := 3) sc_law_stones.nd rfl (Or.inl rfl) (pe_op op_add (pe_op op_add (pv 3) (pe_int)) (pe_at N hr (pa_cons (pv 0) (pa_cons (pe_ix ix_list (pe_lst (pa_cons (pe_int) (pa_cons (pe_int) (pa_cons (pe_int) pa_nil)))) (pe_at N hr (pa_cons (pv 0) (pa_cons (pe_int) pa_nil))) (fun _ _ => rfl)) pa_nil))))))))
      (pss_one (ps_ret (pv 2)))), ?_⟩
    refine ⟨by show 0 ≤ sizeLine; decide, fun p np => ?_⟩
    have c0 := D.cell
    have nLp : L ≠ p := let ⟨ys, e⟩ := c0.list; ne_of_none e np
    -- place
    refine ⟨_, rfl, L, a, ns, 3, rfl, by decide, by decide, D.up (same_new np), fun pl H1 p0 p1 D1 b1 => ?_⟩
    have e1 : H1 p = some (.lst []) := b1 _ _ (Ne.symm nLp) upd_same
    have b1' : But L H H1 := (Same.but (same_new np) L).trans b1
    refine ⟨_, _, rfl, ?_⟩
    -- how many
    refine ⟨_, rfl, _, rfl, _, _, rfl, rfl, L, a, ns, m + 1, rfl, by omega, by omega, D1, fun n H2 n0 n1 D2 b2 => ?_⟩
    refine ⟨n, rfl, by omega, by omega, for_range (lo := 0) (n := n.toNat) (fun j σ H3 => ∃ (us : List V) (xs : List (Int × Int)) (pl : Int) (s4 : Option V), σ = [some (.ref L), some (.int m), some (.ref p), some (.int pl), s4] ∧
      Cell H3 L a ∧ But L H H3 ∧ H3 p = some (.lst us) ∧ StonesAt K H3 us xs ∧ Wf 0 xs ∧ xs.length = j ∧ 0 ≤ pl ∧ pl ≤ 2 + 10 * (j : Int) ∧ Drawn xs ∧ (∀ x ∈ xs, x.1 + 1 ≤ pl)) ?_ ?_ ?_⟩
    · exact ⟨[], [], pl, none, rfl, D2.cell, b1'.trans b2, b2 _ _ (Ne.symm nLp) e1, StonesAt.nil, True.intro, rfl, p0, by omega, fun x h => (nomatch h), fun x h => (nomatch h)⟩
    · rintro j σ H3 hj ⟨us, xs, pl, s4, rfl, cl, b3, ep, hS, hw, hl, q0, q1, hd, hlt⟩
      have hj' : (j : Int) < 30 := by omega
      -- the tuple: place, 1 + ..
      refine ⟨_, rfl, .inl ⟨rfl, _, SqL.of ep⟩, ?_⟩
      refine ⟨_, rfl, _, rfl, ?_⟩
      refine ⟨by show 4 ≤ sizeLine; decide, fun l1 nl1 => ?_⟩
      have s4' := same_new (o := .lst [V.int 2, V.int 5, V.int 12, V.int 40]) nl1
      refine ⟨_, rfl, L, a, ns, 4, rfl, by decide, by decide, (D.next b3 cl).up s4', fun k1 H4 k10 k11 D4 b4 => ?_⟩
      obtain ⟨z1, hz1, ez1⟩ := pick (vs := [2, 5, 12, 40]) rfl k10 k11
      have nl1L : l1 ≠ L := fun e => by obtain ⟨ys, q⟩ := cl.list; rw [← e, nl1] at q; cases q
      refine ⟨l1, _, k1, _, rfl, rfl, SqL.of (b4 _ _ nl1L upd_same), ez1, ?_⟩
      have z1b : 1 ≤ z1 ∧ z1 ≤ 40 := by simp at hz1; omega
      refine ⟨L, a, ns, z1, rfl, by omega, by omega, D4, fun h1 H5 h10 h11 D5 b5 => ?_⟩
      refine ⟨_, _, rfl, rfl, by show 2 ≤ sizeLine; decide, fun T nT => ?_⟩
      have b35 : But L H3 H5 := ((Same.but s4' L).trans b4).trans b5
      have ep5 : H5 p = some (.lst us) := b35 _ _ (Ne.symm nLp) ep
      have epT : (upd H5 T (.tup [V.int pl, V.int (1 + h1)])) p = some (.lst us) := same_new nT _ _ ep5
      obtain ⟨ysL, eL⟩ := cl.list
      have hS5 : StonesAt K (upd H5 T (.tup [V.int pl, V.int (1 + h1)])) us xs := (hS.but eL b35).same (same_new nT)
      refine ⟨p, us, _, rfl, rfl, epT, ?_, ?_⟩
      · rw [hS.1, hl, sizeLine_eq]; omega
      have epN : (upd (upd H5 T (.tup [V.int pl, V.int (1 + h1)])) p (.lst (us ++ [.ref T]))) p = some (.lst (us ++ [.ref T])) := upd_same
      have hT : SqT K (upd (upd H5 T (.tup [V.int pl, V.int (1 + h1)])) p (.lst (us ++ [.ref T]))) T [V.int pl, V.int (1 + h1)] := sqT_but (SqT.of upd_same) epT but_upd
      have hSN : StonesAt K (upd (upd H5 T (.tup [V.int pl, V.int (1 + h1)])) p (.lst (us ++ [.ref T]))) (us ++ [.ref T]) (xs ++ [(pl, 1 + h1)]) := (hS5.but epT but_upd).append (StonesAt.one hT)
      have clN : Cell (upd (upd H5 T (.tup [V.int pl, V.int (1 + h1)])) p (.lst (us ++ [.ref T]))) L a := (D5.cell.same (same_new nT)).but but_upd nLp
      have bN : But L H (upd (upd H5 T (.tup [V.int pl, V.int (1 + h1)])) p (.lst (us ++ [.ref T]))) := ((b3.trans b35).new nT).two np but_upd
      generalize hHN : upd (upd H5 T (.tup [V.int pl, V.int (1 + h1)])) p (.lst (us ++ [.ref T])) = HN at epN hSN clN bN
      -- place = place + 1 + ..
      refine ⟨_, rfl, _, _, rfl, rfl, _, rfl, ?_⟩
      refine ⟨by show 3 ≤ sizeLine; decide, fun l2 nl2 => ?_⟩
      have s6 := same_new (o := .lst [V.int 1, V.int 3, V.int 9]) nl2
      refine ⟨_, rfl, L, a, ns, 3, rfl, by decide, by decide, (D.next bN clN).up s6, fun k2 H6 k20 k21 D6 b6 => ?_⟩
      obtain ⟨z2, hz2, ez2⟩ := pick (vs := [1, 3, 9]) rfl k20 k21
      have nl2L : l2 ≠ L := fun e => by obtain ⟨ys, q⟩ := clN.list; rw [← e, nl2] at q; cases q
      refine ⟨l2, _, k2, _, rfl, rfl, SqL.of (b6 _ _ nl2L upd_same), ez2, ?_⟩
      have z2b : 1 ≤ z2 ∧ z2 ≤ 9 := by simp at hz2; omega
      refine ⟨L, a, ns, z2, rfl, by omega, by omega, D6, fun h2 H7 h20 h21 D7 b7 => ?_⟩
      have bN7 : But L HN H7 := ((Same.but s6 L).trans b6).trans b7
      obtain ⟨ysN, eN⟩ := clN.list
      refine ⟨_, _, rfl, rfl, us ++ [.ref T], xs ++ [(pl, 1 + h1)], pl + 1 + h2, _, rfl, D7.cell, bN.trans bN7, bN7 _ _ (Ne.symm nLp) epN, hSN.but eN bN7, ?_, by simp [hl], by omega, by omega, ?_, ?_⟩
      · exact hw.snoc q0 hlt (by show pl ≤ _; omega) (by show 1 ≤ 1 + h1; omega) (by show 1 + h1 ≤ _; omega)
      · intro x hx
        rcases List.mem_append.mp hx with hx | hx
        · exact hd x hx
        · simp at hx; subst hx; exact ⟨q0, by show pl ≤ 1000; omega, by show 1 ≤ 1 + h1; omega, by show 1 + h1 ≤ 40; omega⟩
      · intro x hx
        rcases List.mem_append.mp hx with hx | hx
        · have := hlt x hx; omega
        · simp at hx; subst hx; show pl + 1 ≤ _; omega
    · rintro σ H3 ⟨us, xs, pl, s4, rfl, cl, b3, ep, hS, hw, hl, q0, q1, hd, hlt⟩
      exact ⟨_, rfl, k p us xs H3 (D.next b3 cl) b3 np ep hS hw hd (by omega)⟩
end
/-! ### the law's row, put together one by one -/
theorem toR {P : Program} {w : World} {K : PySem.W.Frag} {mg : Str → Option Value} {base : Heap} {CX : CXT} {k : Nat} {f : Addr} {fd : FuncData} {ps : List Str} {sp : Sp} (F : FnOk P w K mg base CX k f fd ps sp) (b : Binds K fd ps []) : FnR P w K mg base CX k f sp :=
  (F.raw b .nil).imp fun vs H Q E h => by rw [List.append_nil]; exact h
theorem Wf.take : ∀ {xs : List (Int × Int)} {lo : Int} (n : Nat), Wf lo xs → Wf lo (xs.take n)
  | [], _, n, _ => by cases n <;> exact True.intro
  | _ :: _, _, 0, _ => True.intro
  | x :: xs, _, n + 1, w => ⟨w.1, w.2.1, w.2.2.1, w.2.2.2.1, Wf.take n w.2.2.2.2⟩
theorem Wf.low : ∀ {xs : List (Int × Int)} {lo : Int} {k : Nat} {x : Int × Int}, Wf lo xs → xs[k]? = some x → lo ≤ x.1
  | [], _, _, _, _, e => by simp at e
  | z :: xs, lo, 0, x, w, e => by simp at e; subst e; exact w.1
  | z :: xs, lo, k + 1, x, w, e => by
    simp at e
    have h1 := w.1
    have h2 := Wf.low w.2.2.2.2 e
    omega
theorem Wf.sub {xs : List (Int × Int)} {lo : Int} {k : Nat} {x : Int × Int} (h0 : 0 ≤ lo) (w : Wf lo xs) (e : xs[k]? = some x) : Wf 0 [x] := by
  obtain ⟨_, _, h3, h4, h5⟩ := w.get e
  exact ⟨Int.le_trans h0 (w.low e), h3, h4, h5, True.intro⟩
def spRow (K : PySem.W.Frag) (C : Addr) : Sp := fun vs H Q _ => ∃ (q : Addr) (us : List V) (xs : List (Int × Int)), vs = [.ref q] ∧ SqL K H q us ∧ StonesAt K H us xs ∧ Wf 0 xs ∧ xs.length ≤ 40 ∧
  ∀ z H', Same H H' → H z = none → RowAt K C H' z xs → Q (.ref z) H'
theorem seq_of {t u : TS} {D : Ends} {σ : L2.St} {H : Hp} (h : t { D with nx := u D } σ H) : tSeq t u D σ H := h
theorem asg_of {te : TE} {g : TG} {D : Ends} {σ : L2.St} {H : Hp} (h : te σ H fun x H1 => g x σ H1 D.nx) : tAsg te g D σ H := h
theorem mk0 {K : PySem.W.Frag} {C : Addr} {E : XK} {σ : L2.St} {H : Hp} {Q : VK} (h : ∀ z H', Same H H' → H z = none → RowAt K C H' z [] → Q (.ref z) H') : StX.tMakeR C (spMake K C) E tNil σ H Q :=
  fun n1 n2 n3 n4 n5 => make_row (Q := Q) (xs := []) StonesAt.nil True.intro (by decide) h n1 n2 n3 n4 n5
theorem mk1 {K : PySem.W.Frag} {C : Addr} {E : XK} {σ : L2.St} {H : Hp} {Q : VK} {i : Nat} {c : Addr} {x : Int × Int} (e : σ[i]? = some (some (.ref c))) (hx : SqT K H c [.int x.1, .int x.2]) (w : Wf 0 [x]) (h : ∀ z H', Same H H' → H z = none → RowAt K C H' z [x] → Q (.ref z) H') :
    StX.tMakeR C (spMake K C) E (tCons (tVar i) tNil) σ H Q :=
  ⟨_, e, fun n1 n2 n3 n4 n5 => make_row (Q := Q) (xs := [x]) (StonesAt.one hx) w (by simp) h n1 n2 n3 n4 n5⟩
/-- how a sign's def stands in the class -/
structure Sign (K : PySem.W.Frag) (C : Addr) (x : Str) (f : Addr) : Prop where
  at_ : PySem.W.findIn K (.ref C) x = some (some (.ref f))
  fn : PySem.W.isFn K (.ref f) = true
section
variable {P : Program} {w : World} {K : PySem.W.Frag} {mg : Str → Option Value} {base : Heap}
theorem ok_row {f g a C : Addr} {fd : FuncData} (F : Fun K "_law_row" "_law_row" s_law_row f fd) (B : Blt mg) (R : RowC K mg C) (M : Mk K C g) (G : FnR P w K mg base CX0 3 g (spMake K C)) (A1 : FnR P w K mg base CX0 5 a (spAdd K C)) (SA : Sign K C "__add__" a) :
    FnOk P w K mg base CX0 6 f fd ["_law_stones_here"] (spRow K C) := by
  refine F.ok sc_law_row (fun vs H Q E h => ?_) (fun cdv A outer s H vs Q E hr h => ?_)
  · obtain ⟨q, us, xs, rfl, _⟩ := h
    rfl
  · obtain ⟨q, us, xs, rfl, hq, hS, hw, hz, k⟩ := h
    refine ⟨_, pss_cons (ps_set (i := 1) sc_law_row.nd rfl (Or.inl rfl) (Own.pe_makeR0 M G (hr.mono (by decide)) (by rfl) R.mgC pass0))
      (pss_cons (ps_for PassesOwn.never rfl (pi_list (pv 0)) (pg_name (i := 2) sc_law_row.nd rfl (Or.inl rfl))
        (pss_one (ps_set (i := 1) sc_law_row.nd rfl (Or.inl rfl) (pe_op (Own.op_bin (op := .Add) (C := C) (g := a) R.first SA.at_ SA.fn A1 hr pass0) (pv 1) (StX.pe_makeR M G (hr.mono (by decide)) (by rfl) R.mgC pass0 (pa_cons (pv 2) pa_nil))))))
      (pss_one (ps_ret (pv 1)))), ?_⟩
    refine seq_of (asg_of (mk0 fun z0 H1 s1 nz0 r0 => ?_))
    refine ⟨_, rfl, q, rfl, ⟨_, s1.seq hq⟩, for_list (K := K) (a := q) (xs := us) (fun j σ H2 => ∃ (z : Addr) (s2 : Option V), σ = [some (.ref q), some (.ref z), s2] ∧ Same H H2 ∧ H z = none ∧ RowAt K C H2 z (xs.take j)) ?_ ?_ ?_ ?_⟩
    · exact ⟨z0, none, rfl, s1, nz0, by rw [List.take_zero]; exact r0⟩
    · rintro j σ H2 _ ⟨_, _, _, sm, _⟩
      exact sm.seq hq
    · rintro j y σ H2 hy ⟨z, s2, rfl, sm, nz, rz⟩
      have hj : j < xs.length := by rw [← hS.1]; exact (List.getElem?_eq_some_iff.mp hy).1
      obtain ⟨x, hx⟩ : ∃ x, xs[j]? = some x := ⟨xs[j], by simp [hj]⟩
      obtain ⟨c, hc, hsc⟩ := hS.2 j x hx
      obtain rfl : y = V.ref c := Option.some.inj (hy.symm.trans hc)
      refine ⟨_, rfl, mk1 (i := 2) (x := x) rfl (sqT_same hsc sm) (hw.sub (Int.le_refl _) hx) fun z2 H3 s3 nz2 r2 => ?_⟩
      obtain ⟨dx, t, ws, e1, g1, g2⟩ := id (rz.same s3)
      obtain ⟨dy, t', ws', e2, g3, g4⟩ := id r2
      have et : xs.take j ++ [x] = xs.take (j + 1) := by rw [List.take_add_one, hx]; rfl
      refine ⟨z, dx, _, z2, dy, _, rfl, rfl, e1, e2, z, z2, _, _, rfl, rz.same s3, r2, by rw [et]; exact hw.take _, by rw [et]; simp; omega, fun z4 H4 s4 nz4 r4 => ?_⟩
      rw [et] at r4
      exact ⟨z4, _, rfl, (sm.trans s3).trans s4, Same.free (sm.trans s3) nz4, r4⟩
    · rintro σ H2 ⟨z, s2, rfl, sm, nz, rz⟩
      rw [show us.length = xs.length from hS.1, List.take_length] at rz
      exact ⟨_, rfl, k z H2 sm nz rz⟩
end
/-! ### lists of tuples -/
def TupsAt {α : Type} (K : PySem.W.Frag) (H : Hp) (f : α → List V) (vs : List V) (xs : List α) : Prop :=
  vs.length = xs.length ∧ ∀ (k : Nat) (x : α), xs[k]? = some x → ∃ a : Addr, vs[k]? = some (V.ref a) ∧ SqT K H a (f x)
section
variable {α : Type} {K : PySem.W.Frag} {H H' : Hp} {f : α → List V} {vs us : List V} {xs ys : List α}
theorem TupsAt.same (h : TupsAt K H f vs xs) (e : Same H H') : TupsAt K H' f vs xs := ⟨h.1, fun k x q => let ⟨a, q1, q2⟩ := h.2 k x q; ⟨a, q1, sqT_same q2 e⟩⟩
theorem TupsAt.but {l : Addr} {zs : List V} (h : TupsAt K H f vs xs) (hl : H l = some (.lst zs)) (b : But l H H') : TupsAt K H' f vs xs := ⟨h.1, fun k x q => let ⟨a, q1, q2⟩ := h.2 k x q; ⟨a, q1, sqT_but q2 hl b⟩⟩
theorem TupsAt.nil : TupsAt K H f [] [] := ⟨rfl, fun k x q => by simp at q⟩
theorem TupsAt.append (h : TupsAt K H f vs xs) (g : TupsAt K H f us ys) : TupsAt K H f (vs ++ us) (xs ++ ys) := by
  refine ⟨by rw [List.length_append, List.length_append, h.1, g.1], fun k x q => ?_⟩
  by_cases hk : k < xs.length
  · rw [List.getElem?_append_left hk] at q
    rw [List.getElem?_append_left (by rw [h.1]; exact hk)]
    exact h.2 k x q
  · rw [List.getElem?_append_right (by omega)] at q
    rw [List.getElem?_append_right (by rw [h.1]; omega), h.1]
    exact g.2 _ x q
theorem TupsAt.one {a : Addr} {x : α} (h : SqT K H a (f x)) : TupsAt K H f [.ref a] [x] := by
  refine ⟨rfl, fun k y q => ?_⟩
  cases k with
  | zero => simp at q; subst q; exact ⟨a, rfl, h⟩
  | succ k => simp at q
end
/-! ### the fewest pushes -/
abbrev Push := Nat × Bool
def pushV (p : Push) : List V := [.int (p.1 : Nat), .str (sideS p.2)]
def better (xs : List (Int × Int)) (pss : List (List Push)) (l : Nat) (best : List Push) (s : Nat) : List Push :=
  if ((s, true) :: pss.getD s []).length < best.length ∧ l ≤ (run xs s true).2 then (s, true) :: pss.getD s [] else best
def first7 (xs : List (Int × Int)) (pss : List (List Push)) (l : Nat) : List Push := (l, false) :: pss.getD (run xs l false).1 []
def upTo (xs : List (Int × Int)) (pss : List (List Push)) (l : Nat) : List Push := (List.range (l + 1)).foldl (better xs pss l) (first7 xs pss l)
def fam (xs : List (Int × Int)) : Nat → List (List Push)
  | 0 => [[]]
  | k + 1 => fam xs k ++ [upTo xs (fam xs k) k]
theorem fam_len (xs : List (Int × Int)) : ∀ k, (fam xs k).length = k + 1
  | 0 => rfl
  | k + 1 => by rw [fam, List.length_append, fam_len xs k]; rfl
theorem run_left_le {xs : List (Int × Int)} {i : Nat} : (run xs i false).1 ≤ i := by
  unfold run
  show i - _ ≤ i
  omega
theorem fam_short (xs : List (Int × Int)) : ∀ k j, j ≤ k → ((fam xs k).getD j []).length ≤ j
  | 0, 0, _ => by simp [fam]
  | k + 1, j, h => by
    unfold fam
    by_cases hj : j ≤ k
    · rw [List.getD_eq_getElem?_getD, List.getElem?_append_left (by rw [fam_len]; omega), ← List.getD_eq_getElem?_getD]
      exact fam_short xs k j hj
    · obtain rfl : j = k + 1 := by omega
      rw [List.getD_eq_getElem?_getD, List.getElem?_append_right (by rw [fam_len]; omega), fam_len, Nat.sub_self]
      show (upTo xs (fam xs k) k).length ≤ k + 1
      have h0 : (first7 xs (fam xs k) k).length ≤ k + 1 := by
        unfold first7
        have := fam_short xs k (run xs k false).1 run_left_le
        have := run_left_le (xs := xs) (i := k)
        rw [List.length_cons]
        omega
      have gen : ∀ (ss : List Nat) (b : List Push), b.length ≤ k + 1 → (ss.foldl (better xs (fam xs k) k) b).length ≤ k + 1 := by
        intro ss
        induction ss with
        | nil => intro b hb; exact hb
        | cons s ss ih =>
          intro b hb
          refine ih _ ?_
          unfold better
          split
          · rename_i hc; omega
          · exact hb
      exact gen _ _ h0
def fewest (xs : List (Int × Int)) : List Push := (fam xs xs.length).getD xs.length []
/-- a list of lists of pushes -/
def FamAt (K : PySem.W.Frag) (G : Addr → Prop) (H : Hp) (pf : Addr) (pss : List (List Push)) : Prop := ∃ us : List V, H pf = some (.lst us) ∧ us.length = pss.length ∧
  ∀ (k : Nat) (ps : List Push), pss[k]? = some ps → ∃ (a : Addr) (vs : List V), us[k]? = some (.ref a) ∧ (G a ∧ a ≠ pf) ∧ H a = some (.lst vs) ∧ TupsAt K H pushV vs ps
theorem FamAt.same {K : PySem.W.Frag} {G : Addr → Prop} {H H' : Hp} {pf : Addr} {pss : List (List Push)} (h : FamAt K G H pf pss) (e : Same H H') : FamAt K G H' pf pss := by
  obtain ⟨us, h1, h2, h3⟩ := h
  refine ⟨us, e _ _ h1, h2, fun k ps q => ?_⟩
  obtain ⟨a, vs, q1, q2, q3, q4⟩ := h3 k ps q
  exact ⟨a, vs, q1, q2, e _ _ q3, q4.same e⟩
def spUpTo (K : PySem.W.Frag) (C : Addr) : Sp := fun vs H Q _ => ∃ (p pf : Addr) (xs : List (Int × Int)) (l : Nat), vs = [.ref p, .int (l : Nat), .ref pf] ∧ RowAt K C H p xs ∧ l < xs.length ∧ xs.length ≤ 40 ∧ (∃ G, FamAt K G H pf (fam xs l)) ∧
  ∀ z us H', Same H H' → H z = none → H' z = some (.lst us) → TupsAt K H' pushV us (upTo xs (fam xs l) l) → Q (.ref z) H'
def spFewest (K : PySem.W.Frag) (C : Addr) : Sp := fun vs H Q _ => ∃ p xs, vs = [.ref p] ∧ RowAt K C H p xs ∧ xs.length ≤ 40 ∧
  ∀ z us H', Same H H' → H z = none → H' z = some (.lst us) → TupsAt K H' pushV us (fewest xs) → Q (.ref z) H'
theorem getD_some {α : Type} {l : List α} {k : Nat} {d : α} (h : k < l.length) : l[k]? = some (l.getD k d) := by
  rw [List.getD_eq_getElem?_getD, List.getElem?_eq_getElem h]
  rfl
/-- [(s, side)] + pushes_for[s], read -/
theorem cat_reads {K : PySem.W.Frag} {σ : L2.St} {H : Hp} {Q : VK} {i j n s l : Nat} {b : Bool} {pf : Addr} {xs : List (Int × Int)} {m : Nat} {G : Addr → Prop} (hi : σ[i]? = some (some (.int (m : Nat)))) (hj : σ[j]? = some (some (.ref pf))) (hn : σ[n]? = some (some (.int (s : Nat))))
    (hF : FamAt K G H pf (fam xs l)) (hs : s ≤ l) (hl : l ≤ 1000) (k : ∀ z us H2, Same H H2 → H z = none → H2 z = some (.lst us) → TupsAt K H2 pushV us ((m, b) :: (fam xs l).getD s []) → Q (.ref z) H2) :
    tOp rCat (tLst (tCons (tTup (tCons (tVar i) (tCons (tC (.str (sideS b))) tNil))) tNil)) (tOp (rIxL K) (tVar j) (tVar n)) σ H Q := by
  refine ⟨_, hi, by show 2 ≤ sizeLine; decide, fun T nT => ⟨by show 1 ≤ sizeLine; decide, fun q nq => ?_⟩⟩
  have s1 := same_new (o := .tup [.int (m : Nat), .str (sideS b)]) nT
  have s2 := s1.trans (same_new (o := .lst [.ref T]) nq)
  obtain ⟨us, h1, h2, h3⟩ := hF
  obtain ⟨a, vs, q1, q2, q3, q4⟩ := h3 s _ (getD_some (d := []) (by rw [fam_len]; omega))
  refine ⟨_, hj, _, hn, pf, us, _, _, rfl, rfl, SqL.of (s2 _ _ h1), atI_nat q1, q, a, [.ref T], vs, rfl, rfl, upd_same, s2 _ _ q3, ?_, fun z nz => ?_⟩
  · rw [q4.1, sizeLine_eq]
    have := fam_short xs l s hs
    show 1 + _ ≤ _
    omega
  · have s3 := s2.trans (same_new (o := .lst ([.ref T] ++ vs)) nz)
    have hT : SqT K (upd (upd (upd H T (.tup [.int (m : Nat), .str (sideS b)])) q (.lst [.ref T])) z (.lst ([.ref T] ++ vs))) T (pushV (m, b)) :=
      sqT_same (sqT_same (SqT.of upd_same) (same_new nq)) (same_new nz)
    exact k z _ _ s3 (Same.free s2 nz) upd_same ((TupsAt.one (x := (m, b)) hT).append (q4.same s3))
section
variable {P : Program} {w : World} {K : PySem.W.Frag} {mg : Str → Option Value} {base : Heap}
theorem ok_upTo {f g C : Addr} {fd : FuncData} (F : Fun K "_fewest_up_to" "_fewest_up_to" s_fewest_up_to f fd) (B : Blt mg) (RC : StX.CallO K C g) (GC : FnR P w K mg base CX0 3 g (spCall K C)) :
    FnOk P w K mg base CX0 4 f fd ["row", "last", "pushes_for"] (spUpTo K C) := by
  refine F.ok sc_fewest_up_to (fun vs H Q E h => ?_) (fun cdv A outer s H vs Q E hr h => ?_)
  · obtain ⟨p, pf, xs, l, rfl, _⟩ := h
    rfl
  · obtain ⟨p, pf, xs, l, rfl, hR, hl, hz, ⟨G, hF⟩, k⟩ := h
    refine ⟨_, pss_cons (ps_asg (StX.pe_callO (pv 0) RC GC hr pass0 (pa_cons (pv 1) (pa_cons (pe_str) pa_nil))) (pg_tup rfl (pgs_cons (pg_name (i := 3) sc_fewest_up_to.nd rfl (Or.inl rfl)) (pgs_cons (pg_name (i := 4) sc_fewest_up_to.nd rfl (Or.inl rfl)) pgs_nil))))
      (pss_cons (ps_set (i := 5) sc_fewest_up_to.nd rfl (Or.inl rfl) (pe_op op_cat (pe_lst (pa_cons (pe_tup (pa_cons (pv 1) (pa_cons (pe_str) pa_nil))) pa_nil)) (pe_ix ix_list (pv 2) (pv 3) (fun _ _ => rfl))))
      (pss_cons (ps_for PassesOwn.never rfl (pi_range1 (by rfl) B.range (pa_cons (pe_op op_add (pv 1) (pe_int)) pa_nil)) (pg_name (i := 6) sc_fewest_up_to.nd rfl (Or.inl rfl))
        (pss_cons (ps_set (i := 7) sc_fewest_up_to.nd rfl (Or.inl rfl) (pe_op op_cat (pe_lst (pa_cons (pe_tup (pa_cons (pv 6) (pa_cons (pe_str) pa_nil))) pa_nil)) (pe_ix ix_list (pv 2) (pv 6) (fun _ _ => rfl))))
        (pss_one (ps_if (PW.pt (pw_and (pt_cmpR (op_lt) (pe_callB call_len_seq (by rfl) B.len PySem.boot_len (pa_cons (pv 7) pa_nil)) (pe_callB call_len_seq (by rfl) B.len PySem.boot_len (pa_cons (pv 5) pa_nil)) (nomark _)) (pw_and1 (pt_cmpR (op_ge) (pe_ix ix_tup (StX.pe_callO (pv 0) RC GC hr pass0 (pa_cons (pv 6) (pa_cons (pe_str) pa_nil))) (pe_int) (fun _ _ => rfl)) (pv 1) (nomark _))))) (pss_one (ps_set (i := 5) sc_fewest_up_to.nd rfl (Or.inl rfl) (pv 7))) pss_nil))))
      (pss_one (ps_ret (pv 5))))), ?_⟩
    have ins : ∀ {H' : Hp}, Same H H' → ∃ dx fs, H' p = some (.ins C dx fs) := fun e => let ⟨dx, t, us, h1, _⟩ := hR; ⟨dx, _, e _ _ h1⟩
    -- first, _ = row(last, "left")
    refine ⟨_, rfl, p, rfl, _, rfl, .inr (ins (Same.refl _)), p, xs, l, false, rfl, hR, hl, hz, fun T1 H1 s1 n1 e1 => ?_⟩
    refine ⟨T1, _, rfl, SqT.of e1, rfl, _, _, rfl, _, _, rfl, rfl, ?_⟩
    -- best
    have hfl : (run xs l false).1 ≤ l := run_left_le
    refine seq_of (asg_of (cat_reads (i := 1) (j := 2) (n := 3) (b := false) rfl rfl rfl (hF.same s1) hfl (by omega) fun z0 u0 H2 s2 n2 e2 t2 => ?_))
    have s12 := s1.trans s2
    refine ⟨_, rfl, _, _, rfl, rfl, (l : Int) + 1, rfl, by omega, by omega, for_range (lo := 0) (n := ((l : Int) + 1).toNat) (fun j σ H3 => ∃ (z : Addr) (us : List V) (s6 s7 : Option V),
      σ = [some (.ref p), some (.int (l : Nat)), some (.ref pf), some (.int ((run xs l false).1 : Nat)), some (.int ((run xs l false).2 : Nat)), some (.ref z), s6, s7] ∧ Same H H3 ∧ H z = none ∧ H3 z = some (.lst us) ∧
      TupsAt K H3 pushV us ((List.range j).foldl (better xs (fam xs l) l) (first7 xs (fam xs l) l))) ?_ ?_ ?_⟩
    · exact ⟨z0, u0, none, none, rfl, s12, Same.free s1 n2, e2, t2⟩
    · rintro j σ H3 hj ⟨z, us, s6, s7, rfl, sm, nz, ez, tz⟩
      have hjl : j ≤ l := by omega
      have ej : (0 : Int) + (j : Nat) = (j : Nat) := by omega
      rw [ej]
      refine seq_of (asg_of (cat_reads (i := 6) (j := 2) (n := 6) (b := true) rfl rfl rfl (hF.same sm) hjl (by omega) fun z1 u1 H4 s4 n4 e4 t4 => ?_))
      have ez4 := s4 _ _ ez
      -- len(pushes) < len(best)
      refine ⟨_, rfl, z1, u1, rfl, .inl (SqL.of e4), _, rfl, z, us, rfl, .inl (SqL.of ez4), _, _, rfl, rfl, _, rfl, ?_⟩
      have el : ∀ b : Bool, (decide ((u1.length : Int) < (us.length : Int)) = b) → (b = true ↔ ((j, true) :: (fam xs l).getD j []).length < ((List.range j).foldl (better xs (fam xs l) l) (first7 xs (fam xs l) l)).length) := by
        intro b hb
        rw [← t4.1, ← tz.1, ← hb, decide_eq_true_eq]
        omega
      rw [List.range_succ, List.foldl_append] at *
      have sm4 : Same H H4 := sm.trans s4
      cases hb : decide ((u1.length : Int) < (us.length : Int)) with
      | false =>
        refine iteF ?_
        refine iteF ⟨z, us, _, _, rfl, sm4, nz, ez4, ?_⟩
        have : ¬ ((j, true) :: (fam xs l).getD j []).length < ((List.range j).foldl (better xs (fam xs l) l) (first7 xs (fam xs l) l)).length := fun q => by
          have := (el false hb).mpr q
          cases this
        show TupsAt K H4 pushV us (better xs (fam xs l) l _ j)
        unfold better
        rw [if_neg (fun q => this q.1)]
        exact tz.same s4
      | true =>
        have lt := (el true hb).mp rfl
        refine iteT ⟨_, rfl, p, rfl, _, rfl, .inr (ins sm4), p, xs, j, true, rfl, hR.same sm4, by omega, hz, fun T5 H5 s5 n5 e5 => ?_⟩
        refine ⟨T5, _, ((1 : Nat) : Int), _, rfl, rfl, SqT.of e5, atI_nat (j := 1) rfl, _, rfl, _, _, rfl, rfl, _, rfl, ?_⟩
        have sm5 : Same H H5 := sm4.trans s5
        refine ite2 (fun q => ?_) (fun q => ?_)
        · have q' : l ≤ (run xs j true).2 := by have := of_decide_eq_true q; omega
          refine ⟨_, rfl, z1, u1, _, _, rfl, sm5, Same.free sm n4, s5 _ _ e4, ?_⟩
          show TupsAt K H5 pushV u1 (better xs (fam xs l) l _ j)
          unfold better
          rw [if_pos ⟨lt, q'⟩]
          exact t4.same s5
        · have q' : ¬ l ≤ (run xs j true).2 := fun z => q (decide_eq_true (by omega))
          refine ⟨z, us, _, _, rfl, sm5, nz, s5 _ _ ez4, ?_⟩
          show TupsAt K H5 pushV us (better xs (fam xs l) l _ j)
          unfold better
          rw [if_neg (fun q => q' q.2)]
          exact (tz.same s4).same s5
    · rintro σ H3 ⟨z, us, s6, s7, rfl, sm, nz, ez, tz⟩
      exact ⟨_, rfl, k z us H3 sm nz ez tz⟩
end
theorem FamAt.snoc {K : PySem.W.Frag} {G : Addr → Prop} {H : Hp} {pf z : Addr} {pss : List (List Push)} {us zs : List V} {ps : List Push} (h : FamAt K G H pf pss) (gz : G z) (hu : H pf = some (.lst us)) (hz : H z = some (.lst zs)) (ne : z ≠ pf) (t : TupsAt K H pushV zs ps) :
    FamAt K G (upd H pf (.lst (us ++ [.ref z]))) pf (pss ++ [ps]) := by
  obtain ⟨us', h1, h2, h3⟩ := h
  rw [hu] at h1
  injection h1 with h1
  injection h1 with h1
  subst h1
  refine ⟨us ++ [.ref z], upd_same, by rw [List.length_append, List.length_append, h2]; rfl, fun k q hk => ?_⟩
  by_cases hlt : k < pss.length
  · rw [List.getElem?_append_left hlt] at hk
    obtain ⟨a, vs, q1, q2, q3, q4⟩ := h3 k q hk
    exact ⟨a, vs, by rw [List.getElem?_append_left (by omega)]; exact q1, q2, by rw [upd_ne q2.2]; exact q3, q4.but hu but_upd⟩
  · have e : k = pss.length := by
      have := (List.getElem?_eq_some_iff.mp hk).1
      simp at this
      omega
    subst e
    rw [List.getElem?_append_right (Nat.le_refl _), Nat.sub_self] at hk
    obtain rfl : ps = q := Option.some.inj hk
    exact ⟨z, zs, by rw [← h2, List.getElem?_append_right (Nat.le_refl _), Nat.sub_self]; rfl, ⟨gz, ne⟩, by rw [upd_ne ne]; exact hz, t.but hu but_upd⟩
theorem lenR {P : Program} {w : World} {K : PySem.W.Frag} {mg : Str → Option Value} {base : Heap} {C f : Addr} {fd : FuncData} (F : FnOk P w K mg base CX0 1 f fd ["self"] (spLen K C)) (b : Binds K fd ["self"] []) : FnR P w K mg base CX0 1 f (spLen K C) := toR F b
section
variable {P : Program} {w : World} {K : PySem.W.Frag} {mg : Str → Option Value} {base : Heap}
theorem ok_fewest {f g gl C : Addr} {fd gd : FuncData} (F : Fun K "fewest_pushes" "fewest_pushes" s_fewest_pushes f fd) (B : Blt mg) (SL : Sign K C "__len__" gl) (GL : FnR P w K mg base CX0 1 gl (spLen K C)) (N : At P w K mg base CX0 4 "_fewest_up_to" ["row", "last", "pushes_for"] (spUpTo K C) g gd) :
    FnOk P w K mg base CX0 5 f fd ["row"] (spFewest K C) := by
  refine F.ok sc_fewest_pushes (fun vs H Q E h => ?_) (fun cdv A outer s H vs Q E hr h => ?_)
  · obtain ⟨p, xs, rfl, _⟩ := h
    rfl
  · obtain ⟨p, xs, rfl, hR, hz, k⟩ := h
    refine ⟨_, pss_cons (ps_set (i := 1) sc_fewest_pushes.nd rfl (Or.inl rfl) (pe_lst (pa_cons (pe_lst pa_nil) pa_nil)))
      (pss_cons (ps_for PassesOwn.never rfl (pi_range1 (by rfl) B.range (pa_cons (pe_callB (Own.call_len SL.at_ SL.fn GL (hr.mono (by decide)) pass0) (by rfl) B.len PySem.boot_len (pa_cons (pv 0) pa_nil)) pa_nil)) (pg_name (i := 2) sc_fewest_pushes.nd rfl (Or.inl rfl))
        (pss_one (ps_expr (pe_bm PySem.F.plainAttrs_list PySem.F.slot_list_append PySem.F.type_list_append mt_append (pv 1) (pa_cons (pe_at N hr (pa_cons (pv 0) (pa_cons (pv 2) (pa_cons (pv 1) pa_nil)))) pa_nil)))))
      (pss_one (ps_ret (pe_ix ix_list (pv 1) (pe_un un_neg pe_int) (fun _ _ => rfl))))), ?_⟩
    refine ⟨by show 0 ≤ sizeLine; decide, fun e0 ne0 => ⟨by show 1 ≤ sizeLine; decide, fun pf npf => ?_⟩⟩
    have s1 := same_new (o := .lst []) ne0
    have s2 := s1.trans (same_new (o := .lst [.ref e0]) npf)
    have nef : e0 ≠ pf := ne_of_none upd_same npf
    have nf : H pf = none := Same.free s1 npf
    obtain ⟨dx, t, us, ep, _⟩ := id hR
    refine ⟨_, rfl, p, dx, _, rfl, s2 _ _ ep, p, xs, rfl, hR.same s2, _, rfl, by omega, by omega, (xs.length : Int), rfl, by omega, by omega, for_range (lo := 0) (n := ((xs.length : Int)).toNat) (fun j σ H3 => ∃ (s3 : Option V),
      σ = [some (.ref p), some (.ref pf), s3] ∧ But pf H H3 ∧ FamAt K (fun a => H a = none) H3 pf (fam xs j)) ?_ ?_ ?_⟩
    · refine ⟨none, rfl, (Same.but s1 pf).trans but_upd, ?_⟩
      refine ⟨[.ref e0], upd_same, rfl, fun k ps hk => ?_⟩
      cases k with
      | zero =>
        obtain rfl : [] = ps := Option.some.inj hk
        exact ⟨e0, [], rfl, ⟨ne0, nef⟩, by rw [upd_ne nef]; exact upd_same, TupsAt.nil⟩
      | succ k => simp [fam] at hk
    · rintro j σ H3 hj ⟨s3, rfl, b, hF⟩
      have hj' : j < xs.length := by omega
      have sm : Same H H3 := But.same b nf
      obtain ⟨us3, eu, lu, _⟩ := id hF
      have ej : (0 : Int) + (j : Nat) = (j : Nat) := by omega
      rw [ej]
      refine ⟨_, rfl, .inl ⟨rfl, _, SqL.of eu⟩, _, rfl, _, rfl, _, rfl, p, pf, xs, j, rfl, hR.same sm, hj', hz, ⟨_, hF⟩, fun z zs H4 s4 nz ez tz => ?_⟩
      have eu4 := s4 _ _ eu
      have nzf : z ≠ pf := fun q => by rw [q, eu] at nz; cases nz
      refine ⟨pf, us3, _, rfl, rfl, eu4, by rw [lu, fam_len, sizeLine_eq]; omega, ?_⟩
      exact ⟨_, rfl, (b.trans (Same.but s4 pf)).trans but_upd, (hF.same s4).snoc (Same.free sm nz) eu4 ez nzf tz⟩
    · rintro σ H3 ⟨s3, rfl, b, hF⟩
      have en : ((xs.length : Int)).toNat = xs.length := by omega
      rw [en] at hF
      obtain ⟨us3, eu, lu, h3⟩ := hF
      obtain ⟨z, zs, q1, q2, q3, q4⟩ := h3 xs.length _ (getD_some (d := []) (by rw [fam_len]; omega))
      have hl : us3.length = xs.length + 1 := by rw [lu, fam_len]
      have last : atI us3 (-1) = some (.ref z) := by
        have e : us3 = us3.take xs.length ++ [.ref z] := by
          conv => lhs; rw [← List.take_append_drop xs.length us3]
          rw [drop_get q1, List.drop_of_length_le (by omega)]
        rw [e]
        exact atI_last _ _
      refine ⟨_, rfl, 1, rfl, pf, us3, -1, _, rfl, rfl, SqL.of eu, last, ?_⟩
      exact k z zs H3 (But.same b nf) q2.1 q3 q4
end
/-! ### hit by hit: mathematics -/
def far (x y : Int × Int) (r : Bool) : Int := if r then y.1 - x.1 else x.1 - y.1
def hitB (xs : List (Int × Int)) (r : Bool) (m o : Nat) : Bool := match xs[m]?, xs[o]? with
  | some x, some y => decide (0 < far x y r) && decide (far x y r ≤ x.2)
  | _, _ => false
abbrev Wave := List (Nat × Nat) × List Nat
def stepIn (xs : List (Int × Int)) (r : Bool) (t m : Nat) (st : Wave) (o : Nat) : Wave := if hitB xs r m o = true ∧ o ∉ st.1.map (·.1) then (st.1 ++ [(o, t)], st.2 ++ [o]) else st
def stepLv (xs : List (Int × Int)) (S : List Nat) (r : Bool) (t : Nat) (st : Wave) (m : Nat) : Wave := S.foldl (stepIn xs r t m) st
def level (xs : List (Int × Int)) (S : List Nat) (r : Bool) (t : Nat) (st : Wave) : Wave := st.2.foldl (stepLv xs S r t) (st.1, [])
def iter (xs : List (Int × Int)) (S : List Nat) (r : Bool) (i : Nat) : Nat → Wave
  | 0 => ([(i, 0)], [i])
  | t + 1 => level xs S r (t + 1) (iter xs S r i t)
structure Prog (xs : List (Int × Int)) (r : Bool) (fs : List (Nat × Nat)) (t : Nat) (D : Nat → Nat → Prop) (st : Wave) : Prop where
  eq : st.1 = fs ++ st.2.map fun o => (o, t)
  nd : (st.1.map (·.1)).Nodup
  wh : ∀ o ∈ st.2, ∃ m, D m o ∧ hitB xs r m o = true
  al : ∀ m o, D m o → hitB xs r m o = true → o ∈ st.1.map (·.1)
theorem Prog.step {xs : List (Int × Int)} {r : Bool} {fs : List (Nat × Nat)} {t m o : Nat} {D : Nat → Nat → Prop} {st : Wave} (h : Prog xs r fs t D st) : Prog xs r fs t (fun m' o' => D m' o' ∨ (m' = m ∧ o' = o)) (stepIn xs r t m st o) := by
  unfold stepIn
  split
  · rename_i hc
    refine ⟨?_, ?_, ?_, ?_⟩
    · show st.1 ++ [(o, t)] = fs ++ (st.2 ++ [o]).map fun o => (o, t)
      rw [h.eq]; simp
    · show ((st.1 ++ [(o, t)]).map (·.1)).Nodup
      rw [List.map_append, List.nodup_append]
      refine ⟨h.nd, by simp, ?_⟩
      intro a ha b hb e
      simp at hb
      subst hb e
      exact hc.2 ha
    · intro o' ho'
      rcases List.mem_append.mp ho' with z | z
      · obtain ⟨m', h1, h2⟩ := h.wh o' z
        exact ⟨m', .inl h1, h2⟩
      · simp at z
        subst z
        exact ⟨m, .inr ⟨rfl, rfl⟩, hc.1⟩
    · intro m' o' hd hh
      show o' ∈ (st.1 ++ [(o, t)]).map (·.1)
      rw [List.map_append]
      rcases hd with hd | ⟨rfl, rfl⟩
      · exact List.mem_append_left _ (h.al m' o' hd hh)
      · exact List.mem_append_right _ (by simp)
  · rename_i hc
    refine ⟨h.eq, h.nd, fun o' ho' => ?_, fun m' o' hd hh => ?_⟩
    · obtain ⟨m', h1, h2⟩ := h.wh o' ho'
      exact ⟨m', .inl h1, h2⟩
    · rcases hd with hd | ⟨rfl, rfl⟩
      · exact h.al m' o' hd hh
      · exact Classical.byContradiction fun z => hc ⟨hh, z⟩
theorem Prog.imp {xs : List (Int × Int)} {r : Bool} {fs : List (Nat × Nat)} {t : Nat} {D D' : Nat → Nat → Prop} {st : Wave} (h : Prog xs r fs t D st) (e : ∀ m o, D m o ↔ D' m o) : Prog xs r fs t D' st :=
  ⟨h.eq, h.nd, fun o ho => let ⟨m, h1, h2⟩ := h.wh o ho; ⟨m, (e m o).mp h1, h2⟩, fun m o hd => h.al m o ((e m o).mpr hd)⟩
theorem Prog.row {xs : List (Int × Int)} {r : Bool} {fs : List (Nat × Nat)} {t m : Nat} : ∀ (S : List Nat) {D : Nat → Nat → Prop} {st : Wave}, Prog xs r fs t D st → Prog xs r fs t (fun m' o' => D m' o' ∨ (m' = m ∧ o' ∈ S)) (S.foldl (stepIn xs r t m) st)
  | [], D, st, h => h.imp fun m' o' => by simp
  | o :: S, D, st, h => (Prog.row S (h.step (m := m) (o := o))).imp fun m' o' => by
      simp only [List.mem_cons]
      constructor
      · rintro ((h | ⟨a, b⟩) | ⟨a, b⟩)
        · exact .inl h
        · exact .inr ⟨a, .inl b⟩
        · exact .inr ⟨a, .inr b⟩
      · rintro (h | ⟨a, b | b⟩)
        · exact .inl (.inl h)
        · exact .inl (.inr ⟨a, b⟩)
        · exact .inr ⟨a, b⟩
theorem Prog.all {xs : List (Int × Int)} {S : List Nat} {r : Bool} {fs : List (Nat × Nat)} {t : Nat} : ∀ (lv : List Nat) {D : Nat → Nat → Prop} {st : Wave}, Prog xs r fs t D st → Prog xs r fs t (fun m' o' => D m' o' ∨ (m' ∈ lv ∧ o' ∈ S)) (lv.foldl (stepLv xs S r t) st)
  | [], D, st, h => h.imp fun m' o' => by simp
  | m :: lv, D, st, h => (Prog.all lv (h.row (m := m) S)).imp fun m' o' => by
      simp only [List.mem_cons]
      constructor
      · rintro ((h | ⟨a, b⟩) | ⟨a, b⟩)
        · exact .inl h
        · exact .inr ⟨.inl a, b⟩
        · exact .inr ⟨.inr a, b⟩
      · rintro (h | ⟨a | a, b⟩)
        · exact .inl (.inl h)
        · exact .inl (.inr ⟨a, b⟩)
        · exact .inr ⟨a, b⟩
theorem level_spec {xs : List (Int × Int)} {S : List Nat} {r : Bool} {fs : List (Nat × Nat)} {lv : List Nat} {t : Nat} (nd : (fs.map (·.1)).Nodup) :
    (level xs S r t (fs, lv)).1 = fs ++ (level xs S r t (fs, lv)).2.map (fun o => (o, t)) ∧ ((level xs S r t (fs, lv)).1.map (·.1)).Nodup ∧
    ∀ o, o ∈ (level xs S r t (fs, lv)).2 ↔ (o ∉ fs.map (·.1) ∧ o ∈ S ∧ ∃ m ∈ lv, hitB xs r m o = true) := by
  have p0 : Prog xs r fs t (fun _ _ => False) (fs, []) := ⟨by simp, nd, fun o h => (nomatch h), fun m o h => h.elim⟩
  have p := (Prog.all (S := S) lv p0)
  have e : lv.foldl (stepLv xs S r t) (fs, []) = level xs S r t (fs, lv) := rfl
  rw [e] at p
  refine ⟨p.eq, p.nd, fun o => ⟨fun h => ?_, fun ⟨h1, h2, m, h3, h4⟩ => ?_⟩⟩
  · obtain ⟨m, hd, hh⟩ := p.wh o h
    rcases hd with hd | ⟨hm, hS⟩
    · exact hd.elim
    · refine ⟨fun hf => ?_, hS, m, hm, hh⟩
      have nd2 := p.nd
      rw [p.eq, List.map_append, List.nodup_append] at nd2
      refine nd2.2.2 o hf o ?_ rfl
      rw [List.map_map]
      exact List.mem_map.mpr ⟨o, h, rfl⟩
  · have := p.al m o (.inr ⟨h3, h2⟩) h4
    rw [p.eq, List.map_append, List.mem_append] at this
    rcases this with z | z
    · exact absurd z h1
    · rw [List.map_map] at z
      obtain ⟨o', z1, z2⟩ := List.mem_map.mp z
      have : o' = o := z2
      rw [← this]
      exact z1
/-- reached within so many ticks -/
def RB (xs : List (Int × Int)) (S : List Nat) (r : Bool) (i : Nat) : Nat → Nat → Prop
  | 0, j => j = i
  | t + 1, j => RB xs S r i t j ∨ ∃ m, RB xs S r i t m ∧ j ∈ S ∧ hitB xs r m j = true
/-- reached first in this tick -/
def Fst (xs : List (Int × Int)) (S : List Nat) (r : Bool) (i u j : Nat) : Prop := RB xs S r i u j ∧ ∀ v, v < u → ¬ RB xs S r i v j
section
variable {xs : List (Int × Int)} {S : List Nat} {r : Bool} {i : Nat}
theorem RB.up {t u j : Nat} (h : RB xs S r i t j) (e : t ≤ u) : RB xs S r i u j := by
  induction u with
  | zero =>
    obtain rfl : t = 0 := by omega
    exact h
  | succ u ih =>
    by_cases q : t = u + 1
    · rw [← q]; exact h
    · exact .inl (ih (by omega))
theorem RB.first {t j : Nat} (h : RB xs S r i t j) : ∃ u, u ≤ t ∧ Fst xs S r i u j := by
  induction t using Nat.strongRecOn with
  | ind t ih =>
    by_cases q : ∃ v, v < t ∧ RB xs S r i v j
    · obtain ⟨v, h1, h2⟩ := q
      obtain ⟨u, h3, h4⟩ := ih v h1 h2
      exact ⟨u, by omega, h4⟩
    · exact ⟨t, Nat.le_refl _, h, fun v hv z => q ⟨v, hv, z⟩⟩
theorem Fst.eq {u v j : Nat} (a : Fst xs S r i u j) (b : Fst xs S r i v j) : u = v := by
  rcases Nat.lt_trichotomy u v with h | h | h
  · exact absurd a.1 (b.2 u h)
  · exact h
  · exact absurd b.1 (a.2 v h)
theorem iter_spec (t : Nat) : ((iter xs S r i t).1.map (·.1)).Nodup ∧ (∀ j u, (j, u) ∈ (iter xs S r i t).1 ↔ u ≤ t ∧ Fst xs S r i u j) ∧ ∀ j, j ∈ (iter xs S r i t).2 ↔ Fst xs S r i t j := by
  induction t with
  | zero =>
    refine ⟨by simp [iter], fun j u => ?_, fun j => ?_⟩
    · show (j, u) ∈ [(i, 0)] ↔ _
      rw [List.mem_singleton, Prod.mk.injEq]
      constructor
      · rintro ⟨rfl, rfl⟩
        exact ⟨Nat.le_refl _, rfl, fun v h => absurd h (Nat.not_lt_zero _)⟩
      · rintro ⟨h, h1, _⟩
        obtain rfl : u = 0 := by omega
        exact ⟨h1, rfl⟩
    · show j ∈ [i] ↔ _
      rw [List.mem_singleton]
      exact ⟨fun h => ⟨h, fun v h => absurd h (Nat.not_lt_zero _)⟩, fun h => h.1⟩
  | succ t ih =>
    obtain ⟨nd, hf, hl⟩ := ih
    have e : iter xs S r i (t + 1) = level xs S r (t + 1) ((iter xs S r i t).1, (iter xs S r i t).2) := rfl
    obtain ⟨q1, q2, q3⟩ := level_spec (xs := xs) (S := S) (r := r) (t := t + 1) (lv := (iter xs S r i t).2) nd
    rw [← e] at q1 q2 q3
    have key : ∀ j, j ∈ (iter xs S r i t).1.map (·.1) ↔ RB xs S r i t j := by
      intro j
      constructor
      · intro h
        obtain ⟨⟨j', u⟩, h1, rfl⟩ := List.mem_map.mp h
        obtain ⟨h2, h3⟩ := (hf j' u).mp h1
        exact h3.1.up h2
      · intro h
        obtain ⟨u, h1, h2⟩ := h.first
        exact List.mem_map.mpr ⟨(j, u), (hf j u).mpr ⟨h1, h2⟩, rfl⟩
    have lv : ∀ j, j ∈ (iter xs S r i (t + 1)).2 ↔ Fst xs S r i (t + 1) j := by
      intro j
      rw [q3 j, key j]
      constructor
      · rintro ⟨h1, h2, m, h3, h4⟩
        exact ⟨.inr ⟨m, ((hl m).mp h3).1, h2, h4⟩, fun v hv z => h1 (z.up (by omega))⟩
      · rintro ⟨h1, h2⟩
        have n := h2 t (Nat.lt_succ_self _)
        rcases h1 with h1 | ⟨m, h3, h4, h5⟩
        · exact absurd h1 n
        · refine ⟨n, h4, m, (hl m).mpr ?_, h5⟩
          obtain ⟨u, h6, h7⟩ := h3.first
          by_cases q : u = t
          · rw [← q]; exact h7
          · exact absurd (RB.up (t := u + 1) (.inr ⟨m, h7.1, h4, h5⟩) (by omega)) n
    refine ⟨q2, fun j u => ?_, lv⟩
    rw [q1, List.mem_append, hf j u]
    constructor
    · rintro (⟨h1, h2⟩ | h)
      · exact ⟨by omega, h2⟩
      · obtain ⟨o, h1, h2⟩ := List.mem_map.mp h
        cases h2
        exact ⟨Nat.le_refl _, (lv _).mp h1⟩
    · rintro ⟨h1, h2⟩
      by_cases q : u = t + 1
      · subst q
        exact .inr (List.mem_map.mpr ⟨j, (lv j).mpr h2, rfl⟩)
      · exact .inl ⟨by omega, h2⟩
theorem iter_sub (t : Nat) : ∀ j ∈ (iter xs S r i t).1.map (·.1), j = i ∨ j ∈ S := by
  intro j hj
  obtain ⟨⟨j', u⟩, h1, rfl⟩ := List.mem_map.mp hj
  obtain ⟨_, h3⟩ := ((iter_spec t).2.1 j' u).mp h1
  have : ∀ n k, RB xs S r i n k → k = i ∨ k ∈ S := by
    intro n
    induction n with
    | zero => intro k h; exact .inl h
    | succ n ih =>
      intro k h
      rcases h with h | ⟨m, _, h, _⟩
      · exact ih k h
      · exact .inr h
  exact this _ _ h3.1
theorem nodup_len {l m : List Nat} (h : l.Nodup) (s : ∀ x ∈ l, x ∈ m) : l.length ≤ m.length := by
  induction l generalizing m with
  | nil => simp
  | cons a l ih =>
    have hm := s a (by simp)
    have hn := List.nodup_cons.mp h
    have := ih (m := m.erase a) hn.2 fun x hx => by
      have : x ≠ a := fun e => hn.1 (e ▸ hx)
      exact (List.mem_erase_of_ne this).mpr (s x (by simp [hx]))
    rw [List.length_erase_of_mem hm] at this
    have : 0 < m.length := List.length_pos_of_mem hm
    simp
    omega
theorem iter_len (t : Nat) : (iter xs S r i t).1.length ≤ S.length + 1 := by
  have := nodup_len (l := (iter xs S r i t).1.map (·.1)) (m := i :: S) (iter_spec t).1 fun x hx => by
    rcases iter_sub t x hx with h | h
    · simp [h]
    · simp [h]
  simpa using this
/-- what falls as the turns go on: each round is longer, or is the last one -/
def meas (cap : Nat) (st : Wave) : Nat := 2 * (cap - st.1.length) + (if st.2 = [] then 0 else 1)
theorem iter_meas (t : Nat) (h : (iter xs S r i t).2 ≠ []) : meas (S.length + 1) (iter xs S r i (t + 1)) < meas (S.length + 1) (iter xs S r i t) := by
  have e : iter xs S r i (t + 1) = level xs S r (t + 1) ((iter xs S r i t).1, (iter xs S r i t).2) := rfl
  obtain ⟨q1, _, _⟩ := level_spec (xs := xs) (S := S) (r := r) (t := t + 1) (lv := (iter xs S r i t).2) (iter_spec t).1
  rw [← e] at q1
  have l1 := congrArg List.length q1
  rw [List.length_append, List.length_map] at l1
  have l2 := iter_len (xs := xs) (S := S) (r := r) (i := i) (t + 1)
  unfold meas
  rw [if_neg h]
  split
  · rename_i z
    rw [z] at l1
    simp at l1
    omega
  · rename_i z
    have : 0 < (iter xs S r i (t + 1)).2.length := List.length_pos_iff.mpr z
    omega
theorem iter_done {t : Nat} (h : (iter xs S r i t).2 = []) : ∀ n j, RB xs S r i n j → RB xs S r i t j := by
  intro n
  induction n with
  | zero => intro j hj; exact RB.up (t := 0) hj (Nat.zero_le _)
  | succ n ih =>
    intro j hj
    rcases hj with hj | ⟨m, h1, h2, h3⟩
    · exact ih j hj
    · obtain ⟨u, h4, h5⟩ := (ih m h1).first
      by_cases q : u = t
      · subst q
        have := ((iter_spec (xs := xs) (S := S) (r := r) (i := i) u).2.2 m).mpr h5
        rw [h] at this
        cases this
      · exact RB.up (t := u + 1) (.inr ⟨m, h5.1, h2, h3⟩) (by omega)
theorem iter_end {t : Nat} (h : (iter xs S r i t).2 = []) (j u : Nat) : (j, u) ∈ (iter xs S r i t).1 ↔ Fst xs S r i u j := by
  rw [(iter_spec t).2.1 j u]
  constructor
  · exact fun z => z.2
  · intro z
    refine ⟨?_, z⟩
    rcases Nat.lt_or_ge t u with q | q
    · exact absurd (iter_done h u j z.1) (z.2 t q)
    · exact q
end
/-! ### the law's own wave, stone by stone -/
def kvs (fs : List (Nat × Nat)) : List (Key × V) := fs.map fun p => ((Sum.inl (p.1 : Int) : Key), V.int (p.2 : Int))
theorem kvs_none {fs : List (Nat × Nat)} {o : Nat} : valV (kvs fs) (Sum.inl (o : Int) : Key) = none ↔ o ∉ fs.map (·.1) := by
  induction fs with
  | nil => exact ⟨fun _ h => (nomatch h), fun _ => rfl⟩
  | cons p fs ih =>
    have c : kvs (p :: fs) = ((Sum.inl (p.1 : Int) : Key), V.int (p.2 : Int)) :: kvs fs := rfl
    rw [c]
    by_cases e : p.1 = o
    · rw [valV_pos (by rw [e])]
      simp [e]
    · rw [valV_neg (by intro h; injection h with h; omega), ih]
      simp only [List.map_cons, List.mem_cons, not_or]
      exact ⟨fun h => ⟨fun z => e z.symm, h⟩, fun h => h.2⟩
theorem kvs_put {fs : List (Nat × Nat)} {o t : Nat} (h : o ∉ fs.map (·.1)) : putK (kvs fs) (Sum.inl (o : Int) : Key) (V.int (t : Int)) = kvs (fs ++ [(o, t)]) := by
  rw [putK_new _ (kvs_none.mpr h)]
  unfold kvs
  simp
theorem kvs_len (fs : List (Nat × Nat)) : (kvs fs).length = fs.length := by unfold kvs; simp
/-- lists of ints as data -/
def intD (ns : List Nat) : PyData := .list (ns.map fun (k : Nat) => PyData.int (k : Int))
theorem ints_all {K : PySem.W.Frag} {H : Hp} : ∀ ns : List Nat, DpAll K H (ivs ns) (ns.map fun (k : Nat) => PyData.int (k : Int))
  | [] => .nil
  | k :: ns => .cons (.int k) (ints_all ns)
theorem ints_dp {K : PySem.W.Frag} {H : Hp} {a : Addr} {ns : List Nat} (h : SqL K H a (ivs ns)) : Dp K H (.ref a) (intD ns) := .lst h (ints_all ns)
theorem lay_ints : ∀ ns : List Nat, PyData.canLayAll0 (ns.map fun (k : Nat) => PyData.int (k : Int)) = true
  | [] => by simp [PyData.canLayAll0]
  | k :: ns => by simp [PyData.canLayAll0, PyData.canLay0, lay_ints ns]
theorem deep_ints : ∀ ns : List Nat, PyData.depthAll (ns.map fun (k : Nat) => PyData.int (k : Int)) ≤ 1
  | [] => by simp [PyData.depthAll]
  | k :: ns => by
    have := deep_ints ns
    simp only [List.map_cons, PyData.depthAll, PyData.depth]
    omega
theorem ints_shaped (ns : List Nat) : SeqAt.shaped (intD ns) = true := by
  have h1 := deep_ints ns
  have h2 : PyData.depth (intD ns) ≤ 64 := by unfold intD; simp only [PyData.depth]; omega
  show (PyData.canLay0 (intD ns) && decide (PyData.depth (intD ns) ≤ 64)) = true
  rw [Bool.and_eq_true]
  exact ⟨by unfold intD; simp only [PyData.canLay0]; exact lay_ints ns, decide_eq_true h2⟩
theorem ints_nil (ns : List Nat) : PyData.eqv (intD ns) (intD []) = ns.isEmpty := by
  cases ns with
  | nil => simp [intD, PyData.eqv, PyData.eqvAll]
  | cons k ns => simp [intD, PyData.eqv, PyData.eqvAll]
theorem same_upd {H H1 : Hp} {p : Addr} {o : HO} (e : Same H H1) (h : H p = none) : Same H (upd H1 p o) := fun b u q => by rw [upd_ne (ne_of_none q h)]; exact e _ _ q
/-- A if side == "right" else B, where both come to the same letter -/
theorem if_side {n : Nat} {σ : L2.St} {H : Hp} {Q : VK} {ta tb : TE} {r : Bool} {v : V} (h3 : σ[n]? = some (some (.str (sideS r)))) (ha : r = true → ∀ Q : VK, Q v H → ta σ H Q) (hb : r = false → ∀ Q : VK, Q v H → tb σ H Q) (q : Q v H) :
    tIf (tTest (tOp rEq (tVar n) (tC (.str "right")))) ta tb σ H Q := by
  refine ⟨_, h3, rfl, _, rfl, ?_⟩
  rw [right_eq]
  cases r with
  | true => exact iteT (ha rfl Q q)
  | false => exact iteF (hb rfl Q q)
theorem in_len {xs : List (Int × Int)} {r : Bool} {t m : Nat} : ∀ (L : List Nat) (st : Wave), (L.foldl (stepIn xs r t m) st).1.length ≤ st.1.length + L.length ∧ (L.foldl (stepIn xs r t m) st).2.length ≤ st.2.length + L.length
  | [], st => by simp
  | o :: L, st => by
    have ih := in_len (xs := xs) (r := r) (t := t) (m := m) L (stepIn xs r t m st o)
    have h : (stepIn xs r t m st o).1.length ≤ st.1.length + 1 ∧ (stepIn xs r t m st o).2.length ≤ st.2.length + 1 := by
      unfold stepIn
      split
      · simp
      · omega
    simp only [List.foldl_cons, List.length_cons]
    omega
theorem lv_len {xs : List (Int × Int)} {S : List Nat} {r : Bool} {t : Nat} : ∀ (L : List Nat) (st : Wave), (L.foldl (stepLv xs S r t) st).1.length ≤ st.1.length + L.length * S.length ∧ (L.foldl (stepLv xs S r t) st).2.length ≤ st.2.length + L.length * S.length
  | [], st => by simp
  | m :: L, st => by
    have ih := lv_len (xs := xs) (S := S) (r := r) (t := t) L (stepLv xs S r t st m)
    have h := in_len (xs := xs) (r := r) (t := t) (m := m) S st
    have e : stepLv xs S r t st m = S.foldl (stepIn xs r t m) st := rfl
    rw [e] at ih
    simp only [List.foldl_cons, List.length_cons, e, Nat.add_mul, Nat.one_mul]
    omega
theorem lvl_len {xs : List (Int × Int)} {S : List Nat} {r : Bool} {i : Nat} : ∀ t : Nat, (iter xs S r i t).2.length ≤ (iter xs S r i t).1.length
  | 0 => by simp [iter]
  | t + 1 => by
    have e : iter xs S r i (t + 1) = level xs S r (t + 1) ((iter xs S r i t).1, (iter xs S r i t).2) := rfl
    have q := (level_spec (xs := xs) (S := S) (r := r) (t := t + 1) (lv := (iter xs S r i t).2) (iter_spec (xs := xs) (S := S) (r := r) (i := i) t).1).1
    rw [← e] at q
    have l := congrArg List.length q
    rw [List.length_append, List.length_map] at l
    omega
def spFallen (K : PySem.W.Frag) : Sp := fun vs H Q _ => ∃ (q b : Addr) (us : List V) (xs : List (Int × Int)) (S : List Nat) (i : Nat) (r : Bool), vs = [.ref q, .ref b, .int (i : Nat), .str (sideS r)] ∧ SqL K H q us ∧ StonesAt K H us xs ∧ SqL K H b (ivs S) ∧
  (∀ o ∈ S, o < xs.length) ∧ i < xs.length ∧ S.length ≤ 1000 ∧
  ∀ (d : Addr) (fs : List (Nat × Nat)) (H' : Hp), Same H H' → H d = none → H' d = some (.dK (kvs fs)) → (fs.map (·.1)).Nodup → fs.length ≤ S.length + 1 → (∀ j u, (j, u) ∈ fs ↔ Fst xs S r i u j) → Q (.ref d) H'
section
variable {P : Program} {w : World} {K : PySem.W.Frag} {mg : Str → Option Value} {base : Heap}
theorem ok_fallen {f : Addr} {fd : FuncData} (F : Fun K "_law_fallen" "_law_fallen" s_law_fallen f fd) : FnOk P w K mg base CX0 1 f fd ["_law_stones_here", "_law_standing", "_law_stone", "_law_side"] (spFallen K) := by
  refine F.ok sc_law_fallen (fun vs H Q E h => ?_) (fun cdv A outer s H vs Q E hr h => ?_)
  · obtain ⟨q, b, us, xs, S, i, r, rfl, _⟩ := h
    rfl
  · obtain ⟨q, b, us, xs, S, i, r, rfl, hq, hS, hb, hlt, hi, hc, k⟩ := h
    have hu := hu_of hr
    refine ⟨_, pss_cons (ps_par3 rfl sc_law_fallen.nd (i := 4) (j := 5) (l := 6) rfl rfl rfl (by decide) (by decide) (by decide) rfl rfl rfl (pa_cons (pe_disp (pps_cons (pv 2) pe_int pps_nil) (by rfl) (by rfl) (fun z => by cases z) (by decide)) (pa_cons (pe_lst (pa_cons (pv 2) pa_nil)) (pa_cons (pe_int) pa_nil))) (by rfl))
      (pss_cons (ps_while PassesOwn.never (pt_cmpR (op_neD hr.units) (pv 5) (pe_lst pa_nil) (nomark _))
        (pss_cons (ps_par rfl sc_law_fallen.nd (i := 6) (j := 7) rfl rfl (by decide) rfl rfl (pa_cons (pe_op op_add (pv 6) (pe_int)) (pa_cons (pe_lst pa_nil) pa_nil)) (by rfl))
        (pss_cons (ps_for PassesOwn.never rfl (pi_list (pv 5)) (pg_name (i := 8) sc_law_fallen.nd rfl (Or.inl rfl))
          (pss_cons (ps_asg (pe_ix ix_list (pv 0) (pv 8) (fun _ _ => rfl)) (pg_tup rfl (pgs_cons (pg_name (i := 9) sc_law_fallen.nd rfl (Or.inl rfl)) (pgs_cons (pg_name (i := 10) sc_law_fallen.nd rfl (Or.inl rfl)) pgs_nil))))
          (pss_one (ps_for PassesOwn.never rfl (pi_list (pv 1)) (pg_name (i := 11) sc_law_fallen.nd rfl (Or.inl rfl))
            (pss_cons (ps_set (i := 12) sc_law_fallen.nd rfl (Or.inl rfl) (pe_ifExp (pt_cmpR (op_eq) (pv 3) (pe_str) (nomark _)) (pe_op op_sub (pe_ix ix_tup (pe_ix ix_list (pv 0) (pv 11) (fun _ _ => rfl)) (pe_int) (fun _ _ => rfl)) (pv 9)) (pe_op op_sub (pv 9) (pe_ix ix_tup (pe_ix ix_list (pv 0) (pv 11) (fun _ _ => rfl)) (pe_int) (fun _ _ => rfl)))))
            (pss_one (ps_if (PW.pt (pw_and (pt_chain op_lt op_le pe_int (pv 12) (pv 10)) (pw_and1 (pt_cmp (pc_dnotin hu (pv 11) (pv 4))))))
              (pss_cons (ps_dput hu (pv 4) (pv 11) (pv 6) rfl) (pss_one (ps_expr (pe_bm PySem.F.plainAttrs_list PySem.F.slot_list_append PySem.F.type_list_append mt_append (pv 7) (pa_cons (pv 11) pa_nil))))) pss_nil)))))))
        (pss_one (ps_set (i := 5) sc_law_fallen.nd rfl (Or.inl rfl) (pv 7))))))
      (pss_one (ps_ret (pv 4)))), ?_⟩
    -- found, level, tick
    refine fun d nd => ⟨_, rfl, upd_same, [((Sum.inl (i : Int) : Key), V.int 0)], rfl, by show 1 ≤ 15; decide, _, rfl, by show 1 ≤ sizeLine; decide, fun lv nlv => ⟨_, _, _, rfl, ?_⟩⟩
    have eM : upd (upd H d (.dK [])) d (.dK (mergeK [] [((Sum.inl (i : Int) : Key), V.int 0)])) = upd H d (.dK (kvs [(i, 0)])) := upd_upd
    rw [eM] at nlv ⊢
    have s1 : Same H (upd H d (.dK (kvs [(i, 0)]))) := same_new nd
    have dl : d ≠ lv := ne_of_none upd_same nlv
    have keyIn : ∀ t, ∀ j ∈ (iter xs S r i t).1.map (·.1), j < xs.length := fun t j hj => by
      rcases iter_sub t j hj with h | h
      · rw [h]; exact hi
      · exact hlt j h
    refine ⟨fun n σ H3 => ∃ (t : Nat) (lv : Addr) (s7 s8 s9 s10 s11 s12 : Option V), σ = [some (.ref q), some (.ref b), some (.int (i : Nat)), some (.str (sideS r)), some (.ref d), some (.ref lv), some (.int (t : Nat)), s7, s8, s9, s10, s11, s12] ∧
      Same H H3 ∧ H3 d = some (.dK (kvs (iter xs S r i t).1)) ∧ H3 lv = some (.lst (ivs (iter xs S r i t).2)) ∧ n = meas (S.length + 1) (iter xs S r i t), ?_, ?_⟩
    · exact ⟨_, 0, lv, none, none, none, none, none, none, rfl, s1.trans (same_new nlv), by rw [upd_ne dl]; exact upd_same, upd_same, rfl⟩
    · rintro n σ H3 ⟨t, lv, s7, s8, s9, s10, s11, s12, rfl, sm, ed, el, rfl⟩
      -- while level != []
      refine ⟨_, rfl, by show 0 ≤ sizeLine; decide, fun e ne => ⟨intD (iter xs S r i t).2, intD [], ints_dp (SqL.of (same_new ne _ _ el)), ints_dp (SqL.of upd_same), ints_shaped _, ints_shaped _, _, rfl, ?_⟩⟩
      rw [ints_nil]
      have sme := sm.trans (same_new (o := .lst []) ne)
      have ede := same_new (o := .lst []) ne _ _ ed
      have ele := same_new (o := .lst []) ne _ _ el
      generalize upd H3 e (.lst []) = H4 at sme ede ele
      cases hE : (iter xs S r i t).2.isEmpty with
      | true =>
        have hn : (iter xs S r i t).2 = [] := List.isEmpty_iff.mp hE
        refine iteF ⟨_, rfl, ?_⟩
        exact k d _ H4 sme nd ede (iter_spec t).1 (iter_len t) (iter_end hn)
      | false =>
        have hn : (iter xs S r i t).2 ≠ [] := fun z => by rw [z] at hE; cases hE
        refine iteT ⟨_, fun _ _ z => z, ?_⟩
        -- tick, following
        refine ⟨_, rfl, _, _, rfl, rfl, by show 0 ≤ sizeLine; decide, fun fo nfo => ⟨_, _, rfl, ?_⟩⟩
        have edf := same_new (o := .lst []) nfo _ _ ede
        have elf := same_new (o := .lst []) nfo _ _ ele
        have smf := sme.trans (same_new (o := .lst []) nfo)
        have nfoH : H fo = none := Same.free sme nfo
        have lfo : lv ≠ fo := ne_of_none ele nfo
        have dfo : d ≠ fo := ne_of_none ede nfo
        refine ⟨_, rfl, lv, rfl, ⟨_, SqL.of elf⟩, for_list (K := K) (a := lv) (xs := ivs (iter xs S r i t).2) (fun j σ H5 => ∃ (s8 s9 s10 s11 s12 : Option V), σ = [some (.ref q), some (.ref b), some (.int (i : Nat)), some (.str (sideS r)), some (.ref d), some (.ref lv), some (.int ((t : Int) + 1)), some (.ref fo), s8, s9, s10, s11, s12] ∧
          Same H H5 ∧ H5 d = some (.dK (kvs (((iter xs S r i t).2.take j).foldl (stepLv xs S r (t + 1)) ((iter xs S r i t).1, [])).1)) ∧ H5 fo = some (.lst (ivs (((iter xs S r i t).2.take j).foldl (stepLv xs S r (t + 1)) ((iter xs S r i t).1, [])).2)) ∧ H5 lv = some (.lst (ivs (iter xs S r i t).2))) ?_ ?_ ?_ ?_⟩
        · exact ⟨_, _, _, _, _, rfl, smf, edf, upd_same, elf⟩
        · rintro j σ H5 _ ⟨_, _, _, _, _, _, _, _, _, e⟩
          exact SqL.of e
        · rintro j y σ H5 hy ⟨s8, s9, s10, s11, s12, rfl, sm5, ed5, ef5, el5⟩
          obtain ⟨m, hm, rfl⟩ := ivs_get hy
          have hmx : m < xs.length := by
            have h1 := ((iter_spec (xs := xs) (S := S) (r := r) (i := i) t).2.2 m).mp (List.mem_of_getElem? hm)
            refine keyIn t m (List.mem_map.mpr ⟨(m, t), ((iter_spec t).2.1 m t).mpr ⟨Nat.le_refl _, h1⟩, rfl⟩)
          obtain ⟨x, hx⟩ : ∃ x, xs[m]? = some x := ⟨xs[m], by simp [hmx]⟩
          obtain ⟨ca, hca, hsca⟩ := hS.2 m x hx
          refine ⟨_, rfl, _, rfl, q, us, _, _, rfl, rfl, sm5.seq hq, atI_nat hca, ca, _, rfl, sqT_same hsca sm5, rfl, _, _, rfl, _, _, rfl, rfl, ?_⟩
          have eT : ((iter xs S r i t).2.take (j + 1)).foldl (stepLv xs S r (t + 1)) ((iter xs S r i t).1, []) = S.foldl (stepIn xs r (t + 1) m) (((iter xs S r i t).2.take j).foldl (stepLv xs S r (t + 1)) ((iter xs S r i t).1, [])) := by
            rw [List.take_add_one, hm, List.foldl_append]
            rfl
          rw [eT]
          generalize hst : ((iter xs S r i t).2.take j).foldl (stepLv xs S r (t + 1)) ((iter xs S r i t).1, []) = st at ed5 ef5
          have stl : st.1.length ≤ 1100000 ∧ st.2.length ≤ 1100000 := by
            have h1 := lv_len (xs := xs) (S := S) (r := r) (t := t + 1) ((iter xs S r i t).2.take j) ((iter xs S r i t).1, [])
            rw [hst] at h1
            have h2 := iter_len (xs := xs) (S := S) (r := r) (i := i) t
            have h3 := lvl_len (xs := xs) (S := S) (r := r) (i := i) t
            have h4 : ((iter xs S r i t).2.take j).length ≤ 1001 := by rw [List.length_take]; omega
            have h5 : ((iter xs S r i t).2.take j).length * S.length ≤ 1001 * 1000 := Nat.mul_le_mul h4 hc
            have h6 : ((iter xs S r i t).1, ([] : List Nat)).1.length = (iter xs S r i t).1.length := rfl
            have h7 : ((iter xs S r i t).1, ([] : List Nat)).2.length = 0 := rfl
            omega
          refine ⟨_, rfl, b, rfl, ⟨_, sm5.seq hb⟩, for_list (K := K) (a := b) (xs := ivs S) (fun n σ H6 => ∃ (s11 s12 : Option V), σ = [some (.ref q), some (.ref b), some (.int (i : Nat)), some (.str (sideS r)), some (.ref d), some (.ref lv), some (.int ((t : Int) + 1)), some (.ref fo), some (.int (m : Nat)), some (.int x.1), some (.int x.2), s11, s12] ∧
            Same H H6 ∧ H6 d = some (.dK (kvs ((S.take n).foldl (stepIn xs r (t + 1) m) st).1)) ∧ H6 fo = some (.lst (ivs ((S.take n).foldl (stepIn xs r (t + 1) m) st).2)) ∧ H6 lv = some (.lst (ivs (iter xs S r i t).2))) ?_ ?_ ?_ ?_⟩
          · exact ⟨_, _, rfl, sm5, ed5, ef5, el5⟩
          · rintro n σ H6 _ ⟨_, _, _, sm6, _⟩
            exact sm6.seq hb
          · rintro n y σ H6 hy ⟨s11, s12, rfl, sm6, ed6, ef6, el6⟩
            obtain ⟨o, ho, rfl⟩ := ivs_get hy
            have hox : o < xs.length := hlt o (List.mem_of_getElem? ho)
            have hnS : n < S.length := (List.getElem?_eq_some_iff.mp ho).1
            obtain ⟨y, hy⟩ : ∃ y, xs[o]? = some y := ⟨xs[o], by simp [hox]⟩
            obtain ⟨cb, hcb, hscb⟩ := hS.2 o y hy
            have eS : (S.take (n + 1)).foldl (stepIn xs r (t + 1) m) st = stepIn xs r (t + 1) m ((S.take n).foldl (stepIn xs r (t + 1) m) st) o := by
              rw [List.take_add_one, ho, List.foldl_append]
              rfl
            rw [eS]
            have len := in_len (xs := xs) (r := r) (t := t + 1) (m := m) (S.take n) st
            rw [List.length_take] at len
            generalize (S.take n).foldl (stepIn xs r (t + 1) m) st = sn at ed6 ef6 len
            have hit : hitB xs r m o = (decide (0 < far x y r) && decide (far x y r ≤ x.2)) := by unfold hitB; rw [hx, hy]
            -- far
            refine seq_of (asg_of (if_side (n := 3) (r := r) (v := .int (far x y r)) rfl (fun e Q' q' => ?_) (fun e Q' q' => ?_) ?_))
            · subst e
              exact ⟨_, rfl, _, rfl, q, us, _, _, rfl, rfl, sm6.seq hq, atI_nat hcb, cb, _, ((0 : Nat) : Int), _, rfl, rfl, sqT_same hscb sm6, atI_nat (j := 0) rfl, _, rfl, _, _, rfl, rfl, q'⟩
            · subst e
              exact ⟨_, rfl, _, rfl, _, rfl, q, us, _, _, rfl, rfl, sm6.seq hq, atI_nat hcb, cb, _, ((0 : Nat) : Int), _, rfl, rfl, sqT_same hscb sm6, atI_nat (j := 0) rfl, _, _, rfl, rfl, q'⟩
            -- if 0 < far <= height and other not in found
            refine ⟨_, rfl, _, _, rfl, rfl, _, rfl, ?_⟩
            have no : hitB xs r m o = false → ∀ s12, ∃ s11' s12', [some (.ref q), some (.ref b), some (.int (i : Nat)), some (.str (sideS r)), some (.ref d), some (.ref lv), some (.int ((t : Int) + 1)), some (.ref fo), some (.int (m : Nat)), some (.int x.1), some (.int x.2), some (.int (o : Nat)), s12] = [some (V.ref q), some (.ref b), some (.int (i : Nat)), some (.str (sideS r)), some (.ref d), some (.ref lv), some (.int ((t : Int) + 1)), some (.ref fo), some (.int (m : Nat)), some (.int x.1), some (.int x.2), s11', s12'] ∧
                Same H H6 ∧ H6 d = some (.dK (kvs (stepIn xs r (t + 1) m sn o).1)) ∧ H6 fo = some (.lst (ivs (stepIn xs r (t + 1) m sn o).2)) ∧ H6 lv = some (.lst (ivs (iter xs S r i t).2)) := fun hh s12 => by
              have e : stepIn xs r (t + 1) m sn o = sn := by
                unfold stepIn
                rw [if_neg (fun z => by rw [hh] at z; cases z.1)]
              rw [e]
              exact ⟨_, _, rfl, sm6, ed6, ef6, el6⟩
            refine ite2 (fun h1 => ?_) (fun h1 => ?_)
            · refine ⟨_, rfl, _, _, rfl, rfl, _, rfl, ?_⟩
              refine ite2 (fun h2 => ?_) (fun h2 => ?_)
              · have hh : hitB xs r m o = true := by rw [hit, h1, h2]; rfl
                refine ⟨_, rfl, _, rfl, d, _, rfl, DGet.k (k := Sum.inl (o : Int)) ed6, _, rfl, ?_⟩
                cases hv : valV (kvs sn.1) (Sum.inl (o : Int) : Key) with
                | none =>
                  have nk := kvs_none.mp hv
                  have e : stepIn xs r (t + 1) m sn o = (sn.1 ++ [(o, t + 1)], sn.2 ++ [o]) := by
                    unfold stepIn
                    rw [if_pos ⟨hh, nk⟩]
                  rw [e]
                  refine iteT ⟨_, rfl, _, rfl, _, rfl, d, _, rfl, DPut.k (k := Sum.inl (o : Int)) ed6 (by rw [kvs_len, sizeLine_eq]; omega), ?_⟩
                  have ep : putK (kvs sn.1) (Sum.inl (o : Int) : Key) (V.int ((t : Int) + 1)) = kvs (sn.1 ++ [(o, t + 1)]) := kvs_put (t := t + 1) nk
                  have dfo6 : d ≠ fo := ne_of ed6 ef6 (by intro z; cases z)
                  have dlv6 : d ≠ lv := ne_of ed6 el6 (by intro z; cases z)
                  have ef7 : (upd H6 d (.dK (putK (kvs sn.1) (Sum.inl (o : Int) : Key) (V.int ((t : Int) + 1))))) fo = some (.lst (ivs sn.2)) := by rw [upd_ne (Ne.symm dfo6)]; exact ef6
                  refine ⟨_, rfl, .inl ⟨rfl, _, SqL.of ef7⟩, _, rfl, fo, _, _, rfl, rfl, ef7, ?_, ?_⟩
                  · unfold ivs
                    rw [List.length_map, sizeLine_eq]
                    omega
                  · refine ⟨_, _, rfl, same_upd (same_upd sm6 nd) nfoH, ?_, ?_, ?_⟩
                    · rw [upd_ne dfo6, upd_same, ep]
                    · rw [upd_same]
                      unfold ivs
                      simp
                    · rw [upd_ne lfo, upd_ne (Ne.symm dlv6)]
                      exact el6
                | some v =>
                  have e : stepIn xs r (t + 1) m sn o = sn := by
                    unfold stepIn
                    rw [if_neg (fun z => by rw [kvs_none.mpr z.2] at hv; cases hv)]
                  rw [e]
                  exact iteF ⟨_, _, rfl, sm6, ed6, ef6, el6⟩
              · have hf : decide (far x y r ≤ x.2) = false := Bool.eq_false_iff.mpr h2
                exact no (by rw [hit, hf, Bool.and_false]) _
            · have hf : decide (0 < far x y r) = false := Bool.eq_false_iff.mpr h1
              refine ⟨false, rfl, iteF ?_⟩
              exact no (by rw [hit, hf, Bool.false_and]) _
          · rintro σ H6 ⟨s11, s12, rfl, sm6, ed6, ef6, el6⟩
            rw [show (ivs S).length = S.length from by unfold ivs; simp, List.take_length] at ed6 ef6
            exact ⟨_, _, _, _, _, rfl, sm6, ed6, ef6, el6⟩
        · rintro σ H5 ⟨s8, s9, s10, s11, s12, rfl, sm5, ed5, ef5, el5⟩
          have eI : ((iter xs S r i t).2.take (ivs (iter xs S r i t).2).length).foldl (stepLv xs S r (t + 1)) ((iter xs S r i t).1, []) = iter xs S r i (t + 1) := by
            rw [show (ivs (iter xs S r i t).2).length = (iter xs S r i t).2.length from by unfold ivs; simp, List.take_length]
            rfl
          rw [eI] at ed5 ef5
          exact ⟨_, rfl, _, iter_meas t hn, t + 1, fo, _, _, _, _, _, _, rfl, sm5, ed5, ef5, rfl⟩
end
/-! ### runs: mathematics -/
/-- places rise -/
def Inc (xs : List (Int × Int)) : Prop := ∀ (a b : Nat) (x y : Int × Int), a < b → xs[a]? = some x → xs[b]? = some y → x.1 < y.1
theorem Wf.inc : ∀ {xs : List (Int × Int)} {lo : Int}, Wf lo xs → Inc xs
  | [], _, _ => fun a b x y _ h => by simp at h
  | z :: xs, lo, w => fun a b x y hab hx hy => by
    cases b with
    | zero => omega
    | succ b =>
      simp at hy
      cases a with
      | zero =>
        simp at hx
        subst hx
        have := Wf.low w.2.2.2.2 hy
        omega
      | succ a =>
        simp at hx
        exact Wf.inc w.2.2.2.2 a b x y (by omega) hx hy
/-- place and height -/
def pl (xs : List (Int × Int)) (k : Nat) : Int := (xs.getD k (0, 0)).1
def ht (xs : List (Int × Int)) (k : Nat) : Int := (xs.getD k (0, 0)).2
theorem pl_of {xs : List (Int × Int)} {k : Nat} {x : Int × Int} (h : xs[k]? = some x) : pl xs k = x.1 ∧ ht xs k = x.2 := by
  unfold pl ht
  rw [List.getD_eq_getElem?_getD, h]
  exact ⟨rfl, rfl⟩
theorem Inc.pl {xs : List (Int × Int)} (h : Inc xs) {a b : Nat} (hab : a < b) (hb : b < xs.length) : pl xs a < pl xs b := by
  have ha : a < xs.length := by omega
  have e1 : xs[a]? = some xs[a] := by simp [ha]
  have e2 : xs[b]? = some xs[b] := by simp [hb]
  rw [(pl_of e1).1, (pl_of e2).1]
  exact h a b _ _ hab e1 e2
/-- m hits o on the side r -/
def Hit (xs : List (Int × Int)) (r : Bool) (m o : Nat) : Prop := m < xs.length ∧ o < xs.length ∧ (r = true → m < o ∧ pl xs o ≤ pl xs m + ht xs m) ∧ (r = false → o < m ∧ pl xs m ≤ pl xs o + ht xs m)
theorem hit_iff {xs : List (Int × Int)} (h : Inc xs) {r : Bool} {m o : Nat} : hitB xs r m o = true ↔ Hit xs r m o := by
  unfold hitB Hit
  by_cases hm : m < xs.length
  · by_cases ho : o < xs.length
    · have e1 : xs[m]? = some xs[m] := by simp [hm]
      have e2 : xs[o]? = some xs[o] := by simp [ho]
      rw [e1, e2]
      obtain ⟨p1, t1⟩ := pl_of e1
      obtain ⟨p2, _⟩ := pl_of e2
      rw [p1, p2, t1]
      simp only [hm, ho, true_and, Bool.and_eq_true, decide_eq_true_eq]
      have cmp : m < o ↔ (xs[m]).1 < (xs[o]).1 := by
        constructor
        · exact fun q => h m o _ _ q e1 e2
        · intro q
          rcases Nat.lt_trichotomy m o with z | z | z
          · exact z
          · subst z; omega
          · have := h o m _ _ z e2 e1; omega
      have cmp2 : o < m ↔ (xs[o]).1 < (xs[m]).1 := by
        constructor
        · exact fun q => h o m _ _ q e2 e1
        · intro q
          rcases Nat.lt_trichotomy m o with z | z | z
          · have := h m o _ _ z e1 e2; omega
          · subst z; omega
          · exact z
      cases r with
      | true =>
        unfold far
        simp only [if_true, forall_const, Bool.true_eq_false, false_implies, and_true]
        rw [cmp]
        omega
      | false =>
        unfold far
        simp only [Bool.false_eq_true, if_false, false_implies, true_and, forall_const]
        rw [cmp2]
        omega
    · have e2 : xs[o]? = none := by simp; omega
      rw [e2]
      constructor
      · intro q
        cases e1 : xs[m]? <;> rw [e1] at q <;> cases q
      · exact fun q => absurd q.2.1 ho
  · have e1 : xs[m]? = none := by simp; omega
    rw [e1]
    exact ⟨fun q => (nomatch q), fun q => absurd q.1 hm⟩
/-- how far the reach goes, told stone by stone -/
def dst (xs : List (Int × Int)) (p0 : Int) (k : Nat) : Int := ab (pl xs k - p0)
theorem mx_le {a b c : Int} : c ≤ mx a b ↔ c ≤ a ∨ c ≤ b := by unfold mx; split <;> omega
theorem scan_spec {xs : List (Int × Int)} {sd : List Bool} {p0 : Int} (up : ∀ o, o < xs.length → sd[o]? = some true) : ∀ (os : List Nat) (R : Int), (∀ o ∈ os, o < xs.length) →
    (∀ a o, a < (scan xs sd p0 R os).length → os[a]? = some o → dst xs p0 o ≤ R ∨ ∃ b u, b < a ∧ os[b]? = some u ∧ dst xs p0 o ≤ dst xs p0 u + ht xs u) ∧
    (∀ o, os[(scan xs sd p0 R os).length]? = some o → R < dst xs p0 o ∧ ∀ b u, b < (scan xs sd p0 R os).length → os[b]? = some u → dst xs p0 u + ht xs u < dst xs p0 o)
  | [], R, _ => ⟨fun a o _ h => by simp at h, fun o h => by simp at h⟩
  | o :: os, R, hlt => by
    have ho := hlt o (by simp)
    have e1 : xs[o]? = some xs[o] := by simp [ho]
    obtain ⟨p1, t1⟩ := pl_of e1
    have ed : dst xs p0 o = ab ((xs[o]).1 - p0) := by unfold dst; rw [p1]
    have es : scan xs sd p0 R (o :: os) = if ab ((xs[o]).1 - p0) > R then [] else o :: scan xs sd p0 (mx R (ab ((xs[o]).1 - p0) + (xs[o]).2)) os := by
      conv => lhs; unfold scan
      rw [e1]
      simp only [up o ho, if_true]
    rw [es]
    by_cases hg : ab ((xs[o]).1 - p0) > R
    · rw [if_pos hg]
      refine ⟨fun a o' h => absurd h (Nat.not_lt_zero _), fun o' h => ?_⟩
      simp at h
      subst h
      exact ⟨by rw [ed]; exact hg, fun b u h => absurd h (Nat.not_lt_zero _)⟩
    · rw [if_neg hg, ← ed, ← t1]
      obtain ⟨ih1, ih2⟩ := scan_spec (xs := xs) (sd := sd) (p0 := p0) up os (mx R (dst xs p0 o + ht xs o)) fun z hz => hlt z (by simp [hz])
      refine ⟨fun a o' h e => ?_, fun o' e => ?_⟩
      · cases a with
        | zero =>
          simp at e
          subst e
          exact .inl (by rw [ed]; omega)
        | succ a =>
          simp at e h
          rcases ih1 a o' h e with q | ⟨b, u, q1, q2, q3⟩
          · rcases mx_le.mp q with q | q
            · exact .inl q
            · exact .inr ⟨0, o, by omega, rfl, q⟩
          · exact .inr ⟨b + 1, u, by omega, by simpa using q2, q3⟩
      · simp at e
        obtain ⟨q1, q2⟩ := ih2 o' e
        have n1 : ¬ dst xs p0 o' ≤ mx R (dst xs p0 o + ht xs o) := by omega
        rw [mx_le] at n1
        refine ⟨by omega, fun b u h e' => ?_⟩
        cases b with
        | zero =>
          simp at e'
          subst e'
          omega
        | succ b =>
          simp at e' h
          exact q2 b u h e'
structure RunR (xs : List (Int × Int)) (i e : Nat) : Prop where
  le : i ≤ e
  lt : e < xs.length
  by_ : ∀ j, i < j → j ≤ e → ∃ m, i ≤ m ∧ m < j ∧ Hit xs true m j
  no : ∀ m j, i ≤ m → m ≤ e → e < j → ¬ Hit xs true m j
structure RunL (xs : List (Int × Int)) (i f : Nat) : Prop where
  le : f ≤ i
  lt : i < xs.length
  by_ : ∀ j, f ≤ j → j < i → ∃ m, j < m ∧ m ≤ i ∧ Hit xs false m j
  no : ∀ m j, f ≤ m → m ≤ i → j < f → ¬ Hit xs false m j
theorem besideR_get {i n a : Nat} (h : a < n - (i + 1)) : (beside true i n)[a]? = some (i + 1 + a) := by
  unfold beside
  rw [if_pos rfl, List.getElem?_map, List.getElem?_range h]
  rfl
theorem besideL_get {i n a : Nat} (h : a < i) : (beside false i n)[a]? = some (i - 1 - a) := by
  unfold beside
  rw [if_neg (by decide), List.getElem?_map, List.getElem?_range h]
  rfl
theorem reach_eq {xs : List (Int × Int)} {i : Nat} {r : Bool} (hi : i < xs.length) : reachN xs i r = (scan xs (allUp xs.length) (pl xs i) (ht xs i) (beside r i xs.length)).length := by
  have e1 : xs[i]? = some xs[i] := by simp [hi]
  obtain ⟨p1, t1⟩ := pl_of e1
  rw [p1, t1]
  unfold reachN felled
  rw [e1]
  simp
theorem runR {xs : List (Int × Int)} (h : Inc xs) {i : Nat} (hi : i < xs.length) : RunR xs i (run xs i true).2 := by
  have hle := reach_le (r := true) hi
  rw [besideR_len] at hle
  obtain ⟨s1, s2⟩ := scan_spec (xs := xs) (sd := allUp xs.length) (p0 := pl xs i) (fun o ho => allUp_get ho) (beside true i xs.length) (ht xs i) (beside_lt hi)
  rw [← reach_eq hi] at s1 s2
  show RunR xs i (i + reachN xs i true)
  generalize reachN xs i true = c at hle s1 s2
  have dR : ∀ k, i ≤ k → k < xs.length → dst xs (pl xs i) k = pl xs k - pl xs i := by
    intro k h1 h2
    unfold dst ab
    rcases Nat.lt_or_ge i k with q | q
    · have := h.pl q h2
      rw [if_neg (by omega)]
    · obtain rfl : k = i := by omega
      simp
  refine ⟨by omega, by omega, fun j h1 h2 => ?_, fun m j h1 h2 h3 hh => ?_⟩
  · have ej : (beside true i xs.length)[j - (i + 1)]? = some j := by rw [besideR_get (by omega)]; congr 1; omega
    have dj := dR j (by omega) (by omega)
    rcases s1 (j - (i + 1)) j (by omega) ej with q | ⟨b, u, q1, q2, q3⟩
    · exact ⟨i, Nat.le_refl _, h1, hi, by omega, fun _ => ⟨h1, by omega⟩, fun z => nomatch z⟩
    · rw [besideR_get (by omega)] at q2
      obtain rfl : i + 1 + b = u := Option.some.inj q2
      have du := dR (i + 1 + b) (by omega) (by omega)
      exact ⟨i + 1 + b, by omega, by omega, by omega, by omega, fun _ => ⟨by omega, by omega⟩, fun z => nomatch z⟩
  · obtain ⟨hm, hj, hr, _⟩ := hh
    obtain ⟨_, hr⟩ := hr rfl
    obtain ⟨q1, q2⟩ := s2 (i + 1 + c) (besideR_get (by omega))
    have dc := dR (i + 1 + c) (by omega) (by omega)
    have pj : pl xs (i + 1 + c) ≤ pl xs j := by
      rcases Nat.lt_or_ge (i + 1 + c) j with z | z
      · exact Int.le_of_lt (h.pl z hj)
      · obtain rfl : j = i + 1 + c := by omega
        exact Int.le_refl _
    rcases Nat.lt_or_ge i m with z | z
    · have q3 := q2 (m - (i + 1)) m (by omega) (by rw [besideR_get (by omega)]; congr 1; omega)
      have dm := dR m (by omega) (by omega)
      omega
    · obtain rfl : m = i := by omega
      omega
theorem runL {xs : List (Int × Int)} (h : Inc xs) {i : Nat} (hi : i < xs.length) : RunL xs i (run xs i false).1 := by
  have hle := reach_le (r := false) hi
  rw [besideL_len] at hle
  obtain ⟨s1, s2⟩ := scan_spec (xs := xs) (sd := allUp xs.length) (p0 := pl xs i) (fun o ho => allUp_get ho) (beside false i xs.length) (ht xs i) (beside_lt hi)
  rw [← reach_eq hi] at s1 s2
  show RunL xs i (i - reachN xs i false)
  generalize reachN xs i false = c at hle s1 s2
  have dR : ∀ k, k ≤ i → dst xs (pl xs i) k = pl xs i - pl xs k := by
    intro k h1
    unfold dst ab
    rcases Nat.lt_or_ge k i with q | q
    · have := h.pl q hi
      rw [if_pos (by omega)]
      omega
    · obtain rfl : k = i := by omega
      simp
  refine ⟨by omega, hi, fun j h1 h2 => ?_, fun m j h1 h2 h3 hh => ?_⟩
  · have ej : (beside false i xs.length)[i - 1 - j]? = some j := by rw [besideL_get (by omega)]; congr 1; omega
    have dj := dR j (by omega)
    rcases s1 (i - 1 - j) j (by omega) ej with q | ⟨b, u, q1, q2, q3⟩
    · exact ⟨i, h2, Nat.le_refl _, hi, by omega, fun z => (nomatch z), fun _ => ⟨h2, by omega⟩⟩
    · rw [besideL_get (by omega)] at q2
      obtain rfl : i - 1 - b = u := Option.some.inj q2
      have du := dR (i - 1 - b) (by omega)
      exact ⟨i - 1 - b, by omega, by omega, by omega, by omega, fun z => (nomatch z), fun _ => ⟨by omega, by omega⟩⟩
  · obtain ⟨hm, hj, _, hr⟩ := hh
    obtain ⟨_, hr⟩ := hr rfl
    obtain ⟨q1, q2⟩ := s2 (i - 1 - c) (besideL_get (by omega))
    have dc := dR (i - 1 - c) (by omega)
    have pj : pl xs j ≤ pl xs (i - 1 - c) := by
      rcases Nat.lt_or_ge j (i - 1 - c) with z | z
      · exact Int.le_of_lt (h.pl z (by omega))
      · obtain rfl : j = i - 1 - c := by omega
        exact Int.le_refl _
    rcases Nat.lt_or_ge m i with z | z
    · have q3 := q2 (i - 1 - m) m (by omega) (by rw [besideL_get (by omega)]; congr 1; omega)
      have dm := dR m (by omega)
      omega
    · obtain rfl : m = i := by omega
      omega
/-! ### pushes one after another: mathematics -/
def Reach (xs : List (Int × Int)) (S : List Nat) (r : Bool) (i j : Nat) : Prop := ∃ n, RB xs S r i n j
section
variable {xs : List (Int × Int)} {S T : List Nat} {r : Bool} {i : Nat}
theorem Reach.refl : Reach xs S r i i := ⟨0, rfl⟩
theorem Reach.step (hx : Inc xs) {m j : Nat} (h : Reach xs S r i m) (hj : j ∈ S) (hh : Hit xs r m j) : Reach xs S r i j := let ⟨n, h⟩ := h; ⟨n + 1, .inr ⟨m, h, hj, (hit_iff hx).mpr hh⟩⟩
theorem Reach.ind (hx : Inc xs) {P : Nat → Prop} (h0 : P i) (hs : ∀ m j, Reach xs S r i m → P m → j ∈ S → Hit xs r m j → P j) {j : Nat} (h : Reach xs S r i j) : P j := by
  obtain ⟨n, h⟩ := h
  induction n generalizing j with
  | zero => obtain rfl : j = i := h; exact h0
  | succ n ih =>
    rcases h with h | ⟨m, h1, h2, h3⟩
    · exact ih h
    · exact hs m j ⟨n, h1⟩ (ih h1) h2 ((hit_iff hx).mp h3)
theorem Reach.fst {j : Nat} : Reach xs S r i j ↔ ∃ u, Fst xs S r i u j :=
  ⟨fun ⟨_, h⟩ => let ⟨u, _, h2⟩ := h.first; ⟨u, h2⟩, fun ⟨u, h⟩ => ⟨u, h.1⟩⟩
noncomputable def after (xs : List (Int × Int)) (S : List Nat) (r : Bool) (i : Nat) : List Nat := S.filter fun j => @decide (¬ Reach xs S r i j) (Classical.propDecidable _)
theorem mem_after {j : Nat} : j ∈ after xs S r i ↔ j ∈ S ∧ ¬ Reach xs S r i j := by
  unfold after
  rw [List.mem_filter]
  exact ⟨fun h => ⟨h.1, @of_decide_eq_true _ (Classical.propDecidable _) h.2⟩, fun h => ⟨h.1, @decide_eq_true _ (Classical.propDecidable _) h.2⟩⟩
theorem right_ge (hx : Inc xs) {j : Nat} (h : Reach xs S true i j) : i ≤ j :=
  Reach.ind hx (P := fun j => i ≤ j) (Nat.le_refl _) (fun m j _ hm _ hh => Nat.le_trans hm (Nat.le_of_lt (hh.2.2.1 rfl).1)) h
theorem left_le (hx : Inc xs) {j : Nat} (h : Reach xs S false i j) : j ≤ i :=
  Reach.ind hx (P := fun j => j ≤ i) (Nat.le_refl _) (fun m j _ hm _ hh => Nat.le_trans (Nat.le_of_lt (hh.2.2.2 rfl).1) hm) h
theorem in_right (hx : Inc xs) {e j : Nat} (R : RunR xs i e) (h : Reach xs S true i j) : j ≤ e :=
  Reach.ind hx (P := fun j => j ≤ e) R.le (fun m j hr hm _ hh => by
    rcases Nat.lt_or_ge e j with q | q
    · exact absurd hh (R.no m j (right_ge hx hr) hm q)
    · exact q) h
theorem in_left (hx : Inc xs) {l f j : Nat} (R : RunL xs l f) (h1 : f ≤ i) (h2 : i ≤ l) (h : Reach xs S false i j) : f ≤ j :=
  Reach.ind hx (P := fun j => f ≤ j) h1 (fun m j hr hm _ hh => by
    rcases Nat.lt_or_ge j f with q | q
    · exact absurd hh (R.no m j hm (Nat.le_trans (left_le hx hr) h2) q)
    · exact q) h
theorem all_right (hx : Inc xs) {e e' : Nat} (R : RunR xs i e) (he : e' ≤ e) (hS : ∀ j, i < j → j ≤ e' → j ∈ S) : ∀ j, i ≤ j → j ≤ e' → Reach xs S true i j := by
  intro j
  induction j using Nat.strongRecOn with
  | ind j ih =>
    intro h1 h2
    by_cases q : j = i
    · subst q; exact .refl
    · obtain ⟨m, q1, q2, q3⟩ := R.by_ j (by omega) (by omega)
      exact (ih m q2 q1 (by omega)).step hx (hS j (by omega) h2) q3
theorem all_left (hx : Inc xs) {f : Nat} (R : RunL xs i f) (hS : ∀ j, f ≤ j → j < i → j ∈ S) : ∀ d j, f ≤ j → j ≤ i → i - j = d → Reach xs S false i j := by
  intro d
  induction d using Nat.strongRecOn with
  | ind d ih =>
    intro j h1 h2 hd
    by_cases q : j = i
    · subst q; exact .refl
    · obtain ⟨m, q1, q2, q3⟩ := R.by_ j h1 (by omega)
      exact (ih (i - m) (by omega) m (by omega) q2 rfl).step hx (hS j h1 (by omega)) q3
theorem cross_left (hx : Inc xs) {s j : Nat} (hs : s ∈ S) (hi : s ≤ i) (h : Reach xs S false i j) : j < s → Reach xs S false i s :=
  Reach.ind hx (P := fun j => j < s → Reach xs S false i s) (fun q => absurd q (by omega)) (fun m j hr ih _ hh hj => by
    rcases Nat.lt_trichotomy m s with q | q | q
    · exact ih q
    · exact q ▸ hr
    · obtain ⟨h1, h2, _, h3⟩ := hh
      obtain ⟨h3, h4⟩ := h3 rfl
      have := hx.pl hj (by omega)
      exact hr.step hx hs ⟨h1, by omega, fun z => (nomatch z), fun _ => ⟨q, by omega⟩⟩) h
theorem cross_right (hx : Inc xs) {s j : Nat} (hs : s ∈ S) (hi : i ≤ s) (h : Reach xs S true i j) : s ≤ j → Reach xs S true i s :=
  Reach.ind hx (P := fun j => s ≤ j → Reach xs S true i s) (fun q => by
    have e : s = i := by omega
    rw [e]
    exact .refl) (fun m j hr ih _ hh hj => by
    rcases Nat.lt_or_ge m s with q | q
    · obtain ⟨h1, h2, h3, _⟩ := hh
      obtain ⟨h3, h4⟩ := h3 rfl
      have : pl xs s ≤ pl xs j := by
        rcases Nat.lt_or_ge s j with z | z
        · exact Int.le_of_lt (hx.pl z h2)
        · obtain rfl : s = j := by omega
          exact Int.le_refl _
      exact hr.step hx hs ⟨h1, by omega, fun _ => ⟨q, by omega⟩, fun z => (nomatch z)⟩
    · exact ih q) h
end
/-! ### games -/
noncomputable def plays (xs : List (Int × Int)) : List Push → List Nat → List Nat
  | [], T => T
  | p :: ms, T => plays xs ms (after xs T p.2 p.1)
def Valid (xs : List (Int × Int)) : List Push → List Nat → Prop
  | [], _ => True
  | p :: ms, T => p.1 ∈ T ∧ Valid xs ms (after xs T p.2 p.1)
/-- pushes from k on do nothing to the stones ahead of k -/
def VKs (xs : List (Int × Int)) (k : Nat) : List Push → List Nat → Prop
  | [], _ => True
  | p :: ms, T => p.1 ∈ T ∧ (k ≤ p.1 → ∀ j, j < k → j ∈ T → ¬ Reach xs T p.2 p.1 j) ∧ VKs xs k ms (after xs T p.2 p.1)
def cnt (k : Nat) (ms : List Push) : Nat := (ms.filter fun p => decide (p.1 < k)).length
section
variable {xs : List (Int × Int)}
theorem plays_sub : ∀ (ms : List Push) (T : List Nat) (j : Nat), j ∈ plays xs ms T → j ∈ T
  | [], _, _, h => h
  | p :: ms, T, j, h => (mem_after.mp (plays_sub ms _ j h)).1
theorem plays_app : ∀ (ms ms' : List Push) (T : List Nat), plays xs (ms ++ ms') T = plays xs ms' (plays xs ms T)
  | [], _, _ => rfl
  | p :: ms, ms', T => plays_app ms ms' _
theorem valid_app : ∀ (ms ms' : List Push) (T : List Nat), Valid xs (ms ++ ms') T ↔ Valid xs ms T ∧ Valid xs ms' (plays xs ms T)
  | [], _, _ => by simp [Valid, plays]
  | p :: ms, ms', T => by
    simp only [List.cons_append, Valid, plays]
    rw [valid_app ms ms' _, and_assoc]
theorem vk_app {k : Nat} : ∀ (ms ms' : List Push) (T : List Nat), VKs xs k (ms ++ ms') T ↔ VKs xs k ms T ∧ VKs xs k ms' (plays xs ms T)
  | [], _, _ => by simp [VKs, plays]
  | p :: ms, ms', T => by
    simp only [List.cons_append, VKs, plays]
    rw [vk_app ms ms' _, and_assoc, and_assoc]
theorem cnt_app (k : Nat) (ms ms' : List Push) : cnt k (ms ++ ms') = cnt k ms + cnt k ms' := by unfold cnt; rw [List.filter_append, List.length_append]
theorem cnt_le {k k' : Nat} (h : k ≤ k') : ∀ ms : List Push, cnt k ms ≤ cnt k' ms
  | [] => Nat.le_refl _
  | p :: ms => by
    have ih := cnt_le h ms
    unfold cnt at ih ⊢
    rw [List.filter_cons, List.filter_cons]
    by_cases q : p.1 < k
    · have q' : p.1 < k' := by omega
      simp only [q, q', decide_true, if_true, List.length_cons]
      omega
    · by_cases q' : p.1 < k'
      · simp only [q, q', decide_true, decide_false, if_true, Bool.false_eq_true, if_false, List.length_cons]
        omega
      · simp only [q, q', decide_false, Bool.false_eq_true, if_false]
        exact ih
theorem cnt_one_in {k : Nat} {p : Push} (h : p.1 < k) : cnt k [p] = 1 := by unfold cnt; simp [h]
theorem cnt_one_out {k : Nat} {p : Push} (h : k ≤ p.1) : cnt k [p] = 0 := by unfold cnt; simp; omega
/-- the push that fells a stone -/
theorem felling : ∀ (ms : List Push) (T : List Nat) (l : Nat), l ∈ T → l ∉ plays xs ms T → ∃ ms1 p ms2, ms = ms1 ++ p :: ms2 ∧ l ∈ plays xs ms1 T ∧ Reach xs (plays xs ms1 T) p.2 p.1 l
  | [], T, l, h, n => absurd h n
  | p :: ms, T, l, h, n => by
    by_cases q : Reach xs T p.2 p.1 l
    · exact ⟨[], p, ms, rfl, h, q⟩
    · obtain ⟨ms1, p', ms2, e, h1, h2⟩ := felling ms (after xs T p.2 p.1) l (mem_after.mpr ⟨h, q⟩) n
      exact ⟨p :: ms1, p', ms2, by rw [e]; rfl, h1, h2⟩
theorem vk_left (hx : Inc xs) {l f : Nat} (R : RunL xs l f) : ∀ (ms : List Push) (T : List Nat), VKs xs (l + 1) ms T → VKs xs f ms T
  | [], _, _ => True.intro
  | (i, r) :: ms, T, ⟨h1, h2, h3⟩ => by
    refine ⟨h1, fun hf j hj hjT hr => ?_, vk_left hx R ms _ h3⟩
    have hf : f ≤ i := hf
    rcases Nat.lt_or_ge l i with q | q
    · exact h2 q j (by have := R.le; omega) hjT hr
    · cases r with
      | true => have := right_ge hx hr; omega
      | false => have := in_left hx R hf q hr; omega
theorem vk_ahead (hx : Inc xs) {l s : Nat} (hs : s ≤ l) : ∀ (ms : List Push) (T : List Nat), VKs xs (l + 1) ms T → s ∈ plays xs ms T → VKs xs s ms T
  | [], _, _, _ => True.intro
  | (i, r) :: ms, T, ⟨h1, h2, h3⟩, hp => by
    refine ⟨h1, fun hf j hj hjT hr => ?_, vk_ahead hx hs ms _ h3 hp⟩
    have hf : s ≤ i := hf
    rcases Nat.lt_or_ge l i with q | q
    · exact h2 q j (by omega) hjT hr
    · cases r with
      | true => have := right_ge hx hr; omega
      | false =>
        have a := mem_after.mp (plays_sub ms _ s hp)
        exact a.2 (cross_left hx a.1 hf hr hj)
theorem vk_behind {l s : Nat} (hs : s ≤ l) : ∀ (ms : List Push) (T : List Nat), VKs xs (l + 1) ms T → (∀ j ∈ T, j < s ∨ l < j) → VKs xs s ms T
  | [], _, _, _ => True.intro
  | (i, r) :: ms, T, ⟨h1, h2, h3⟩, ht => by
    refine ⟨h1, fun hf j hj hjT hr => ?_, vk_behind hs ms _ h3 fun j hj => ht j (mem_after.mp hj).1⟩
    have hf : s ≤ i := hf
    rcases ht i h1 with q | q
    · omega
    · exact h2 q j (by omega) hjT hr
end
/-! ### the fewest pushes: mathematics -/
noncomputable section
def best (xs : List (Int × Int)) (k : Nat) : List Push := (fam xs k).getD k []
def L (xs : List (Int × Int)) (k : Nat) : Nat := (best xs k).length
section
variable {xs : List (Int × Int)}
theorem fam_pre : ∀ (k j : Nat), j ≤ k → (fam xs k).getD j [] = best xs j
  | 0, j, h => by obtain rfl : j = 0 := by omega
                  rfl
  | k + 1, j, h => by
    by_cases q : j ≤ k
    · unfold fam
      rw [List.getD_eq_getElem?_getD, List.getElem?_append_left (by rw [fam_len]; omega), ← List.getD_eq_getElem?_getD]
      exact fam_pre k j q
    · obtain rfl : j = k + 1 := by omega
      rfl
theorem best_succ (l : Nat) : best xs (l + 1) = upTo xs (fam xs l) l := by
  unfold best
  show (fam xs l ++ [upTo xs (fam xs l) l]).getD (l + 1) [] = _
  rw [List.getD_eq_getElem?_getD, List.getElem?_append_right (by rw [fam_len]; omega), fam_len, Nat.sub_self]
  rfl
theorem better_le (pss : List (List Push)) (l : Nat) : ∀ (ss : List Nat) (b : List Push), (ss.foldl (better xs pss l) b).length ≤ b.length
  | [], b => Nat.le_refl _
  | s :: ss, b => by
    refine Nat.le_trans (better_le pss l ss _) ?_
    unfold better
    split
    · rename_i h; omega
    · exact Nat.le_refl _
theorem better_cand (pss : List (List Push)) (l s : Nat) (h : l ≤ (run xs s true).2) : ∀ (ss : List Nat) (b : List Push), s ∈ ss → (ss.foldl (better xs pss l) b).length ≤ 1 + (pss.getD s []).length
  | [], b, hs => nomatch hs
  | z :: ss, b, hs => by
    rcases List.mem_cons.mp hs with e | hs
    · subst e
      refine Nat.le_trans (better_le pss l ss _) ?_
      unfold better
      split
      · rw [List.length_cons]; omega
      · rename_i q
        rw [List.length_cons] at q
        have : ¬ ((pss.getD s []).length + 1 < b.length) := fun z => q ⟨z, h⟩
        omega
    · exact better_cand pss l s h ss _ hs
theorem better_all {P : List Push → Prop} (pss : List (List Push)) (l : Nat) : ∀ (ss : List Nat) (b : List Push), P b → (∀ s ∈ ss, l ≤ (run xs s true).2 → P ((s, true) :: pss.getD s [])) → P (ss.foldl (better xs pss l) b)
  | [], b, h, _ => h
  | s :: ss, b, h, hs => by
    refine better_all pss l ss _ ?_ fun z hz => hs z (by simp [hz])
    unfold better
    split
    · rename_i q; exact hs s (by simp) q.2
    · exact h
theorem L_zero : L xs 0 = 0 := rfl
theorem L_left (l : Nat) : L xs (l + 1) ≤ 1 + L xs (run xs l false).1 := by
  unfold L
  rw [best_succ]
  refine Nat.le_trans (better_le _ _ _ _) ?_
  unfold first7
  rw [List.length_cons, fam_pre l _ run_left_le]
  omega
theorem L_right {l s : Nat} (hs : s ≤ l) (h : l ≤ (run xs s true).2) : L xs (l + 1) ≤ 1 + L xs s := by
  unfold L
  rw [best_succ]
  refine Nat.le_trans (better_cand (fam xs l) l s h _ _ (List.mem_range.mpr (by omega))) ?_
  rw [fam_pre l s hs]
  exact Nat.le_refl _
theorem lower (hx : Inc xs) : ∀ k, k ≤ xs.length → ∀ (ms : List Push) (T : List Nat), (∀ j ∈ T, j < xs.length) → VKs xs k ms T → (∀ j, j < k → j ∈ T) → (∀ j, j < k → j ∉ plays xs ms T) → L xs k ≤ cnt k ms := by
  intro k
  induction k using Nat.strongRecOn with
  | ind k ih =>
    intro hk ms T hT hv h1 h2
    cases k with
    | zero => exact Nat.zero_le _
    | succ l =>
      obtain ⟨ms1, ⟨s, r⟩, ms2, e, hl, hr⟩ := felling ms T l (h1 l (Nat.lt_succ_self _)) (h2 l (Nat.lt_succ_self _))
      subst e
      obtain ⟨v1, v2, v3, v4⟩ := (vk_app ms1 _ T).mp hv
      have hr : Reach xs (plays xs ms1 T) r s l := hr
      have v2 : s ∈ plays xs ms1 T := v2
      have v3 : l + 1 ≤ s → ∀ j, j < l + 1 → j ∈ plays xs ms1 T → ¬ Reach xs (plays xs ms1 T) r s j := v3
      have v4 : VKs xs (l + 1) ms2 (after xs (plays xs ms1 T) r s) := v4
      have hsl : s ≤ l := by
        rcases Nat.lt_or_ge l s with q | q
        · exact absurd hr (v3 q l (Nat.lt_succ_self _) hl)
        · exact q
      have hlx : l < xs.length := by omega
      cases r with
      | false =>
        obtain rfl : s = l := by have := left_le hx hr; omega
        have R := runL hx hlx
        have := ih _ (by have := R.le; omega) (by have := R.le; omega) (ms1 ++ (s, false) :: ms2) T hT (vk_left hx R _ _ hv) (fun j hj => h1 j (by have := R.le; omega)) (fun j hj => h2 j (by have := R.le; omega))
        have c : cnt (run xs s false).1 (ms1 ++ (s, false) :: ms2) + 1 ≤ cnt (s + 1) (ms1 ++ (s, false) :: ms2) := by
          have e : (s, false) :: ms2 = [(s, false)] ++ ms2 := rfl
          rw [e, cnt_app, cnt_app, cnt_app, cnt_app, cnt_one_in (p := (s, false)) (show s < s + 1 by omega), cnt_one_out (p := (s, false)) (show (run xs s false).1 ≤ s from R.le)]
          have := cnt_le (show (run xs s false).1 ≤ s + 1 by have := R.le; omega) ms1
          have := cnt_le (show (run xs s false).1 ≤ s + 1 by have := R.le; omega) ms2
          omega
        have := L_left (xs := xs) s
        omega
      | true =>
        have hsx : s < xs.length := by omega
        have R := runR hx hsx
        have le : l ≤ (run xs s true).2 := in_right hx R hr
        have gone : ∀ j ∈ after xs (plays xs ms1 T) true s, j < s ∨ l < j := by
          intro j hj
          obtain ⟨q1, q2⟩ := mem_after.mp hj
          rcases Nat.lt_or_ge j s with q | q
          · exact .inl q
          · rcases Nat.lt_or_ge l j with q' | q'
            · exact .inr q'
            · exact absurd (cross_right hx q1 q hr q') q2
        have v : VKs xs s (ms1 ++ (s, true) :: ms2) T := by
          refine (vk_app ms1 _ T).mpr ⟨vk_ahead hx hsl ms1 T v1 v2, v2, fun _ j hj _ hr => ?_, vk_behind hsl ms2 _ v4 gone⟩
          have := right_ge hx hr
          omega
        have := ih s (by omega) (by omega) (ms1 ++ (s, true) :: ms2) T hT v (fun j hj => h1 j (by omega)) (fun j hj => h2 j (by omega))
        have c : cnt s (ms1 ++ (s, true) :: ms2) + 1 ≤ cnt (l + 1) (ms1 ++ (s, true) :: ms2) := by
          have e : (s, true) :: ms2 = [(s, true)] ++ ms2 := rfl
          rw [e, cnt_app, cnt_app, cnt_app, cnt_app, cnt_one_in (p := (s, true)) (show s < l + 1 by omega), cnt_one_out (p := (s, true)) (Nat.le_refl s)]
          have := cnt_le (show s ≤ l + 1 by omega) ms1
          have := cnt_le (show s ≤ l + 1 by omega) ms2
          omega
        have := L_right hsl le
        omega
theorem vk_of_valid {k : Nat} : ∀ (ms : List Push) (T : List Nat), (∀ j ∈ T, j < k) → Valid xs ms T → VKs xs k ms T
  | [], _, _, _ => True.intro
  | p :: ms, T, ht, ⟨h1, h2⟩ => ⟨h1, fun h => absurd (ht _ h1) (by omega), vk_of_valid ms _ (fun j hj => ht j (mem_after.mp hj).1) h2⟩
/-- no pushes fell all stones with fewer -/
theorem lower_all (hx : Inc xs) {ms : List Push} (hv : Valid xs ms (List.range xs.length)) (he : plays xs ms (List.range xs.length) = []) : L xs xs.length ≤ ms.length := by
  have v := vk_of_valid (k := xs.length) ms _ (fun j hj => List.mem_range.mp hj) hv
  refine Nat.le_trans (lower hx xs.length (Nat.le_refl _) ms _ (fun j hj => List.mem_range.mp hj) v (fun j hj => List.mem_range.mpr hj) (fun j _ hj => by rw [he] at hj; cases hj)) ?_
  unfold cnt
  exact List.length_filter_le _ _
theorem filter_range {f : Nat} {p : Nat → Bool} : ∀ n, f ≤ n → (∀ j, j < n → (p j = true ↔ j < f)) → (List.range n).filter p = List.range f
  | 0, h, _ => by obtain rfl : f = 0 := by omega
                  rfl
  | n + 1, h, hp => by
    rw [List.range_succ, List.filter_append]
    by_cases q : f = n + 1
    · subst q
      have hn : p n = true := (hp n (by omega)).mpr (by omega)
      rw [List.range_succ, filter_range n (f := n) (Nat.le_refl _) fun j hj => by rw [hp j (by omega)]; omega]
      simp [hn]
    · have hn : p n = false := by
        rw [Bool.eq_false_iff]
        intro z
        have := (hp n (by omega)).mp z
        omega
      rw [filter_range n (f := f) (by omega) fun j hj => hp j (by omega)]
      simp [hn]
theorem after_range {n f i : Nat} {r : Bool} (h : f ≤ n) (hp : ∀ j, j < n → (¬ Reach xs (List.range n) r i j ↔ j < f)) : after xs (List.range n) r i = List.range f := by
  unfold after
  refine filter_range n h fun j hj => ?_
  rw [← hp j hj]
  exact ⟨fun z => @of_decide_eq_true _ (Classical.propDecidable _) z, fun z => @decide_eq_true _ (Classical.propDecidable _) z⟩
theorem after_left (hx : Inc xs) {l : Nat} (hl : l < xs.length) : after xs (List.range (l + 1)) false l = List.range (run xs l false).1 := by
  have R := runL hx hl
  refine after_range (by have := R.le; omega) fun j hj => ?_
  constructor
  · intro h
    rcases Nat.lt_or_ge j (run xs l false).1 with q | q
    · exact q
    · exact absurd (all_left hx R (fun z h1 h2 => List.mem_range.mpr (by omega)) (l - j) j q (by omega) rfl) h
  · intro h z
    have := in_left hx R R.le (Nat.le_refl _) z
    omega
theorem after_right (hx : Inc xs) {l s : Nat} (hl : l < xs.length) (hs : s ≤ l) (h : l ≤ (run xs s true).2) : after xs (List.range (l + 1)) true s = List.range s := by
  have R := runR hx (show s < xs.length by omega)
  refine after_range (by omega) fun j hj => ?_
  constructor
  · intro z
    rcases Nat.lt_or_ge j s with q | q
    · exact q
    · exact absurd (all_right hx R (e' := l) h (fun z h1 h2 => List.mem_range.mpr (by omega)) j q (by omega)) z
  · intro h z
    have := right_ge hx z
    omega
theorem plan (hx : Inc xs) : ∀ k, k ≤ xs.length → Valid xs (best xs k) (List.range k) ∧ plays xs (best xs k) (List.range k) = [] := by
  intro k
  induction k using Nat.strongRecOn with
  | ind k ih =>
    intro hk
    cases k with
    | zero => exact ⟨True.intro, rfl⟩
    | succ l =>
      rw [best_succ]
      unfold upTo
      refine better_all (P := fun ps => Valid xs ps (List.range (l + 1)) ∧ plays xs ps (List.range (l + 1)) = []) (fam xs l) l _ _ ?_ fun s hs h => ?_
      · unfold first7
        rw [fam_pre l _ run_left_le]
        have e := after_left hx (show l < xs.length by omega)
        have i := ih (run xs l false).1 (by have := run_left_le (xs := xs) (i := l); omega) (by have := run_left_le (xs := xs) (i := l); omega)
        refine ⟨⟨List.mem_range.mpr (by show l < l + 1; omega), ?_⟩, ?_⟩
        · show Valid xs _ (after xs (List.range (l + 1)) false l)
          rw [e]
          exact i.1
        · show plays xs _ (after xs (List.range (l + 1)) false l) = []
          rw [e]
          exact i.2
      · have hs' : s ≤ l := by have := List.mem_range.mp hs; omega
        rw [fam_pre l s hs']
        have e := after_right hx (show l < xs.length by omega) hs' h
        have i := ih s (by omega) (by omega)
        refine ⟨⟨List.mem_range.mpr (by show s < l + 1; omega), ?_⟩, ?_⟩
        · show Valid xs _ (after xs (List.range (l + 1)) true s)
          rw [e]
          exact i.1
        · show plays xs _ (after xs (List.range (l + 1)) true s) = []
          rw [e]
          exact i.2
theorem fewest_best : fewest xs = best xs xs.length := rfl
theorem fewest_plan (hx : Inc xs) : Valid xs (fewest xs) (List.range xs.length) ∧ plays xs (fewest xs) (List.range xs.length) = [] := plan hx _ (Nat.le_refl _)
end
end
/-! ### all pushes one after another: mathematics -/
noncomputable section
def addF (fl : List (List Nat)) (T : List Nat) : List (List Nat) := if T ∈ fl then fl else fl ++ [T]
def succs (xs : List (Int × Int)) (T : List Nat) : List (List Nat) := T.flatMap fun i => [after xs T false i, after xs T true i]
def follow (xs : List (Int × Int)) (lv : List (List Nat)) : List (List Nat) := (lv.flatMap (succs xs)).foldl addF []
def nextL (xs : List (Int × Int)) (lv kn : List (List Nat)) : List (List Nat) := (follow xs lv).filter fun T => decide (T ∉ kn)
def nextK (xs : List (Int × Int)) (lv kn : List (List Nat)) : List (List Nat) := (nextL xs lv kn).foldl addF kn
def Play (xs : List (Int × Int)) (j : Nat) (T : List Nat) : Prop := ∃ ms : List Push, ms.length = j ∧ Valid xs ms (List.range xs.length) ∧ plays xs ms (List.range xs.length) = T
section
variable {xs : List (Int × Int)}
theorem addF_mem {T : List Nat} : ∀ (ts fl : List (List Nat)), T ∈ ts.foldl addF fl ↔ T ∈ fl ∨ T ∈ ts
  | [], fl => by simp
  | t :: ts, fl => by
    rw [List.foldl_cons, addF_mem ts]
    unfold addF
    split
    · rename_i h
      simp only [List.mem_cons]
      constructor
      · rintro (h | h)
        · exact .inl h
        · exact .inr (.inr h)
      · rintro (h' | h' | h')
        · exact .inl h'
        · exact .inl (h' ▸ h)
        · exact .inr h'
    · simp only [List.mem_append, List.mem_cons, List.not_mem_nil, or_false, or_assoc]
theorem addF_len : ∀ (ts fl : List (List Nat)), (ts.foldl addF fl).length ≤ fl.length + ts.length
  | [], fl => by simp
  | t :: ts, fl => by
    have ih := addF_len ts (addF fl t)
    have h : (addF fl t).length ≤ fl.length + 1 := by unfold addF; split <;> simp
    simp only [List.foldl_cons, List.length_cons]
    omega
theorem mem_succs {T T' : List Nat} : T' ∈ succs xs T ↔ ∃ i ∈ T, ∃ r, T' = after xs T r i := by
  unfold succs
  rw [List.mem_flatMap]
  constructor
  · rintro ⟨i, hi, h⟩
    simp at h
    rcases h with h | h
    · exact ⟨i, hi, false, h⟩
    · exact ⟨i, hi, true, h⟩
  · rintro ⟨i, hi, r, h⟩
    refine ⟨i, hi, ?_⟩
    cases r <;> simp [h]
theorem mem_follow {lv : List (List Nat)} {T' : List Nat} : T' ∈ follow xs lv ↔ ∃ T ∈ lv, T' ∈ succs xs T := by
  unfold follow
  rw [addF_mem, List.mem_flatMap]
  simp
theorem Play.zero : Play xs 0 (List.range xs.length) := ⟨[], rfl, True.intro, rfl⟩
theorem Play.zero_eq {T : List Nat} (h : Play xs 0 T) : T = List.range xs.length := by
  obtain ⟨ms, h1, _, h3⟩ := h
  cases ms with
  | nil => exact h3.symm
  | cons p ms => cases h1
theorem Play.succ {j i : Nat} {T : List Nat} {r : Bool} (h : Play xs j T) (hi : i ∈ T) : Play xs (j + 1) (after xs T r i) := by
  obtain ⟨ms, h1, h2, h3⟩ := h
  refine ⟨ms ++ [(i, r)], by simp [h1], (valid_app _ _ _).mpr ⟨h2, by rw [h3]; exact ⟨hi, True.intro⟩⟩, ?_⟩
  rw [plays_app, h3]
  rfl
theorem Play.back {j : Nat} {T' : List Nat} (h : Play xs (j + 1) T') : ∃ T, Play xs j T ∧ T' ∈ succs xs T := by
  obtain ⟨ms, h1, h2, h3⟩ := h
  have ne : ms ≠ [] := fun z => by rw [z] at h1; cases h1
  have e := List.dropLast_concat_getLast ne
  rw [← e] at h2 h3
  obtain ⟨v1, v2, _⟩ := (valid_app _ _ _).mp h2
  rw [plays_app] at h3
  refine ⟨plays xs ms.dropLast (List.range xs.length), ⟨ms.dropLast, by rw [List.length_dropLast]; omega, v1, rfl⟩, mem_succs.mpr ⟨_, v2, (ms.getLast ne).2, h3.symm⟩⟩
theorem plays_len : ∀ (ms : List Push) (T : List Nat), (plays xs ms T).length ≤ T.length
  | [], _ => Nat.le_refl _
  | p :: ms, T => Nat.le_trans (plays_len ms _) (by unfold after; exact List.length_filter_le _ _)
theorem Play.len {j : Nat} {T : List Nat} (h : Play xs j T) : T.length ≤ xs.length ∧ ∀ k ∈ T, k < xs.length := by
  obtain ⟨ms, _, _, rfl⟩ := h
  exact ⟨by have := plays_len (xs := xs) ms (List.range xs.length); simpa using this, fun k hk => List.mem_range.mp (plays_sub ms _ k hk)⟩
structure BF (xs : List (Int × Int)) (c : Nat) (lv kn : List (List Nat)) : Prop where
  a : ∀ T ∈ lv, Play xs c T
  b : ∀ T ∈ kn, T ∈ lv ∨ ∃ j, j < c ∧ Play xs j T
  c_ : ∀ j, j ≤ c → ∀ T, Play xs j T → T = List.range xs.length ∨ T ∈ kn
  d : ∀ T, (T = List.range xs.length ∨ T ∈ kn) → T ∉ lv → ∀ T' ∈ succs xs T, T' ∈ kn
  e : c = 0 → List.range xs.length ∈ lv
  s1 : lv.length ≤ 12 ^ c
  s2 : kn.length ≤ 2 * 12 ^ c
theorem BF.zero : BF xs 0 [List.range xs.length] [] where
  a := fun T h => by simp at h; subst h; exact .zero
  b := fun T h => nomatch h
  c_ := fun j hj T h => by
    obtain rfl : j = 0 := by omega
    exact .inl h.zero_eq
  d := fun T h n => by
    rcases h with h | h
    · exact absurd (by simp [h]) n
    · cases h
  e := fun _ => by simp
  s1 := by simp
  s2 := by simp
theorem BF.next {c : Nat} {lv kn : List (List Nat)} (h : BF xs c lv kn) (hn : xs.length ≤ 6) : BF xs (c + 1) (nextL xs lv kn) (nextK xs lv kn) := by
  have mL : ∀ T, T ∈ nextL xs lv kn ↔ T ∈ follow xs lv ∧ T ∉ kn := fun T => by unfold nextL; rw [List.mem_filter, decide_eq_true_eq]
  have mK : ∀ T, T ∈ nextK xs lv kn ↔ T ∈ kn ∨ T ∈ nextL xs lv kn := fun T => by unfold nextK; rw [addF_mem]
  have mF : ∀ T, T ∈ follow xs lv → T ∈ nextK xs lv kn := fun T hT => by
    rw [mK, mL]
    by_cases q : T ∈ kn
    · exact .inl q
    · exact .inr ⟨hT, q⟩
  have lenF : (follow xs lv).length ≤ 12 * lv.length := by
    unfold follow
    refine Nat.le_trans (addF_len _ _) ?_
    have : ∀ l : List (List Nat), (∀ T ∈ l, T.length ≤ 6) → (l.flatMap (succs xs)).length ≤ 12 * l.length := by
      intro l
      induction l with
      | nil => intro _; simp
      | cons T l ih =>
        intro hl
        have h1 := ih fun z hz => hl z (by simp [hz])
        have h2 := hl T (by simp)
        have h3 : ∀ m : List Nat, (m.flatMap fun i => [after xs T false i, after xs T true i]).length = 2 * m.length := by
          intro m
          induction m with
          | nil => rfl
          | cons i m ih => rw [List.flatMap_cons, List.length_append, ih]; simp; omega
        rw [List.flatMap_cons, List.length_append]
        have : (succs xs T).length = 2 * T.length := h3 T
        rw [this, List.length_cons]
        omega
    have := this lv fun T hT => Nat.le_trans (h.a T hT).len.1 hn
    simpa using this
  have lenL : (nextL xs lv kn).length ≤ 12 ^ (c + 1) := by
    unfold nextL
    refine Nat.le_trans (List.length_filter_le _ _) (Nat.le_trans lenF ?_)
    have := h.s1
    rw [Nat.pow_succ]
    omega
  refine ⟨fun T hT => ?_, fun T hT => ?_, fun j hj T hT => ?_, fun T hT n T' hT' => ?_, fun z => absurd z (Nat.succ_ne_zero _), lenL, ?_⟩
  · obtain ⟨T0, h0, h1⟩ := mem_follow.mp ((mL T).mp hT).1
    obtain ⟨i, hi, r, rfl⟩ := mem_succs.mp h1
    exact (h.a T0 h0).succ hi
  · rcases (mK T).mp hT with q | q
    · rcases h.b T q with q | ⟨j, h1, h2⟩
      · exact .inr ⟨c, by omega, h.a T q⟩
      · exact .inr ⟨j, by omega, h2⟩
    · exact .inl q
  · rw [mK]
    cases j with
    | zero => exact .inl hT.zero_eq
    | succ j =>
      obtain ⟨T0, h0, h1⟩ := hT.back
      have seen := h.c_ j (by omega) T0 h0
      by_cases q : T0 ∈ lv
      · exact .inr ((mK T).mp (mF T (mem_follow.mpr ⟨T0, q, h1⟩)))
      · exact .inr (.inl (h.d T0 seen q T h1))
  · by_cases q : T ∈ lv
    · exact mF T' (mem_follow.mpr ⟨T, q, hT'⟩)
    · rw [mK]
      rcases hT with hT | hT
      · exact .inl (h.d T (.inl hT) q T' hT')
      · rcases (mK T).mp hT with z | z
        · exact .inl (h.d T (.inr z) q T' hT')
        · exact absurd z n
  · unfold nextK
    refine Nat.le_trans (addF_len _ _) ?_
    have := h.s2
    rw [Nat.pow_succ] at lenL ⊢
    omega
theorem BF.stop (hx : Inc xs) {c : Nat} {lv kn : List (List Nat)} (h : BF xs c lv kn) (hc : c ≤ L xs xs.length) : ([] ∈ lv → c = L xs xs.length) ∧ ([] ∉ lv → c < L xs xs.length) := by
  constructor
  · intro q
    obtain ⟨ms, h1, h2, h3⟩ := h.a [] q
    have := lower_all hx h2 h3
    omega
  · intro q
    rcases Nat.lt_or_ge c (L xs xs.length) with z | z
    · exact z
    · have e : c = L xs xs.length := by omega
      have pl : Play xs c [] := ⟨fewest xs, by rw [e]; rfl, (fewest_plan hx).1, (fewest_plan hx).2⟩
      rcases h.c_ c (Nat.le_refl _) [] pl with w | w
      · have n0 : xs.length = 0 := by have := congrArg List.length w; simpa using this.symm
        have : c = 0 := by rw [e, n0]; rfl
        exact absurd (w ▸ h.e this) q
      · rcases h.b [] w with w | ⟨j, h1, ms, h2, h3, h4⟩
        · exact absurd w q
        · have := lower_all hx h3 h4
          omega
theorem L_le : ∀ k, L xs k ≤ k := fun k => fam_short xs k k (Nat.le_refl _)
end
end
/-! ### all pushes one after another, as the law reckons them -/
def ivk (T : List Nat) : List Key := T.map fun (k : Nat) => (Sum.inl (k : Int) : Key)
def tk (fl : List (List Nat)) : List (List Key × V) := fl.map fun T => (ivk T, V.bl true)
theorem ivk_v (T : List Nat) : (ivk T).map kV = ivs T := by unfold ivk ivs; rw [List.map_map]; rfl
theorem ivk_inj : ∀ {T T' : List Nat}, ivk T = ivk T' → T = T'
  | [], [], _ => rfl
  | [], _ :: _, h => nomatch h
  | _ :: _, [], h => nomatch h
  | a :: T, b :: T', h => by
    have h : (Sum.inl (a : Int) : Key) :: ivk T = Sum.inl (b : Int) :: ivk T' := h
    injection h with h1 h2
    injection h1 with h1
    rw [ivk_inj h2, show a = b by omega]
theorem tk_none {fl : List (List Nat)} {T : List Nat} : valV (tk fl) (ivk T) = none ↔ T ∉ fl := by
  induction fl with
  | nil => exact ⟨fun _ h => (nomatch h), fun _ => rfl⟩
  | cons p fl ih =>
    have c : tk (p :: fl) = (ivk p, V.bl true) :: tk fl := rfl
    rw [c]
    by_cases e : p = T
    · rw [valV_pos (by rw [e])]
      simp [e]
    · rw [valV_neg (fun h => e (ivk_inj h)), ih]
      simp only [List.mem_cons, not_or]
      exact ⟨fun h => ⟨fun z => e z.symm, h⟩, fun h => h.2⟩
theorem tk_put (fl : List (List Nat)) (T : List Nat) : putK (tk fl) (ivk T) (V.bl true) = tk (addF fl T) := by
  by_cases h : T ∈ fl
  · have e : addF fl T = fl := by unfold addF; rw [if_pos h]
    rw [e]
    have a : ((tk fl).any fun kv => decide (kv.1 = ivk T)) = true := by
      rw [valV_any]
      cases q : valV (tk fl) (ivk T) with
      | none => exact absurd h (tk_none.mp q)
      | some v => rfl
    unfold putK
    rw [if_pos a]
    unfold tk
    rw [List.map_map]
    refine List.map_congr_left fun x _ => ?_
    show (if ivk x = ivk T then (ivk x, V.bl true) else (ivk x, V.bl true)) = (ivk x, V.bl true)
    split <;> rfl
  · have e : addF fl T = fl ++ [T] := by unfold addF; rw [if_neg h]
    rw [e, putK_new _ (tk_none.mpr h)]
    unfold tk
    simp
theorem tk_len (fl : List (List Nat)) : (tk fl).length = fl.length := by unfold tk; simp
/-- a list of tuples of ints, each of them tracked -/
def LevAt (H : Hp) (vs : List V) (Ts : List (List Nat)) : Prop := vs.length = Ts.length ∧ ∀ (k : Nat) (T : List Nat), Ts[k]? = some T → ∃ a : Addr, vs[k]? = some (V.ref a) ∧ H a = some (.tup (ivs T))
theorem LevAt.same {H H' : Hp} {vs : List V} {Ts : List (List Nat)} (h : LevAt H vs Ts) (e : Same H H') : LevAt H' vs Ts := ⟨h.1, fun k T q => let ⟨a, q1, q2⟩ := h.2 k T q; ⟨a, q1, e _ _ q2⟩⟩
theorem LevAt.but {H H' : Hp} {l : Addr} {vs : List V} {Ts : List (List Nat)} (h : LevAt H vs Ts) (b : But l H H') (hl : ∀ xs, H l ≠ some (.tup xs)) : LevAt H' vs Ts :=
  ⟨h.1, fun k T q => let ⟨a, q1, q2⟩ := h.2 k T q; ⟨a, q1, b _ _ (fun z => hl _ (z ▸ q2)) q2⟩⟩
theorem LevAt.snoc {H : Hp} {vs : List V} {Ts : List (List Nat)} {a : Addr} {T : List Nat} (h : LevAt H vs Ts) (ha : H a = some (.tup (ivs T))) : LevAt H (vs ++ [.ref a]) (Ts ++ [T]) := by
  refine ⟨by rw [List.length_append, List.length_append, h.1]; rfl, fun k T' q => ?_⟩
  by_cases hk : k < Ts.length
  · rw [List.getElem?_append_left hk] at q
    rw [List.getElem?_append_left (by rw [h.1]; exact hk)]
    exact h.2 k T' q
  · have e : k = Ts.length := by
      have := (List.getElem?_eq_some_iff.mp q).1
      simp at this
      omega
    subst e
    rw [List.getElem?_append_right (Nat.le_refl _), Nat.sub_self] at q
    obtain rfl : T = T' := Option.some.inj q
    exact ⟨a, by rw [← h.1, List.getElem?_append_right (Nat.le_refl _), Nat.sub_self]; rfl, ha⟩
def tupD (T : List Nat) : PyData := .tuple (T.map fun (k : Nat) => PyData.int (k : Int))
theorem tupD_nil (T : List Nat) : PyData.eqv (tupD T) (tupD []) = decide (T = []) := by
  cases T with
  | nil => simp [tupD, PyData.eqv, PyData.eqvAll]
  | cons k T => simp [tupD, PyData.eqv, PyData.eqvAll]
theorem tupD_deep (T : List Nat) : PyData.depth (tupD T) ≤ 2 := by
  have := deep_ints T
  unfold tupD
  simp only [PyData.depth]
  omega
theorem tupD_lay (T : List Nat) : PyData.canLay0 (tupD T) = true := by unfold tupD; simp only [PyData.canLay0]; exact lay_ints T
theorem tupD_shaped (T : List Nat) : SeqAt.shaped (tupD T) = true := by
  show (PyData.canLay0 (tupD T) && decide (PyData.depth (tupD T) ≤ 64)) = true
  rw [Bool.and_eq_true]
  exact ⟨tupD_lay T, decide_eq_true (by have := tupD_deep T; omega)⟩
theorem tups_shaped (Ts : List (List Nat)) : SeqAt.shaped (.list (Ts.map tupD)) = true := by
  have l : ∀ Ts : List (List Nat), PyData.canLayAll0 (Ts.map tupD) = true := fun Ts => by
    induction Ts with
    | nil => simp [PyData.canLayAll0]
    | cons T Ts ih => simp [PyData.canLayAll0, tupD_lay T, ih]
  have d : ∀ Ts : List (List Nat), PyData.depthAll (Ts.map tupD) ≤ 2 := fun Ts => by
    induction Ts with
    | nil => simp [PyData.depthAll]
    | cons T Ts ih =>
      have := tupD_deep T
      simp only [List.map_cons, PyData.depthAll]
      omega
  show (PyData.canLay0 (.list (Ts.map tupD)) && decide (PyData.depth (.list (Ts.map tupD)) ≤ 64)) = true
  rw [Bool.and_eq_true]
  refine ⟨by simp only [PyData.canLay0]; exact l Ts, decide_eq_true ?_⟩
  have := d Ts
  simp only [PyData.depth]
  omega
theorem lev_dp {K : PySem.W.Frag} {H : Hp} : ∀ {vs : List V} {Ts : List (List Nat)}, LevAt H vs Ts → DpAll K H vs (Ts.map tupD)
  | [], [], _ => .nil
  | [], T :: Ts, h => nomatch h.1
  | v :: vs, [], h => nomatch h.1
  | v :: vs, T :: Ts, h => by
    obtain ⟨a, q1, q2⟩ := h.2 0 T rfl
    obtain rfl : v = .ref a := Option.some.inj q1
    exact .cons (.tup (SqT.of q2) (ints_all T)) (lev_dp ⟨by have := h.1; simpa using this, fun k T' q => h.2 (k + 1) T' q⟩)
theorem any_nil (Ts : List (List Nat)) : ((Ts.map tupD).any fun z => PyData.eqv z (tupD [])) = decide ([] ∈ Ts) := by
  induction Ts with
  | nil => rfl
  | cons T Ts ih =>
    rw [List.map_cons, List.any_cons, ih, tupD_nil]
    by_cases h : T = []
    · subst h; simp
    · have : ¬ [] = T := fun z => h z.symm
      simp [h, this]
noncomputable def sucU (xs : List (Int × Int)) (T l : List Nat) : List (List Nat) := l.flatMap fun i => [after xs T false i, after xs T true i]
theorem sucU_all {xs : List (Int × Int)} {T : List Nat} : sucU xs T T = succs xs T := rfl
theorem sucU_app {xs : List (Int × Int)} {T l m : List Nat} : sucU xs T (l ++ m) = sucU xs T l ++ sucU xs T m := by unfold sucU; rw [List.flatMap_append]
theorem rgV_ivs (n : Nat) : rgV 0 (n : Int) = ivs (List.range n) := by
  unfold rgV ivs
  have e : ((n : Int) - 0).toNat = n := by omega
  rw [e]
  exact List.map_congr_left fun k _ => congrArg V.int (by omega)
theorem flat_len {xs : List (Int × Int)} : ∀ l : List (List Nat), (∀ T ∈ l, T.length ≤ 6) → (l.flatMap (succs xs)).length ≤ 12 * l.length
  | [], _ => by simp
  | T :: l, hl => by
    have h1 := flat_len (xs := xs) l fun z hz => hl z (by simp [hz])
    have h2 := hl T (by simp)
    have h3 : ∀ m : List Nat, (m.flatMap fun i => [after xs T false i, after xs T true i]).length = 2 * m.length := by
      intro m
      induction m with
      | nil => rfl
      | cons i m ih => rw [List.flatMap_cons, List.length_append, ih]; simp; omega
    have h4 : (succs xs T).length = 2 * T.length := h3 T
    rw [List.flatMap_cons, List.length_append, h4, List.length_cons]
    omega
theorem keep_after {xs : List (Int × Int)} {T : List Nat} {r : Bool} {i : Nat} {fs : List (Nat × Nat)} (h : ∀ j u, (j, u) ∈ fs ↔ Fst xs T r i u j) : (T.filter fun k => decide (k ∉ fs.map (·.1))) = after xs T r i := by
  unfold after
  refine List.filter_congr fun k _ => ?_
  have e : k ∈ fs.map (·.1) ↔ Reach xs T r i k := by
    rw [Reach.fst]
    constructor
    · intro z
      obtain ⟨⟨k', u⟩, h1, rfl⟩ := List.mem_map.mp z
      exact ⟨u, (h _ _).mp h1⟩
    · rintro ⟨u, hu⟩
      exact List.mem_map.mpr ⟨(k, u), (h k u).mpr hu, rfl⟩
  by_cases q : k ∈ fs.map (·.1)
  · rw [decide_eq_false (fun z => z q)]
    exact (@decide_eq_false _ (Classical.propDecidable _) (fun z => z (e.mp q))).symm
  · rw [decide_eq_true q]
    exact (@decide_eq_true _ (Classical.propDecidable _) (fun z => q (e.mpr z))).symm
/-- tuple([k for k in standing if k not in fallen]), read: slots 5, 8, 9 -/
theorem key_reads {K : PySem.W.Frag} {σ : L2.St} {H : Hp} {Q : VK} {a d : Addr} {T : List Nat} {fs : List (Nat × Nat)} {tt : TT} (h5 : σ[5]? = some (some (.ref a))) (ea : H a = some (.tup (ivs T))) (hT : T.length ≤ 1000) (ed : H d = some (.dK (kvs fs)))
    (ht : ∀ (k : Nat) (H' : Hp) (Q' : Bool → Hp → Prop), H' d = some (.dK (kvs fs)) → Q' (decide (k ∉ fs.map (·.1))) H' → tt ((wipe σ [9]).set 9 (some (.int (k : Nat)))) H' Q') (hw : ∀ v, wipe ((wipe σ [9]).set 9 v) [9] = wipe σ [9]) (h9 : ∀ v, ((wipe σ [9]).set 9 (some v))[9]? = some (some v))
    (k : ∀ (q : Addr) (H' : Hp), Same H H' → H q = none → H' q = some (.tup (ivs (T.filter fun k => decide (k ∉ fs.map (·.1))))) → Q (.ref q) H') :
    tThen (tLc (iTup K (tVar 5)) (gName 9) tt (tVar 9) [9]) (kTup K) σ H Q := by
  refine ⟨_, h5, a, rfl, ⟨_, SqT.of ea⟩, fun D nD => lc_tup (K := K) (a := a) (xs := ivs T) (fun j H1 => But D H H1 ∧ H1 D = some (.lst (ivs ((T.take j).filter fun k => decide (k ∉ fs.map (·.1)))))) ?_ ?_ ?_ ?_⟩
  · exact ⟨but_upd, upd_same⟩
  · rintro j H1 _ ⟨b, _⟩
    exact SqT.of (But.same b nD _ _ ea)
  · rintro j y H1 hy ⟨b, e⟩
    obtain ⟨o, ho, rfl⟩ := ivs_get hy
    have hj : j < T.length := (List.getElem?_eq_some_iff.mp ho).1
    have sm : Same H H1 := But.same b nD
    refine ⟨hw _, ht o H1 _ (sm _ _ ed) ?_⟩
    have eT : (T.take (j + 1)).filter (fun k => decide (k ∉ fs.map (·.1))) = (T.take j).filter (fun k => decide (k ∉ fs.map (·.1))) ++ [o].filter (fun k => decide (k ∉ fs.map (·.1))) := by
      rw [List.take_add_one, ho, List.filter_append]
      rfl
    rw [eT]
    cases hd : decide (o ∉ fs.map (·.1)) with
    | true =>
      refine iteT ⟨_, h9 _, _, e, ?_, b.trans but_upd, ?_⟩
      · unfold ivs
        rw [List.length_map, sizeLine_eq]
        have := List.length_filter_le (fun k => decide (k ∉ fs.map (·.1))) (T.take j)
        rw [List.length_take] at this
        omega
      · rw [upd_same]
        unfold ivs
        rw [List.map_append, List.filter_cons, hd]
        rfl
    | false =>
      refine iteF ⟨b, ?_⟩
      rw [e, List.filter_cons, hd]
      simp
  · rintro H1 ⟨b, e⟩
    rw [show (ivs T).length = T.length from by unfold ivs; simp, List.take_length] at e
    have sm : Same H H1 := But.same b nD
    refine .inl ⟨D, _, rfl, SqL.of e, fun q nq => ?_⟩
    exact k q _ (sm.trans (same_new nq)) (Same.free sm nq) upd_same
def spLeast (K : PySem.W.Frag) : Sp := fun vs H Q _ => ∃ (q : Addr) (us : List V) (xs : List (Int × Int)), vs = [.ref q] ∧ SqL K H q us ∧ StonesAt K H us xs ∧ Wf 0 xs ∧ xs.length ≤ 6 ∧
  ∀ H', Same H H' → Q (.int ((L xs xs.length : Nat) : Int)) H'
section
variable {P : Program} {w : World} {K : PySem.W.Frag} {mg : Str → Option Value} {base : Heap}
theorem ok_least {f g : Addr} {fd gd : FuncData} (F : Fun K "_law_least" "_law_least" s_law_least f fd) (B : Blt mg) (N : At P w K mg base CX0 1 "_law_fallen" ["_law_stones_here", "_law_standing", "_law_stone", "_law_side"] (spFallen K) g gd) :
    FnOk P w K mg base CX0 2 f fd ["_law_stones_here"] (spLeast K) := by
  refine F.ok sc_law_least (fun vs H Q E h => ?_) (fun cdv A outer s H vs Q E hr h => ?_)
  · obtain ⟨q, us, xs, rfl, _⟩ := h
    rfl
  · obtain ⟨q, us, xs, rfl, hq, hS, hw, hn, k⟩ := h
    have hu := hu_of hr
    have hu65 : (A.deeper (envOfC "_law_least" (defScope s_law_least) s.heap.objs.size f cdv)).units + 65 < cLine := by have := hr.un; omega
    refine ⟨_, pss_cons (ps_asg (pe_tup (pa_cons (pe_lst (pa_cons (pe_tupRg rfl (by rfl) B.tuple (prg_1 (by rfl) B.range (pe_callB call_len_seq (by rfl) B.len PySem.boot_len (pa_cons (pv 0) pa_nil)))) pa_nil)) (pa_cons (pe_dnewT) (pa_cons (pe_int) pa_nil)))) (pg_tup rfl (pgs_cons (pg_name (i := 1) sc_law_least.nd rfl (Or.inl rfl)) (pgs_cons (pg_name (i := 2) sc_law_least.nd rfl (Or.inr rfl)) (pgs_cons (pg_name (i := 3) sc_law_least.nd rfl (Or.inl rfl)) pgs_nil)))))
      (pss_cons (ps_while PassesOwn.never (pt_cmpR (op_notInD hu65) (pe_tup pa_nil) (pv 1) (by rfl))
        (pss_cons (ps_set (i := 4) sc_law_least.nd rfl (Or.inl rfl) (pe_dnewT))
        (pss_cons (ps_for PassesOwn.never rfl (pi_list (pv 1)) (pg_name (i := 5) sc_law_least.nd rfl (Or.inl rfl))
          (pss_one (ps_for PassesOwn.never rfl (pi_tup (pv 5)) (pg_name (i := 6) sc_law_least.nd rfl (Or.inl rfl))
            (pss_one (ps_for PassesOwn.never rfl (pi_tup (pe_tup (pa_cons (pe_str) (pa_cons (pe_str) pa_nil)))) (pg_name (i := 7) sc_law_least.nd rfl (Or.inl rfl))
              (pss_cons (ps_set (i := 8) sc_law_least.nd rfl (Or.inr rfl) (pe_at N hr (pa_cons (pv 0) (pa_cons (pe_callTy (call_list_of) (by rfl) B.list boot_list (pa_cons (pv 5) pa_nil)) (pa_cons (pv 6) (pa_cons (pv 7) pa_nil))))))
              (pss_one (ps_dput hu (pv 4) (pe_tupleOf (by rfl) B.tuple (pe_lc (own := [("_law_k", 9)]) (g := gName 9) rfl sc_law_least.nd (pi_tup (pv 5)) (blkOk_by (N := n_law_least) (sc := defScope s_law_least) (by decide +kernel))
                (fun _ _ _ _ _ => pg_name (i := 9) sc_law_least.nd rfl (Or.inl rfl)) (fun _ _ _ _ _ => pts_one (pt_cmp (pc_dnotin hu (pv 9) (pv 8)))) (fun _ _ _ _ _ => pv 9))) pe_bl rfl))))))))
        (pss_cons (ps_lock (ps_setLc (i := 1) (own := [("_law_standing", 5)]) (g := gName 5) rfl sc_law_least.nd rfl rfl (sw_true rfl rfl rfl (by decide +kernel)) (pi_keys (pv 4)) (blkOk_by (N := n_law_least) (sc := defScope s_law_least) (by decide +kernel))
            (fun _ _ _ _ _ => pg_name (i := 5) sc_law_least.nd rfl (Or.inl rfl)) (fun _ _ _ _ _ => pts_one (pt_cmp (pc_dnotin hu (pv 5) (pv 2)))) (fun _ _ _ _ _ => pv 5)))
        (pss_cons (ps_for PassesOwn.never rfl (pi_list (pv 1)) (pg_name (i := 5) sc_law_least.nd rfl (Or.inl rfl)) (pss_one (ps_dput hu (pv 2) (pv 5) pe_bl rfl)))
        (pss_one (ps_set (i := 3) sc_law_least.nd rfl (Or.inl rfl) (pe_op op_add (pv 3) (pe_int)))))))))
      (pss_one (ps_ret (pv 3)))), ?_⟩
    have hx := hw.inc
    -- level, known, count
    refine ⟨_, rfl, q, us, rfl, .inl hq, _, rfl, ⟨by omega, by omega, by rw [hS.1]; omega, by rw [hS.1]; omega, by rw [hS.1]; omega⟩, fun T0 nT0 => ⟨by show 1 ≤ sizeLine; decide, fun lv nlv => fun kd nkd => ⟨by show 3 ≤ sizeLine; decide, fun T nT => ⟨T, _, rfl, SqT.of upd_same, rfl, _, _, rfl, _, _, rfl, _, _, rfl, rfl, ?_⟩⟩⟩⟩
    have eR : rgV 0 (us.length : Int) = ivs (List.range xs.length) := by rw [hS.1, rgV_ivs]
    rw [eR] at nlv nkd nT ⊢
    have s1 := same_new (o := .tup (ivs (List.range xs.length))) nT0
    have s2 := s1.trans (same_new (o := .lst [.ref T0]) nlv)
    have s3 := s2.trans (same_new (o := .dT []) nkd)
    have eT0 : (upd (upd (upd H T0 (.tup (ivs (List.range xs.length)))) lv (.lst [.ref T0])) kd (.dT [])) T0 = some (.tup (ivs (List.range xs.length))) := same_new nkd _ _ (same_new nlv _ _ upd_same)
    have elv : (upd (upd (upd H T0 (.tup (ivs (List.range xs.length)))) lv (.lst [.ref T0])) kd (.dT [])) lv = some (.lst [.ref T0]) := same_new nkd _ _ upd_same
    have ekd : (upd (upd (upd H T0 (.tup (ivs (List.range xs.length)))) lv (.lst [.ref T0])) kd (.dT [])) kd = some (.dT (tk [])) := upd_same
    have nkdH : H kd = none := Same.free s2 nkd
    have st := same_new (o := .tup [.ref lv, .ref kd, .int 0]) nT
    refine ⟨fun m σ H3 => ∃ (c : Nat) (lv : Addr) (vs : List V) (Ts kn : List (List Nat)) (s4 s5 s6 s7 s8 s9 : Option V), σ = [some (.ref q), some (.ref lv), some (.ref kd), some (.int (c : Nat)), s4, s5, s6, s7, s8, s9] ∧
      Same H H3 ∧ H3 lv = some (.lst vs) ∧ LevAt H3 vs Ts ∧ H3 kd = some (.dT (tk kn)) ∧ BF xs c Ts kn ∧ c ≤ L xs xs.length ∧ m = L xs xs.length - c, ?_, ?_⟩
    · refine ⟨_, 0, lv, [.ref T0], [List.range xs.length], [], none, none, none, none, none, none, rfl, s3.trans st, st _ _ elv, ⟨rfl, fun k T e => ?_⟩, st _ _ ekd, .zero, Nat.zero_le _, rfl⟩
      cases k with
      | zero =>
        obtain rfl : List.range xs.length = T := Option.some.inj e
        exact ⟨T0, rfl, st _ _ eT0⟩
      | succ k => simp at e
    · rintro m σ H3 ⟨c, lv, vs, Ts, kn, s4, s5, s6, s7, s8, s9, rfl, sm, el, hL, ek, bf, hc, rfl⟩
      -- while () not in level
      refine ⟨by show 0 ≤ sizeLine; decide, fun e ne => ⟨_, rfl, tupD [], Ts.map tupD, .tup (SqT.of upd_same) .nil, .lst (SqL.of (same_new ne _ _ el)) (lev_dp (hL.same (same_new ne))), tupD_shaped [], tups_shaped Ts, _, rfl, ?_⟩⟩
      rw [any_nil]
      have sme := sm.trans (same_new (o := .tup []) ne)
      have ele := same_new (o := .tup []) ne _ _ el
      have hLe := hL.same (same_new (o := .tup []) ne)
      have eke := same_new (o := .tup []) ne _ _ ek
      generalize upd H3 e (.tup []) = H4 at sme ele hLe eke
      by_cases hin : [] ∈ Ts
      · rw [decide_eq_true hin]
        have ec := (bf.stop hx hc).1 hin
        refine iteF ⟨_, rfl, ?_⟩
        rw [ec]
        exact k H4 sme
      · rw [decide_eq_false hin]
        have hlt := (bf.stop hx hc).2 hin
        have c5 : c ≤ 5 := by have := L_le (xs := xs) xs.length; omega
        have pw : 12 ^ c ≤ 248832 := Nat.le_trans (Nat.pow_le_pow_right (by decide) c5) (by decide)
        refine iteT ⟨_, fun _ _ z => z, ?_⟩
        refine fun fd nfd => ?_
        have sf := same_new (o := .dT []) nfd
        have smf := sme.trans sf
        have nfH : H fd = none := Same.free sme nfd
        have kf : kd ≠ fd := ne_of_none eke nfd
        have lf : lv ≠ fd := ne_of_none ele nfd
        have len6 : ∀ T ∈ Ts, T.length ≤ 6 := fun T hT => by have := (bf.a T hT).len.1; omega
        have total : ∀ A B : List (List Nat), A ++ B = Ts.flatMap (succs xs) → A.length ≤ 2985984 := fun A B e => by
          have h1 := congrArg List.length e
          rw [List.length_append] at h1
          have h2 := flat_len (xs := xs) Ts len6
          have h3 := bf.s1
          omega
        -- for standing in level
        refine ⟨_, rfl, lv, rfl, ⟨_, SqL.of (sf _ _ ele)⟩, for_list (K := K) (a := lv) (xs := vs) (fun j σ H5 => ∃ (s5 s6 s7 s8 s9 : Option V), σ = [some (.ref q), some (.ref lv), some (.ref kd), some (.int (c : Nat)), some (.ref fd), s5, s6, s7, s8, s9] ∧
          Same H H5 ∧ H5 lv = some (.lst vs) ∧ LevAt H5 vs Ts ∧ H5 kd = some (.dT (tk kn)) ∧ H5 fd = some (.dT (tk (((Ts.take j).flatMap (succs xs)).foldl addF [])))) ?_ ?_ ?_ ?_⟩
        · exact ⟨_, _, _, _, _, rfl, smf, sf _ _ ele, hLe.same sf, sf _ _ eke, upd_same⟩
        · rintro j σ H5 _ ⟨_, _, _, _, _, _, _, e, _⟩
          exact SqL.of e
        · rintro j y σ H5 hy ⟨s5, s6, s7, s8, s9, rfl, sm5, el5, hL5, ek5, ef5⟩
          have hj : j < Ts.length := by rw [← hL5.1]; exact (List.getElem?_eq_some_iff.mp hy).1
          obtain ⟨T, hT⟩ : ∃ T, Ts[j]? = some T := ⟨Ts[j], by simp [hj]⟩
          obtain ⟨a, ha, ea⟩ := hL5.2 j T hT
          obtain rfl : y = V.ref a := Option.some.inj (hy.symm.trans ha)
          have hTm : T ∈ Ts := List.mem_of_getElem? hT
          have hT6 := len6 T hTm
          have hTx := (bf.a T hTm).len.2
          have eJ : (Ts.take (j + 1)).flatMap (succs xs) = (Ts.take j).flatMap (succs xs) ++ succs xs T := by
            rw [List.take_add_one, hT, List.flatMap_append]
            simp
          have pre : ∀ A B, A ++ B = succs xs T → ((Ts.take j).flatMap (succs xs) ++ A).length ≤ 2985984 := fun A B e => by
            refine total _ (B ++ (Ts.drop (j + 1)).flatMap (succs xs)) ?_
            rw [List.append_assoc, ← List.append_assoc A, e]
            rw [← List.append_assoc, ← eJ, ← List.flatMap_append, List.take_append_drop]
          rw [eJ]
          generalize (Ts.take j).flatMap (succs xs) = pj at ef5 pre
          -- for stone in standing
          refine ⟨_, rfl, a, rfl, ⟨_, SqT.of ea⟩, for_tup (K := K) (a := a) (xs := ivs T) (fun n σ H6 => ∃ (s6 s7 s8 s9 : Option V), σ = [some (.ref q), some (.ref lv), some (.ref kd), some (.int (c : Nat)), some (.ref fd), some (.ref a), s6, s7, s8, s9] ∧
            Same H H6 ∧ H6 lv = some (.lst vs) ∧ LevAt H6 vs Ts ∧ H6 kd = some (.dT (tk kn)) ∧ H6 a = some (.tup (ivs T)) ∧ H6 fd = some (.dT (tk ((pj ++ sucU xs T (T.take n)).foldl addF [])))) ?_ ?_ ?_ ?_⟩
          · exact ⟨_, _, _, _, rfl, sm5, el5, hL5, ek5, ea, by rw [show sucU xs T (T.take 0) = [] from rfl, List.append_nil]; exact ef5⟩
          · rintro n σ H6 _ ⟨_, _, _, _, _, _, _, _, _, e, _⟩
            exact SqT.of e
          · rintro n y σ H6 hy ⟨s6, s7, s8, s9, rfl, sm6, el6, hL6, ek6, ea6, ef6⟩
            obtain ⟨i, hi, rfl⟩ := ivs_get hy
            have hix : i < xs.length := hTx i (List.mem_of_getElem? hi)
            have eN : sucU xs T (T.take (n + 1)) = sucU xs T (T.take n) ++ [after xs T false i, after xs T true i] := by
              rw [List.take_add_one, hi, sucU_app]
              rfl
            have pre2 : ∀ A B, A ++ B = [after xs T false i, after xs T true i] → (pj ++ sucU xs T (T.take n) ++ A).length ≤ 2985984 := fun A B e => by
              rw [List.append_assoc]
              refine pre _ (B ++ sucU xs T (T.drop (n + 1))) ?_
              rw [List.append_assoc, ← List.append_assoc A, e, ← List.append_assoc, ← eN, ← sucU_app, List.take_append_drop, sucU_all]
            rw [eN, ← List.append_assoc]
            generalize pj ++ sucU xs T (T.take n) = pn at ef6 pre2
            -- for side in ("left", "right")
            refine ⟨by show 2 ≤ sizeLine; decide, fun sd nsd => ⟨sd, rfl, ⟨_, SqT.of upd_same⟩, ?_⟩⟩
            have ss := same_new (o := .tup [V.str (sideS false), V.str (sideS true)]) nsd
            refine for_tup (K := K) (a := sd) (xs := [V.str (sideS false), V.str (sideS true)]) (fun b σ H7 => ∃ (s7 s8 s9 : Option V), σ = [some (.ref q), some (.ref lv), some (.ref kd), some (.int (c : Nat)), some (.ref fd), some (.ref a), some (.int (i : Nat)), s7, s8, s9] ∧
              Same H H7 ∧ H7 lv = some (.lst vs) ∧ LevAt H7 vs Ts ∧ H7 kd = some (.dT (tk kn)) ∧ H7 a = some (.tup (ivs T)) ∧ H7 sd = some (.tup [V.str (sideS false), V.str (sideS true)]) ∧ H7 fd = some (.dT (tk ((pn ++ [after xs T false i, after xs T true i].take b).foldl addF [])))) ?_ ?_ ?_ ?_
            · exact ⟨_, _, _, rfl, sm6.trans ss, ss _ _ el6, hL6.same ss, ss _ _ ek6, ss _ _ ea6, upd_same, by rw [List.take_zero, List.append_nil]; exact ss _ _ ef6⟩
            · rintro b σ H7 _ ⟨_, _, _, _, _, _, _, _, _, e, _⟩
              exact SqT.of e
            · rintro b y σ H7 hy ⟨s7, s8, s9, rfl, sm7, el7, hL7, ek7, ea7, es7, ef7⟩
              obtain ⟨r, rfl, er⟩ : ∃ r, y = V.str (sideS r) ∧ [after xs T false i, after xs T true i].take (b + 1) = [after xs T false i, after xs T true i].take b ++ [after xs T r i] := by
                match b, hy with
                | 0, hy => exact ⟨false, (Option.some.inj hy).symm, rfl⟩
                | 1, hy => exact ⟨true, (Option.some.inj hy).symm, rfl⟩
                | b + 2, hy => simp at hy
              have pre3 : (pn ++ [after xs T false i, after xs T true i].take b).length ≤ 2985984 := pre2 _ ([after xs T false i, after xs T true i].drop b) (List.take_append_drop _ _)
              rw [er, ← List.append_assoc, List.foldl_append]
              have fl := addF_len (pn ++ [after xs T false i, after xs T true i].take b) []
              rw [List.length_nil, Nat.zero_add] at fl
              replace fl := Nat.le_trans fl pre3
              generalize (pn ++ [after xs T false i, after xs T true i].take b).foldl addF [] = fn at ef7 fl
              -- fallen
              refine ⟨_, rfl, _, rfl, a, ivs T, rfl, .inr (SqT.of ea7), fun l nl => ?_⟩
              have s8' := same_new (o := .lst (ivs T)) nl
              refine ⟨_, rfl, _, rfl, q, l, us, xs, T, i, r, rfl, (sm7.trans s8').seq hq, hS.same (sm7.trans s8'), SqL.of upd_same, hTx, hix, by omega, fun d fs H8 sm8 nd ed ndp lfs hfs => ?_⟩
              have s78 := s8'.trans sm8
              -- following[..] = True
              refine ⟨_, rfl, key_reads (a := a) (d := d) (T := T) (fs := fs) rfl (s78 _ _ ea7) (by omega) ed (fun k H' Q' e q' => ?_) (fun v => rfl) (fun v => rfl) fun qk H9 sm9 nq eq => ?_⟩
              · refine ⟨_, rfl, _, rfl, d, _, rfl, DGet.k (k := Sum.inl (k : Int)) e, _, rfl, ?_⟩
                cases hv : valV (kvs fs) (Sum.inl (k : Int) : Key) with
                | none =>
                  rw [decide_eq_true (kvs_none.mp hv)] at q'
                  exact q'
                | some v =>
                  rw [decide_eq_false (fun z => by rw [kvs_none.mpr z] at hv; cases hv)] at q'
                  exact q'
              rw [keep_after hfs] at eq
              have s79 := s78.trans sm9
              have ef9 := s79 _ _ ef7
              refine ⟨fd, _, rfl, DPut.t (k := ivk (after xs T r i)) ef9 (by rw [ivk_v]; exact eq) (by rw [tk_len, sizeLine_eq]; omega), ?_⟩
              have sF : Same H (upd H9 fd (.dT (putK (tk fn) (ivk (after xs T r i)) (V.bl true)))) := same_upd (sm7.trans s79) nfH
              have nfL : ∀ zs, H9 fd ≠ some (.tup zs) := fun zs z => by rw [ef9] at z; cases z
              have neq : ∀ {b : Addr} {o : HO}, H9 b = some o → b ≠ fd → (upd H9 fd (.dT (putK (tk fn) (ivk (after xs T r i)) (V.bl true)))) b = some o := fun e ne => by rw [upd_ne ne]; exact e
              have tne : ∀ {b : Addr} {zs : List V}, H9 b = some (.tup zs) → b ≠ fd := fun e => ne_of e ef9 (by intro z; cases z)
              refine ⟨_, _, _, rfl, sF, neq (s79 _ _ el7) lf, (hL7.same s79).but but_upd nfL, neq (s79 _ _ ek7) kf, neq (s79 _ _ ea7) (tne (s79 _ _ ea7)), neq (s79 _ _ es7) (tne (s79 _ _ es7)), ?_⟩
              rw [upd_same, tk_put]
              rfl
            · rintro σ H7 ⟨s7, s8, s9, rfl, sm7, el7, hL7, ek7, ea7, es7, ef7⟩
              exact ⟨_, _, _, _, rfl, sm7, el7, hL7, ek7, ea7, ef7⟩
          · rintro σ H6 ⟨s6, s7, s8, s9, rfl, sm6, el6, hL6, ek6, ea6, ef6⟩
            rw [show (ivs T).length = T.length from by unfold ivs; simp, List.take_length] at ef6
            exact ⟨_, _, _, _, _, rfl, sm6, el6, hL6, ek6, ef6⟩
        · rintro σ H5 ⟨s5, s6, s7, s8, s9, rfl, sm5, el5, hL5, ek5, ef5⟩
          have eTs : vs.length = Ts.length := hL5.1
          rw [eTs, List.take_length] at ef5
          have eF : (Ts.flatMap (succs xs)).foldl addF [] = follow xs Ts := rfl
          rw [eF] at ef5
          have bfn := bf.next (by omega : xs.length ≤ 6)
          have pw2 : 12 ^ (c + 1) ≤ 2985984 := Nat.le_trans (Nat.pow_le_pow_right (by decide) (show c + 1 ≤ 6 by omega)) (by decide)
          have lenN : (nextL xs Ts kn).length ≤ 2985984 := Nat.le_trans bfn.s1 pw2
          have lenK : ∀ A B, A ++ B = nextL xs Ts kn → (A.foldl addF kn).length ≤ 8000000 := fun A B e => by
            have h1 := addF_len A kn
            have h2 := congrArg List.length e
            rw [List.length_append] at h2
            have h3 := bf.s2
            omega
          -- level = [.. for standing in following ..]
          refine ⟨fd, _, ef5, True.intro, fun od => ?_⟩
          have ndF : ∀ {b : Addr} {o : HO}, H5 b = some o → b ≠ fd → (upd H5 fd (.frz od (.dT (tk (follow xs Ts))))) b = some o := fun e ne => by rw [upd_ne ne]; exact e
          refine ⟨_, rfl, fd, od, rfl, .inr ⟨_, upd_same, fun D nD => ?_⟩⟩
          have nD5 : H5 D = none := by
            by_cases z : D = fd
            · rw [z, upd_same] at nD; cases nD
            · rw [upd_ne z] at nD; exact nD
          have Df : D ≠ fd := fun z => by rw [z, upd_same] at nD; cases nD
          refine lc_it (walk_keysT (d := fd) (o := od) (kvs := tk (follow xs Ts))) (fun n H6 => H6 fd = some (.frz od (.dT (tk (follow xs Ts)))) ∧ (∀ b o, b ≠ fd → H5 b = some o → H6 b = some o) ∧
            ∃ ws, H6 D = some (.lst ws) ∧ LevAt H6 ws (((follow xs Ts).take n).filter fun T => decide (T ∉ kn))) ?_ ?_ ?_ ?_
          · refine ⟨by rw [upd_ne (Ne.symm Df)]; exact upd_same, fun b o n e => ?_, [], upd_same, rfl, fun k T e => by simp at e⟩
            rw [upd_ne (ne_of_none e nD5), upd_ne n]
            exact e
          · rintro n H6 _ ⟨e, _⟩
            exact e
          · rintro n y H6 H6' hn ⟨e6, b6, ws, ew, hW⟩ ⟨rfl, kk, v, qa, e1, rfl, e2⟩
            rw [tk_len] at hn
            obtain ⟨T, hT⟩ : ∃ T, (follow xs Ts)[n]? = some T := ⟨(follow xs Ts)[n], by simp [hn]⟩
            have ek : (tk (follow xs Ts))[n]? = some (ivk T, V.bl true) := by unfold tk; rw [List.getElem?_map, hT]; rfl
            rw [ek] at e1
            obtain ⟨rfl, rfl⟩ : ivk T = kk ∧ V.bl true = v := by injection e1 with e1; injection e1 with a b; exact ⟨a, b⟩
            have ek6 := b6 _ _ kf ek5
            have eT : ((follow xs Ts).take (n + 1)).filter (fun T => decide (T ∉ kn)) = ((follow xs Ts).take n).filter (fun T => decide (T ∉ kn)) ++ [T].filter (fun T => decide (T ∉ kn)) := by
              rw [List.take_add_one, hT, List.filter_append]
              rfl
            rw [eT]
            have wl : ws.length ≤ 2985984 := by
              rw [hW.1]
              refine Nat.le_trans (List.length_filter_le _ _) ?_
              rw [List.length_take]
              have h1 := addF_len (Ts.flatMap (succs xs)) []
              rw [eF] at h1
              have h2 := total (Ts.flatMap (succs xs)) [] (by rw [List.append_nil])
              rw [List.length_nil] at h1
              omega
            refine ⟨rfl, _, rfl, _, rfl, kd, _, rfl, DGet.t (k := ivk T) ek6 e2, _, rfl, ?_⟩
            rw [ivk_v] at e2
            cases hv : valV (tk kn) (ivk T) with
            | none =>
              have hk := tk_none.mp hv
              refine iteT ⟨_, rfl, ws, ew, by rw [sizeLine_eq]; omega, ?_, fun b o n e => ?_, ws ++ [.ref qa], upd_same, ?_⟩
              · rw [upd_ne (Ne.symm Df)]; exact e6
              · rw [upd_ne (ne_of_none e nD5)]; exact b6 b o n e
              · rw [List.filter_cons, decide_eq_true hk]
                exact (hW.but but_upd (fun zs z => by rw [ew] at z; cases z)).snoc (by rw [upd_ne (ne_of e2 ew (by intro z; cases z))]; exact e2)
            | some v =>
              have hk : ¬ T ∉ kn := fun z => by rw [tk_none.mpr z] at hv; cases hv
              refine iteF ⟨e6, b6, ws, ew, ?_⟩
              rw [List.filter_cons, decide_eq_false hk]
              simpa using hW
          · rintro H6 ⟨e6, b6, ws, ew, hW⟩
            rw [tk_len, List.take_length] at hW
            have hW : LevAt H6 ws (nextL xs Ts kn) := hW
            refine ⟨e6, ?_⟩
            have sm6 : Same H (upd H6 fd (.dT (tk (follow xs Ts)))) := fun b o e => by
              have ne : b ≠ fd := ne_of_none e nfH
              rw [upd_ne ne]
              exact b6 b o ne (sm5 _ _ e)
            have eD : (upd H6 fd (.dT (tk (follow xs Ts)))) D = some (.lst ws) := by rw [upd_ne Df]; exact ew
            have hW7 : LevAt (upd H6 fd (.dT (tk (follow xs Ts)))) ws (nextL xs Ts kn) := hW.but but_upd (fun zs z => by rw [e6] at z; cases z)
            have ek7 : (upd H6 fd (.dT (tk (follow xs Ts)))) kd = some (.dT (tk kn)) := by rw [upd_ne kf]; exact b6 _ _ kf ek5
            generalize upd H6 fd (.dT (tk (follow xs Ts))) = H7 at sm6 eD hW7 ek7
            have Dk : D ≠ kd := ne_of eD ek7 (by intro z; cases z)
            -- for standing in level: known[standing] = True
            refine ⟨_, rfl, D, rfl, ⟨_, SqL.of eD⟩, for_list (K := K) (a := D) (xs := ws) (fun n σ H8 => ∃ (s5 : Option V), σ = [some (.ref q), some (.ref D), some (.ref kd), some (.int (c : Nat)), some (.ref fd), s5, s6, s7, s8, s9] ∧
              Same H H8 ∧ H8 D = some (.lst ws) ∧ LevAt H8 ws (nextL xs Ts kn) ∧ H8 kd = some (.dT (tk (((nextL xs Ts kn).take n).foldl addF kn)))) ?_ ?_ ?_ ?_⟩
            · exact ⟨_, rfl, sm6, eD, hW7, ek7⟩
            · rintro n σ H8 _ ⟨_, _, _, e, _⟩
              exact SqL.of e
            · rintro n y σ H8 hy ⟨s5, rfl, sm8, e8, hW8, ek8⟩
              have hn : n < (nextL xs Ts kn).length := by rw [← hW8.1]; exact (List.getElem?_eq_some_iff.mp hy).1
              obtain ⟨T, hT⟩ : ∃ T, (nextL xs Ts kn)[n]? = some T := ⟨(nextL xs Ts kn)[n], by simp [hn]⟩
              obtain ⟨a, ha, ea⟩ := hW8.2 n T hT
              obtain rfl : y = V.ref a := Option.some.inj (hy.symm.trans ha)
              have lk := lenK ((nextL xs Ts kn).take n) ((nextL xs Ts kn).drop n) (List.take_append_drop _ _)
              refine ⟨_, rfl, _, rfl, kd, _, rfl, DPut.t (k := ivk T) ek8 (by rw [ivk_v]; exact ea) (by rw [tk_len, sizeLine_eq]; omega), ?_⟩
              refine ⟨_, rfl, same_upd sm8 nkdH, by rw [upd_ne Dk]; exact e8, hW8.but but_upd (fun zs z => by rw [ek8] at z; cases z), ?_⟩
              rw [upd_same, tk_put, List.take_add_one, hT, List.foldl_append]
              rfl
            · rintro σ H8 ⟨s5, rfl, sm8, e8, hW8, ek8⟩
              rw [hW8.1, List.take_length] at ek8
              have ek8 : H8 kd = some (.dT (tk (nextK xs Ts kn))) := ek8
              refine ⟨_, rfl, _, _, rfl, rfl, L xs xs.length - (c + 1), by omega, c + 1, D, ws, nextL xs Ts kn, nextK xs Ts kn, _, _, _, _, _, _, rfl, sm8, e8, hW8, ek8, bfn, by omega, rfl⟩
end
/-! ### the law of the fewest pushes -/
theorem make_row2 {K : PySem.W.Frag} {C : Addr} {H : Hp} {us : List V} {xs : List (Int × Int)} {R : VK} {E : XK} {z dz : Addr} (nz : H z = none) (ndz : H dz = none) (ne : dz ≠ z) (hS : StonesAt K H us xs) (hw : Wf 0 xs) (hz : xs.length ≤ 40)
    (k : ∀ H', Same H H' → RowAt K C H' z xs → R .non H') : spMake K C (V.ref z :: us) (upd (upd H dz (.own z)) z (.ins C dz [])) R E := by
  have s0 : Same H (upd (upd H dz (.own z)) z (.ins C dz [])) := (same_new ndz).trans (same_new (by rw [upd_ne (Ne.symm ne)]; exact nz))
  refine ⟨_, us, rfl, by rw [hS.1]; omega, fun t nt => ?_⟩
  have s1 : Same H (upd (upd (upd H dz (.own z)) z (.ins C dz [])) t (.tup us)) := s0.trans (same_new nt)
  have ntz : z ≠ t := ne_of_none upd_same nt
  refine ⟨z, dz, t, us, xs, rfl, by rw [upd_ne ntz]; exact upd_same, SqT.of upd_same, hS.same s1, hw, hz, fun H' b e => ?_⟩
  have sm : Same H H' := But.same ((Same.but s1 z).trans b) nz
  exact k H' sm ⟨dz, t, us, e, SqT.of (b t _ (Ne.symm ntz) upd_same), hS.same sm⟩
theorem StonesAt.cons {K : PySem.W.Frag} {H : Hp} {a : Addr} {x : Int × Int} {vs : List V} {xs : List (Int × Int)} (h : SqT K H a [.int x.1, .int x.2]) (g : StonesAt K H vs xs) : StonesAt K H (.ref a :: vs) (x :: xs) := (StonesAt.one h).append g
theorem nm_of {i : Nat} {v : V} {σ : L2.St} {H : Hp} {Q : L2.St → Hp → Prop} (h : Q (σ.set i (some v)) H) : gName i v σ H Q := h
theorem in_ivs {i : Nat} {T : List Nat} (h : i ∈ T) : inV (.int (i : Int)) (ivs T) = true := by
  unfold inV ivs
  rw [List.any_eq_true]
  exact ⟨.int (i : Int), List.mem_map.mpr ⟨i, h, rfl⟩, by simp [eqV]⟩
theorem flat_ivs (T : List Nat) : (ivs T).all flatV = true := by
  unfold ivs
  rw [List.all_eq_true]
  intro v hv
  obtain ⟨k, _, rfl⟩ := List.mem_map.mp hv
  rfl
/-- [k for k in standing if k not in fallen], read: slots 5, 9 -/
theorem keep_reads {K : PySem.W.Frag} {σ : L2.St} {H : Hp} {Q : VK} {a d : Addr} {T : List Nat} {fs : List (Nat × Nat)} {tt : TT} (h5 : σ[5]? = some (some (.ref a))) (ea : SqL K H a (ivs T)) (hT : T.length ≤ 1000) (ed : H d = some (.dK (kvs fs)))
    (ht : ∀ (k : Nat) (H' : Hp) (Q' : Bool → Hp → Prop), H' d = some (.dK (kvs fs)) → Q' (decide (k ∉ fs.map (·.1))) H' → tt ((wipe σ [9]).set 9 (some (.int (k : Nat)))) H' Q') (hw : ∀ v, wipe ((wipe σ [9]).set 9 v) [9] = wipe σ [9]) (h9 : ∀ v, ((wipe σ [9]).set 9 (some v))[9]? = some (some v))
    (k : ∀ (q : Addr) (H' : Hp), Same H H' → H q = none → H' q = some (.lst (ivs (T.filter fun k => decide (k ∉ fs.map (·.1))))) → Q (.ref q) H') :
    tLc (iList K (tVar 5)) (gName 9) tt (tVar 9) [9] σ H Q := by
  refine ⟨_, h5, a, rfl, ⟨_, ea⟩, fun D nD => lc_list (K := K) (a := a) (xs := ivs T) (fun j H1 => But D H H1 ∧ H1 D = some (.lst (ivs ((T.take j).filter fun k => decide (k ∉ fs.map (·.1)))))) ?_ ?_ ?_ ?_⟩
  · exact ⟨but_upd, upd_same⟩
  · rintro j H1 _ ⟨b, _⟩
    exact (But.same b nD).seq ea
  · rintro j y H1 hy ⟨b, e⟩
    obtain ⟨o, ho, rfl⟩ := ivs_get hy
    have hj : j < T.length := (List.getElem?_eq_some_iff.mp ho).1
    have sm : Same H H1 := But.same b nD
    refine ⟨hw _, ht o H1 _ (sm _ _ ed) ?_⟩
    have eT : (T.take (j + 1)).filter (fun k => decide (k ∉ fs.map (·.1))) = (T.take j).filter (fun k => decide (k ∉ fs.map (·.1))) ++ [o].filter (fun k => decide (k ∉ fs.map (·.1))) := by
      rw [List.take_add_one, ho, List.filter_append]
      rfl
    rw [eT]
    cases hd : decide (o ∉ fs.map (·.1)) with
    | true =>
      refine iteT ⟨_, h9 _, _, e, ?_, b.trans but_upd, ?_⟩
      · unfold ivs
        rw [List.length_map, sizeLine_eq]
        have := List.length_filter_le (fun k => decide (k ∉ fs.map (·.1))) (T.take j)
        rw [List.length_take] at this
        omega
      · rw [upd_same]
        unfold ivs
        rw [List.map_append, List.filter_cons, hd]
        rfl
    | false =>
      refine iteF ⟨b, ?_⟩
      rw [e, List.filter_cons, hd]
      simp
  · rintro H1 ⟨b, e⟩
    rw [show (ivs T).length = T.length from by unfold ivs; simp, List.take_length] at e
    exact k D H1 (But.same b nD) nD e
def spLaw (K : PySem.W.Frag) : Sp := fun vs H Q _ => ∃ (a : Addr) (ns : List Int), vs = [.ref a] ∧ SqL K H a (ns.map V.int) ∧ ns.length ≤ 63 ∧ ∀ H', Q (.bl true) H'
def five : List (Int × Int) := [(0, 3), (3, 2), (5, 1), (7, 2), (10, 3)]
theorem five_two : (fewest five).length = 2 := by decide +kernel
theorem five_wf : Wf 0 five := by simp [five, Wf]
section
variable {P : Program} {w : World} {K : PySem.W.Frag} {mg : Str → Option Value} {base : Heap}
theorem ok_law {f C gi f1 f2 f3 f4 f5 f6 : Addr} {fd d1 d2 d3 d4 d5 d6 : FuncData} (F : Fun K "law" "law" s_law f fd) (B : Blt mg) (R : RowC K mg C) (M : Mk K C gi) (G : FnR P w K mg base CX0 3 gi (spMake K C))
    (NF : At P w K mg base CX0 5 "fewest_pushes" ["row"] (spFewest K C) f1 d1) (NT : At P w K mg base CX0 1 "_law_taken" ["_law_row_here", "_law_many"] (spTaken K) f2 d2) (NS : At P w K mg base CX0 2 "_law_stones" ["_law_row_here", "_law_most"] (spStones K) f3 d3)
    (NR : At P w K mg base CX0 6 "_law_row" ["_law_stones_here"] (spRow K C) f4 d4) (NW : At P w K mg base CX0 1 "_law_fallen" ["_law_stones_here", "_law_standing", "_law_stone", "_law_side"] (spFallen K) f5 d5)
    (NL : At P w K mg base CX0 2 "_law_least" ["_law_stones_here"] (spLeast K) f6 d6) : FnOk P w K mg base CX0 7 f fd ["_law_script"] (spLaw K) := by
  refine F.ok sc_law (fun vs H Q E h => ?_) (fun cdv A outer s H vs Q E hr h => ?_)
  · obtain ⟨a, ns, rfl, _⟩ := h
    rfl
  · obtain ⟨a, ns, rfl, hs, hn, k⟩ := h
    have hu := hu_of hr
    have r5 : Room 5 _ := hr.mono (by decide)
    have r4 : Room 4 _ := hr.mono (by decide)
    have r2 : Room 2 _ := hr.mono (by decide)
    have r1 : Room 1 _ := hr.mono (by decide)
    refine ⟨_, pss_cons (ps_set (i := 1) sc_law.nd rfl (Or.inl rfl) (pe_lst (pa_cons (pv 0) (pa_cons (pe_int) (pa_cons (pe_int) (pa_cons (pe_int) pa_nil))))))
      (pss_cons (ps_if (pt_cmpR (op_ne) (pe_callB call_len_seq (by rfl) B.len PySem.boot_len (pa_cons (pe_at NF r5 (pa_cons (StX.pe_makeR M G r4 (by rfl) R.mgC pass0 (pa_cons (pe_tup (pa_cons (pe_int) (pa_cons (pe_int) pa_nil))) (pa_cons (pe_tup (pa_cons (pe_int) (pa_cons (pe_int) pa_nil))) (pa_cons (pe_tup (pa_cons (pe_int) (pa_cons (pe_int) pa_nil))) (pa_cons (pe_tup (pa_cons (pe_int) (pa_cons (pe_int) pa_nil))) (pa_cons (pe_tup (pa_cons (pe_int) (pa_cons (pe_int) pa_nil))) pa_nil)))))) pa_nil)) pa_nil)) (pe_int) (nomark _)) (pss_one (ps_ret pe_bl)) pss_nil)
      (pss_cons (ps_for PassesOwn.never rfl (pi_range1 (by rfl) B.range (pa_cons (pe_int) pa_nil)) (pg_name (i := 2) sc_law.nd rfl (Or.inl rfl))
        (pss_cons (ps_set (i := 3) sc_law.nd rfl (Or.inl rfl) (pe_at NS r2 (pa_cons (pv 1) (pa_cons (pe_ix ix_list (pe_lst (pa_cons (pe_int) (pa_cons (pe_int) pa_nil))) (pe_at NT r1 (pa_cons (pv 1) (pa_cons (pe_int) pa_nil))) (fun _ _ => rfl)) pa_nil))))
        (pss_cons (ps_par rfl sc_law.nd (i := 4) (j := 5) rfl rfl (by decide) rfl rfl (pa_cons (pe_at NF r5 (pa_cons (pe_at NR hr (pa_cons (pv 3) pa_nil)) pa_nil)) (pa_cons (pe_listRg rfl (by rfl) B.list (prg_1 (by rfl) B.range (pe_callB call_len_seq (by rfl) B.len PySem.boot_len (pa_cons (pv 3) pa_nil)))) pa_nil)) (by rfl))
        (pss_cons (ps_for PassesOwn.never rfl (pi_list (pv 4)) (pg_tup rfl (pgs_cons (pg_name (i := 6) sc_law.nd rfl (Or.inl rfl)) (pgs_cons (pg_name (i := 7) sc_law.nd rfl (Or.inl rfl)) pgs_nil)))
          (pss_cons (ps_if (PW.pt (pw_or (pt_cmpR (op_notIn_seq) (pv 6) (pv 5) (by rfl)) (pw_or1 (pt_cmpR (op_notIn_seq) (pv 7) (pe_tup (pa_cons (pe_str) (pa_cons (pe_str) pa_nil))) (by rfl))))) (pss_one (ps_ret pe_bl)) pss_nil)
          (pss_cons (ps_set (i := 8) sc_law.nd rfl (Or.inr rfl) (pe_at NW r1 (pa_cons (pv 3) (pa_cons (pv 5) (pa_cons (pv 6) (pa_cons (pv 7) pa_nil))))))
          (pss_one (ps_setLc (i := 5) (own := [("_law_k", 9)]) (g := gName 9) rfl sc_law.nd rfl rfl (sw_true rfl rfl rfl (by decide +kernel)) (pi_list (pv 5)) (blkOk_by (N := n_law) (sc := defScope s_law) (by decide +kernel))
            (fun _ _ _ _ _ => pg_name (i := 9) sc_law.nd rfl (Or.inl rfl)) (fun _ _ _ _ _ => pts_one (pt_cmp (pc_dnotin hu (pv 9) (pv 8)))) (fun _ _ _ _ _ => pv 9))))))
        (pss_one (ps_if (PW.pt (pw_or (pt_cmpR (op_neD hr.units) (pv 5) (pe_lst pa_nil) (nomark _)) (pw_or1 (PW.pt (pw_and (pt_cmpR (op_le) (pe_callB call_len_seq (by rfl) B.len PySem.boot_len (pa_cons (pv 3) pa_nil)) (pe_int) (nomark _)) (pw_and1 (pt_cmpR (op_ne) (pe_callB call_len_seq (by rfl) B.len PySem.boot_len (pa_cons (pv 4) pa_nil)) (pe_at NL r2 (pa_cons (pv 3) pa_nil)) (nomark _)))))))) (pss_one (ps_ret pe_bl)) pss_nil))))))
      (pss_one (ps_ret pe_bl)))), ?_⟩
    -- the law's own list
    refine ⟨_, rfl, by show 4 ≤ sizeLine; decide, fun L0 nL => ?_⟩
    have D0 : Drw K (upd H L0 (.lst [.ref a, .int 0, .int 0, .int 0])) L0 a ns := ⟨0, 0, 0, upd_same, by decide, by decide, by decide, (same_new nL).seq hs⟩
    generalize upd H L0 (.lst [.ref a, .int 0, .int 0, .int 0]) = H1 at D0
    -- the five stones
    refine ⟨by show 2 ≤ sizeLine; decide, fun t1 n1 => ⟨by show 2 ≤ sizeLine; decide, fun t2 n2 => ⟨by show 2 ≤ sizeLine; decide, fun t3 n3 => ⟨by show 2 ≤ sizeLine; decide, fun t4 n4 => ⟨by show 2 ≤ sizeLine; decide, fun t5 n5 => ?_⟩⟩⟩⟩⟩
    have s1 := same_new (o := .tup [.int 0, .int 3]) n1
    have s2 := same_new (o := .tup [.int 3, .int 2]) n2
    have s3 := same_new (o := .tup [.int 5, .int 1]) n3
    have s4 := same_new (o := .tup [.int 7, .int 2]) n4
    have s5 := same_new (o := .tup [.int 10, .int 3]) n5
    have h5 : StonesAt K (upd (upd (upd (upd (upd H1 t1 (.tup [.int 0, .int 3])) t2 (.tup [.int 3, .int 2])) t3 (.tup [.int 5, .int 1])) t4 (.tup [.int 7, .int 2])) t5 (.tup [.int 10, .int 3])) [.ref t1, .ref t2, .ref t3, .ref t4, .ref t5] five :=
      .cons (SqT.of (s5 _ _ (s4 _ _ (s3 _ _ (s2 _ _ upd_same))))) (.cons (SqT.of (s5 _ _ (s4 _ _ (s3 _ _ upd_same)))) (.cons (SqT.of (s5 _ _ (s4 _ _ upd_same))) (.cons (SqT.of (s5 _ _ upd_same)) (.one (SqT.of upd_same)))))
    have s15 := (((s1.trans s2).trans s3).trans s4).trans s5
    generalize upd (upd (upd (upd (upd H1 t1 (.tup [.int 0, .int 3])) t2 (.tup [.int 3, .int 2])) t3 (.tup [.int 5, .int 1])) t4 (.tup [.int 7, .int 2])) t5 (.tup [.int 10, .int 3]) = H2 at h5 s15
    refine fun z dz nz ndz ne => make_row2 nz ndz ne h5 five_wf (by decide) fun H3 s6 r6 => ⟨rfl, ?_⟩
    refine ⟨z, five, rfl, r6, by decide, fun ps us H4 s7 nps eps tps => ?_⟩
    refine ⟨ps, us, rfl, .inl (SqL.of eps), rfl, _, rfl, ?_⟩
    have e2 : (!decide (V.int (us.length : Int) = V.int 2)) = false := by
      rw [tps.1, five_two, dec_int]
      rfl
    rw [e2]
    refine iteF ?_
    have D4 := D0.up ((s15.trans s6).trans s7)
    -- for turn in range(2)
    refine ⟨2, rfl, by decide, by decide, for_range (lo := 0) (n := 2) (fun j σ H5 => ∃ (s2 s3 s4 s5 s6 s7 s8 s9 : Option V), σ = [some (.ref a), some (.ref L0), s2, s3, s4, s5, s6, s7, s8, s9] ∧ Drw K H5 L0 a ns) ?_ ?_ ?_⟩
    · exact ⟨_, _, _, _, _, _, _, _, rfl, D4⟩
    · rintro j σ H5 hj ⟨s2, s3, s4, s5, s6, s7, s8, s9, rfl, D5⟩
      -- stones
      refine ⟨_, rfl, by show 2 ≤ sizeLine; decide, fun l1 nl1 => ?_⟩
      have sl := same_new (o := .lst [V.int 6, V.int 20]) nl1
      refine ⟨_, rfl, L0, a, ns, 2, rfl, by decide, by decide, D5.up sl, fun n H6 n0 n1 D6 b6 => ?_⟩
      obtain ⟨m, hm, em⟩ := pick (vs := [6, 20]) rfl n0 n1
      have nl1L : l1 ≠ L0 := fun e => by obtain ⟨ys, q⟩ := D5.cell.list; rw [← e, nl1] at q; cases q
      refine ⟨l1, _, n, _, rfl, rfl, SqL.of (b6 _ _ nl1L upd_same), em, ?_⟩
      have hm2 : 0 ≤ m ∧ m ≤ 30 := by simp at hm; omega
      refine ⟨L0, a, ns, m, rfl, hm2.1, hm2.2, D6, fun q us xs H7 D7 b7 nq eq hS hw hd hl => ?_⟩
      have hx := hw.inc
      have h40 : xs.length ≤ 40 := by omega
      -- pushes, standing
      refine ⟨_, rfl, q, us, xs, rfl, SqL.of eq, hS, hw, h40, fun z H8 s8' nz rz => ?_⟩
      refine ⟨z, xs, rfl, rz, h40, fun ps vs H9 s9' nps eps tps => ?_⟩
      have s79 := s8'.trans s9'
      refine ⟨_, rfl, q, us, rfl, .inl (SqL.of (s79 _ _ eq)), _, rfl, ⟨by omega, by omega, by rw [hS.1]; omega, by rw [hS.1]; omega, by rw [hS.1]; omega⟩, fun sd nsd => ⟨_, _, rfl, ?_⟩⟩
      have eR : rgV 0 (us.length : Int) = ivs (List.range xs.length) := by rw [hS.1, rgV_ivs]
      rw [eR]
      have ssd := same_new (o := .lst (ivs (List.range xs.length))) nsd
      have sA := s79.trans ssd
      have eq9 := sA _ _ eq
      have hS9 := hS.same sA
      have D9 := D7.up sA
      have eps9 := ssd _ _ eps
      have tps9 := tps.same ssd
      have esd : (upd H9 sd (.lst (ivs (List.range xs.length)))) sd = some (.lst (ivs (List.range xs.length))) := upd_same
      generalize upd H9 sd (.lst (ivs (List.range xs.length))) = HA at eq9 hS9 D9 eps9 tps9 esd
      obtain ⟨vld, fin⟩ := fewest_plan hx
      -- for stone, side in pushes
      refine ⟨_, rfl, ps, rfl, ⟨_, SqL.of eps9⟩, for_list (K := K) (a := ps) (xs := vs) (fun i σ HB => ∃ (sb : Addr) (s6 s7 s8 s9 : Option V), σ = [some (.ref a), some (.ref L0), some (.int (0 + (j : Nat))), some (.ref q), some (.ref ps), some (.ref sb), s6, s7, s8, s9] ∧
        Same HA HB ∧ HB sb = some (.lst (ivs (plays xs ((fewest xs).take i) (List.range xs.length))))) ?_ ?_ ?_ ?_⟩
      · exact ⟨sd, _, _, _, _, rfl, Same.refl _, esd⟩
      · rintro i σ HB _ ⟨_, _, _, _, _, _, sB, _⟩
        exact SqL.of (sB _ _ eps9)
      · rintro i y σ HB hy ⟨sb, s6, s7, s8, s9, rfl, sB, esb⟩
        have hi : i < (fewest xs).length := by rw [← tps9.1]; exact (List.getElem?_eq_some_iff.mp hy).1
        obtain ⟨p, hp⟩ : ∃ p, (fewest xs)[i]? = some p := ⟨(fewest xs)[i], by simp [hi]⟩
        obtain ⟨c, hc, hsc⟩ := tps9.2 i p hp
        obtain rfl : y = V.ref c := Option.some.inj (hy.symm.trans hc)
        have hv : Valid xs ((fewest xs).take i ++ p :: (fewest xs).drop (i + 1)) (List.range xs.length) := by
          rw [← drop_get hp, List.take_append_drop]
          exact vld
        have hin : p.1 ∈ plays xs ((fewest xs).take i) (List.range xs.length) := ((valid_app _ _ _).mp hv).2.1
        have hTl : ∀ o ∈ plays xs ((fewest xs).take i) (List.range xs.length), o < xs.length := fun o ho => List.mem_range.mp (plays_sub _ _ o ho)
        have hTn : (plays xs ((fewest xs).take i) (List.range xs.length)).length ≤ 1000 := by
          have := plays_len (xs := xs) ((fewest xs).take i) (List.range xs.length)
          rw [List.length_range] at this
          omega
        have eP : plays xs ((fewest xs).take (i + 1)) (List.range xs.length) = after xs (plays xs ((fewest xs).take i) (List.range xs.length)) p.2 p.1 := by
          rw [List.take_add_one, hp, plays_app]
          rfl
        rw [eP]
        generalize plays xs ((fewest xs).take i) (List.range xs.length) = T at esb hin hTl hTn
        refine ⟨c, _, rfl, sqT_same hsc sB, rfl, _, _, rfl, _, _, rfl, rfl, ?_⟩
        -- stone in standing, side in (..)
        refine ⟨_, rfl, _, rfl, sb, _, rfl, .inl (SqL.of esb), rfl, flat_ivs T, _, rfl, ?_⟩
        rw [if_pos rfl, in_ivs hin]
        refine iteF ?_
        refine ⟨_, rfl, by show 2 ≤ sizeLine; decide, fun e ne => ⟨e, _, rfl, .inr (SqT.of upd_same), rfl, rfl, _, rfl, ?_⟩⟩
        rw [if_pos rfl, sides_in rfl]
        refine iteF ?_
        have se := same_new (o := .tup [V.str "left", V.str "right"]) ne
        have sBe := sB.trans se
        -- fallen
        refine ⟨_, rfl, _, rfl, _, rfl, _, rfl, q, sb, us, xs, T, p.1, p.2, rfl, SqL.of (sBe _ _ eq9), hS9.same sBe, SqL.of (se _ _ esb), hTl, hTl _ hin, hTn, fun d fs HC sC nd ed ndp lfs hfs => ?_⟩
        have sBC := se.trans sC
        refine nm_of (asg_of (keep_reads (a := sb) (d := d) (T := T) (fs := fs) rfl (SqL.of (sBC _ _ esb)) hTn ed (fun k H' Q' e q' => ?_) (fun v => ?_) (fun v => ?_) fun qk HD sD nq eqk => ?_))
        · refine ⟨_, rfl, _, rfl, d, _, rfl, DGet.k (k := Sum.inl (k : Int)) e, _, rfl, ?_⟩
          cases hv : valV (kvs fs) (Sum.inl (k : Int) : Key) with
          | none =>
            rw [decide_eq_true (kvs_none.mp hv)] at q'
            exact q'
          | some v =>
            rw [decide_eq_false (fun z => by rw [kvs_none.mpr z] at hv; cases hv)] at q'
            exact q'
        · rfl
        · rfl
        · rw [keep_after hfs] at eqk
          exact ⟨qk, _, _, _, _, rfl, (sB.trans sBC).trans sD, eqk⟩
      · rintro σ HB ⟨sb, s6, s7, s8, s9, rfl, sB, esb⟩
        rw [show vs.length = (fewest xs).length from tps9.1, List.take_length, fin] at esb
        -- standing != []
        refine ⟨_, rfl, by show 0 ≤ sizeLine; decide, fun e ne => ⟨intD [], intD [], ints_dp (SqL.of (same_new ne _ _ esb)), ints_dp (ns := []) (SqL.of upd_same), ints_shaped [], ints_shaped [], _, rfl, ?_⟩⟩
        rw [ints_nil]
        refine iteF ?_
        have se := same_new (o := .lst []) ne
        have sBe := sB.trans se
        refine ⟨_, rfl, q, us, rfl, .inl (SqL.of (sBe _ _ eq9)), _, _, rfl, rfl, _, rfl, ?_⟩
        refine ite2 (fun h6 => ?_) (fun h6 => ?_)
        · have h6 : xs.length ≤ 6 := by have := of_decide_eq_true h6; rw [hS.1] at this; omega
          refine ⟨_, rfl, ps, vs, rfl, .inl (SqL.of (sBe _ _ eps9)), _, rfl, q, us, xs, rfl, SqL.of (sBe _ _ eq9), hS9.same sBe, hw, h6, fun HE sE => ⟨rfl, _, rfl, ?_⟩⟩
          have e3 : (!decide (V.int (vs.length : Int) = V.int ((L xs xs.length : Nat) : Int))) = false := by
            rw [tps9.1, fewest_best, show (best xs xs.length).length = L xs xs.length from rfl, dec_int]
            simp
          rw [e3]
          refine iteF ?_
          exact ⟨_, _, _, _, _, _, _, _, rfl, D9.up (sBe.trans sE)⟩
        · exact iteF ⟨_, _, _, _, _, _, _, _, rfl, D9.up sBe⟩
    · rintro σ H5 _
      exact k H5
end
theorem all_mk {l : PySem.W.OpenLaw} {w : World} {K : PySem.W.Frag} {h : Heap} {mg : Str → Option Value} {fa C f_ini f_len f_add f_cal f_num f_cst f_csi f_bes f_fel f_iss f_upt f_few f_tak f_sto f_row f_fal f_lea f_law : Addr} (X : K.In h) (G : h.Ns mainGlobals mg) (hfa : mg "law" = some (.ref fa))
    {od_ini an_ini od_len an_len od_add an_add od_cal an_cal od_num an_num od_cst an_cst od_csi an_csi od_bes an_bes od_fel an_fel od_iss an_iss od_upt an_upt od_few an_few od_tak an_tak od_sto an_sto od_row an_row od_fal an_fal od_lea an_lea od_law an_law : Option Addr} {sl_ini sl_len sl_add sl_cal sl_num sl_cst sl_csi sl_bes sl_fel sl_iss sl_upt sl_few sl_tak sl_sto sl_row sl_fal sl_lea sl_law : Array (Option Value)} {oc_ini kV_ini dc_ini pm_ini cd_ini ct_ini oc_len kV_len dc_len pm_len cd_len ct_len oc_add kV_add dc_add pm_add cd_add ct_add oc_cal kV_cal dc_cal pm_cal cd_cal ct_cal oc_num kV_num dc_num pm_num cd_num ct_num oc_cst kV_cst dc_cst pm_cst cd_cst ct_cst oc_csi kV_csi dc_csi pm_csi cd_csi ct_csi oc_bes kV_bes dc_bes pm_bes cd_bes ct_bes oc_fel kV_fel dc_fel pm_fel cd_fel ct_fel oc_iss kV_iss dc_iss pm_iss cd_iss ct_iss oc_upt kV_upt dc_upt pm_upt cd_upt ct_upt oc_few kV_few dc_few pm_few cd_few ct_few oc_tak kV_tak dc_tak pm_tak cd_tak ct_tak oc_sto kV_sto dc_sto pm_sto cd_sto ct_sto oc_row kV_row dc_row pm_row cd_row ct_row oc_fal kV_fal dc_fal pm_fal cd_fal ct_fal oc_lea kV_lea dc_lea pm_lea cd_lea ct_lea oc_law kV_law dc_law pm_law cd_law ct_law : Value} {S : Addr} {tP tH tM : Tok} {odS : Option Addr} {itS : Array Value} {nS : Nat} {slS : Array (Option Value)}
    (aC : PySem.W.nsIn K mainGlobals "Row" = some (some (.ref C)))
    (a_ini : PySem.W.findIn K (.ref C) "__init__" = some (some (.ref f_ini)))
    (i_ini : PySem.W.isFn K (.ref f_ini) = true)
    (l_ini : K.lookup f_ini = some ⟨oc_ini, od_ini, .func (PySem.W.fnOf "__init__" "Row.__init__" (defArgs s_Row_init) (defBody s_Row_init) (defScope s_Row_init) .none kV_ini dc_ini pm_ini an_ini cd_ini ct_ini), sl_ini⟩)
    (c_ini : PySem.W.codeIn K cd_ini "Row.__init__" = true)
    (k_ini : PySem.W.keepIn K (.ref f_ini) = true)
    (a_len : PySem.W.findIn K (.ref C) "__len__" = some (some (.ref f_len)))
    (i_len : PySem.W.isFn K (.ref f_len) = true)
    (l_len : K.lookup f_len = some ⟨oc_len, od_len, .func (PySem.W.fnOf "__len__" "Row.__len__" (defArgs s_Row_len) (defBody s_Row_len) (defScope s_Row_len) .none kV_len dc_len pm_len an_len cd_len ct_len), sl_len⟩)
    (c_len : PySem.W.codeIn K cd_len "Row.__len__" = true)
    (k_len : PySem.W.keepIn K (.ref f_len) = true)
    (a_add : PySem.W.findIn K (.ref C) "__add__" = some (some (.ref f_add)))
    (i_add : PySem.W.isFn K (.ref f_add) = true)
    (l_add : K.lookup f_add = some ⟨oc_add, od_add, .func (PySem.W.fnOf "__add__" "Row.__add__" (defArgs s_Row_add) (defBody s_Row_add) (defScope s_Row_add) .none kV_add dc_add pm_add an_add cd_add ct_add), sl_add⟩)
    (c_add : PySem.W.codeIn K cd_add "Row.__add__" = true)
    (k_add : PySem.W.keepIn K (.ref f_add) = true)
    (a_cal : PySem.W.findIn K (.ref C) "__call__" = some (some (.ref f_cal)))
    (i_cal : PySem.W.isFn K (.ref f_cal) = true)
    (l_cal : K.lookup f_cal = some ⟨oc_cal, od_cal, .func (PySem.W.fnOf "__call__" "Row.__call__" (defArgs s_Row_call) (defBody s_Row_call) (defScope s_Row_call) .none kV_cal dc_cal pm_cal an_cal cd_cal ct_cal), sl_cal⟩)
    (c_cal : PySem.W.codeIn K cd_cal "Row.__call__" = true)
    (k_cal : PySem.W.keepIn K (.ref f_cal) = true)
    (n_cal : PySem.W.fnIn K f_cal = true)
    (a_num : PySem.W.nsIn K mainGlobals "is_number" = some (some (.ref f_num)))
    (l_num : K.lookup f_num = some ⟨oc_num, od_num, .func (PySem.W.fnOf "is_number" "is_number" (defArgs s_is_number) (defBody s_is_number) (defScope s_is_number) .none kV_num dc_num pm_num an_num cd_num ct_num), sl_num⟩)
    (c_num : PySem.W.codeIn K cd_num "is_number" = true)
    (k_num : PySem.W.keepIn K (.ref f_num) = true)
    (a_cst : PySem.W.nsIn K mainGlobals "check_stone" = some (some (.ref f_cst)))
    (l_cst : K.lookup f_cst = some ⟨oc_cst, od_cst, .func (PySem.W.fnOf "check_stone" "check_stone" (defArgs s_check_stone) (defBody s_check_stone) (defScope s_check_stone) .none kV_cst dc_cst pm_cst an_cst cd_cst ct_cst), sl_cst⟩)
    (c_cst : PySem.W.codeIn K cd_cst "check_stone" = true)
    (k_cst : PySem.W.keepIn K (.ref f_cst) = true)
    (a_csi : PySem.W.nsIn K mainGlobals "check_side" = some (some (.ref f_csi)))
    (l_csi : K.lookup f_csi = some ⟨oc_csi, od_csi, .func (PySem.W.fnOf "check_side" "check_side" (defArgs s_check_side) (defBody s_check_side) (defScope s_check_side) .none kV_csi dc_csi pm_csi an_csi cd_csi ct_csi), sl_csi⟩)
    (c_csi : PySem.W.codeIn K cd_csi "check_side" = true)
    (k_csi : PySem.W.keepIn K (.ref f_csi) = true)
    (a_bes : PySem.W.nsIn K mainGlobals "stones_beside" = some (some (.ref f_bes)))
    (l_bes : K.lookup f_bes = some ⟨oc_bes, od_bes, .func (PySem.W.fnOf "stones_beside" "stones_beside" (defArgs s_stones_beside) (defBody s_stones_beside) (defScope s_stones_beside) .none kV_bes dc_bes pm_bes an_bes cd_bes ct_bes), sl_bes⟩)
    (c_bes : PySem.W.codeIn K cd_bes "stones_beside" = true)
    (k_bes : PySem.W.keepIn K (.ref f_bes) = true)
    (a_fel : PySem.W.nsIn K mainGlobals "felled_by" = some (some (.ref f_fel)))
    (l_fel : K.lookup f_fel = some ⟨oc_fel, od_fel, .func (PySem.W.fnOf "felled_by" "felled_by" (defArgs s_felled_by) (defBody s_felled_by) (defScope s_felled_by) .none kV_fel dc_fel pm_fel an_fel cd_fel ct_fel), sl_fel⟩)
    (c_fel : PySem.W.codeIn K cd_fel "felled_by" = true)
    (k_fel : PySem.W.keepIn K (.ref f_fel) = true)
    (a_iss : PySem.W.nsIn K mainGlobals "_is_stone" = some (some (.ref f_iss)))
    (l_iss : K.lookup f_iss = some ⟨oc_iss, od_iss, .func (PySem.W.fnOf "_is_stone" "_is_stone" (defArgs s_is_stone) (defBody s_is_stone) (defScope s_is_stone) .none kV_iss dc_iss pm_iss an_iss cd_iss ct_iss), sl_iss⟩)
    (c_iss : PySem.W.codeIn K cd_iss "_is_stone" = true)
    (k_iss : PySem.W.keepIn K (.ref f_iss) = true)
    (a_upt : PySem.W.nsIn K mainGlobals "_fewest_up_to" = some (some (.ref f_upt)))
    (l_upt : K.lookup f_upt = some ⟨oc_upt, od_upt, .func (PySem.W.fnOf "_fewest_up_to" "_fewest_up_to" (defArgs s_fewest_up_to) (defBody s_fewest_up_to) (defScope s_fewest_up_to) .none kV_upt dc_upt pm_upt an_upt cd_upt ct_upt), sl_upt⟩)
    (c_upt : PySem.W.codeIn K cd_upt "_fewest_up_to" = true)
    (k_upt : PySem.W.keepIn K (.ref f_upt) = true)
    (a_few : PySem.W.nsIn K mainGlobals "fewest_pushes" = some (some (.ref f_few)))
    (l_few : K.lookup f_few = some ⟨oc_few, od_few, .func (PySem.W.fnOf "fewest_pushes" "fewest_pushes" (defArgs s_fewest_pushes) (defBody s_fewest_pushes) (defScope s_fewest_pushes) .none kV_few dc_few pm_few an_few cd_few ct_few), sl_few⟩)
    (c_few : PySem.W.codeIn K cd_few "fewest_pushes" = true)
    (k_few : PySem.W.keepIn K (.ref f_few) = true)
    (a_tak : PySem.W.nsIn K mainGlobals "_law_taken" = some (some (.ref f_tak)))
    (l_tak : K.lookup f_tak = some ⟨oc_tak, od_tak, .func (PySem.W.fnOf "_law_taken" "_law_taken" (defArgs s_law_taken) (defBody s_law_taken) (defScope s_law_taken) .none kV_tak dc_tak pm_tak an_tak cd_tak ct_tak), sl_tak⟩)
    (c_tak : PySem.W.codeIn K cd_tak "_law_taken" = true)
    (k_tak : PySem.W.keepIn K (.ref f_tak) = true)
    (a_sto : PySem.W.nsIn K mainGlobals "_law_stones" = some (some (.ref f_sto)))
    (l_sto : K.lookup f_sto = some ⟨oc_sto, od_sto, .func (PySem.W.fnOf "_law_stones" "_law_stones" (defArgs s_law_stones) (defBody s_law_stones) (defScope s_law_stones) .none kV_sto dc_sto pm_sto an_sto cd_sto ct_sto), sl_sto⟩)
    (c_sto : PySem.W.codeIn K cd_sto "_law_stones" = true)
    (k_sto : PySem.W.keepIn K (.ref f_sto) = true)
    (a_row : PySem.W.nsIn K mainGlobals "_law_row" = some (some (.ref f_row)))
    (l_row : K.lookup f_row = some ⟨oc_row, od_row, .func (PySem.W.fnOf "_law_row" "_law_row" (defArgs s_law_row) (defBody s_law_row) (defScope s_law_row) .none kV_row dc_row pm_row an_row cd_row ct_row), sl_row⟩)
    (c_row : PySem.W.codeIn K cd_row "_law_row" = true)
    (k_row : PySem.W.keepIn K (.ref f_row) = true)
    (a_fal : PySem.W.nsIn K mainGlobals "_law_fallen" = some (some (.ref f_fal)))
    (l_fal : K.lookup f_fal = some ⟨oc_fal, od_fal, .func (PySem.W.fnOf "_law_fallen" "_law_fallen" (defArgs s_law_fallen) (defBody s_law_fallen) (defScope s_law_fallen) .none kV_fal dc_fal pm_fal an_fal cd_fal ct_fal), sl_fal⟩)
    (c_fal : PySem.W.codeIn K cd_fal "_law_fallen" = true)
    (k_fal : PySem.W.keepIn K (.ref f_fal) = true)
    (a_lea : PySem.W.nsIn K mainGlobals "_law_least" = some (some (.ref f_lea)))
    (l_lea : K.lookup f_lea = some ⟨oc_lea, od_lea, .func (PySem.W.fnOf "_law_least" "_law_least" (defArgs s_law_least) (defBody s_law_least) (defScope s_law_least) .none kV_lea dc_lea pm_lea an_lea cd_lea ct_lea), sl_lea⟩)
    (c_lea : PySem.W.codeIn K cd_lea "_law_least" = true)
    (k_lea : PySem.W.keepIn K (.ref f_lea) = true)
    (a_law : PySem.W.nsIn K mainGlobals "law" = some (some (.ref f_law)))
    (l_law : K.lookup f_law = some ⟨oc_law, od_law, .func (PySem.W.fnOf "law" "law" (defArgs s_law) (defBody s_law) (defScope s_law) .none kV_law dc_law pm_law an_law cd_law ct_law), sl_law⟩)
    (c_law : PySem.W.codeIn K cd_law "law" = true)
    (k_law : PySem.W.keepIn K (.ref f_law) = true)
    (z_isinstance : PySem.W.nsIn K mainGlobals "isinstance" = some none)
    (z_int : PySem.W.nsIn K mainGlobals "int" = some none)
    (z_bool : PySem.W.nsIn K mainGlobals "bool" = some none)
    (z_len : PySem.W.nsIn K mainGlobals "len" = some none)
    (z_tuple : PySem.W.nsIn K mainGlobals "tuple" = some none)
    (z_list : PySem.W.nsIn K mainGlobals "list" = some none)
    (z_range : PySem.W.nsIn K mainGlobals "range" = some none)
    (z_enumerate : PySem.W.nsIn K mainGlobals "enumerate" = some none)
    (z_abs : PySem.W.nsIn K mainGlobals "abs" = some none)
    (z_max : PySem.W.nsIn K mainGlobals "max" = some none)
    (z_min : PySem.W.nsIn K mainGlobals "min" = some none)
    (z_sorted : PySem.W.nsIn K mainGlobals "sorted" = some none)
    (aS : PySem.W.nsIn K mainGlobals "SIDES" = some (some (.ref S)))
    (lS : K.lookup S = some ⟨.type "tuple", odS, .seq itS nS, slS⟩)
    (pS : itS.size ≤ sizeLine)
    (vS : Vals [.str "left", .str "right"] itS.toList)
    (aP : PySem.W.nsIn K mainGlobals "GREATEST_PLACE" = some (some (.int 1000000000 tP)))
    (aH : PySem.W.nsIn K mainGlobals "GREATEST_HEIGHT" = some (some (.int 1000000000 tH)))
    (pg : PySem.W.plainGet K C Str.empty = true)
    (hd : PySem.W.hasDictIn K C = true)
    (po : PySem.W.plainOver K C = true)
    (sa : PySem.W.findIn K (.ref C) "__setattr__" = some (some (.builtin "object.__setattr__")))
    (mk : PySem.W.makesIn K C = true)
    (kc : PySem.W.keepIn K (.ref C) = true)
    (nQ : PySem.W.findIn K (.ref C) "_stones" = some none)
    (mM : PySem.W.findIn K (.ref C) "MAX_STONES" = some (some (.int 40 tM)))
    (gM : PySem.W.specialIn K (.int 40 tM) "__get__" = some none)
    (sf : PySem.W.selfFirst K C = true)
    (ca : PySem.W.findIn K (.ref C) "__class__" = some (some (.builtin "object.__class__")))
    (cn : PySem.W.specialIn K (.builtin "object.__class__") "__get__" = some (some (.builtin "getset_descriptor.__get__")))
    (ct : PySem.W.takesIn K (.builtin "object.__class__") = some true)
    (cm : PySem.W.mroIn K C (.type "object") = some true) :
    ∃ fd : FuncData, (∀ (s : Shared) (v : Value), BindsTo s fd ⟨[v], []⟩ [("_law_script", v)]) ∧ ∀ base : Heap, K.In base → base.Ns mainGlobals mg → FnOk l.prog w K mg base CX0 7 fa fd ["_law_script"] (spLaw K) := by
  have e := hfa.symm.trans (PySem.W.mg_of X G a_law)
  obtain rfl : f_law = fa := by cases e; rfl
  have B : Blt mg := ⟨PySem.W.mg_none_of X G z_isinstance, PySem.W.mg_none_of X G z_int, PySem.W.mg_none_of X G z_bool, PySem.W.mg_none_of X G z_len, PySem.W.mg_none_of X G z_tuple, PySem.W.mg_none_of X G z_list, PySem.W.mg_none_of X G z_range, PySem.W.mg_none_of X G z_enumerate, PySem.W.mg_none_of X G z_abs, PySem.W.mg_none_of X G z_max, PySem.W.mg_none_of X G z_min, PySem.W.mg_none_of X G z_sorted⟩
  have F_ini := fun_mk (st := s_Row_init) l_ini c_ini k_ini
  have F_len := fun_mk (st := s_Row_len) l_len c_len k_len
  have b_len := F_len.binds (ps := ["self"]) fun _ _ _ _ _ _ us hl => match us, hl with | [_], _ => rfl
  have F_add := fun_mk (st := s_Row_add) l_add c_add k_add
  have b_add := F_add.binds (ps := ["self", "other"]) fun _ _ _ _ _ _ us hl => match us, hl with | [_, _], _ => rfl
  have F_cal := fun_mk (st := s_Row_call) l_cal c_cal k_cal
  have b_cal := F_cal.binds (ps := ["self", "stone", "side"]) fun _ _ _ _ _ _ us hl => match us, hl with | [_, _, _], _ => rfl
  have F_num := fun_mk (st := s_is_number) l_num c_num k_num
  have D_num : DefAt K mg "is_number" s_is_number ["value", "least", "greatest"] f_num _ := ⟨F_num, PySem.W.mg_of X G a_num, F_num.binds fun _ _ _ _ _ _ us hl => match us, hl with | [_, _, _], _ => rfl⟩
  have F_cst := fun_mk (st := s_check_stone) l_cst c_cst k_cst
  have D_cst : DefAt K mg "check_stone" s_check_stone ["stone", "count"] f_cst _ := ⟨F_cst, PySem.W.mg_of X G a_cst, F_cst.binds fun _ _ _ _ _ _ us hl => match us, hl with | [_, _], _ => rfl⟩
  have F_csi := fun_mk (st := s_check_side) l_csi c_csi k_csi
  have D_csi : DefAt K mg "check_side" s_check_side ["side"] f_csi _ := ⟨F_csi, PySem.W.mg_of X G a_csi, F_csi.binds fun _ _ _ _ _ _ us hl => match us, hl with | [_], _ => rfl⟩
  have F_bes := fun_mk (st := s_stones_beside) l_bes c_bes k_bes
  have D_bes : DefAt K mg "stones_beside" s_stones_beside ["stone", "side", "count"] f_bes _ := ⟨F_bes, PySem.W.mg_of X G a_bes, F_bes.binds fun _ _ _ _ _ _ us hl => match us, hl with | [_, _, _], _ => rfl⟩
  have F_fel := fun_mk (st := s_felled_by) l_fel c_fel k_fel
  have D_fel : DefAt K mg "felled_by" s_felled_by ["stones", "standing", "stone", "side"] f_fel _ := ⟨F_fel, PySem.W.mg_of X G a_fel, F_fel.binds fun _ _ _ _ _ _ us hl => match us, hl with | [_, _, _, _], _ => rfl⟩
  have F_iss := fun_mk (st := s_is_stone) l_iss c_iss k_iss
  have D_iss : DefAt K mg "_is_stone" s_is_stone ["stone", "least_place"] f_iss _ := ⟨F_iss, PySem.W.mg_of X G a_iss, F_iss.binds fun _ _ _ _ _ _ us hl => match us, hl with | [_, _], _ => rfl⟩
  have F_upt := fun_mk (st := s_fewest_up_to) l_upt c_upt k_upt
  have D_upt : DefAt K mg "_fewest_up_to" s_fewest_up_to ["row", "last", "pushes_for"] f_upt _ := ⟨F_upt, PySem.W.mg_of X G a_upt, F_upt.binds fun _ _ _ _ _ _ us hl => match us, hl with | [_, _, _], _ => rfl⟩
  have F_few := fun_mk (st := s_fewest_pushes) l_few c_few k_few
  have D_few : DefAt K mg "fewest_pushes" s_fewest_pushes ["row"] f_few _ := ⟨F_few, PySem.W.mg_of X G a_few, F_few.binds fun _ _ _ _ _ _ us hl => match us, hl with | [_], _ => rfl⟩
  have F_tak := fun_mk (st := s_law_taken) l_tak c_tak k_tak
  have D_tak : DefAt K mg "_law_taken" s_law_taken ["_law_row_here", "_law_many"] f_tak _ := ⟨F_tak, PySem.W.mg_of X G a_tak, F_tak.binds fun _ _ _ _ _ _ us hl => match us, hl with | [_, _], _ => rfl⟩
  have F_sto := fun_mk (st := s_law_stones) l_sto c_sto k_sto
  have D_sto : DefAt K mg "_law_stones" s_law_stones ["_law_row_here", "_law_most"] f_sto _ := ⟨F_sto, PySem.W.mg_of X G a_sto, F_sto.binds fun _ _ _ _ _ _ us hl => match us, hl with | [_, _], _ => rfl⟩
  have F_row := fun_mk (st := s_law_row) l_row c_row k_row
  have D_row : DefAt K mg "_law_row" s_law_row ["_law_stones_here"] f_row _ := ⟨F_row, PySem.W.mg_of X G a_row, F_row.binds fun _ _ _ _ _ _ us hl => match us, hl with | [_], _ => rfl⟩
  have F_fal := fun_mk (st := s_law_fallen) l_fal c_fal k_fal
  have D_fal : DefAt K mg "_law_fallen" s_law_fallen ["_law_stones_here", "_law_standing", "_law_stone", "_law_side"] f_fal _ := ⟨F_fal, PySem.W.mg_of X G a_fal, F_fal.binds fun _ _ _ _ _ _ us hl => match us, hl with | [_, _, _, _], _ => rfl⟩
  have F_lea := fun_mk (st := s_law_least) l_lea c_lea k_lea
  have D_lea : DefAt K mg "_law_least" s_law_least ["_law_stones_here"] f_lea _ := ⟨F_lea, PySem.W.mg_of X G a_lea, F_lea.binds fun _ _ _ _ _ _ us hl => match us, hl with | [_], _ => rfl⟩
  have F_law := fun_mk (st := s_law) l_law c_law k_law
  have D_law : DefAt K mg "law" s_law ["_law_script"] f_law _ := ⟨F_law, PySem.W.mg_of X G a_law, F_law.binds fun _ _ _ _ _ _ us hl => match us, hl with | [_], _ => rfl⟩
  have L : Lims mg := ⟨⟨tP, PySem.W.mg_of X G aP⟩, ⟨tH, PySem.W.mg_of X G aH⟩⟩
  have R : RowC K mg C := ⟨⟨pg, hd, po, sa⟩, nQ, ⟨_, mM, ⟨tM, rfl⟩, gM, by decide⟩, PySem.W.mg_of X G aC, sf, ca, cn, ct, cm⟩
  have M : Mk K C f_ini := ⟨mk, a_ini, i_ini, kc⟩
  have hS : ∀ H : Hp, SqT K H S [.str "left", .str "right"] := fun H => .inr ⟨_, itS, nS, lS, rfl, rfl, pS, vS⟩
  refine ⟨PySem.W.fnOf "law" "law" (defArgs s_law) (defBody s_law) (defScope s_law) .none kV_law dc_law pm_law an_law cd_law ct_law, fun s v => .of_eq rfl, fun base _ _ => ?_⟩
  have A_num := D_num.at (ok_num (P := l.prog) (w := w) (base := base) F_num B)
  have A_cst := D_cst.at (ok_checkStone F_cst A_num)
  have A_csi := D_csi.at (ok_checkSide (P := l.prog) (w := w) (base := base) F_csi (PySem.W.mg_of X G aS) hS)
  have A_bes := D_bes.at (ok_beside (P := l.prog) (w := w) (base := base) F_bes B)
  have A_fel := D_fel.at (ok_felled F_fel B A_bes)
  have A_iss := D_iss.at (ok_isStone F_iss B L A_num)
  have G_ini : FnR l.prog w K mg base CX0 3 f_ini (spMake K C) := ok_init F_ini B R A_iss
  have G_len := toR (ok_len (P := l.prog) (w := w) (base := base) F_len B R) b_len
  have G_add := toR (ok_add F_add B R M G_ini) b_add
  have G_cal := toR (ok_call F_cal B R A_cst A_csi A_fel) b_cal
  have A_upt := D_upt.at (ok_upTo F_upt B ⟨a_cal, i_cal, n_cal⟩ G_cal)
  have A_few := D_few.at (ok_fewest F_few B ⟨a_len, i_len⟩ G_len A_upt)
  have A_tak := D_tak.at (ok_taken (P := l.prog) (w := w) (base := base) F_tak B)
  have A_sto := D_sto.at (ok_stones F_sto B A_tak)
  have A_row := D_row.at (ok_row F_row B R M G_ini G_add ⟨a_add, i_add⟩)
  have A_fal := D_fal.at (ok_fallen (P := l.prog) (w := w) (base := base) F_fal)
  have A_lea := D_lea.at (ok_least F_lea B A_fal)
  exact ok_law F_law B R M G_ini A_few A_tak A_sto A_row A_fal A_lea
theorem walk {l : PySem.W.OpenLaw} {q : Program} {loose : List Str} {XP : (Str → Option Value) → Heap → Prop} {YP : World → Heap → Prop} {d : DefRec} {K : Params → PySem.W.Frag} (hn : l.most = some 63) (hdf : d.params.defaults = [])
    (hY : ∀ (w : World) (h : Heap), YP w h → (K w.params).In h)
    (F : ∀ (w : World) (mg : Str → Option Value) (fa : Addr) (h : Heap), (K w.params).In h → h.Ns mainGlobals mg → mg d.name = some (.ref fa) →
      ∃ fd : FuncData, (∀ (s : Shared) (u : Value), BindsTo s fd ⟨[u], []⟩ [("_law_script", u)]) ∧ ∀ base : Heap, (K w.params).In base → base.Ns mainGlobals mg → FnOk l.prog w (K w.params) mg base CX0 7 fa fd ["_law_script"] (spLaw (K w.params))) :
    PySem.W.WalkO q loose XP YP l.row.toRowW d [] (fun f vs => PySem.call f vs) :=
  L2.walk_of (n := 63) (k := 7) (x := "_law_script") (CX := fun _ => CX0) (sp := fun w => spLaw (K w.params)) hn (by decide) hdf ⟨rfl, by decide, by decide⟩ hY F (fun _ _ a ns hl _ hS => ⟨a, ns, rfl, hS, hl, fun _ => rfl⟩) fun _ _ _ _ _ z => z
end RD
end
open PySem PySem.W PyProof.Rows
set_option maxRecDepth 100000 in
set_option maxHeartbeats 0 in
theorem PySem.Challenge.cw_rowdominoes_k07_fewest_pushes_holds : PySem.Challenge.rw_rowdominoes_k07_fewest_pushes.Holds := by
  w_on; o_law; k_head; (case hw => w_witness2)
  k_fill
  refine RD.walk (l := PySem.Challenge.rw_rowdominoes_k07_fewest_pushes) rfl rfl (fun w h Y => PySem.W.kIn_of Y) ?F
  case F =>
    intro w mg fa h KX G hmg
    refine' RD.all_mk KX G hmg ?aC ?a_ini ?i_ini ?l_ini ?c_ini ?k_ini ?a_len ?i_len ?l_len ?c_len ?k_len ?a_add ?i_add ?l_add ?c_add ?k_add ?a_cal ?i_cal ?l_cal ?c_cal ?k_cal ?n_cal ?a_num ?l_num ?c_num ?k_num ?a_cst ?l_cst ?c_cst ?k_cst ?a_csi ?l_csi ?c_csi ?k_csi ?a_bes ?l_bes ?c_bes ?k_bes ?a_fel ?l_fel ?c_fel ?k_fel ?a_iss ?l_iss ?c_iss ?k_iss ?a_upt ?l_upt ?c_upt ?k_upt ?a_few ?l_few ?c_few ?k_few ?a_tak ?l_tak ?c_tak ?k_tak ?a_sto ?l_sto ?c_sto ?k_sto ?a_row ?l_row ?c_row ?k_row ?a_fal ?l_fal ?c_fal ?k_fal ?a_lea ?l_lea ?c_lea ?k_lea ?a_law ?l_law ?c_law ?k_law ?z_isinstance ?z_int ?z_bool ?z_len ?z_tuple ?z_list ?z_range ?z_enumerate ?z_abs ?z_max ?z_min ?z_sorted ?aS ?lS ?pS ?vS ?aP ?aH ?pg ?hd ?po ?sa ?mk ?kc ?nQ ?mM ?gM ?sf ?ca ?cn ?ct ?cm
    (case aC => k_is)
    (case a_ini => k_is)
    (case i_ini => k_is)
    (case l_ini => k_is)
    (case c_ini => k_is)
    (case k_ini => k_is)
    (case a_len => k_is)
    (case i_len => k_is)
    (case l_len => k_is)
    (case c_len => k_is)
    (case k_len => k_is)
    (case a_add => k_is)
    (case i_add => k_is)
    (case l_add => k_is)
    (case c_add => k_is)
    (case k_add => k_is)
    (case a_cal => k_is)
    (case i_cal => k_is)
    (case l_cal => k_is)
    (case c_cal => k_is)
    (case k_cal => k_is)
    (case n_cal => k_is)
    (case a_num => k_is)
    (case l_num => k_is)
    (case c_num => k_is)
    (case k_num => k_is)
    (case a_cst => k_is)
    (case l_cst => k_is)
    (case c_cst => k_is)
    (case k_cst => k_is)
    (case a_csi => k_is)
    (case l_csi => k_is)
    (case c_csi => k_is)
    (case k_csi => k_is)
    (case a_bes => k_is)
    (case l_bes => k_is)
    (case c_bes => k_is)
    (case k_bes => k_is)
    (case a_fel => k_is)
    (case l_fel => k_is)
    (case c_fel => k_is)
    (case k_fel => k_is)
    (case a_iss => k_is)
    (case l_iss => k_is)
    (case c_iss => k_is)
    (case k_iss => k_is)
    (case a_upt => k_is)
    (case l_upt => k_is)
    (case c_upt => k_is)
    (case k_upt => k_is)
    (case a_few => k_is)
    (case l_few => k_is)
    (case c_few => k_is)
    (case k_few => k_is)
    (case a_tak => k_is)
    (case l_tak => k_is)
    (case c_tak => k_is)
    (case k_tak => k_is)
    (case a_sto => k_is)
    (case l_sto => k_is)
    (case c_sto => k_is)
    (case k_sto => k_is)
    (case a_row => k_is)
    (case l_row => k_is)
    (case c_row => k_is)
    (case k_row => k_is)
    (case a_fal => k_is)
    (case l_fal => k_is)
    (case c_fal => k_is)
    (case k_fal => k_is)
    (case a_lea => k_is)
    (case l_lea => k_is)
    (case c_lea => k_is)
    (case k_lea => k_is)
    (case a_law => k_is)
    (case l_law => k_is)
    (case c_law => k_is)
    (case k_law => k_is)
    (case z_isinstance => k_is)
    (case z_int => k_is)
    (case z_bool => k_is)
    (case z_len => k_is)
    (case z_tuple => k_is)
    (case z_list => k_is)
    (case z_range => k_is)
    (case z_enumerate => k_is)
    (case z_abs => k_is)
    (case z_max => k_is)
    (case z_min => k_is)
    (case z_sorted => k_is)
    (case aS => k_is)
    (case lS => k_is)
    (case pS => decide)
    (case vS => exact .cons ⟨_, rfl⟩ (.cons ⟨_, rfl⟩ .nil))
    (case aP => k_is)
    (case aH => k_is)
    (case pg => k_is)
    (case hd => k_is)
    (case po => k_is)
    (case sa => k_is)
    (case mk => k_is)
    (case kc => k_is)
    (case nQ => k_is)
    (case mM => k_is)
    (case gM => k_is)
    (case sf => k_is)
    (case ca => k_is)
    (case cn => k_is)
    (case ct => k_is)
    (case cm => k_is)
#print axioms PySem.Challenge.cw_rowdominoes_k07_fewest_pushes_holds
