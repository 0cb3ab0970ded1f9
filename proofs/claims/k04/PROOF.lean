import PyProof.Rows.All
import Wide.All
import OpenK.AllK
import Wide.FinOn
import HandS.ForMost
import HandS.More
import HandS.IsInst
import HandS.RevRange
import HandS.Style
import HandS.EndBits
import HandS.Evl
import HandS.Walk
import Flt.Len
import PySem.Challenge.RW_btreelog_k04_a_block
set_option Elab.async false
set_option linter.all false
set_option maxRecDepth 100000
set_option maxHeartbeats 1000000
namespace My
open PySem L2
/-! ### facts carried from heap to heap -/
theorem Same.at {H H' : Hp} {a : Addr} {o : HO} (e : Same H H') (h : H a = some o) : H' a = some o := e a o h
theorem Same.seqT {K : PySem.W.Frag} {H H' : Hp} {a : Addr} {xs : List V} (e : Same H H') (h : SqT K H a xs) : SqT K H' a xs := Evl.ex_t e h
theorem Same.new {H : Hp} {p : Addr} (h : H p = none) (o : HO) : Same H (upd H p o) := Evl.Ex.new h
theorem seq_l {K : PySem.W.Frag} {H : Hp} {a : Addr} {xs : List V} (h : SqL K H a xs) : SqL K H a xs ∨ SqT K H a xs := .inl h
theorem seq_t {K : PySem.W.Frag} {H : Hp} {a : Addr} {xs : List V} (h : SqT K H a xs) : SqL K H a xs ∨ SqT K H a xs := .inr h
theorem Same.seqO {K : PySem.W.Frag} {H H' : Hp} {a : Addr} {xs : List V} (e : Same H H') (h : SqL K H a xs ∨ SqT K H a xs) : SqL K H' a xs ∨ SqT K H' a xs :=
  h.elim (fun h => .inl (e.seq h)) fun h => .inr (Same.seqT e h)
mutual
theorem Dp.go {K : PySem.W.Frag} {H H' : Hp} (e : Same H H') : ∀ {v : V} {d : PyData}, Dp K H v d → Dp K H' v d
  | _, _, .non => .non
  | _, _, .bl b => .bl b
  | _, _, .int i => .int i
  | _, _, .str x => .str x
  | _, _, .lst h r => .lst (e.seq h) (DpAll.go e r)
  | _, _, .tup h r => .tup (Same.seqT e h) (DpAll.go e r)
theorem DpAll.go {K : PySem.W.Frag} {H H' : Hp} (e : Same H H') : ∀ {vs : List V} {ds : List PyData}, DpAll K H vs ds → DpAll K H' vs ds
  | _, _, .nil => .nil
  | _, _, .cons h r => .cons (Dp.go e h) (DpAll.go e r)
end
/-! ### readings, a step at a time -/
section
variable {K : PySem.W.Frag} {σ : L2.St} {H : Hp} {Q : VK} {ta tb tc te : TE} {v x y z : V} {D : Ends} {t u : TS} {tt tu : TT} {r r' : R2} {tr : TA} {QA : List V → Hp → Prop} {QB : Bool → Hp → Prop}
theorem g_var {i : Nat} (h : σ[i]? = some (some v)) (q : Q v H) : tVar i σ H Q := ⟨v, h, q⟩
theorem g_c (q : Q v H) : tC v σ H Q := q
theorem g_op (q : ta σ H fun x H1 => tb σ H1 fun y H2 => r x y H2 Q) : tOp r ta tb σ H Q := q
theorem g_un {f : V → Hp → VK → Prop} (q : ta σ H fun x H1 => f x H1 Q) : tUn f ta σ H Q := q
theorem g_rI0 {g : Int → Int → V} {i j : Int} (q : Q (g i j) H) : rI0 g (.int i) (.int j) H Q := ⟨i, j, rfl, rfl, q⟩
theorem g_rI {C : Int → Int → Prop} {g : Int → Int → V} {i j : Int} (c : C i j) (q : Q (g i j) H) : rI C g (.int i) (.int j) H Q := ⟨i, j, rfl, rfl, c, q⟩
theorem g_rU {g : Int → V} {i : Int} (q : Q (g i) H) : rU g (.int i) H Q := ⟨i, rfl, q⟩
theorem g_rEq (s : scal x y = true) (q : Q (.bl (decide (x = y))) H) : rEq x y H Q := ⟨s, q⟩
theorem g_rNe (s : scal x y = true) (q : Q (.bl (!decide (x = y))) H) : rNe x y H Q := ⟨s, q⟩
/-- what a test waits for -/
def isB (QB : Bool → Hp → Prop) : VK := fun x H => ∃ k, x = .bl k ∧ QB k H
theorem g_isB {k : Bool} (q : QB k H) : isB QB (.bl k) H := ⟨k, rfl, q⟩
theorem g_test (q : ta σ H (isB QB)) : tTest ta σ H QB := q
theorem g_tB (q : ta σ H (isB QB)) : tB ta σ H QB := q
def chK (r' : R2) (tc : TE) (y : V) (σ : L2.St) (Q : VK) : Bool → Hp → Prop := fun k H => if k = true then tc σ H fun w H4 => r' y w H4 Q else Q (.bl false) H
theorem g_chain (q : ta σ H fun x H1 => tb σ H1 fun y H2 => r x y H2 (isB (chK r' tc y σ Q))) : tChain r r' ta tb tc σ H Q := q
theorem g_chK {k : Bool} (h1 : k = true → tc σ H fun w H4 => r' y w H4 Q) (h2 : k = false → Q (.bl false) H) : chK r' tc y σ Q k H := by
  cases k
  · exact h2 rfl
  · exact h1 rfl
def andK (u : TT) (σ : L2.St) (Q : Bool → Hp → Prop) : Bool → Hp → Prop := fun c H => if c = true then u σ H Q else Q false H
def orK (u : TT) (σ : L2.St) (Q : Bool → Hp → Prop) : Bool → Hp → Prop := fun c H => if c = true then Q true H else u σ H Q
def notK (Q : Bool → Hp → Prop) : Bool → Hp → Prop := fun c H => Q (!c) H
theorem g_and (q : tt σ H (andK tu σ QB)) : tAnd tt tu σ H QB := q
theorem g_or (q : tt σ H (orK tu σ QB)) : tOr tt tu σ H QB := q
theorem g_not (q : tt σ H (notK QB)) : tNot tt σ H QB := q
theorem g_notK {k : Bool} (q : QB (!k) H) : notK QB k H := q
theorem g_andK {k : Bool} (h1 : k = true → tu σ H QB) (h2 : k = false → QB false H) : andK tu σ QB k H := by
  cases k
  · exact h2 rfl
  · exact h1 rfl
theorem g_orK {k : Bool} (h1 : k = true → QB true H) (h2 : k = false → tu σ H QB) : orK tu σ QB k H := by
  cases k
  · exact h2 rfl
  · exact h1 rfl
/-- .. as values -/
def andV (tb : TE) (σ : L2.St) (Q : VK) : VK := fun x H => ∃ c, x = .bl c ∧ if c = true then tb σ H Q else Q (.bl false) H
def orV (tb : TE) (σ : L2.St) (Q : VK) : VK := fun x H => ∃ c, x = .bl c ∧ if c = true then Q (.bl true) H else tb σ H Q
def notV (Q : VK) : VK := fun x H => ∃ c, x = .bl c ∧ Q (.bl (!c)) H
theorem g_andT (q : ta σ H (andV tb σ Q)) : tAndV ta tb σ H Q := q
theorem g_orT (q : ta σ H (orV tb σ Q)) : tOrV ta tb σ H Q := q
theorem g_notT (q : ta σ H (notV Q)) : tNotV ta σ H Q := q
theorem g_andV {k : Bool} (h1 : k = true → tb σ H Q) (h2 : k = false → Q (.bl false) H) : andV tb σ Q (.bl k) H := ⟨k, rfl, by
  cases k
  · exact h2 rfl
  · exact h1 rfl⟩
theorem g_orV {k : Bool} (h1 : k = true → Q (.bl true) H) (h2 : k = false → tb σ H Q) : orV tb σ Q (.bl k) H := ⟨k, rfl, by
  cases k
  · exact h2 rfl
  · exact h1 rfl⟩
theorem g_notV {k : Bool} (q : Q (.bl (!k)) H) : notV Q (.bl k) H := ⟨k, rfl, q⟩
def ifV (ta tb : TE) (σ : L2.St) (Q : VK) : Bool → Hp → Prop := fun c H => if c = true then ta σ H Q else tb σ H Q
theorem g_ifE (q : tt σ H (ifV ta tb σ Q)) : tIf tt ta tb σ H Q := q
theorem g_ifV {k : Bool} (h1 : k = true → ta σ H Q) (h2 : k = false → tb σ H Q) : ifV ta tb σ Q k H := by
  cases k
  · exact h2 rfl
  · exact h1 rfl
/-! tuples, lists, arguments, calls -/
theorem g_nil (q : QA [] H) : tNil σ H QA := q
theorem g_cons (q : ta σ H fun x H1 => tr σ H1 fun xs H2 => QA (x :: xs) H2) : tCons ta tr σ H QA := q
def tupK (Q : VK) : List V → Hp → Prop := fun xs H => xs.length ≤ sizeLine ∧ ∀ p, H p = none → Q (.ref p) (upd H p (.tup xs))
def lstK (Q : VK) : List V → Hp → Prop := fun xs H => xs.length ≤ sizeLine ∧ ∀ p, H p = none → Q (.ref p) (upd H p (.lst xs))
theorem g_tup (q : tr σ H (tupK Q)) : tTup tr σ H Q := q
theorem g_lst (q : tr σ H (lstK Q)) : tLst tr σ H Q := q
theorem g_tupK {xs : List V} (hl : xs.length ≤ sizeLine) (q : ∀ p H1, H p = none → Same H H1 → H1 p = some (.tup xs) → Q (.ref p) H1) : tupK Q xs H :=
  ⟨hl, fun p hp => q p _ hp (Same.new hp _) upd_same⟩
theorem g_lstK {xs : List V} (hl : xs.length ≤ sizeLine) (q : ∀ p H1, H p = none → Same H H1 → H1 p = some (.lst xs) → Q (.ref p) H1) : lstK Q xs H :=
  ⟨hl, fun p hp => q p _ hp (Same.new hp _) upd_same⟩
theorem g_call {sp : Sp} {dvs : List V} {E : XK} (q : tr σ H fun vs H1 => sp (vs ++ dvs) H1 Q E) : tCall sp dvs E tr σ H Q := q
theorem g_cb {f : List V → Hp → VK → Prop} (q : tr σ H fun vs H1 => f vs H1 Q) : tCB f tr σ H Q := q
theorem g_bm {T : String} {f : V → List V → Hp → VK → Prop} (q : ta σ H fun x H1 => tyV K T x H1 ∧ tr σ H1 fun xs H2 => f x xs H2 Q) : tBM K T f ta tr σ H Q := q
/-! subscripts, slices -/
theorem g_ixL {p : Addr} {xs : List V} {i : Int} (h : SqL K H p xs) (ha : atI xs i = some v) (q : Q v H) : rIxL K (.ref p) (.int i) H Q := ⟨p, xs, i, v, rfl, rfl, h, ha, q⟩
theorem g_ixT {p : Addr} {xs : List V} {i : Int} (h : SqT K H p xs) (ha : atI xs i = some v) (q : Q v H) : rIxT K (.ref p) (.int i) H Q := ⟨p, xs, i, v, rfl, rfl, h, ha, q⟩
theorem g_ixO {p : Addr} {xs : List V} {i : Int} (h : SqL K H p xs ∨ SqT K H p xs) (ha : atI xs i = some v) (q : Q v H) : rIx K (.ref p) (.int i) H Q :=
  h.elim (fun h => .inl ⟨p, xs, i, v, rfl, rfl, h, ha, q⟩) fun h => .inr (.inl ⟨p, xs, i, v, rfl, rfl, h, ha, q⟩)
theorem g_sl {f : V → Option Int → Option Int → Hp → VK → Prop} {tl th : TO} (q : te σ H fun x H1 => tl σ H1 fun l H2 => th σ H2 fun u H3 => f x l u H3 Q) : tSl f te tl th σ H Q := q
theorem g_noPart {QO : Option Int → Hp → Prop} (q : QO none H) : tNoPart σ H QO := q
def partK (QO : Option Int → Hp → Prop) : VK := fun x H => ∃ i, x = .int i ∧ QO (some i) H
theorem g_part {QO : Option Int → Hp → Prop} (q : te σ H (partK QO)) : tPart te σ H QO := q
theorem g_partK {QO : Option Int → Hp → Prop} {i : Int} (q : QO (some i) H) : partK QO (.int i) H := ⟨i, rfl, q⟩
theorem g_slL {a : Addr} {xs : List V} {lo hi : Option Int} (h : SqL K H a xs) (q : ∀ p H1, H p = none → Same H H1 → H1 p = some (.lst (cutV xs lo hi)) → Q (.ref p) H1) : rSlL K (.ref a) lo hi H Q :=
  ⟨a, xs, rfl, h, fun p hp => q p _ hp (Same.new hp _) upd_same⟩
theorem g_slT {a : Addr} {xs : List V} {lo hi : Option Int} (h : SqT K H a xs) (n : ¬ (HT.sIx xs.length 0 lo = 0 ∧ HT.sIx xs.length xs.length hi = xs.length)) (q : ∀ p H1, H p = none → Same H H1 → H1 p = some (.tup (cutV xs lo hi)) → Q (.ref p) H1) : rSlT K (.ref a) lo hi H Q :=
  ⟨a, xs, rfl, h, n, fun p hp => q p _ hp (Same.new hp _) upd_same⟩
/-! statements -/
theorem g_seq (q : t { D with nx := u D } σ H) : tSeq t u D σ H := q
theorem g_next (q : D.nx σ H) : tNext D σ H := q
theorem g_asg {g : TG} (q : te σ H fun x H1 => g x σ H1 D.nx) : tAsg te g D σ H := q
theorem g_name {i : Nat} {QS : L2.St → Hp → Prop} (q : QS (σ.set i (some v)) H) : gName i v σ H QS := q
theorem g_gtup {n : Nat} {tg : TGs} {a : Addr} {xs : List V} {QS : L2.St → Hp → Prop} (h : SqT K H a xs) (hl : xs.length = n) (q : tg xs σ H QS) : gTup K n tg (.ref a) σ H QS := ⟨a, xs, rfl, h, hl, q⟩
theorem g_gcons {g : TG} {tg : TGs} {vs : List V} {QS : L2.St → Hp → Prop} (q : g v σ H fun σ' H' => tg vs σ' H' QS) : gCons g tg (v :: vs) σ H QS := ⟨v, vs, rfl, q⟩
theorem g_gnil {QS : L2.St → Hp → Prop} (q : QS σ H) : gNil [] σ H QS := ⟨rfl, q⟩
theorem g_ret (q : te σ H D.rt) : tRet te D σ H := q
theorem g_retN (q : D.rt .non H) : tRetN D σ H := q
theorem g_drop (q : te σ H fun _ H1 => D.nx σ H1) : tDrop te D σ H := q
def brS (t u : TS) (D : Ends) (σ : L2.St) : Bool → Hp → Prop := fun b H1 => if b = true then t D σ H1 else u D σ H1
theorem g_if (q : tt σ H (brS t u D σ)) : tIfS tt t u D σ H := q
theorem g_br {k : Bool} (h1 : k = true → t D σ H) (h2 : k = false → u D σ H) : brS t u D σ k H := by
  cases k
  · exact h2 rfl
  · exact h1 rfl
theorem g_brT (h1 : t D σ H) : brS t u D σ true H := h1
theorem g_brF (h1 : u D σ H) : brS t u D σ false H := h1
end
/-! ### rules whose relation has a name -/
section
variable {X : Cx}
def rLen (K : PySem.W.Frag) : List V → Hp → VK → Prop := fun xs H Q => ∃ p ys, xs = [.ref p] ∧ (SqL K H p ys ∨ SqT K H p ys) ∧ Q (.int ys.length) H
theorem my_len : CallR X (.builtin "len") (rLen X.K) := call_len_seq
def rLenS : List V → Hp → VK → Prop := fun us H Q => ∃ t, us = [.str t] ∧ t.length ≤ sizeLine ∧ Q (.int t.length) H
theorem my_lenS : CallR X (.builtin "len") rLenS := call_len_str
def rList (K : PySem.W.Frag) : List V → Hp → VK → Prop := fun xs H Q => ∃ p ys, xs = [.ref p] ∧ (SqL K H p ys ∨ SqT K H p ys) ∧ ∀ l, H l = none → Q (.ref l) (upd H l (.lst ys))
theorem my_list : CallR X (.type "list") (rList X.K) := call_list_of
def rTuple (K : PySem.W.Frag) : List V → Hp → VK → Prop := fun xs H Q => ∃ p ys, xs = [.ref p] ∧ ((SqL K H p ys ∧ ∀ l, H l = none → Q (.ref l) (upd H l (.tup ys))) ∨ (SqT K H p ys ∧ Q (.ref p) H))
theorem my_tuple : CallR X (.type "tuple") (rTuple X.K) := call_tuple_of
def rInt : List V → Hp → VK → Prop := fun xs H Q => (∃ i, xs = [.int i] ∧ Q (.int i) H) ∨ ∃ k, xs = [.bl k] ∧ Q (.int (if k then 1 else 0)) H
theorem my_int : CallR X (.type "int") rInt := call_int1
def rMax2 : List V → Hp → VK → Prop := fun us H Q => ∃ i j, us = [.int i, .int j] ∧ Q (.int (if j > i then j else i)) H
theorem my_max2 (hc : X.calm = true) : CallR X (.builtin "max") rMax2 := call_max2 hc
def rStrI : List V → Hp → VK → Prop := fun xs H Q => ∃ i, xs = [.int i] ∧ i.natAbs.log2 < 1920 ∧ Q (.str (toString i)) H
theorem my_strI : CallR X (.type "str") rStrI := call_str_int
def rAddS : R2 := fun x y H Q => ∃ i j, x = .str i ∧ y = .str j ∧ i.length + j.length ≤ sizeLine ∧ Q (.str (i ++ j)) H
theorem my_addS : OpR X (binaryOp .Add) rAddS := op_add_str
def rIsN : R2 := fun u v H Q => v = .non ∧ Q (.bl (decide (u = .non))) H
def rNotN : R2 := fun u v H Q => v = .non ∧ Q (.bl (!decide (u = .non))) H
theorem my_isN : OpR X (compareOp .Is) rIsN := op_isN
theorem my_notN : OpR X (compareOp .IsNot) rNotN := op_notN
def rIsTy : R2 := fun x y H Q => ∃ a b, x = .ty a ∧ y = .ty b ∧ Q (.bl (decide (a = b))) H
theorem my_isTy : OpR X (compareOp .Is) rIsTy := op_isTyB
theorem op_mulX : OpR X (binaryOp .Mult) (rI IntMulOk fun i j => .int (i * j)) := opI fun _ _ _ _ _ _ _ hc q => PyProof.Rows.mul_int q hc
end
section
variable {K : PySem.W.Frag} {H : Hp} {Q : VK} {v x y : V} {a : Addr} {xs : List V}
theorem g_len (h : SqL K H a xs ∨ SqT K H a xs) (q : Q (.int xs.length) H) : rLen K [.ref a] H Q := ⟨a, xs, rfl, h, q⟩
theorem g_lenS {z : Str} (h : z.length ≤ sizeLine) (q : Q (.int z.length) H) : rLenS [.str z] H Q := ⟨z, rfl, h, q⟩
theorem g_list (h : SqL K H a xs ∨ SqT K H a xs) (q : ∀ p H1, H p = none → Same H H1 → H1 p = some (.lst xs) → Q (.ref p) H1) : rList K [.ref a] H Q := ⟨a, xs, rfl, h, fun p hp => q p _ hp (Same.new hp _) upd_same⟩
theorem g_tupleL (h : SqL K H a xs) (q : ∀ p H1, H p = none → Same H H1 → H1 p = some (.tup xs) → Q (.ref p) H1) : rTuple K [.ref a] H Q := ⟨a, xs, rfl, .inl ⟨h, fun p hp => q p _ hp (Same.new hp _) upd_same⟩⟩
theorem g_tupleT (h : SqT K H a xs) (q : Q (.ref a) H) : rTuple K [.ref a] H Q := ⟨a, xs, rfl, .inr ⟨h, q⟩⟩
/-- tuple(x) of either: some tuple of the items -/
theorem g_tupleO (h : SqL K H a xs ∨ SqT K H a xs) (q : ∀ p H1, Same H H1 → SqT K H1 p xs → Q (.ref p) H1) : rTuple K [.ref a] H Q :=
  h.elim (fun h => g_tupleL h fun p H1 _ s e => q p H1 s (SqT.of e)) fun h => g_tupleT h (q a H (L2.Same.refl H) h)
theorem g_intB {k : Bool} (q : Q (.int (if k then 1 else 0)) H) : rInt [.bl k] H Q := .inr ⟨k, rfl, q⟩
theorem g_intI {i : Int} (q : Q (.int i) H) : rInt [.int i] H Q := .inl ⟨i, rfl, q⟩
theorem g_max2 {i j : Int} (q : Q (.int (if j > i then j else i)) H) : rMax2 [.int i, .int j] H Q := ⟨i, j, rfl, q⟩
theorem g_strI {i : Int} (h : i.natAbs.log2 < 1920) (q : Q (.str (toString i)) H) : rStrI [.int i] H Q := ⟨i, rfl, h, q⟩
theorem g_addS {i j : Str} (h : i.length + j.length ≤ sizeLine) (q : Q (.str (i ++ j)) H) : rAddS (.str i) (.str j) H Q := ⟨i, j, rfl, rfl, h, q⟩
theorem g_isN (q : Q (.bl (decide (x = .non))) H) : rIsN x .non H Q := ⟨rfl, q⟩
theorem g_notN (q : Q (.bl (!decide (x = .non))) H) : rNotN x .non H Q := ⟨rfl, q⟩
theorem g_isTy {m n : String} (q : Q (.bl (decide (m = n))) H) : rIsTy (.ty m) (.ty n) H Q := ⟨m, n, rfl, rfl, q⟩
theorem g_notTy {m n : String} (q : Q (.bl (!decide (m = n))) H) : rNT (.ty m) (.ty n) H Q := ⟨m, n, rfl, rfl, q⟩
theorem g_isBl {m n : Bool} (q : Q (.bl (decide (m = n))) H) : rIsB (.bl m) (.bl n) H Q := ⟨m, n, rfl, rfl, q⟩
theorem g_notBl {m n : Bool} (q : Q (.bl (!decide (m = n))) H) : rNotB (.bl m) (.bl n) H Q := ⟨m, n, rfl, rfl, q⟩
theorem g_typ {T : String} (t : TyB K H x T) (q : Q (.ty T) H) : rTyp K [x] H Q := ⟨x, T, rfl, t, q⟩
theorem g_isi {c : V} {t u : Value} {b : Bool} (k : ClsV c u) (ty : TyX K H x t) (e : PySem.W.kitOne K t u = some b) (q : Q (.bl b) H) : rIsi K [x, c] H Q := ⟨x, c, t, u, b, rfl, k, ty, e, q⟩
theorem g_eqD {d e : PyData} (hx : Dp K H x d) (hy : Dp K H y e) (sd : SeqAt.shaped d = true) (se : SeqAt.shaped e = true) (q : Q (.bl (PyData.eqv d e)) H) : rEqD K x y H Q := ⟨d, e, hx, hy, sd, se, q⟩
theorem g_neD {d e : PyData} (hx : Dp K H x d) (hy : Dp K H y e) (sd : SeqAt.shaped d = true) (se : SeqAt.shaped e = true) (q : Q (.bl (!PyData.eqv d e)) H) : rNeD K x y H Q := ⟨d, e, hx, hy, sd, se, q⟩
theorem g_all {bs : List Bool} (h : SqL K H a (bs.map V.bl)) (q : Q (.bl (bs.all id)) H) : rAll K [.ref a] H Q := ⟨a, bs, rfl, h, q⟩
theorem g_in {neg : Bool} (h : SqL K H a xs ∨ SqT K H a xs) (f : flatV x = true) (fs : xs.all flatV = true) (q : Q (.bl (if neg then !inV x xs else inV x xs)) H) : rIn K neg x (.ref a) H Q := ⟨a, xs, rfl, h, f, fs, q⟩
end
end My
namespace My
open PySem L2
section
variable {X : Cx} {K : PySem.W.Frag} {H : Hp} {Q : VK} {a : Addr} {xs : List V} {lo hi : Option Int}
def rSlO (K : PySem.W.Frag) : V → Option Int → Option Int → Hp → VK → Prop := fun x lo hi H Q => rSlL K x lo hi H Q ∨ rSlT K x lo hi H Q
theorem my_slO : SlR X (rSlO X.K) := sl_list.or sl_tup
theorem g_slO (h : SqL K H a xs ∨ SqT K H a xs) (n : ¬ (HT.sIx xs.length 0 lo = 0 ∧ HT.sIx xs.length xs.length hi = xs.length))
    (q : ∀ p H1, H p = none → Same H H1 → (SqL K H1 p (cutV xs lo hi) ∨ SqT K H1 p (cutV xs lo hi)) → Q (.ref p) H1) : rSlO K (.ref a) lo hi H Q :=
  h.elim (fun h => .inl (g_slL h fun p H1 np s e => q p H1 np s (.inl (SqL.of e)))) fun h => .inr (g_slT h n fun p H1 np s e => q p H1 np s (.inr (SqT.of e)))
theorem cut_to (xs : List V) (n : Nat) : cutV xs none (some (n : Int)) = xs.take n := by
  unfold cutV
  rw [HT.sIx_none, HT.sIx_nat, List.drop_zero, Nat.sub_zero]
  by_cases h : n ≤ xs.length
  · rw [Nat.min_eq_left h]
  · rw [Nat.min_eq_right (by omega), List.take_length, List.take_of_length_le (by omega)]
theorem cut_from (xs : List V) (n : Nat) : cutV xs (some (n : Int)) none = xs.drop n := by
  unfold cutV
  rw [HT.sIx_none, HT.sIx_nat]
  by_cases h : n ≤ xs.length
  · rw [Nat.min_eq_left h, List.take_of_length_le (by rw [List.length_drop]; omega)]
  · rw [Nat.min_eq_right (by omega), Nat.sub_self, List.take_zero, List.drop_eq_nil_of_le (by omega)]
theorem sz {n : Nat} (h : n ≤ 100000) : n ≤ sizeLine := Nat.le_trans h (by decide)
end
end My
namespace My
open PySem L2
/-! ### joins, comprehensions, loops -/
section
variable {K : PySem.W.Frag} {σ : L2.St} {H : Hp} {Q : VK} {D : Ends} {t u : TS} {te tl : TE}
theorem g_cut (M : L2.St → Hp → Prop) (h : t { D with nx := M } σ H) (k : ∀ σ' H', M σ' H' → u D σ' H') : Evl.tCut t u D σ H := ⟨M, h, k⟩
/-- all objects but lists stand as they stood -/
def Still (H H' : Hp) : Prop := ∀ b o, (∀ xs, o ≠ .lst xs) → H b = some o → H' b = some o
theorem Still.of (e : Same H H') : Still H H' := fun b o _ h => e b o h
theorem Still.refl (H : Hp) : Still H H := fun _ _ _ h => h
theorem Still.trans {H H1 H2 : Hp} (a : Still H H1) (b : Still H1 H2) : Still H H2 := fun c o n h => b c o n (a c o n h)
theorem Still.upd {H : Hp} {p : Addr} {xs ys : List V} (h : H p = some (.lst xs)) : Still H (upd H p (.lst ys)) := fun b o n e => by
  rw [upd_ne (ne_of e h (n xs))]
  exact e
theorem Still.tup {H H' : Hp} {p : Addr} {xs : List V} (e : Still H H') (h : H p = some (.tup xs)) : H' p = some (.tup xs) := e p _ (fun _ z => nomatch z) h
theorem g_lcR1 {ta : TA} {j : Nat} {vs : List Nat} {n : Int} (Rel : Nat → V → Hp → Prop) (ha : ∀ R : List V → Hp → Prop, R [.int n] H → ta σ H R) (hn : -40000 ≤ n ∧ n ≤ 40000)
    (hw : ∀ x, wipe ((wipe σ vs).set j (some x)) vs = wipe σ vs) (hst : ∀ i y H1 H2, Still H1 H2 → Rel i y H1 → Rel i y H2)
    (he : ∀ (i : Nat) (H1 : Hp) (QE : VK), (i : Int) < n → Same H H1 → (∀ y H2, Same H1 H2 → Rel i y H2 → QE y H2) → te ((wipe σ vs).set j (some (.int (i : Int)))) H1 QE)
    (q : ∀ p ys H1, H p = none → Same H H1 → H1 p = some (.lst ys) → ys.length = n.toNat → (∀ i y, ys[i]? = some y → Rel i y H1) → Q (.ref p) H1) :
    tLc (iRng1 ta) (gName j) tYes te vs σ H Q := by
  refine ha _ ⟨n, rfl, by omega, by omega, fun Dl hD => ?_⟩
  refine lc_range (lo := 0) (n := n.toNat) (fun i H' => Same H H' ∧ ∃ ys, H' Dl = some (.lst ys) ∧ ys.length = i ∧ ∀ k y, ys[k]? = some y → Rel k y H')
    ⟨Same.new hD _, [], upd_same, rfl, fun k y h => nomatch h⟩ (fun i H' hi p => ?_) (fun H' p => ?_)
  · obtain ⟨s, ys, e, hl, hr⟩ := p
    show wipe ((wipe σ vs).set j (some (.int ((0 : Int) + (i : Int))))) vs = wipe σ vs ∧ _
    rw [Int.zero_add]
    refine ⟨hw _, ?_⟩
    show te ((wipe σ vs).set j (some (.int (i : Int)))) H' _
    refine he i H' _ (by omega) s fun y H2 s2 r => ⟨ys, s2 _ _ e, Evl.sz_lt (by omega), ?_⟩
    have st : Still H2 (upd H2 Dl (.lst (ys ++ [y]))) := Still.upd (s2 _ _ e)
    refine ⟨fun b o h => ?_, ys ++ [y], upd_same, by rw [List.length_append, hl]; rfl, fun k z hk => ?_⟩
    · rw [upd_ne (ne_of_none h hD)]
      exact s2 _ _ (s _ _ h)
    · by_cases c : k < ys.length
      · rw [List.getElem?_append_left c] at hk
        exact hst k z _ _ st (hst k z _ _ (Still.of s2) (hr k z hk))
      · rw [List.getElem?_append_right (by omega)] at hk
        by_cases c2 : k - ys.length = 0
        · rw [c2] at hk
          have ez : y = z := Option.some.inj hk
          have ek : k = i := by omega
          subst ez ek
          exact hst _ _ _ _ st r
        · rw [List.getElem?_eq_none (by rw [List.length_singleton]; omega)] at hk
          cases hk
  · obtain ⟨s, ys, e, hl, hr⟩ := p
    exact q Dl ys H' hD s e hl hr
/-- over a list (its items told): a value for each item, no test -/
theorem g_lcL {a : Addr} {xs : List V} {j : Nat} {vs : List Nat} (Rel : Nat → V → Hp → Prop) (ha : ∀ R : VK, R (.ref a) H → tl σ H R) (hx : SqL K H a xs) (hn : xs.length ≤ 40000)
    (hw : ∀ x, wipe ((wipe σ vs).set j (some x)) vs = wipe σ vs) (hst : ∀ i y H1 H2, Still H1 H2 → Rel i y H1 → Rel i y H2)
    (he : ∀ (i : Nat) (x : V) (H1 : Hp) (QE : VK), xs[i]? = some x → Same H H1 → (∀ y H2, Same H1 H2 → Rel i y H2 → QE y H2) → te ((wipe σ vs).set j (some x)) H1 QE)
    (q : ∀ p ys H1, H p = none → Same H H1 → H1 p = some (.lst ys) → ys.length = xs.length → (∀ i y, ys[i]? = some y → Rel i y H1) → Q (.ref p) H1) :
    tLc (iList K tl) (gName j) tYes te vs σ H Q := by
  refine ha _ ⟨a, rfl, ⟨xs, hx⟩, fun Dl hD => ?_⟩
  refine lc_list (xs := xs) (fun i H' => Same H H' ∧ ∃ ys, H' Dl = some (.lst ys) ∧ ys.length = i ∧ ∀ k y, ys[k]? = some y → Rel k y H')
    ⟨Same.new hD _, [], upd_same, rfl, fun k y h => nomatch h⟩ (fun i H' _ p => p.1.seq hx) (fun i x H' hi p => ?_) (fun H' p => ?_)
  · obtain ⟨s, ys, e, hl, hr⟩ := p
    have hi2 := (List.getElem?_eq_some_iff.mp hi).1
    refine ⟨hw _, ?_⟩
    show te ((wipe σ vs).set j (some x)) H' _
    refine he i x H' _ hi s fun y H2 s2 r => ⟨ys, s2 _ _ e, Evl.sz_lt (by omega), ?_⟩
    have st : Still H2 (upd H2 Dl (.lst (ys ++ [y]))) := Still.upd (s2 _ _ e)
    refine ⟨fun b o h => ?_, ys ++ [y], upd_same, by rw [List.length_append, hl]; rfl, fun k z hk => ?_⟩
    · rw [upd_ne (ne_of_none h hD)]
      exact s2 _ _ (s _ _ h)
    · by_cases c : k < ys.length
      · rw [List.getElem?_append_left c] at hk
        exact hst k z _ _ st (hst k z _ _ (Still.of s2) (hr k z hk))
      · rw [List.getElem?_append_right (by omega)] at hk
        by_cases c2 : k - ys.length = 0
        · rw [c2] at hk
          have ez : y = z := Option.some.inj hk
          have ek : k = i := by omega
          subst ez ek
          exact hst _ _ _ _ st r
        · rw [List.getElem?_eq_none (by rw [List.length_singleton]; omega)] at hk
          cases hk
  · obtain ⟨s, ys, e, hl, hr⟩ := p
    exact q Dl ys H' hD s e hl hr
theorem g_lcT {a : Addr} {xs : List V} {j : Nat} {vs : List Nat} (Rel : Nat → V → Hp → Prop) (ha : ∀ R : VK, R (.ref a) H → tl σ H R) (hx : SqT K H a xs) (hn : xs.length ≤ 40000)
    (hw : ∀ x, wipe ((wipe σ vs).set j (some x)) vs = wipe σ vs) (hst : ∀ i y H1 H2, Still H1 H2 → Rel i y H1 → Rel i y H2)
    (he : ∀ (i : Nat) (x : V) (H1 : Hp) (QE : VK), xs[i]? = some x → Same H H1 → (∀ y H2, Same H1 H2 → Rel i y H2 → QE y H2) → te ((wipe σ vs).set j (some x)) H1 QE)
    (q : ∀ p ys H1, H p = none → Same H H1 → H1 p = some (.lst ys) → ys.length = xs.length → (∀ i y, ys[i]? = some y → Rel i y H1) → Q (.ref p) H1) :
    tLc (iTup K tl) (gName j) tYes te vs σ H Q := by
  refine ha _ ⟨a, rfl, ⟨xs, hx⟩, fun Dl hD => ?_⟩
  refine lc_tup (xs := xs) (fun i H' => Same H H' ∧ ∃ ys, H' Dl = some (.lst ys) ∧ ys.length = i ∧ ∀ k y, ys[k]? = some y → Rel k y H')
    ⟨Same.new hD _, [], upd_same, rfl, fun k y h => nomatch h⟩ (fun i H' _ p => Same.seqT p.1 hx) (fun i x H' hi p => ?_) (fun H' p => ?_)
  · obtain ⟨s, ys, e, hl, hr⟩ := p
    have hi2 := (List.getElem?_eq_some_iff.mp hi).1
    refine ⟨hw _, ?_⟩
    show te ((wipe σ vs).set j (some x)) H' _
    refine he i x H' _ hi s fun y H2 s2 r => ⟨ys, s2 _ _ e, Evl.sz_lt (by omega), ?_⟩
    have st : Still H2 (upd H2 Dl (.lst (ys ++ [y]))) := Still.upd (s2 _ _ e)
    refine ⟨fun b o h => ?_, ys ++ [y], upd_same, by rw [List.length_append, hl]; rfl, fun k z hk => ?_⟩
    · rw [upd_ne (ne_of_none h hD)]
      exact s2 _ _ (s _ _ h)
    · by_cases c : k < ys.length
      · rw [List.getElem?_append_left c] at hk
        exact hst k z _ _ st (hst k z _ _ (Still.of s2) (hr k z hk))
      · rw [List.getElem?_append_right (by omega)] at hk
        by_cases c2 : k - ys.length = 0
        · rw [c2] at hk
          have ez : y = z := Option.some.inj hk
          have ek : k = i := by omega
          subst ez ek
          exact hst _ _ _ _ st r
        · rw [List.getElem?_eq_none (by rw [List.length_singleton]; omega)] at hk
          cases hk
  · obtain ⟨s, ys, e, hl, hr⟩ := p
    exact q Dl ys H' hD s e hl hr
/-! loops: Pv of the turn, the slots and the heap -/
theorem g_forL {a : Addr} {xs : List V} {g : TG} (Pv : Nat → L2.St → Hp → Prop) (ha : ∀ R : VK, R (.ref a) H → tl σ H R) (hx : SqL K H a xs) (h0 : Pv 0 σ H) (hl : ∀ i σ' H', i ≤ xs.length → Pv i σ' H' → SqL K H' a xs)
    (hs : ∀ i x σ' H', xs[i]? = some x → Pv i σ' H' → g x σ' H' fun σ2 H2 => t { D with nx := Pv (i + 1), ct := Pv (i + 1), bk := D.nx } σ2 H2) (hd : ∀ σ' H', Pv xs.length σ' H' → D.nx σ' H') : tFor (iList K tl) g t D σ H :=
  ha _ ⟨a, rfl, ⟨xs, hx⟩, for_list Pv h0 hl hs hd⟩
theorem g_forT {a : Addr} {xs : List V} {g : TG} (Pv : Nat → L2.St → Hp → Prop) (ha : ∀ R : VK, R (.ref a) H → tl σ H R) (hx : SqT K H a xs) (h0 : Pv 0 σ H) (hl : ∀ i σ' H', i ≤ xs.length → Pv i σ' H' → SqT K H' a xs)
    (hs : ∀ i x σ' H', xs[i]? = some x → Pv i σ' H' → g x σ' H' fun σ2 H2 => t { D with nx := Pv (i + 1), ct := Pv (i + 1), bk := D.nx } σ2 H2) (hd : ∀ σ' H', Pv xs.length σ' H' → D.nx σ' H') : tFor (iTup K tl) g t D σ H :=
  ha _ ⟨a, rfl, ⟨xs, hx⟩, for_tup Pv h0 hl hs hd⟩
theorem g_forR1 {ta : TA} {j : Nat} {n : Int} (Pv : Nat → L2.St → Hp → Prop) (ha : ∀ R : List V → Hp → Prop, R [.int n] H → ta σ H R) (hn : -1000000 ≤ n ∧ n ≤ 1000000) (h0 : Pv 0 σ H)
    (hs : ∀ (i : Nat) σ' H', (i : Int) < n → Pv i σ' H' → t { D with nx := Pv (i + 1), ct := Pv (i + 1), bk := D.nx } (σ'.set j (some (.int (i : Int)))) H') (hd : ∀ σ' H', Pv n.toNat σ' H' → D.nx σ' H') : tFor (iRng1 ta) (gName j) t D σ H :=
  ha _ ⟨n, rfl, by omega, by omega, for_range (lo := 0) (n := n.toNat) Pv h0 (fun i σ' H' hi p => by
    have e0 : (0 : Int) + (i : Int) = (i : Int) := Int.zero_add _
    show t { D with nx := Pv (i + 1), ct := Pv (i + 1), bk := D.nx } (σ'.set j (some (.int ((0 : Int) + (i : Int))))) H'
    rw [e0]
    exact hs i σ' H' (by omega) p) hd⟩
end
/-! ### data of flat tuples: == and != -/
theorem canAll : ∀ {ds : List PyData}, (∀ d ∈ ds, PyData.canLay0 d = true) → PyData.canLayAll0 ds = true
  | [], _ => by simp [PyData.canLayAll0]
  | d :: ds, h => by
    simp only [PyData.canLayAll0, Bool.and_eq_true]
    exact ⟨h d List.mem_cons_self, canAll fun x hx => h x (List.mem_cons_of_mem _ hx)⟩
end My
namespace My
open PySem L2
theorem depthAll_le {n : Nat} : ∀ {ds : List PyData}, (∀ d ∈ ds, PyData.depth d ≤ n) → PyData.depthAll ds ≤ n
  | [], _ => by simp [PyData.depthAll]
  | d :: ds, h => by
    simp only [PyData.depthAll]
    have h1 := h d List.mem_cons_self
    have h2 := depthAll_le (ds := ds) fun x hx => h x (List.mem_cons_of_mem _ hx)
    omega
theorem shaped_list {ds : List PyData} {n : Nat} (h : ∀ d ∈ ds, PyData.canLay0 d = true ∧ PyData.depth d ≤ n) (hn : n < 64) : SeqAt.shaped (.list ds) = true := by
  unfold SeqAt.shaped
  rw [Bool.and_eq_true, decide_eq_true_eq]
  refine ⟨?_, ?_⟩
  · simp only [PyData.canLay0]
    exact canAll fun d hd => (h d hd).1
  · simp only [PyData.depth]
    have := depthAll_le (n := n) fun d hd => (h d hd).2
    omega
theorem dpAll_of {K : PySem.W.Frag} {H : Hp} : ∀ {vs : List V} {ds : List PyData}, vs.length = ds.length → (∀ (i : Nat) v d, vs[i]? = some v → ds[i]? = some d → Dp K H v d) → DpAll K H vs ds
  | [], [], _, _ => .nil
  | [], _ :: _, h, _ => nomatch h
  | _ :: _, [], h, _ => nomatch h
  | v :: vs, d :: ds, h, f => .cons (f 0 v d rfl rfl) (dpAll_of (by simpa using h) fun i x y hx hy => f (i + 1) x y (by simpa using hx) (by simpa using hy))
theorem dpAll_get {K : PySem.W.Frag} {H : Hp} : ∀ {vs : List V} {ds : List PyData}, DpAll K H vs ds → ∀ (i : Nat) (v : V), vs[i]? = some v → ∃ d, ds[i]? = some d ∧ Dp K H v d
  | _, _, .nil, i, v, h => nomatch h
  | _, _, .cons h1 h2, 0, v, h => ⟨_, rfl, by cases Option.some.inj h; exact h1⟩
  | _, _, .cons h1 h2, i + 1, v, h => dpAll_get h2 i v (by simpa using h)
theorem dpAll_len {K : PySem.W.Frag} {H : Hp} : ∀ {vs : List V} {ds : List PyData}, DpAll K H vs ds → vs.length = ds.length
  | _, _, .nil => rfl
  | _, _, .cons _ h => by simp [dpAll_len h]
theorem dpAll_take {K : PySem.W.Frag} {H : Hp} : ∀ {vs : List V} {ds : List PyData} (n : Nat), DpAll K H vs ds → DpAll K H (vs.take n) (ds.take n)
  | _, _, 0, _ => .nil
  | _, _, _ + 1, .nil => .nil
  | _, _, n + 1, .cons h r => .cons h (dpAll_take n r)
theorem dpAll_drop {K : PySem.W.Frag} {H : Hp} : ∀ {vs : List V} {ds : List PyData} (n : Nat), DpAll K H vs ds → DpAll K H (vs.drop n) (ds.drop n)
  | _, _, 0, h => h
  | _, _, _ + 1, .nil => .nil
  | _, _, n + 1, .cons _ r => dpAll_drop n r
theorem eqv_list {ds : List PyData} (h : SeqAt.shaped (.list ds) = true) : PyData.eqv (.list ds) (.list ds) = true := SeqAt.eqv_refl _ (SeqAt.canLay_of_shaped h)
/-- two lists of the same data: == is True, != is False -/
theorem g_eqL {K : PySem.W.Frag} {H : Hp} {Q : VK} {a b : Addr} {xs ys : List V} {ds : List PyData} {n : Nat} (ha : SqL K H a xs) (hb : SqL K H b ys) (h1 : DpAll K H xs ds) (h2 : DpAll K H ys ds) (hd : ∀ d ∈ ds, PyData.canLay0 d = true ∧ PyData.depth d ≤ n) (hn : n < 64)
    (q : Q (.bl true) H) : rEqD K (.ref a) (.ref b) H Q := by
  have sh := shaped_list hd hn
  refine ⟨_, _, .lst ha h1, .lst hb h2, sh, sh, ?_⟩
  rw [eqv_list sh]
  exact q
theorem g_neL {K : PySem.W.Frag} {H : Hp} {Q : VK} {a b : Addr} {xs ys : List V} {ds : List PyData} {n : Nat} (ha : SqL K H a xs) (hb : SqL K H b ys) (h1 : DpAll K H xs ds) (h2 : DpAll K H ys ds) (hd : ∀ d ∈ ds, PyData.canLay0 d = true ∧ PyData.depth d ≤ n) (hn : n < 64)
    (q : Q (.bl false) H) : rNeD K (.ref a) (.ref b) H Q := by
  have sh := shaped_list hd hn
  refine ⟨_, _, .lst ha h1, .lst hb h2, sh, sh, ?_⟩
  rw [eqv_list sh]
  exact q
end My
namespace My
open PySem L2
theorem kit_ll : PySem.W.kitOne K (.type "list") (.type "list") = some true := kit_ty (by decide +kernel)
theorem kit_tt : PySem.W.kitOne K (.type "tuple") (.type "tuple") = some true := kit_ty (by decide +kernel)
theorem g_isiL {K : PySem.W.Frag} {H : Hp} {Q : VK} {a : Addr} {xs : List V} (h : H a = some (.lst xs)) (q : Q (.bl true) H) : rIsi K [.ref a, .ty "list"] H Q := g_isi (.ty "list") (.base (.lst h)) kit_ll q
theorem tyx_t {K : PySem.W.Frag} {H : Hp} {a : Addr} {xs : List V} (h : SqT K H a xs) : TyX K H (.ref a) (.type "tuple") := by
  rcases h with (h | ⟨o, h⟩) | ⟨o, its, n, h, hc, _⟩
  · exact .base (.tup h)
  · exact .fTuple h
  · exact .kTuple h hc
theorem g_isiT {K : PySem.W.Frag} {H : Hp} {Q : VK} {a : Addr} {xs : List V} (h : SqT K H a xs) (q : Q (.bl true) H) : rIsi K [.ref a, .ty "tuple"] H Q := g_isi (.ty "tuple") (tyx_t h) kit_tt q
end My
namespace My
open PySem L2
theorem pair_at {α β : Type} {R : α → β → Prop} : ∀ {as : List α} {bs : List β}, Paired R as bs → ∀ {n : Nat} {a : α}, as[n]? = some a → ∃ b, bs[n]? = some b ∧ R a b
  | _, _, .nil, i, x, h => nomatch h
  | _, _, .cons r t, 0, x, h => ⟨_, rfl, by cases Option.some.inj h; exact r⟩
  | _, _, .cons r t, i + 1, x, h => pair_at t (by simpa using h)
end My
namespace My
open PySem L2
section
variable {K : PySem.W.Frag} {σ : L2.St} {H : Hp} {Q : VK} {D : Ends} {t u : TS} {te tl : TE}
theorem g_forRev {n : Int} {j : Nat} (Pv : Nat → L2.St → Hp → Prop) (ha : ∀ R : VK, R (.int n) H → te σ H R) (hn : 0 ≤ n ∧ n ≤ 1000000) (h0 : Pv 0 σ H)
    (hs : ∀ (i : Nat) σ' H', (i : Int) < n → Pv i σ' H' → t { D with nx := Pv (i + 1), ct := Pv (i + 1), bk := D.nx } (σ'.set j (some (.int (n - 1 - (i : Int))))) H') (hd : ∀ σ' H', Pv n.toNat σ' H' → D.nx σ' H') :
    tFor (iRevR (tRg1 te)) (gName j) t D σ H := by
  refine ha _ ⟨n, rfl, by omega, by omega, by omega, by omega, ?_⟩
  have e1 : (n - 0).toNat = n.toNat := by omega
  have e2 : 0 + ((n.toNat : Nat) : Int) - 1 = n - 1 := by omega
  rw [e1, e2]
  exact for_rangeC (lo := n - 1) (c := -1) (n := n.toNat) Pv h0 (fun i σ' H' hi p => by
    show t { D with nx := Pv (i + 1), ct := Pv (i + 1), bk := D.nx } (σ'.set j (some (.int (n - 1 + ((i : Nat) : Int) * (-1))))) H'
    have e3 : n - 1 + ((i : Nat) : Int) * (-1) = n - 1 - (i : Int) := by omega
    rw [e3]
    exact hs i σ' H' (by omega) p) hd
theorem g_tyL {P : Prop} {l : Addr} {xs : List V} (h : H l = some (.lst xs)) (q : P) : tyV K "list" (.ref l) H ∧ P := ⟨.inl ⟨rfl, _, SqL.of h⟩, q⟩
theorem g_append {l : Addr} {xs : List V} {v : V} (h : H l = some (.lst xs)) (hl : xs.length ≤ 100000) (q : Q .non (upd H l (.lst (xs ++ [v])))) : rAppend (.ref l) [v] H Q := ⟨l, xs, v, rfl, rfl, h, Nat.lt_of_le_of_lt hl (by decide), q⟩
/-- a comprehension over a list with a test: pure test, pure value -/
theorem g_lcF {tt : TT} {a : Addr} {xs : List V} {j : Nat} {vs : List Nat} (p : V → Bool) (f : V → V) (ha : ∀ R : VK, R (.ref a) H → tl σ H R) (hx : SqL K H a xs) (hn : xs.length ≤ 40000)
    (hw : ∀ x, wipe ((wipe σ vs).set j (some x)) vs = wipe σ vs)
    (ht : ∀ (i : Nat) (x : V) (H1 : Hp) (QB : Bool → Hp → Prop), xs[i]? = some x → Same H H1 → QB (p x) H1 → tt ((wipe σ vs).set j (some x)) H1 QB)
    (he : ∀ (i : Nat) (x : V) (H1 : Hp) (QE : VK), xs[i]? = some x → p x = true → Same H H1 → QE (f x) H1 → te ((wipe σ vs).set j (some x)) H1 QE)
    (q : ∀ pp H1, H pp = none → Same H H1 → H1 pp = some (.lst ((xs.filter p).map f)) → Q (.ref pp) H1) :
    tLc (iList K tl) (gName j) tt te vs σ H Q := by
  refine ha _ ⟨a, rfl, ⟨xs, hx⟩, fun Dl hD => ?_⟩
  refine lc_list (xs := xs) (fun i H' => Same H H' ∧ H' Dl = some (.lst (((xs.take i).filter p).map f)))
    ⟨Same.new hD _, upd_same⟩ (fun i H' _ p => p.1.seq hx) (fun i x H' hi pr => ?_) (fun H' pr => ?_)
  · obtain ⟨s, e⟩ := pr
    have hi2 := (List.getElem?_eq_some_iff.mp hi).1
    have et : xs.take (i + 1) = xs.take i ++ [x] := by rw [List.take_add_one, hi]; rfl
    have hz : (((xs.take i).filter p).map f).length < sizeLine := by
      rw [List.length_map]
      have h1 := List.length_filter_le p (xs.take i)
      rw [List.length_take] at h1
      exact Evl.sz_lt (by omega)
    refine ⟨hw _, ht i x H' _ hi s ?_⟩
    cases hp : p x with
    | true =>
      show te ((wipe σ vs).set j (some x)) H' _
      refine he i x H' _ hi hp s ⟨_, e, hz, fun b o h => ?_, ?_⟩
      · rw [upd_ne (ne_of_none h hD)]
        exact s _ _ h
      · rw [upd_same, et, List.filter_append, List.map_append, List.filter_cons, if_pos hp]
        rfl
    | false =>
      show Same H H' ∧ H' Dl = some (.lst (((xs.take (i + 1)).filter p).map f))
      refine ⟨s, ?_⟩
      rw [et, List.filter_append, List.map_append, List.filter_cons, if_neg (by rw [hp]; decide), e]
      simp
  · obtain ⟨s, e⟩ := pr
    rw [List.take_length] at e
    exact q Dl H' hD s e
end
theorem mulBits {a b : Int} (ha : Builtin.Int.intBits a ≤ 10000000) (hb : Builtin.Int.intBits b ≤ 10000000) : IntMulOk a b := by
  unfold IntMulOk Builtin.Int.intTooBig
  intro z
  rw [Bool.and_eq_true, decide_eq_true_eq] at z
  have z2 := z.2
  have e : bitsLine = 134217728 := by decide
  rw [e] at z2
  omega
/-! ### what all laws have: the script's cells, whole numbers, the answer -/
def cell (ns : List Int) (k : Int) : Int := ns.getD k.toNat 0
def sp_cell (K : PySem.W.Frag) : Sp := fun vs H Q _ => ∃ (a : Addr) (ns : List Int) (k : Int), vs = [.ref a, .int k] ∧ SqL K H a (ns.map V.int) ∧ 0 ≤ k ∧ Q (.int (cell ns k)) H
theorem use_cell {K : PySem.W.Frag} {H : Hp} {Q : VK} {E : XK} {a : Addr} {ns : List Int} {k : Int} (h : SqL K H a (ns.map V.int)) (h0 : 0 ≤ k) (q : Q (.int (cell ns k)) H) : sp_cell K [.ref a, .int k] H Q E := ⟨a, ns, k, rfl, h, h0, q⟩
def spLaw (K : PySem.W.Frag) : Sp := fun vs H Q _ => ∃ (a : Addr) (ns : List Int), vs = [.ref a] ∧ SqL K H a (ns.map V.int) ∧ ns.length ≤ 63 ∧ (∀ z ∈ ns, Builtin.Int.intBits z ≤ 1048576) ∧ ∀ H', Q (.bl true) H'
theorem atI_cell {ns : List Int} {k : Int} (h0 : 0 ≤ k) (h : k < (ns.length : Int)) : atI (ns.map V.int) k = some (.int (cell ns k)) := by
  have hk : k.toNat < ns.length := by omega
  have ek : k = ((k.toNat : Nat) : Int) := by omega
  rw [ek]
  refine atI_nat ?_
  rw [List.getElem?_map, List.getElem?_eq_getElem hk]
  show some (V.int ns[k.toNat]) = some (V.int (cell ns _))
  unfold cell
  rw [Int.toNat_natCast, List.getD_eq_getElem?_getD, List.getElem?_eq_getElem hk]
  rfl
theorem cell_out {ns : List Int} {k : Int} (h : ¬ k < (ns.length : Int)) : cell ns k = 0 := by
  unfold cell
  rw [List.getD_eq_getElem?_getD, List.getElem?_eq_none (by omega)]
  rfl
theorem cell_bits {ns : List Int} (h : ∀ z ∈ ns, Builtin.Int.intBits z ≤ 1048576) (k : Int) : Builtin.Int.intBits (cell ns k) ≤ 1048576 := by
  unfold cell
  rw [List.getD_eq_getElem?_getD]
  cases e : ns[k.toNat]? with
  | none => exact Nat.zero_le _
  | some z => exact h z (List.mem_of_getElem? e)
end My
namespace My
open PySem L2
section
variable {X : Cx} {K : PySem.W.Frag}
theorem ixTK (h : X.K = K) : IxR X (rIxT K) := h ▸ ix_tup
theorem ixLK (h : X.K = K) : IxR X (rIxL K) := h ▸ ix_list
theorem ixOK (h : X.K = K) : IxR X (rIx K) := h ▸ ix_seq
theorem lenK (h : X.K = K) : CallR X (.builtin "len") (rLen K) := h ▸ my_len
theorem listK (h : X.K = K) : CallR X (.type "list") (rList K) := h ▸ my_list
theorem tupleK (h : X.K = K) : CallR X (.type "tuple") (rTuple K) := h ▸ my_tuple
theorem typK (h : X.K = K) : CallR X (.type "type") (rTyp K) := h ▸ call_type1
theorem isiK (h : X.K = K) : CallR X (.builtin "isinstance") (rIsi K) := h ▸ call_isi
theorem inK (h : X.K = K) : OpR X (compareOp .In) (rIn K false) := h ▸ op_in_seq
theorem ninK (h : X.K = K) : OpR X (compareOp .NotIn) (rIn K true) := h ▸ op_notIn_seq
theorem slLK (h : X.K = K) : SlR X (rSlL K) := h ▸ sl_list
theorem slTK (h : X.K = K) : SlR X (rSlT K) := h ▸ sl_tup
end
end My

set_option Elab.async false
set_option linter.all false
set_option maxRecDepth 100000
set_option maxHeartbeats 1000000
/-! texts, and what keys and values are -/
namespace My
open PySem L2
section
variable {X : Cx} {K : PySem.W.Frag} {σ : L2.St} {H : Hp} {Q : VK} {D : Ends} {t u : TS} {te tl : TE}
/-- a comprehension over a text: a pure value for each sign -/
theorem g_lcS {z : Str} {j : Nat} {vs : List Nat} (f : Nat → V) (ha : ∀ R : VK, R (.str z) H → tl σ H R) (hn : z.cps.size ≤ 40000)
    (hw : ∀ x, wipe ((wipe σ vs).set j (some x)) vs = wipe σ vs)
    (he : ∀ (c : Nat) (H1 : Hp) (QE : VK), c ∈ z.cps.toList → Same H H1 → QE (f c) H1 → te ((wipe σ vs).set j (some (.str ⟨#[c]⟩))) H1 QE)
    (q : ∀ p H1, H p = none → Same H H1 → H1 p = some (.lst (z.cps.toList.map f)) → Q (.ref p) H1) :
    tLc (iStr tl) (gName j) tYes te vs σ H Q := by
  refine ha _ ⟨z, rfl, fun Dl hD => ?_⟩
  refine lc_it walk_str (fun i H' => Same H H' ∧ H' Dl = some (.lst ((z.cps.toList.take i).map f)))
    ⟨Same.new hD _, upd_same⟩ (fun _ _ _ _ => trivial) (fun i x H1 H' hi pr y => ?_) (fun H' pr => ?_)
  · obtain ⟨s, e⟩ := pr
    obtain ⟨rfl, c, hc, rfl⟩ := y
    have hc2 : z.cps.toList[i]? = some c := by rw [Array.getElem?_toList]; exact hc
    refine ⟨hw _, ?_⟩
    show te ((wipe σ vs).set j (some (.str ⟨#[c]⟩))) H' _
    refine he c H' _ (List.mem_of_getElem? hc2) s ⟨_, e, by rw [List.length_map, List.length_take]; exact Evl.sz_lt (by omega), fun b o h => ?_, ?_⟩
    · rw [upd_ne (ne_of_none h hD)]
      exact s _ _ h
    · rw [upd_same, List.take_add_one, hc2, List.map_append]
      rfl
  · obtain ⟨s, e⟩ := pr
    rw [show z.cps.size = z.cps.toList.length from Array.length_toList.symm, List.take_length] at e
    exact q Dl H' hD s e
theorem pe_gI {x : Str} {i : Int} {t : Tok} {pos : Pos} (hg : Gl X x) (hm : X.mg x = some (.int i t)) (hd : (x == ("__debug__" : Str)) = false := by decide) : PE X (.Name x pos) (tC (.int i)) := pe_glob hg hm ⟨t, rfl⟩ hd
theorem g_dnewK (q : ∀ p H1, H p = none → Same H H1 → H1 p = some (.dK []) → Q (.ref p) H1) : tDNewK σ H Q := fun p hp => q p _ hp (Same.new hp _) upd_same
def rLeS : R2 := fun x y H Q => ∃ i j, x = .str i ∧ y = .str j ∧ Q (.bl (!decide (j.cps.toList < i.cps.toList))) H
theorem my_leS : OpR X (compareOp .LtE) rLeS := op_le_str
theorem g_leS {i j : Str} (q : Q (.bl (!decide (j.cps.toList < i.cps.toList))) H) : rLeS (.str i) (.str j) H Q := ⟨i, j, rfl, rfl, q⟩
theorem g_slS {z : Str} {lo hi : Option Int} (h : z.length ≤ sizeLine) (q : Q (.str (cutS z lo hi)) H) : rSlS (.str z) lo hi H Q := ⟨z, rfl, h, q⟩
theorem g_ixS {z : Str} {i : Int} {c : Nat} (h : z.length ≤ sizeLine) (ha : atI z.cps.toList i = some c) (q : Q (.str ⟨#[c]⟩) H) : rIxS (.str z) (.int i) H Q := ⟨z, i, c, rfl, rfl, h, ha, q⟩
def rJoin (K : PySem.W.Frag) : V → List V → Hp → VK → Prop := fun x xs H Q => ∃ a p, ∃ ys : List Str, x = .str a ∧ xs = [.ref p] ∧ (SqL K H p (ys.map V.str) ∨ SqT K H p (ys.map V.str)) ∧
      (ys.map (·.length)).sum + ys.length * a.length ≤ 16777216 ∧ Q (.str (Txt.join a ys)) H
theorem my_join {o e : Expr} {to te : TE} {apos pos : Pos} (ho : PE X o to) (he : PE X e te) (hs : starEach [e] X.env = [(false, eval e X.env)] := by rfl) (hbase : attributeBase o "join" X.env (eval o X.env) = eval o X.env := by rfl) (hline : (apos.endLine == pos.line) = true := by rfl) :
    PE X (.Call (.Attribute o "join" apos) [e] [] pos) (tM1 (rJoin X.K) to te) := pe_join ho he hs hbase hline
theorem g_m1 {r : V → List V → Hp → VK → Prop} {to te : TE} {z : Str} (q : ∀ R : VK, R (.str z) H → to σ H R) (k : te σ H fun y H2 => r (.str z) [y] H2 Q) : tM1 r to te σ H Q := q _ ⟨⟨z, rfl⟩, k⟩
theorem g_join {a : Str} {p : Addr} {ys : List Str} (h : SqL K H p (ys.map V.str)) (hz : (ys.map (·.length)).sum + ys.length * a.length ≤ 16777216) (q : Q (.str (Txt.join a ys)) H) : rJoin K (.str a) [.ref p] H Q := ⟨a, p, ys, rfl, rfl, .inl h, hz, q⟩
end
/-! signs -/
theorem str_ext {a b : Str} (h : a.cps.toList = b.cps.toList) : a = b := by
  obtain ⟨⟨x⟩⟩ := a
  obtain ⟨⟨y⟩⟩ := b
  have : x = y := h
  rw [this]
theorem str_len (z : Str) : z.length = z.cps.toList.length := Array.length_toList.symm
theorem app_toList (a b : Str) : (a ++ b).cps.toList = a.cps.toList ++ b.cps.toList := Array.toList_append
theorem app_len (a b : Str) : (a ++ b).length = a.length + b.length := by rw [str_len, str_len, str_len, app_toList, List.length_append]
theorem join_signs : ∀ cs : List Nat, (Txt.join (Str.ofString "") (cs.map fun c => (⟨#[c]⟩ : Str))).cps.toList = cs := fun cs => by
  have e0 : (Str.ofString "") = (⟨#[]⟩ : Str) := by decide +kernel
  rw [e0, show Txt.join = Str.join from by funext y parts; exact TL.join_eq y parts]
  induction cs with
  | nil => rfl
  | cons c r ih =>
    cases r with
    | nil => rfl
    | cons d r =>
      show ((⟨#[c]⟩ : Str) ++ ⟨#[]⟩ ++ Str.join ⟨#[]⟩ ((d :: r).map fun c => (⟨#[c]⟩ : Str))).cps.toList = _
      rw [app_toList, app_toList, ih]
      rfl
theorem sum_ones (cs : List Nat) : ((cs.map fun c => (⟨#[c]⟩ : Str)).map (·.length)).sum = cs.length := by
  induction cs with
  | nil => rfl
  | cons c r ih =>
    rw [List.map_cons, List.map_cons, List.sum_cons, ih, List.length_cons]
    exact Nat.add_comm 1 r.length
theorem cutS_to (z : Str) (n : Nat) : (cutS z none (some (n : Int))).cps.toList = z.cps.toList.take n := by
  unfold cutS
  show (z.cps.toList.drop _).take _ = _
  rw [HT.sIx_none, HT.sIx_nat, List.drop_zero, Nat.sub_zero, str_len]
  by_cases h : n ≤ z.cps.toList.length
  · rw [Nat.min_eq_left h]
  · rw [Nat.min_eq_right (by omega), List.take_length, List.take_of_length_le (by omega)]
theorem cutS_from (z : Str) (n : Nat) : (cutS z (some (n : Int)) none).cps.toList = z.cps.toList.drop n := by
  unfold cutS
  show (z.cps.toList.drop _).take _ = _
  rw [HT.sIx_none, HT.sIx_nat, str_len]
  by_cases h : n ≤ z.cps.toList.length
  · rw [Nat.min_eq_left h, List.take_of_length_le (by rw [List.length_drop]; omega)]
  · rw [Nat.min_eq_right (by omega), Nat.sub_self, List.take_zero, List.drop_eq_nil_of_le (by omega)]
/-! ### keys and values -/
def KB : Int := 1000000000000000000000000000000000000000000000000000000000000
theorem KB_eq : KB = 10 ^ Int.toNat 60 := by decide +kernel
def isInt : V → Bool
  | .int _ => true
  | _ => false
def isStr : V → Bool
  | .str _ => true
  | _ => false
def isKeyV : V → Bool
  | .int i => decide (-KB < i) && decide (i < KB)
  | _ => false
def signOk (c : Nat) : Bool := decide (32 ≤ c) && decide (c ≤ 126)
def isValV : V → Bool
  | .str z => decide (z.length ≤ 60) && z.cps.toList.all signOk
  | _ => false
/-- a thing whose kind is known -/
def Thing (K : PySem.W.Frag) (H : Hp) (x : V) : Prop := ∃ T, TyB K H x T ∧ (∀ z, x = .str z → z.length ≤ sizeLine)
theorem Thing.int {K : PySem.W.Frag} {H : Hp} (i : Int) : Thing K H (.int i) := ⟨_, .int i, fun _ h => nomatch h⟩
theorem Thing.str {K : PySem.W.Frag} {H : Hp} (z : Str) (h : z.length ≤ sizeLine) : Thing K H (.str z) := ⟨_, .str z, fun y e => by cases e; exact h⟩
theorem tyb_int {K : PySem.W.Frag} {H : Hp} {x : V} {T : String} (t : TyB K H x T) : decide (T = "int") = isInt x := by cases t <;> rfl
theorem tyb_str {K : PySem.W.Frag} {H : Hp} {x : V} {T : String} (t : TyB K H x T) : decide (T = "str") = isStr x := by cases t <;> rfl
theorem isKeyV_no {x : V} (h : isInt x = false) : isKeyV x = false := by
  cases x <;> first | rfl | cases h
theorem isValV_no {x : V} (h : isStr x = false) : isValV x = false := by
  cases x <;> first | rfl | cases h
theorem sign_lo (c : Nat) : (!decide ((⟨#[c]⟩ : Str).cps.toList < (Str.ofString " ").cps.toList)) = decide (32 ≤ c) := by
  have e : (Str.ofString " ").cps.toList = [32] := by decide +kernel
  rw [e]
  show (!decide (([c] : List Nat) < [32])) = decide (32 ≤ c)
  by_cases h : 32 ≤ c
  · rw [decide_eq_true h, Bool.not_eq_true', decide_eq_false_iff_not, List.cons_lt_cons_iff]
    simp
    omega
  · rw [decide_eq_false h, Bool.not_eq_false', decide_eq_true_iff, List.cons_lt_cons_iff]
    exact .inl (by omega)
theorem sign_hi (c : Nat) : (!decide ((Str.ofString "~").cps.toList < (⟨#[c]⟩ : Str).cps.toList)) = decide (c ≤ 126) := by
  have e : (Str.ofString "~").cps.toList = [126] := by decide +kernel
  rw [e]
  show (!decide (([126] : List Nat) < [c])) = decide (c ≤ 126)
  by_cases h : c ≤ 126
  · rw [decide_eq_true h, Bool.not_eq_true', decide_eq_false_iff_not, List.cons_lt_cons_iff]
    simp
    omega
  · rw [decide_eq_false h, Bool.not_eq_false', decide_eq_true_iff, List.cons_lt_cons_iff]
    exact .inl (by omega)
def Thing0 (K : PySem.W.Frag) (H : Hp) (x : V) : Prop := ∃ T, TyB K H x T
theorem Thing.zero {K : PySem.W.Frag} {H : Hp} {x : V} (h : Thing K H x) : Thing0 K H x := ⟨_, h.choose_spec.1⟩
def sp_is_whole (K : PySem.W.Frag) : Sp := fun vs H Q _ => ∃ x : V, vs = [x] ∧ Thing0 K H x ∧ Q (.bl (isInt x)) H
def sp_is_key (K : PySem.W.Frag) : Sp := fun vs H Q _ => ∃ x : V, vs = [x] ∧ Thing0 K H x ∧ Q (.bl (isKeyV x)) H
def sp_is_value (K : PySem.W.Frag) : Sp := fun vs H Q _ => ∃ x : V, vs = [x] ∧ Thing K H x ∧ ∀ H', Same H H' → Q (.bl (isValV x)) H'
def sp_l_says : Sp := fun vs H Q _ => ∃ f d : Bool, vs = [.bl f, .bl d] ∧ Q (.bl (decide (f = d))) H
end My
namespace My
open PySem L2
theorem list_eq {α : Type} {xs ys : List α} (hl : xs.length = ys.length) (h : ∀ (i : Nat) x, xs[i]? = some x → ys[i]? = some x) : xs = ys := by
  refine List.ext_getElem? fun i => ?_
  cases e : xs[i]? with
  | some x => exact (h i x e).symm
  | none =>
    have := List.getElem?_eq_none_iff.mp e
    exact (List.getElem?_eq_none (by omega)).symm
theorem strL {cs : List Nat} : (cs.map fun c => V.str ⟨#[c]⟩) = (cs.map fun c => (⟨#[c]⟩ : Str)).map V.str := by rw [List.map_map]; rfl
end My
namespace My
open PySem L2
section
variable {σ : L2.St} {H : Hp} {Q : VK} {tb : TE}
theorem g_andVJ {k b : Bool} (h : k = true → ∀ R : VK, R (.bl b) H → tb σ H R) (q : Q (.bl (k && b)) H) : andV tb σ Q (.bl k) H := ⟨k, rfl, by
  cases k
  · exact q
  · exact h rfl _ q⟩
theorem g_orVJ {k b : Bool} (h : k = false → ∀ R : VK, R (.bl b) H → tb σ H R) (q : Q (.bl (k || b)) H) : orV tb σ Q (.bl k) H := ⟨k, rfl, by
  cases k
  · exact h rfl _ q
  · exact q⟩
end
theorem notval_of_mem {z : Str} {c : Nat} (h : c ∈ z.cps.toList) (hc : signOk c = false) : isValV (.str z) = false := by
  have e : isValV (.str z) = (decide (z.length ≤ 60) && z.cps.toList.all signOk) := rfl
  rw [e, Bool.and_eq_false_iff]
  refine .inr ?_
  rw [List.all_eq_false]
  exact ⟨c, h, by rw [hc]; decide⟩
end My
namespace My
open PySem L2
theorem tyof_same {K : PySem.W.Frag} {H H' : Hp} (e : Same H H') {x : V} {t : Value} (h : TyOf K H x t) : TyOf K H' x t := by
  cases h with
  | non => exact .non
  | bl b => exact .bl b
  | int i => exact .int i
  | str x => exact .str x
  | flt x => exact .flt x
  | lst ea => exact .lst (e _ _ ea)
  | frz ea => exact .frz (e _ _ ea)
  | tup ea => exact .tup (e _ _ ea)
  | dK ea => exact .dK (e _ _ ea)
  | dT ea => exact .dT (e _ _ ea)
  | ins ea cl ha hn htk hm => exact .ins (e _ _ ea) cl ha hn htk hm
end My

set_option Elab.async false
set_option linter.all false
set_option maxRecDepth 100000
set_option maxHeartbeats 1000000
/-! what a block is, told of data -/
namespace My
open PySem L2
def isKeyD : PyData → Bool
  | .int i => decide (-KB < i) && decide (i < KB)
  | _ => false
def isValD : PyData → Bool
  | .str z => decide (z.length ≤ 60) && z.cps.toList.all signOk
  | _ => false
def isNumD : PyData → Bool
  | .int i => decide (1 ≤ i)
  | _ => false
def isTwoD : PyData → Bool
  | .tuple ds => decide (ds.length = 2)
  | _ => false
def tyD : PyData → String
  | .none => "NoneType"
  | .bool _ => "bool"
  | .int _ => "int"
  | .str _ => "str"
  | .list _ => "list"
  | .tuple _ => "tuple"
  | .dict _ => "dict"
def leafW : Str := Str.ofString "leaf"
def branchW : Str := Str.ofString "branch"
def heldD (w : Str) (h : PyData) : Bool := if w = leafW then isValD h else isNumD h
def isPairD (w : Str) : PyData → Bool
  | .tuple [k, h] => isKeyD k && heldD w h
  | _ => false
def keyD : PyData → Int
  | .tuple (.int k :: _) => k
  | _ => 0
def risesI (ks : List Int) : Bool := (List.range (ks.length - 1)).all fun i => decide (ks.getD i 0 < ks.getD (i + 1) 0)
def isBlockD (least most : Int) : PyData → Bool
  | .tuple [.str w, .tuple ps] => (decide (w = leafW) || decide (w = branchW)) && (decide (least ≤ (ps.length : Int)) && decide ((ps.length : Int) ≤ most)) && (ps.all (isPairD w) && risesI (ps.map keyD))
  | _ => false
/-- texts that are held are no longer than the line -/
def FitP (d : PyData) : Prop := ∀ k z, d = .tuple [k, .str z] → z.length ≤ sizeLine
def FitB (d : PyData) : Prop := ∀ w ps, d = .tuple [w, .tuple ps] → ps.length ≤ 30000 ∧ ∀ p ∈ ps, FitP p
theorem rises_iff (ks : List Int) : risesI ks = true ↔ ks.Pairwise (· < ·) := by
  unfold risesI
  rw [List.all_eq_true]
  constructor
  · intro h
    induction ks with
    | nil => exact .nil
    | cons x r ih =>
      have hr : r.Pairwise (· < ·) := ih fun i hi => by
        rw [List.mem_range] at hi
        have := h (i + 1) (by rw [List.mem_range, List.length_cons]; omega)
        simpa using this
      refine List.pairwise_cons.mpr ⟨fun y hy => ?_, hr⟩
      cases r with
      | nil => cases hy
      | cons z t =>
        have hz : x < z := by
          have := h 0 (by rw [List.mem_range, List.length_cons, List.length_cons]; omega)
          simpa using this
        rcases List.mem_cons.mp hy with e | e
        · rw [e]; exact hz
        · exact Int.lt_trans hz ((List.pairwise_cons.mp hr).1 y e)
  · intro h i hi
    rw [List.mem_range] at hi
    have h1 : i < ks.length := by omega
    have h2 : i + 1 < ks.length := by omega
    rw [List.getD_eq_getElem?_getD, List.getD_eq_getElem?_getD, List.getElem?_eq_getElem h1, List.getElem?_eq_getElem h2]
    exact decide_eq_true (List.pairwise_iff_getElem.mp h i (i + 1) h1 h2 (by omega))
theorem rises_not {as bs : List Int} {x y : Int} (h : ¬ x < y) : risesI (as ++ x :: y :: bs) = false := by
  rw [Bool.eq_false_iff]
  intro e
  have := (List.pairwise_append.mp ((rises_iff _).mp e)).2.1
  exact h ((List.pairwise_cons.mp this).1 y List.mem_cons_self)
/-! data and values -/
theorem dp_tyb {K : PySem.W.Frag} {H : Hp} {x : V} {d : PyData} (h : Dp K H x d) : TyB K H x (tyD d) := by
  cases h with
  | non => exact .non
  | bl b => exact .bl b
  | int i => exact .int i
  | str z => exact .str z
  | lst h _ => exact .lst h
  | tup h _ => exact .tup h
theorem dp_key {K : PySem.W.Frag} {H : Hp} {x : V} {d : PyData} (h : Dp K H x d) : isKeyV x = isKeyD d := by cases h <;> rfl
theorem dp_val {K : PySem.W.Frag} {H : Hp} {x : V} {d : PyData} (h : Dp K H x d) : isValV x = isValD d := by cases h <;> rfl
theorem dp_int {K : PySem.W.Frag} {H : Hp} {x : V} {d : PyData} (h : Dp K H x d) : isInt x = decide (tyD d = "int") := by cases h <;> rfl
theorem dp_tuple {K : PySem.W.Frag} {H : Hp} {x : V} {ds : List PyData} (h : Dp K H x (.tuple ds)) : ∃ a xs, x = .ref a ∧ SqT K H a xs ∧ DpAll K H xs ds := by
  cases h with
  | tup h r => exact ⟨_, _, rfl, h, r⟩
theorem dpAll_two {K : PySem.W.Frag} {H : Hp} {xs : List V} {k h : PyData} (r : DpAll K H xs [k, h]) : ∃ x y, xs = [x, y] ∧ Dp K H x k ∧ Dp K H y h := by
  cases r with
  | cons h1 r =>
    cases r with
    | cons h2 r =>
      cases r
      exact ⟨_, _, rfl, h1, h2⟩
theorem dp_str {K : PySem.W.Frag} {H : Hp} {x : V} {z : Str} (h : Dp K H x (.str z)) : x = .str z := by cases h; rfl
theorem dp_i {K : PySem.W.Frag} {H : Hp} {x : V} {i : Int} (h : Dp K H x (.int i)) : x = .int i := by cases h; rfl
theorem tyD_tuple {d : PyData} (h : tyD d = "tuple") : ∃ ds, d = .tuple ds := by
  cases d <;> first | exact ⟨_, rfl⟩ | (simp [tyD] at h)
theorem tyD_str {d : PyData} (h : tyD d = "str") : ∃ z, d = .str z := by
  cases d <;> first | exact ⟨_, rfl⟩ | (simp [tyD] at h)
theorem tyD_int {d : PyData} (h : tyD d = "int") : ∃ z, d = .int z := by
  cases d <;> first | exact ⟨_, rfl⟩ | (simp [tyD] at h)
theorem isTwoD_two {d : PyData} (h : isTwoD d = true) : ∃ k x, d = .tuple [k, x] := by
  match d, h with
  | .tuple [k, x], _ => exact ⟨k, x, rfl⟩
theorem isPairD_not2 {w : Str} {d : PyData} (h : isTwoD d = false) : isPairD w d = false := by
  match d, h with
  | .tuple [], _ => rfl
  | .tuple [_], _ => rfl
  | .tuple (_ :: _ :: _ :: _), _ => rfl
  | .none, _ => rfl
  | .bool _, _ => rfl
  | .int _, _ => rfl
  | .str _, _ => rfl
  | .list _, _ => rfl
  | .dict _, _ => rfl
theorem isPairD_key {w : Str} {d : PyData} (h : isPairD w d = true) : ∃ k x, d = .tuple [.int k, x] := by
  cases e : isTwoD d with
  | false =>
    rw [isPairD_not2 e] at h
    cases h
  | true =>
    obtain ⟨k, x, rfl⟩ := isTwoD_two e
    cases k <;> first | exact ⟨_, _, rfl⟩ | (simp [isPairD, isKeyD] at h)
theorem isBlockD_one {l m : Int} (x : PyData) : isBlockD l m (.tuple [x]) = false := by
  cases x <;> rfl
theorem isBlockD_three {l m : Int} (x y z : PyData) (r : List PyData) : isBlockD l m (.tuple (x :: y :: z :: r)) = false := by
  cases x <;> first | rfl | (cases y <;> rfl)
theorem isBlockD_not2 {l m : Int} {d : PyData} (h : isTwoD d = false) : isBlockD l m d = false := by
  match d, h with
  | .tuple [], _ => rfl
  | .tuple [x], _ => exact isBlockD_one x
  | .tuple (x :: y :: z :: r), _ => exact isBlockD_three x y z r
  | .none, _ => rfl
  | .bool _, _ => rfl
  | .int _, _ => rfl
  | .str _, _ => rfl
  | .list _, _ => rfl
  | .dict _, _ => rfl
theorem isBlockD_word {l m : Int} {w p : PyData} (h : tyD w ≠ "str") : isBlockD l m (.tuple [w, p]) = false := by
  cases w <;> first | rfl | exact absurd rfl h
theorem isBlockD_pairs {l m : Int} {w : Str} {p : PyData} (h : tyD p ≠ "tuple") : isBlockD l m (.tuple [.str w, p]) = false := by
  cases p <;> first | rfl | exact absurd rfl h
/-! promises -/
def sp_is_number (K : PySem.W.Frag) : Sp := fun vs H Q _ => ∃ (x : V) (d : PyData), vs = [x] ∧ Dp K H x d ∧ Q (.bl (isNumD d)) H
def sp_is_two (K : PySem.W.Frag) : Sp := fun vs H Q _ => ∃ (x : V) (d : PyData), vs = [x] ∧ Dp K H x d ∧ Q (.bl (isTwoD d)) H
def sp_is_pair (K : PySem.W.Frag) : Sp := fun vs H Q _ => ∃ (x : V) (d : PyData) (w : Str), vs = [x, .str w] ∧ Dp K H x d ∧ FitP d ∧ ∀ H', Same H H' → Q (.bl (isPairD w d)) H'
def sp_rises (K : PySem.W.Frag) : Sp := fun vs H Q _ => ∃ (a : Addr) (xs : List V) (ds : List PyData), vs = [.ref a] ∧ SqT K H a xs ∧ DpAll K H xs ds ∧ ds.length ≤ 30000 ∧ (∀ d ∈ ds, ∃ k x, d = .tuple [.int k, x]) ∧
  ∀ H', Same H H' → Q (.bl (risesI (ds.map keyD))) H'
def sp_is_block (K : PySem.W.Frag) : Sp := fun vs H Q _ => ∃ (x : V) (d : PyData) (l m : Int), vs = [x, .int l, .int m] ∧ Dp K H x d ∧ FitB d ∧ ∀ H', Same H H' → Q (.bl (isBlockD l m d)) H'
/-- items that are bools by a function of the data -/
theorem bools_of {ys : List V} {ds : List PyData} {f : PyData → Bool} (hl : ys.length = ds.length) (h : ∀ (i : Nat) y, ys[i]? = some y → ∃ d, ds[i]? = some d ∧ y = .bl (f d)) : ys = (ds.map f).map V.bl := by
  refine list_eq (by rw [hl, List.length_map, List.length_map]) fun i y hy => ?_
  obtain ⟨d, hd, rfl⟩ := h i y hy
  rw [List.getElem?_map, List.getElem?_map, hd]
  rfl
end My

set_option Elab.async false
set_option linter.all false
set_option maxRecDepth 100000
set_option maxHeartbeats 1000000
/-! expressions that give data, whatever heap comes behind -/
namespace My
open PySem L2
def EvD (K : PySem.W.Frag) (te : TE) (σ : L2.St) (H : Hp) (d : PyData) : Prop := ∀ H1, Same H H1 → ∀ Q : VK, (∀ x H2, Same H1 H2 → Dp K H2 x d → Q x H2) → te σ H1 Q
def EvDs (K : PySem.W.Frag) (tr : TA) (σ : L2.St) (H : Hp) (ds : List PyData) : Prop := ∀ H1, Same H H1 → ∀ Q : List V → Hp → Prop, (∀ xs H2, Same H1 H2 → DpAll K H2 xs ds → Q xs H2) → tr σ H1 Q
/-- a new list -/
def EvN (K : PySem.W.Frag) (te : TE) (σ : L2.St) (H : Hp) (ds : List PyData) : Prop := ∀ H1, Same H H1 → ∀ Q : VK, (∀ p xs H2, H1 p = none → Same H1 H2 → H2 p = some (.lst xs) → DpAll K H2 xs ds → Q (.ref p) H2) → te σ H1 Q
def EvO (K : PySem.W.Frag) (to : TO) (σ : L2.St) (H : Hp) (o : Option Int) : Prop := ∀ H1, Same H H1 → ∀ Q : Option Int → Hp → Prop, (∀ H2, Same H1 H2 → Q o H2) → to σ H1 Q
section
variable {K : PySem.W.Frag} {σ : L2.St} {H H' : Hp} {ta tb te : TE} {tr : TA} {d e : PyData} {ds es : List PyData} {i j k : Int}
theorem EvD.mono (s : Same H H') (h : EvD K te σ H d) : EvD K te σ H' d := fun H1 s1 => h H1 (s.trans s1)
theorem EvN.mono (s : Same H H') (h : EvN K te σ H ds) : EvN K te σ H' ds := fun H1 s1 => h H1 (s.trans s1)
theorem EvN.toD (h : EvN K te σ H ds) : EvD K te σ H (.list ds) := fun H1 s1 Q q => h H1 s1 Q fun p xs H2 np s2 e hd => q _ H2 s2 (.lst (SqL.of e) hd)
theorem evd_i : EvD K (tC (.int i)) σ H (.int i) := fun H1 _ Q q => q _ H1 (L2.Same.refl H1) (.int i)
theorem evd_b {b : Bool} : EvD K (tC (.bl b)) σ H (.bool b) := fun H1 _ Q q => q _ H1 (L2.Same.refl H1) (.bl b)
theorem evd_n : EvD K (tC .non) σ H .none := fun H1 _ Q q => q _ H1 (L2.Same.refl H1) .non
theorem evd_s {z : Str} : EvD K (tC (.str z)) σ H (.str z) := fun H1 _ Q q => q _ H1 (L2.Same.refl H1) (.str z)
theorem evd_v {n : Nat} {x : V} (h : σ[n]? = some (some x)) (hd : Dp K H x d) : EvD K (tVar n) σ H d := fun H1 s1 Q q => ⟨x, h, q x H1 (L2.Same.refl H1) (Dp.go s1 hd)⟩
theorem evd_op0 {g : Int → Int → V} (ha : EvD K ta σ H (.int i)) (hb : EvD K tb σ H (.int j)) (hg : g i j = .int k) : EvD K (tOp (rI0 g) ta tb) σ H (.int k) := fun H1 s1 Q q =>
  ha H1 s1 _ fun x H2 s2 hx => hb H2 (s1.trans s2) _ fun y H3 s3 hy => by
    cases dp_i hx
    cases dp_i hy
    exact ⟨i, j, rfl, rfl, q _ H3 (s2.trans s3) (by rw [hg]; exact .int k)⟩
theorem evd_op {C : Int → Int → Prop} {g : Int → Int → V} (ha : EvD K ta σ H (.int i)) (hb : EvD K tb σ H (.int j)) (hc : C i j) (hg : g i j = .int k) : EvD K (tOp (rI C g) ta tb) σ H (.int k) := fun H1 s1 Q q =>
  ha H1 s1 _ fun x H2 s2 hx => hb H2 (s1.trans s2) _ fun y H3 s3 hy => by
    cases dp_i hx
    cases dp_i hy
    exact ⟨i, j, rfl, rfl, hc, q _ H3 (s2.trans s3) (by rw [hg]; exact .int k)⟩
theorem evd_neg (ha : EvD K ta σ H (.int i)) : EvD K (tUn (rU fun i => .int (-i)) ta) σ H (.int (-i)) := fun H1 s1 Q q => ha H1 s1 _ fun x H2 s2 hx => by
  cases dp_i hx
  exact ⟨i, rfl, q _ H2 s2 (.int _)⟩
theorem evds_nil : EvDs K tNil σ H [] := fun H1 _ Q q => q [] H1 (L2.Same.refl H1) .nil
theorem evds_cons (h : EvD K te σ H d) (hr : EvDs K tr σ H ds) : EvDs K (tCons te tr) σ H (d :: ds) := fun H1 s1 Q q =>
  h H1 s1 _ fun x H2 s2 hx => hr H2 (s1.trans s2) _ fun xs H3 s3 hxs => q _ H3 (s2.trans s3) (.cons (Dp.go s3 hx) hxs)
theorem evd_tup (h : EvDs K tr σ H ds) (hl : ds.length ≤ 100000) : EvD K (tTup tr) σ H (.tuple ds) := fun H1 s1 Q q =>
  h H1 s1 _ fun xs H2 s2 hxs => g_tupK (by rw [dpAll_len hxs]; exact sz hl) fun p H3 np s3 e => q _ H3 (s2.trans s3) (.tup (SqT.of e) (DpAll.go s3 hxs))
theorem evn_lst (h : EvDs K tr σ H ds) (hl : ds.length ≤ 100000) : EvN K (tLst tr) σ H ds := fun H1 s1 Q q =>
  h H1 s1 _ fun xs H2 s2 hxs => g_lstK (by rw [dpAll_len hxs]; exact sz hl) fun p H3 np s3 e => q p xs H3 (s2.free np) (s2.trans s3) e (DpAll.go s3 hxs)
theorem dpAll_at {xs : List V} (h : DpAll K H xs ds) {n : Nat} (hd : ds[n]? = some d) : ∃ x, xs[n]? = some x ∧ Dp K H x d := by
  have hl := dpAll_len h
  have hn := (List.getElem?_eq_some_iff.mp hd).1
  obtain ⟨d', e1, e2⟩ := dpAll_get h n xs[n] (List.getElem?_eq_getElem (by omega))
  rw [hd] at e1
  cases Option.some.inj e1
  exact ⟨_, List.getElem?_eq_getElem (by omega), e2⟩
theorem evd_ixT (h : EvD K ta σ H (.tuple ds)) (hi : EvD K tb σ H (.int i)) (h0 : 0 ≤ i) (hd : ds[i.toNat]? = some d) : EvD K (tOp (rIxT K) ta tb) σ H d := fun H1 s1 Q q =>
  h H1 s1 _ fun x H2 s2 hx => hi H2 (s1.trans s2) _ fun y H3 s3 hy => by
    cases dp_i hy
    obtain ⟨a, xs, rfl, hs, hxs⟩ := dp_tuple (Dp.go s3 hx)
    obtain ⟨x, e1, e2⟩ := dpAll_at hxs hd
    have ei : i = ((i.toNat : Nat) : Int) := by omega
    exact ⟨a, xs, i, x, rfl, rfl, hs, (by rw [ei]; exact atI_nat e1), q x H3 (s2.trans s3) e2⟩
theorem dp_list {x : V} (h : Dp K H x (.list ds)) : ∃ a xs, x = .ref a ∧ SqL K H a xs ∧ DpAll K H xs ds := by
  cases h with
  | lst h r => exact ⟨_, _, rfl, h, r⟩
theorem evd_ixL (h : EvD K ta σ H (.list ds)) (hi : EvD K tb σ H (.int i)) (h0 : 0 ≤ i) (hd : ds[i.toNat]? = some d) : EvD K (tOp (rIxL K) ta tb) σ H d := fun H1 s1 Q q =>
  h H1 s1 _ fun x H2 s2 hx => hi H2 (s1.trans s2) _ fun y H3 s3 hy => by
    cases dp_i hy
    obtain ⟨a, xs, rfl, hs, hxs⟩ := dp_list (Dp.go s3 hx)
    obtain ⟨x, e1, e2⟩ := dpAll_at hxs hd
    have ei : i = ((i.toNat : Nat) : Int) := by omega
    exact ⟨a, xs, i, x, rfl, rfl, hs, (by rw [ei]; exact atI_nat e1), q x H3 (s2.trans s3) e2⟩
theorem dpAll_app : ∀ {xs ys : List V} {ds es : List PyData}, DpAll K H xs ds → DpAll K H ys es → DpAll K H (xs ++ ys) (ds ++ es)
  | _, _, _, _, .nil, h => h
  | _, _, _, _, .cons a r, h => .cons a (dpAll_app r h)
theorem evn_cat (ha : EvN K ta σ H ds) (hb : EvN K tb σ H es) (hl : ds.length + es.length ≤ 100000) : EvN K (tOp rCat ta tb) σ H (ds ++ es) := fun H1 s1 Q q =>
  ha H1 s1 _ fun p xs H2 np s2 e1 h1 => hb H2 (s1.trans s2) _ fun r ys H3 nr s3 e2 h2 =>
    ⟨p, r, xs, ys, rfl, rfl, s3 _ _ e1, e2, by rw [dpAll_len h1, dpAll_len h2]; exact sz hl, fun t nt =>
      q t (xs ++ ys) _ ((s2.trans s3).free nt) ((s2.trans s3).trans (Same.new nt _)) upd_same (DpAll.go (Same.new nt _) (dpAll_app (DpAll.go s3 h1) h2))⟩
/-- a list that stands: x + [..] wants its very object -/
theorem evn_v {n : Nat} {p : Addr} {xs : List V} (h : σ[n]? = some (some (.ref p))) (hp : H p = some (.lst xs)) (hd : DpAll K H xs ds) {tb : TE} (hb : EvN K tb σ H es) (hl : ds.length + es.length ≤ 100000) : EvN K (tOp rCat (tVar n) tb) σ H (ds ++ es) := fun H1 s1 Q q =>
  ⟨_, h, hb H1 s1 _ fun r ys H3 nr s3 e2 h2 =>
    ⟨p, r, xs, ys, rfl, rfl, s3 _ _ (s1 _ _ hp), e2, by rw [dpAll_len hd, dpAll_len h2]; exact sz hl, fun t nt =>
      q t (xs ++ ys) _ (s3.free nt) (s3.trans (Same.new nt _)) upd_same (DpAll.go (Same.new nt _) (dpAll_app (DpAll.go (s1.trans s3) hd) h2))⟩⟩
theorem evo_none : EvO K tNoPart σ H none := fun H1 _ Q q => q H1 (L2.Same.refl H1)
theorem evo_some (h : EvD K te σ H (.int i)) : EvO K (tPart te) σ H (some i) := fun H1 s1 Q q => h H1 s1 _ fun x H2 s2 hx => by
  cases dp_i hx
  exact ⟨i, rfl, q H2 s2⟩
theorem evn_slTo {th : TO} (h : EvD K te σ H (.list ds)) (hi : EvO K th σ H (some i)) (h0 : 0 ≤ i) : EvN K (tSl (rSlL K) te tNoPart th) σ H (ds.take i.toNat) := fun H1 s1 Q q =>
  h H1 s1 _ fun x H2 s2 hx => hi H2 (s1.trans s2) _ fun H3 s3 => by
    obtain ⟨a, xs, rfl, hs, hxs⟩ := dp_list (Dp.go s3 hx)
    refine ⟨a, xs, rfl, hs, fun p np => q p (xs.take i.toNat) _ ((s2.trans s3).free np) ((s2.trans s3).trans (Same.new np _)) ?_ (DpAll.go (Same.new np _) (dpAll_take _ hxs))⟩
    rw [show i = ((i.toNat : Nat) : Int) by omega, cut_to, Int.toNat_natCast]
    exact upd_same
theorem evn_slFrom {tl : TO} (h : EvD K te σ H (.list ds)) (hi : EvO K tl σ H (some i)) (h0 : 0 ≤ i) : EvN K (tSl (rSlL K) te tl tNoPart) σ H (ds.drop i.toNat) := fun H1 s1 Q q =>
  h H1 s1 _ fun x H2 s2 hx => hi H2 (s1.trans s2) _ fun H3 s3 => by
    obtain ⟨a, xs, rfl, hs, hxs⟩ := dp_list (Dp.go s3 hx)
    refine ⟨a, xs, rfl, hs, fun p np => q p (xs.drop i.toNat) _ ((s2.trans s3).free np) ((s2.trans s3).trans (Same.new np _)) ?_ (DpAll.go (Same.new np _) (dpAll_drop _ hxs))⟩
    rw [show i = ((i.toNat : Nat) : Int) by omega, cut_from, Int.toNat_natCast]
    exact upd_same
theorem evn_listL (h : EvD K te σ H (.list ds)) : EvN K (tCB (rList K) (tCons te tNil)) σ H ds := fun H1 s1 Q q => h H1 s1 _ fun x H2 s2 hx => by
  obtain ⟨a, xs, rfl, hs, hxs⟩ := dp_list hx
  exact ⟨a, xs, rfl, .inl hs, fun p np => q p xs _ (s2.free np) (s2.trans (Same.new np _)) upd_same (DpAll.go (Same.new np _) hxs)⟩
theorem evn_listT (h : EvD K te σ H (.tuple ds)) : EvN K (tCB (rList K) (tCons te tNil)) σ H ds := fun H1 s1 Q q => h H1 s1 _ fun x H2 s2 hx => by
  obtain ⟨a, xs, rfl, hs, hxs⟩ := dp_tuple hx
  exact ⟨a, xs, rfl, .inr hs, fun p np => q p xs _ (s2.free np) (s2.trans (Same.new np _)) upd_same (DpAll.go (Same.new np _) hxs)⟩
theorem evd_tupleL (h : EvD K te σ H (.list ds)) : EvD K (tCB (rTuple K) (tCons te tNil)) σ H (.tuple ds) := fun H1 s1 Q q => h H1 s1 _ fun x H2 s2 hx => by
  obtain ⟨a, xs, rfl, hs, hxs⟩ := dp_list hx
  exact ⟨a, xs, rfl, .inl ⟨hs, fun p np => q _ _ (s2.trans (Same.new np _)) (.tup (SqT.of upd_same) (DpAll.go (Same.new np _) hxs))⟩⟩
theorem evd_tupleT (h : EvD K te σ H (.tuple ds)) : EvD K (tCB (rTuple K) (tCons te tNil)) σ H (.tuple ds) := fun H1 s1 Q q => h H1 s1 _ fun x H2 s2 hx => by
  obtain ⟨a, xs, rfl, hs, hxs⟩ := dp_tuple hx
  exact ⟨a, xs, rfl, .inr ⟨hs, q _ _ s2 (.tup hs hxs)⟩⟩
theorem evd_strI (h : EvD K te σ H (.int i)) (hl : i.natAbs.log2 < 1920) : EvD K (tCB rStrI (tCons te tNil)) σ H (.str (toString i)) := fun H1 s1 Q q => h H1 s1 _ fun x H2 s2 hx => by
  cases dp_i hx
  exact ⟨i, rfl, hl, q _ H2 s2 (.str _)⟩
theorem evd_addS {a b : Str} (ha : EvD K ta σ H (.str a)) (hb : EvD K tb σ H (.str b)) (hl : a.length + b.length ≤ 100000) : EvD K (tOp rAddS ta tb) σ H (.str (a ++ b)) := fun H1 s1 Q q =>
  ha H1 s1 _ fun x H2 s2 hx => hb H2 (s1.trans s2) _ fun y H3 s3 hy => by
    cases dp_str hx
    cases dp_str hy
    exact ⟨a, b, rfl, rfl, sz hl, q _ H3 (s2.trans s3) (.str _)⟩
/-- data behind items that each read as something -/
theorem exists_data : ∀ {ys : List V} {R : Nat → V → PyData → Prop}, (∀ (i : Nat) y, ys[i]? = some y → ∃ d, R i y d) → ∃ ds : List PyData, ds.length = ys.length ∧ ∀ (i : Nat) y d, ys[i]? = some y → ds[i]? = some d → R i y d
  | [], R, _ => ⟨[], rfl, fun i y d h => nomatch h⟩
  | y :: ys, R, h => by
    obtain ⟨d, hd⟩ := h 0 y rfl
    obtain ⟨ds, hl, hr⟩ := exists_data (ys := ys) (R := fun i => R (i + 1)) fun i z hz => h (i + 1) z (by simpa using hz)
    refine ⟨d :: ds, by simp [hl], fun i z e h1 h2 => ?_⟩
    cases i with
    | zero =>
      cases Option.some.inj h1
      cases Option.some.inj h2
      exact hd
    | succ i => exact hr i z e (by simpa using h1) (by simpa using h2)
end
end My
namespace My
open PySem L2
section
variable {K : PySem.W.Frag} {σ : L2.St} {H : Hp} {te : TE} {d : PyData} {ds : List PyData} {D : Ends} {u : TS} {i : Nat} {Q : VK}
theorem evn_asg (h : EvN K te σ H ds) (k : ∀ p xs H1, H p = none → Same H H1 → H1 p = some (.lst xs) → DpAll K H1 xs ds → u D (σ.set i (some (.ref p))) H1) : tSeq (tAsg te (gName i)) u D σ H := h H (L2.Same.refl H) _ k
theorem evd_asg (h : EvD K te σ H d) (k : ∀ x H1, Same H H1 → Dp K H1 x d → u D (σ.set i (some x)) H1) : tSeq (tAsg te (gName i)) u D σ H := h H (L2.Same.refl H) _ k
theorem evn_ret (h : EvN K te σ H ds) (k : ∀ p xs H1, H p = none → Same H H1 → H1 p = some (.lst xs) → DpAll K H1 xs ds → D.rt (.ref p) H1) : tRet te D σ H := h H (L2.Same.refl H) _ k
theorem evd_ret (h : EvD K te σ H d) (k : ∀ x H1, Same H H1 → Dp K H1 x d → D.rt x H1) : tRet te D σ H := h H (L2.Same.refl H) _ k
theorem evd_to (h : EvD K te σ H d) (k : ∀ x H1, Same H H1 → Dp K H1 x d → Q x H1) : te σ H Q := h H (L2.Same.refl H) _ k
end
theorem held_no {w : Str} {h : PyData} (h1 : isValD h = false) (h2 : isNumD h = false) : heldD w h = false := by
  unfold heldD
  split <;> assumption
theorem all_mid {as bs : List PyData} {x : PyData} {p : PyData → Bool} (h : p x = false) : ((as ++ [x]) ++ bs).all p = false := by
  rw [List.all_append, List.all_append, List.all_cons, h, Bool.false_and, Bool.and_false, Bool.false_and]
theorem rises_mid {as bs : List PyData} {x y : PyData} (h : ¬ keyD x < keyD y) : risesI (((as ++ [x, y]) ++ bs).map keyD) = false := by
  rw [List.map_append, List.map_append, List.append_assoc]
  exact rises_not h
theorem log_small {k : Int} (h1 : -(2 ^ 300) < k) (h2 : k < 2 ^ 300) : k.natAbs.log2 < 1920 :=
  Nat.lt_of_lt_of_le (PySem.Flt.log2_lt_of (k := 300) (by decide) (by omega)) (by decide)
end My
namespace My
open PySem L2
section
variable {σ : L2.St} {H : Hp} {D : Ends} {t u : TS} {c : TT}
theorem g_ifP (P1 P2 : Prop) (hc : ∀ QB : Bool → Hp → Prop, (P1 → QB true H) → (P2 → QB false H) → c σ H QB) (h1 : P1 → t D σ H) (h2 : P2 → u D σ H) : tIfS c t u D σ H := hc _ (fun p => h1 p) (fun p => h2 p)
end
end My

set_option Elab.async false
set_option linter.all false
set_option maxRecDepth 100000
set_option maxHeartbeats 1000000
namespace My
open PySem L2
def top (i : Nat) : Stmt := PySem.Challenge.pw_btreelog_k04_a_block.main.body.getD i (.Pass ⟨0, 0, 0, 0⟩)
abbrev s_is_whole : Stmt := top 3
abbrev N_is_whole : List Str := ["thing"]
theorem sc_is_whole : FnScope N_is_whole ["thing"] (defScope s_is_whole) := ⟨rfl, rfl, rfl, by decide +kernel, rfl, by decide +kernel, by decide +kernel⟩
abbrev s_is_key : Stmt := top 4
abbrev N_is_key : List Str := ["thing"]
theorem sc_is_key : FnScope N_is_key ["thing"] (defScope s_is_key) := ⟨rfl, rfl, rfl, by decide +kernel, rfl, by decide +kernel, by decide +kernel⟩
abbrev s_is_value : Stmt := top 5
abbrev N_is_value : List Str := ["thing", "sign"]
theorem sc_is_value : FnScope N_is_value ["thing"] (defScope s_is_value) := ⟨rfl, rfl, rfl, by decide +kernel, rfl, by decide +kernel, by decide +kernel⟩
abbrev s_is_number : Stmt := top 6
abbrev N_is_number : List Str := ["thing"]
theorem sc_is_number : FnScope N_is_number ["thing"] (defScope s_is_number) := ⟨rfl, rfl, rfl, by decide +kernel, rfl, by decide +kernel, by decide +kernel⟩
abbrev s_is_two : Stmt := top 7
abbrev N_is_two : List Str := ["thing"]
theorem sc_is_two : FnScope N_is_two ["thing"] (defScope s_is_two) := ⟨rfl, rfl, rfl, by decide +kernel, rfl, by decide +kernel, by decide +kernel⟩
abbrev s_is_pair : Stmt := top 8
abbrev N_is_pair : List Str := ["thing", "word", "key", "held"]
theorem sc_is_pair : FnScope N_is_pair ["thing", "word"] (defScope s_is_pair) := ⟨rfl, rfl, rfl, by decide +kernel, rfl, by decide +kernel, by decide +kernel⟩
abbrev s_rises : Stmt := top 9
abbrev N_rises : List Str := ["pairs", "at"]
theorem sc_rises : FnScope N_rises ["pairs"] (defScope s_rises) := ⟨rfl, rfl, rfl, by decide +kernel, rfl, by decide +kernel, by decide +kernel⟩
abbrev s_is_block : Stmt := top 10
abbrev N_is_block : List Str := ["thing", "least", "most", "word", "pairs", "pair"]
theorem sc_is_block : FnScope N_is_block ["thing", "least", "most"] (defScope s_is_block) := ⟨rfl, rfl, rfl, by decide +kernel, rfl, by decide +kernel, by decide +kernel⟩
abbrev s_l_cell_at : Stmt := top 12
abbrev N_l_cell_at : List Str := ["_law_script", "_law_k"]
theorem sc_l_cell_at : FnScope N_l_cell_at ["_law_script", "_law_k"] (defScope s_l_cell_at) := ⟨rfl, rfl, rfl, by decide +kernel, rfl, by decide +kernel, by decide +kernel⟩
abbrev s_l_value_by : Stmt := top 13
abbrev N_l_value_by : List Str := ["_law_cell", "_law_some", "_law_size", "_law_step", "_law_k"]
theorem sc_l_value_by : FnScope N_l_value_by ["_law_cell"] (defScope s_l_value_by) := ⟨rfl, rfl, rfl, by decide +kernel, rfl, by decide +kernel, by decide +kernel⟩
abbrev s_l_says : Stmt := top 14
abbrev N_l_says : List Str := ["_law_found", "_law_due"]
theorem sc_l_says : FnScope N_l_says ["_law_found", "_law_due"] (defScope s_l_says) := ⟨rfl, rfl, rfl, by decide +kernel, rfl, by decide +kernel, by decide +kernel⟩
abbrev s_l_pairs_by : Stmt := top 15
abbrev N_l_pairs_by : List Str := ["_law_kind", "_law_start", "_law_size", "_law_cell", "_law_k"]
theorem sc_l_pairs_by : FnScope N_l_pairs_by ["_law_kind", "_law_start", "_law_size", "_law_cell"] (defScope s_l_pairs_by) := ⟨rfl, rfl, rfl, by decide +kernel, rfl, by decide +kernel, by decide +kernel⟩
abbrev s_l_pair_spoilt : Stmt := top 16
abbrev N_l_pair_spoilt : List Str := ["_law_pairs", "_law_at", "_law_way", "_law_pair", "_law_some"]
theorem sc_l_pair_spoilt : FnScope N_l_pair_spoilt ["_law_pairs", "_law_at", "_law_way"] (defScope s_l_pair_spoilt) := ⟨rfl, rfl, rfl, by decide +kernel, rfl, by decide +kernel, by decide +kernel⟩
abbrev s_l_spoilt : Stmt := top 17
abbrev N_l_spoilt : List Str := ["_law_kind", "_law_pairs", "_law_at", "_law_way", "_law_some"]
theorem sc_l_spoilt : FnScope N_l_spoilt ["_law_kind", "_law_pairs", "_law_at", "_law_way"] (defScope s_l_spoilt) := ⟨rfl, rfl, rfl, by decide +kernel, rfl, by decide +kernel, by decide +kernel⟩
abbrev s_law : Stmt := top 18
abbrev N_law : List Str := ["_law_script", "_law_kind", "_law_size", "_law_start", "_law_pairs", "_law_least", "_law_most", "_law_way"]
theorem sc_law : FnScope N_law ["_law_script"] (defScope s_law) := ⟨rfl, rfl, rfl, by decide +kernel, rfl, by decide +kernel, by decide +kernel⟩
abbrev sp_l_cell_at := sp_cell
def someL : List Nat := ((Str.ofString " !\"#$&'()*+,-./0123456789:;<=>?@ABCDEFGHIJKLMNOPQRSTUVWXYZ[\\]^_`") ++ (Str.ofString "abcdefghijklmnopqrstuvwxyz{|}~")).cps.toList
theorem someL_len : someL.length = 94 := by decide +kernel
theorem someL_ok : someL.all signOk = true := by decide +kernel
def signsF (f : Nat → Int) (n : Nat) : List Nat := (List.range n).map fun k : Nat => someL.getD (f k % 94).toNat 0
theorem signsF_len (f : Nat → Int) (n : Nat) : (signsF f n).length = n := by unfold signsF; rw [List.length_map, List.length_range]
theorem signsF_ok (f : Nat → Int) (n : Nat) : (signsF f n).all signOk = true := by
  rw [List.all_eq_true]
  intro x hx
  obtain ⟨k, _, rfl⟩ := List.mem_map.mp hx
  have h1 := Int.emod_nonneg (f k) (show (94 : Int) ≠ 0 by decide)
  have h2 := Int.emod_lt_of_pos (f k) (show (0 : Int) < 94 by decide)
  have h3 : (f k % 94).toNat < someL.length := by rw [someL_len]; omega
  rw [List.getD_eq_getElem?_getD, List.getElem?_eq_getElem h3]
  exact List.all_eq_true.mp someL_ok _ (List.getElem_mem h3)
/-- the pairs that the law makes: keys by two from st on, what is held good -/
def Good (w : Str) (st : Int) (ds : List PyData) : Prop := ∀ (i : Nat) d, ds[i]? = some d → ∃ h, d = .tuple [.int (st + 2 * (i : Int)), h] ∧ heldD w h = true ∧ (∀ z, h = .str z → z.length ≤ 60)
def sp_l_value_by : Sp := fun vs H Q _ => ∃ c : Int, vs = [.int c] ∧ 0 ≤ c ∧ c ≤ 1000000 ∧ ∀ z H', Same H H' → isValD (.str z) = true → z.length ≤ 60 → Q (.str z) H'
def sp_l_pairs_by (K : PySem.W.Frag) : Sp := fun vs H Q _ => ∃ (w : Str) (st n c : Int), vs = [.str w, .int st, .int n, .int c] ∧ 0 ≤ n ∧ n ≤ 100 ∧ 0 ≤ c ∧ c ≤ 10000 ∧
  ∀ p ys ds H', H p = none → Same H H' → H' p = some (.lst ys) → DpAll K H' ys ds → ds.length = n.toNat → Good w st ds → Q (.ref p) H'
def sp_l_pair_spoilt (K : PySem.W.Frag) : Sp := fun vs H Q _ => ∃ (w : Str) (st at_ way : Int) (a : Addr) (xs : List V) (ds : List PyData), vs = [.ref a, .int at_, .int way] ∧ H a = some (.lst xs) ∧ DpAll K H xs ds ∧ Good w st ds ∧ ds.length ≤ 100 ∧
  -(2 ^ 200) < st ∧ st < 2 ^ 200 ∧ 0 ≤ at_ ∧ at_ < (ds.length : Int) ∧ 0 ≤ way ∧ way < 15 ∧
  ∀ p ys es H', Same H H' → H' p = some (.lst ys) → DpAll K H' ys es → es.length ≤ 200 → (∀ d ∈ es, FitP d) → (es.all (isPairD w) && risesI (es.map keyD)) = false → Q (.ref p) H'
def sp_l_spoilt (K : PySem.W.Frag) : Sp := fun vs H Q _ => ∃ (w : Str) (st at_ way : Int) (a : Addr) (xs : List V) (ds : List PyData), vs = [.str w, .ref a, .int at_, .int way] ∧ H a = some (.lst xs) ∧ DpAll K H xs ds ∧ Good w st ds ∧ ds.length ≤ 100 ∧
  (w = leafW ∨ w = branchW) ∧ -(2 ^ 200) < st ∧ st < 2 ^ 200 ∧ 0 ≤ at_ ∧ (way < 15 → at_ < (ds.length : Int)) ∧ 0 ≤ way ∧ way < 25 ∧
  ∀ x d H', Same H H' → Dp K H' x d → FitB d → isBlockD 0 70 d = false → Q x H'
structure Tx (K : PySem.W.Frag) (mg : Str → Option Value) where
  a_is_whole : Addr
  d_is_whole : FuncData
  F_is_whole : Fun K "is_whole" "is_whole" s_is_whole a_is_whole d_is_whole
  b_is_whole : Binds K d_is_whole ["thing"] []
  g_is_whole : mg "is_whole" = some (.ref a_is_whole)
  a_is_key : Addr
  d_is_key : FuncData
  F_is_key : Fun K "is_key" "is_key" s_is_key a_is_key d_is_key
  b_is_key : Binds K d_is_key ["thing"] []
  g_is_key : mg "is_key" = some (.ref a_is_key)
  a_is_value : Addr
  d_is_value : FuncData
  F_is_value : Fun K "is_value" "is_value" s_is_value a_is_value d_is_value
  b_is_value : Binds K d_is_value ["thing"] []
  g_is_value : mg "is_value" = some (.ref a_is_value)
  a_is_number : Addr
  d_is_number : FuncData
  F_is_number : Fun K "is_number" "is_number" s_is_number a_is_number d_is_number
  b_is_number : Binds K d_is_number ["thing"] []
  g_is_number : mg "is_number" = some (.ref a_is_number)
  a_is_two : Addr
  d_is_two : FuncData
  F_is_two : Fun K "is_two" "is_two" s_is_two a_is_two d_is_two
  b_is_two : Binds K d_is_two ["thing"] []
  g_is_two : mg "is_two" = some (.ref a_is_two)
  a_is_pair : Addr
  d_is_pair : FuncData
  F_is_pair : Fun K "is_pair" "is_pair" s_is_pair a_is_pair d_is_pair
  b_is_pair : Binds K d_is_pair ["thing", "word"] []
  g_is_pair : mg "is_pair" = some (.ref a_is_pair)
  a_rises : Addr
  d_rises : FuncData
  F_rises : Fun K "rises" "rises" s_rises a_rises d_rises
  b_rises : Binds K d_rises ["pairs"] []
  g_rises : mg "rises" = some (.ref a_rises)
  a_is_block : Addr
  d_is_block : FuncData
  F_is_block : Fun K "is_block" "is_block" s_is_block a_is_block d_is_block
  b_is_block : Binds K d_is_block ["thing", "least", "most"] []
  g_is_block : mg "is_block" = some (.ref a_is_block)
  a_l_cell_at : Addr
  d_l_cell_at : FuncData
  F_l_cell_at : Fun K "_law_cell_at" "_law_cell_at" s_l_cell_at a_l_cell_at d_l_cell_at
  b_l_cell_at : Binds K d_l_cell_at ["_law_script", "_law_k"] []
  g_l_cell_at : mg "_law_cell_at" = some (.ref a_l_cell_at)
  a_l_value_by : Addr
  d_l_value_by : FuncData
  F_l_value_by : Fun K "_law_value_by" "_law_value_by" s_l_value_by a_l_value_by d_l_value_by
  b_l_value_by : Binds K d_l_value_by ["_law_cell"] []
  g_l_value_by : mg "_law_value_by" = some (.ref a_l_value_by)
  a_l_says : Addr
  d_l_says : FuncData
  F_l_says : Fun K "_law_says" "_law_says" s_l_says a_l_says d_l_says
  b_l_says : Binds K d_l_says ["_law_found", "_law_due"] []
  g_l_says : mg "_law_says" = some (.ref a_l_says)
  a_l_pairs_by : Addr
  d_l_pairs_by : FuncData
  F_l_pairs_by : Fun K "_law_pairs_by" "_law_pairs_by" s_l_pairs_by a_l_pairs_by d_l_pairs_by
  b_l_pairs_by : Binds K d_l_pairs_by ["_law_kind", "_law_start", "_law_size", "_law_cell"] []
  g_l_pairs_by : mg "_law_pairs_by" = some (.ref a_l_pairs_by)
  a_l_pair_spoilt : Addr
  d_l_pair_spoilt : FuncData
  F_l_pair_spoilt : Fun K "_law_pair_spoilt" "_law_pair_spoilt" s_l_pair_spoilt a_l_pair_spoilt d_l_pair_spoilt
  b_l_pair_spoilt : Binds K d_l_pair_spoilt ["_law_pairs", "_law_at", "_law_way"] []
  g_l_pair_spoilt : mg "_law_pair_spoilt" = some (.ref a_l_pair_spoilt)
  a_l_spoilt : Addr
  d_l_spoilt : FuncData
  F_l_spoilt : Fun K "_law_spoilt" "_law_spoilt" s_l_spoilt a_l_spoilt d_l_spoilt
  b_l_spoilt : Binds K d_l_spoilt ["_law_kind", "_law_pairs", "_law_at", "_law_way"] []
  g_l_spoilt : mg "_law_spoilt" = some (.ref a_l_spoilt)
  t_KEY_BOUND : Tok
  c_KEY_BOUND : mg "KEY_BOUND" = some (.int (KB) t_KEY_BOUND)
  t_MOST_SIGNS : Tok
  c_MOST_SIGNS : mg "MOST_SIGNS" = some (.int (60) t_MOST_SIGNS)
  z_all : mg "all" = none
  z_int : mg "int" = none
  z_len : mg "len" = none
  z_list : mg "list" = none
  z_max : mg "max" = none
  z_range : mg "range" = none
  z_str : mg "str" = none
  z_tuple : mg "tuple" = none
  z_type : mg "type" = none
local macro_rules | `(tactic| wtm_at "at") => `(tactic| first | assumption | (refine Same.at (by assumption) ?_; wtm_at "at"))
local macro_rules | `(tactic| wtm_at "sq") => `(tactic| first | assumption | exact SqL.of (by wtm_at "at") | (refine L2.Same.seq (by assumption) ?_; wtm_at "sq"))
local macro_rules | `(tactic| wtm_at "st") => `(tactic| first | assumption | exact SqT.of (by wtm_at "at") | (refine Same.seqT (by assumption) ?_; wtm_at "st"))
local macro_rules | `(tactic| wtm_at "so") => `(tactic| first | assumption | exact seq_l (by wtm_at "sq") | exact seq_t (by wtm_at "st") | (refine Same.seqO (by assumption) ?_; wtm_at "so"))
local macro_rules | `(tactic| wtm_at "sd") => `(tactic| first
  | exact CMul.ok (Or.inl ⟨by omega, by omega⟩) | exact CMul.ok (Or.inr ⟨by omega, by omega⟩)
  | omega | (dsimp only <;> omega) | (show (0 : Int) < _; omega) | exact ⟨by omega, by omega⟩ | exact Or.inl ⟨by omega, by omega⟩ | exact Or.inr ⟨by omega, by omega⟩ | exact ⟨by decide, by decide, by decide⟩)
local macro_rules | `(tactic| wtm_at "call") => `(tactic| fail "no call")
local macro_rules | `(tactic| wtm_at "one") => `(tactic| first
  | with_reducible refine g_seq ?_
  | with_reducible refine g_asg ?_
  | with_reducible refine g_name ?_
  | with_reducible refine g_op ?_
  | with_reducible refine g_var rfl ?_
  | with_reducible refine g_c ?_
  | with_reducible refine g_rI0 ?_
  | ((with_reducible refine' g_rI ?cc ?_); (case cc => wtm_at "sd"))
  | with_reducible refine g_un ?_
  | with_reducible refine g_rU ?_
  | with_reducible refine g_call ?_
  | with_reducible refine g_cons ?_
  | with_reducible refine g_nil ?_
  | with_reducible refine g_cb ?_
  | with_reducible refine g_test ?_
  | with_reducible refine g_tB ?_
  | with_reducible refine g_isB ?_
  | with_reducible refine g_if ?_
  | with_reducible refine g_ret ?_
  | with_reducible refine g_retN ?_
  | with_reducible refine g_drop ?_
  | with_reducible refine g_next ?_
  | ((with_reducible refine' g_rEq ?cc ?_); (case cc => exact rfl))
  | ((with_reducible refine' g_rNe ?cc ?_); (case cc => exact rfl))
  | with_reducible refine g_chain ?_
  | with_reducible refine g_and ?_
  | with_reducible refine g_or ?_
  | with_reducible refine g_not ?_
  | with_reducible refine g_notK ?_
  | with_reducible refine g_andT ?_
  | with_reducible refine g_orT ?_
  | with_reducible refine g_notT ?_
  | with_reducible refine g_notV ?_
  | with_reducible refine g_ifE ?_
  | with_reducible refine g_tup ?_
  | with_reducible refine g_lst ?_
  | with_reducible refine g_sl ?_
  | with_reducible refine g_noPart ?_
  | with_reducible refine g_part ?_
  | with_reducible refine g_partK ?_
  | with_reducible refine g_brT ?_
  | with_reducible refine g_brF ?_
  | with_reducible refine g_gcons ?_
  | with_reducible refine g_gnil ?_
  | ((with_reducible refine' g_len ?cc ?_); (case cc => wtm_at "so"))
  | with_reducible refine g_intB ?_
  | with_reducible refine g_intI ?_
  | with_reducible refine g_isN ?_
  | with_reducible refine g_notN ?_
  | with_reducible refine g_isTy ?_
  | with_reducible refine g_notTy ?_
  | with_reducible refine g_isBl ?_
  | with_reducible refine g_notBl ?_
  | with_reducible refine g_max2 ?_
  | ((with_reducible refine' g_gtup ?cc ?cd ?_); (case cc => wtm_at "st"); (case cd => exact rfl))
  | with_reducible refine My.g_leS ?_
  | ((with_reducible refine' g_typ ?cc ?_); (case cc => assumption))
  | wtm_at "call")
local macro_rules | `(tactic| wtm_at "red") => `(tactic| try dsimp only [cxOf, List.cons_append, List.nil_append, List.set_cons_zero, List.set_cons_succ])
local macro_rules | `(tactic| wtm_at "go") => `(tactic| (wtm_at "red"; repeat (wtm_at "one"; wtm_at "red")))
local macro_rules | `(tactic| wtm_at "ln") => `(tactic| (refine sz ?_; simp only [List.length_cons, List.length_nil, List.length_map, List.length_append]; omega))
local macro_rules | `(tactic| wtm_at "go0") => `(tactic| ((with_reducible refine g_name ?_); wtm_at "red"))

local macro_rules | `(tactic| wtm_at "dp") => `(tactic| first | assumption | exact .int _ | exact .str _ | exact .bl _ | exact .non | (refine Dp.go (by assumption) ?_; wtm_at "dp"))
local macro_rules | `(tactic| wtm_at "dpa") => `(tactic| first | assumption | (refine DpAll.go (by assumption) ?_; wtm_at "dpa"))
local macro_rules | `(tactic| wtm_at "ev") => `(tactic| first
  | with_reducible exact evd_i
  | with_reducible exact evd_b
  | with_reducible exact evd_n
  | with_reducible exact evd_s
  | with_reducible exact evds_nil
  | ((with_reducible refine' evd_v rfl ?cc); (case cc => wtm_at "dp"))
  | ((with_reducible refine' evds_cons ?ca ?cb); (case ca => wtm_at "ev"); (case cb => wtm_at "ev"))
  | ((with_reducible refine' evd_tup ?ca ?cb); (case ca => wtm_at "ev"); (case cb => (simp only [List.length_cons, List.length_nil]; omega)))
  | ((with_reducible refine' evn_lst ?ca ?cb); (case ca => wtm_at "ev"); (case cb => (simp only [List.length_cons, List.length_nil]; omega)))
  | ((with_reducible refine' evd_op0 ?ca ?cb ?cc); (case ca => wtm_at "ev"); (case cb => wtm_at "ev"); (case cc => exact rfl))
  | ((with_reducible refine' evd_op ?ca ?cb ?cc ?cd); (case ca => wtm_at "ev"); (case cb => wtm_at "ev"); (case cc => wtm_at "sd"); (case cd => exact rfl))
  | ((with_reducible refine' evd_neg ?ca); (case ca => wtm_at "ev"))
  | ((with_reducible refine' evd_ixT ?ca ?cb ?cc ?cd); (case ca => wtm_at "ev"); (case cb => wtm_at "ev"); (case cc => omega); (case cd => exact rfl))
  | ((with_reducible refine' evn_listL ?ca); (case ca => wtm_at "ev"))
  | ((with_reducible refine' evn_listT ?ca); (case ca => wtm_at "ev"))
  | ((with_reducible refine' evd_tupleL ?ca); (case ca => wtm_at "ev"))
  | ((with_reducible refine' evd_tupleT ?ca); (case ca => wtm_at "ev"))
  | ((with_reducible refine' evd_strI ?ca ?cb); (case ca => wtm_at "ev"); (case cb => assumption))
  | ((with_reducible refine' evn_v rfl ?ca ?cb ?cc ?cd); (case ca => wtm_at "at"); (case cb => wtm_at "dpa"); (case cc => wtm_at "ev"); (case cd => (simp only [List.length_cons, List.length_nil, List.length_append]; omega)))
  | ((with_reducible refine' evn_cat ?ca ?cb ?cc); (case ca => wtm_at "ev"); (case cb => wtm_at "ev"); (case cc => (simp only [List.length_cons, List.length_nil, List.length_append, List.length_take, List.length_drop]; omega)))
  | ((with_reducible refine' evn_slTo ?ca ?cb ?cc); (case ca => wtm_at "ev"); (case cb => wtm_at "ev"); (case cc => omega))
  | ((with_reducible refine' evn_slFrom ?ca ?cb ?cc); (case ca => wtm_at "ev"); (case cb => wtm_at "ev"); (case cc => omega))
  | ((with_reducible refine' evo_some ?ca); (case ca => wtm_at "ev"))
  | ((with_reducible refine' evd_ixL ?ca ?cb ?cc ?cd); (case ca => wtm_at "ev"); (case cb => wtm_at "ev"); (case cc => omega); (case cd => assumption))
  | ((with_reducible refine' evd_addS ?ca ?cb ?cc); (case ca => wtm_at "ev"); (case cb => wtm_at "ev"); (case cc => assumption))
  | ((with_reducible refine' EvN.toD ?ca); (case ca => wtm_at "ev")))

local macro_rules | `(tactic| wtm_at "call") => `(tactic| first
  | ((with_reducible refine' use_cell ?cc ?cd ?_); (case cc => wtm_at "sq"); (case cd => omega))
  | (refine (show sp_l_says _ _ _ _ from ⟨_, _, rfl, ?_⟩)))
section
variable {P : Program} {w : World} {K : PySem.W.Frag} {mg : Str → Option Value} {base : Heap}
theorem ok_is_whole (T : Tx K mg) : FnOk P w K mg base CX0 1 T.a_is_whole T.d_is_whole ["thing"] (sp_is_whole K) := by
  refine T.F_is_whole.ok sc_is_whole (fun vs H Q E h => ?_) (fun cdv A outer s H vs Q E hr h => ?_)
  · obtain ⟨x, rfl, _⟩ := h
    rfl
  obtain ⟨x, rfl, ⟨ty, ht⟩, q⟩ := h
  refine ⟨_, (pss_one (ps_ret (pe_cmpR my_isTy (pe_callTy call_type1 (by rfl) T.z_type (by decide +kernel) (pa_cons (pv 0) pa_nil)) (pe_bltn (v := .ty "int") (by rfl) T.z_int (by decide +kernel) rfl) (nomark _)))), ?_⟩
  wtm_at "go"
  rw [tyb_int ht]
  exact q
theorem ok_is_key (T : Tx K mg) : FnOk P w K mg base CX0 2 T.a_is_key T.d_is_key ["thing"] (sp_is_key K) := by
  refine T.F_is_key.ok sc_is_key (fun vs H Q E h => ?_) (fun cdv A outer s H vs Q E hr h => ?_)
  · obtain ⟨x, rfl, _⟩ := h
    rfl
  obtain ⟨x, rfl, ht, q⟩ := h
  refine ⟨_, (pss_one (ps_ret (pe_and (pe_call (ok_is_whole T) hr (by rfl) T.g_is_whole T.F_is_whole.kp T.b_is_whole .nil pass0 (pa_cons (pv 0) pa_nil)) (pe_one (pe_chain op_lt op_lt (pe_un un_neg (pe_gI (by rfl) T.c_KEY_BOUND)) (pv 0) (pe_gI (by rfl) T.c_KEY_BOUND)))))), ?_⟩
  wtm_at "go"
  refine ⟨x, rfl, ht, ?_⟩
  refine g_andV (fun c => ?_) (fun c => ?_)
  · cases x with
    | int i =>
      wtm_at "go"
      have e : isKeyV (.int i) = (decide (-KB < i) && decide (i < KB)) := rfl
      rw [e] at q
      refine g_chK (fun c => ?_) (fun c => ?_)
      · wtm_at "go"
        rw [show decide (-KB < i) = true from c, Bool.true_and] at q
        exact q
      · rw [show decide (-KB < i) = false from c, Bool.false_and] at q
        exact q
    | _ => cases c
  · rw [isKeyV_no c] at q
    exact q
theorem ok_is_value (T : Tx K mg) : FnOk P w K mg base CX0 1 T.a_is_value T.d_is_value ["thing"] (sp_is_value K) := by
  refine T.F_is_value.ok sc_is_value (fun vs H Q E h => ?_) (fun cdv A outer s H vs Q E hr h => ?_)
  · obtain ⟨x, rfl, _⟩ := h
    rfl
  obtain ⟨x, rfl, ⟨ty, ht, hz⟩, q⟩ := h
  refine ⟨_, (pss_cons (ps_if (pw_or (pt_cmpR op_notTyB (pe_callTy call_type1 (by rfl) T.z_type (by decide +kernel) (pa_cons (pv 0) pa_nil)) (pe_bltn (v := .ty "str") (by rfl) T.z_str (by decide +kernel) rfl) (nomark _)) (pw_or1 (pt_cmpR op_gt (pe_callB my_lenS (by rfl) T.z_len PySem.boot_len (pa_cons (pv 0) pa_nil)) (pe_gI (by rfl) T.c_MOST_SIGNS) (nomark _)))).pt
      (pss_one (ps_ret pe_bl))
      pss_nil)
    (pss_one (ps_ret (pe_callB (cr_all rfl) (by rfl) T.z_all (by decide +kernel) (pa_cons (pe_lc (own := [("sign", 1)]) (g := gName 1) (tt := tYes) rfl sc_is_value.nd (pi_str (pv 0)) (blkOk_by (own := [("sign", 1)]) (N := N_is_value) (sc := defScope s_is_value) (by decide +kernel)) (fun _ _ _ _ _ => (pg_name (i := 1) sc_is_value.nd rfl (Or.inl rfl))) (fun _ _ _ _ _ => pts_nil) (fun _ _ _ _ _ => (pe_chain my_leS my_leS pe_str (pv 1) pe_str))) pa_nil))))), ?_⟩
  wtm_at "go"
  rw [tyb_str ht]
  cases hx : isStr x with
  | false =>
    refine g_orK (fun _ => ?_) (fun c => nomatch c)
    wtm_at "go"
    rw [isValV_no hx] at q
    exact q H (L2.Same.refl H)
  | true =>
    refine g_orK (fun c => nomatch c) (fun _ => ?_)
    cases x with
    | str z =>
      have hl := hz z rfl
      have e : isValV (.str z) = (decide (z.length ≤ 60) && z.cps.toList.all signOk) := rfl
      rw [e] at q
      wtm_at "go"
      refine g_lenS hl ?_
      wtm_at "go"
      refine g_br (fun c => ?_) (fun c => ?_)
      · have c' : (60 : Int) < (z.length : Int) := of_decide_eq_true c
        rw [decide_eq_false (show ¬ z.length ≤ 60 by omega), Bool.false_and] at q
        wtm_at "go"
        exact q H (L2.Same.refl H)
      · have c' : ¬ (60 : Int) < (z.length : Int) := of_decide_eq_false c
        rw [decide_eq_true (show z.length ≤ 60 by omega), Bool.true_and] at q
        wtm_at "go"
        refine g_lcS (z := z) (fun c => .bl (signOk c)) (fun R r => by wtm_at "go"; exact r) (by have : z.cps.size = z.length := rfl; omega) (fun x => rfl) (fun c H1 QE hc s1 k => ?_) (fun p H1 n1 s1 e1 => ?_)
        · have es : signOk c = (decide (32 ≤ c) && decide (c ≤ 126)) := rfl
          rw [es] at k
          wtm_at "go"
          rw [sign_lo]
          refine g_chK (fun c1 => ?_) (fun c1 => ?_)
          · wtm_at "go"
            rw [sign_hi]
            rw [c1, Bool.true_and] at k
            exact k
          · rw [c1, Bool.false_and] at k
            exact k
        · wtm_at "go"
          refine g_all (bs := z.cps.toList.map signOk) (SqL.of (by rw [e1, List.map_map]; rfl)) ?_
          rw [List.all_map]
          exact q H1 s1
    | _ => cases hx
theorem ok_is_number (T : Tx K mg) : FnOk P w K mg base CX0 2 T.a_is_number T.d_is_number ["thing"] (sp_is_number K) := by
  refine T.F_is_number.ok sc_is_number (fun vs H Q E h => ?_) (fun cdv A outer s H vs Q E hr h => ?_)
  · obtain ⟨x, d, rfl, _⟩ := h
    rfl
  obtain ⟨x, d, rfl, ht, q⟩ := h
  refine ⟨_, (pss_one (ps_ret (pe_and (pe_call (ok_is_whole T) hr (by rfl) T.g_is_whole T.F_is_whole.kp T.b_is_whole .nil pass0 (pa_cons (pv 0) pa_nil)) (pe_one (pe_cmpR op_ge (pv 0) pe_int (nomark _)))))), ?_⟩
  wtm_at "go"
  refine ⟨x, rfl, ⟨_, dp_tyb ht⟩, ?_⟩
  rw [dp_int ht]
  refine g_andV (fun c => ?_) (fun c => ?_)
  · obtain ⟨i, rfl⟩ := tyD_int (of_decide_eq_true c)
    cases dp_i ht
    wtm_at "go"
    exact q
  · have e : isNumD d = false := by
      cases d <;> first | rfl | exact absurd rfl (of_decide_eq_false c)
    rw [e] at q
    exact q
theorem ok_is_two (T : Tx K mg) : FnOk P w K mg base CX0 1 T.a_is_two T.d_is_two ["thing"] (sp_is_two K) := by
  refine T.F_is_two.ok sc_is_two (fun vs H Q E h => ?_) (fun cdv A outer s H vs Q E hr h => ?_)
  · obtain ⟨x, d, rfl, _⟩ := h
    rfl
  obtain ⟨x, d, rfl, ht, q⟩ := h
  refine ⟨_, (pss_one (ps_ret (pe_and (pe_cmpR my_isTy (pe_callTy call_type1 (by rfl) T.z_type (by decide +kernel) (pa_cons (pv 0) pa_nil)) (pe_bltn (v := .ty "tuple") (by rfl) T.z_tuple (by decide +kernel) rfl) (nomark _)) (pe_one (pe_cmpR op_eq (pe_callB my_len (by rfl) T.z_len PySem.boot_len (pa_cons (pv 0) pa_nil)) pe_int (nomark _)))))), ?_⟩
  have hty := dp_tyb ht
  wtm_at "go"
  refine g_andV (fun c => ?_) (fun c => ?_)
  · obtain ⟨ds, rfl⟩ := tyD_tuple (of_decide_eq_true c)
    obtain ⟨a, xs, rfl, hs, hd⟩ := dp_tuple ht
    wtm_at "go"
    have e : isTwoD (.tuple ds) = decide (V.int (xs.length : Int) = V.int 2) := by
      show decide (ds.length = 2) = _
      rw [dpAll_len hd]
      by_cases h2 : ds.length = 2
      · rw [h2]; rfl
      · rw [decide_eq_false h2, decide_eq_false]
        intro z
        have := V.int.inj z
        omega
    rw [e] at q
    exact q
  · have e : isTwoD d = false := by
      cases d <;> first | rfl | exact absurd rfl (of_decide_eq_false c)
    rw [e] at q
    exact q
theorem ok_is_pair (T : Tx K mg) : FnOk P w K mg base CX0 3 T.a_is_pair T.d_is_pair ["thing", "word"] (sp_is_pair K) := by
  refine T.F_is_pair.ok sc_is_pair (fun vs H Q E h => ?_) (fun cdv A outer s H vs Q E hr h => ?_)
  · obtain ⟨x, d, wd, rfl, _⟩ := h
    rfl
  obtain ⟨x, d, wd, rfl, ht, hf, q⟩ := h
  refine ⟨_, (pss_cons (ps_if (pt_not (pt_val (pe_call (ok_is_two T) (hr.mono (by decide)) (by rfl) T.g_is_two T.F_is_two.kp T.b_is_two .nil pass0 (pa_cons (pv 0) pa_nil))))
      (pss_one (ps_ret pe_bl))
      pss_nil)
    (pss_cons (ps_asg (pv 0) (pg_tup rfl (pgs_cons (pg_name (i := 2) sc_is_pair.nd rfl (Or.inl rfl)) (pgs_cons (pg_name (i := 3) sc_is_pair.nd rfl (Or.inl rfl)) pgs_nil))))
    (pss_cons (ps_if (pt_cmpR op_eq (pv 1) pe_str (nomark _))
      (pss_one (ps_ret (pe_and (pe_call (ok_is_key T) hr (by rfl) T.g_is_key T.F_is_key.kp T.b_is_key .nil pass0 (pa_cons (pv 2) pa_nil)) (pe_one (pe_call (ok_is_value T) (hr.mono (by decide)) (by rfl) T.g_is_value T.F_is_value.kp T.b_is_value .nil pass0 (pa_cons (pv 3) pa_nil))))))
      pss_nil)
    (pss_one (ps_ret (pe_and (pe_call (ok_is_key T) hr (by rfl) T.g_is_key T.F_is_key.kp T.b_is_key .nil pass0 (pa_cons (pv 2) pa_nil)) (pe_one (pe_call (ok_is_number T) hr (by rfl) T.g_is_number T.F_is_number.kp T.b_is_number .nil pass0 (pa_cons (pv 3) pa_nil))))))))), ?_⟩
  wtm_at "go"
  refine ⟨x, d, rfl, ht, ?_⟩
  cases h2 : isTwoD d with
  | false =>
    wtm_at "go"
    refine g_br (fun _ => ?_) (fun c => nomatch c)
    wtm_at "go"
    rw [isPairD_not2 h2] at q
    exact q H (L2.Same.refl H)
  | true =>
    wtm_at "go"
    refine g_br (fun c => nomatch c) (fun _ => ?_)
    obtain ⟨kd, hd, rfl⟩ := isTwoD_two h2
    obtain ⟨a, xs, rfl, hs, ha⟩ := dp_tuple ht
    obtain ⟨k, h, rfl, hk, hh⟩ := dpAll_two ha
    have ep : isPairD wd (.tuple [kd, hd]) = (isKeyD kd && heldD wd hd) := rfl
    rw [ep] at q
    wtm_at "go"
    have thk : Thing0 K H k := ⟨_, dp_tyb hk⟩
    have thh : Thing K H h := ⟨_, dp_tyb hh, fun z e => by
      subst e
      cases hh
      exact hf _ _ rfl⟩
    refine g_br (fun c => ?_) (fun c => ?_)
    · have ew : wd = leafW := by
        have := of_decide_eq_true c
        exact V.str.inj this
      wtm_at "go"
      refine ⟨k, rfl, thk, ?_⟩
      rw [dp_key hk]
      refine g_andV (fun c2 => ?_) (fun c2 => ?_)
      · wtm_at "go"
        refine ⟨h, rfl, thh, fun H1 s1 => ?_⟩
        rw [c2, Bool.true_and, show heldD wd hd = isValD hd from if_pos ew] at q
        rw [dp_val hh]
        exact q H1 s1
      · rw [c2, Bool.false_and] at q
        exact q H (L2.Same.refl H)
    · have ew : ¬ wd = leafW := fun e => of_decide_eq_false c (congrArg V.str e)
      wtm_at "go"
      refine ⟨k, rfl, thk, ?_⟩
      rw [dp_key hk]
      refine g_andV (fun c2 => ?_) (fun c2 => ?_)
      · wtm_at "go"
        refine ⟨h, hd, rfl, hh, ?_⟩
        rw [c2, Bool.true_and, show heldD wd hd = isNumD hd from if_neg ew] at q
        exact q H (L2.Same.refl H)
      · rw [c2, Bool.false_and] at q
        exact q H (L2.Same.refl H)
theorem ok_rises (T : Tx K mg) : FnOk P w K mg base CX0 1 T.a_rises T.d_rises ["pairs"] (sp_rises K) := by
  refine T.F_rises.ok sc_rises (fun vs H Q E h => ?_) (fun cdv A outer s H vs Q E hr h => ?_)
  · obtain ⟨a, xs, ds, rfl, _⟩ := h
    rfl
  obtain ⟨a, xs, ds, rfl, hs, hd, hl, hk, q⟩ := h
  refine ⟨_, (pss_one (ps_ret (pe_callB (cr_all rfl) (by rfl) T.z_all (by decide +kernel) (pa_cons (pe_lc (own := [("at", 1)]) (g := gName 1) (tt := tYes) rfl sc_rises.nd (pi_range1 (by rfl) T.z_range (pa_cons (pe_op op_sub (pe_callB my_len (by rfl) T.z_len PySem.boot_len (pa_cons (pv 0) pa_nil)) pe_int) pa_nil)) (blkOk_by (own := [("at", 1)]) (N := N_rises) (sc := defScope s_rises) (by decide +kernel)) (fun _ _ _ _ _ => (pg_name (i := 1) sc_rises.nd rfl (Or.inl rfl))) (fun _ _ _ _ _ => pts_nil) (fun _ _ _ _ _ => (pe_cmpR op_lt (pe_ix (ixTK (K := K) rfl) (pe_ix (ixTK (K := K) rfl) (pv 0) (pv 1) (fun _ _ => rfl)) pe_int (fun _ _ => rfl)) (pe_ix (ixTK (K := K) rfl) (pe_ix (ixTK (K := K) rfl) (pv 0) (pe_op op_add (pv 1) pe_int) (fun _ _ => rfl)) pe_int (fun _ _ => rfl)) (nomark _)))) pa_nil)))), ?_⟩
  have lx := dpAll_len hd
  have get : ∀ i : Nat, i < xs.length → ∃ p r, xs[i]? = some (.ref p) ∧ SqT K H p (.int ((ds.map keyD).getD i 0) :: r) := fun i hi => by
    obtain ⟨d, e, hx⟩ := dpAll_get hd i xs[i] (List.getElem?_eq_getElem hi)
    obtain ⟨k, y, rfl⟩ := hk d (List.mem_of_getElem? e)
    obtain ⟨p, zs, ep, hp, hz⟩ := dp_tuple hx
    obtain ⟨k', y', rfl, hk', _⟩ := dpAll_two hz
    cases dp_i hk'
    refine ⟨p, [y'], by rw [List.getElem?_eq_getElem hi, ep], ?_⟩
    rw [List.getD_eq_getElem?_getD, List.getElem?_map, e]
    exact hp
  wtm_at "go"
  refine g_lcR1 (n := (xs.length : Int) - 1) (fun i y H => y = .bl (decide ((ds.map keyD).getD i 0 < (ds.map keyD).getD (i + 1) 0))) (fun R r => by wtm_at "go"; exact r) (by omega) (fun x => rfl)
    (fun i y H1 H2 st e => e) (fun i H1 QE hi s1 k => ?_) (fun p ys H1 n1 s1 e1 hyl hys => ?_)
  · obtain ⟨p1, r1, x1, h1⟩ := get i (by omega)
    obtain ⟨p2, r2, x2, h2⟩ := get (i + 1) (by omega)
    wtm_at "go"
    refine g_ixT (Same.seqT s1 hs) (atI_nat x1) ?_
    wtm_at "go"
    refine g_ixT (Same.seqT s1 h1) (atI_nat (j := 0) rfl) ?_
    wtm_at "go"
    refine g_ixT (Same.seqT s1 hs) (atI_nat (j := i + 1) x2) ?_
    wtm_at "go"
    refine g_ixT (Same.seqT s1 h2) (atI_nat (j := 0) rfl) ?_
    wtm_at "go"
    exact k _ H1 (L2.Same.refl _) rfl
  · wtm_at "go"
    have ey : ys = ((List.range (ds.length - 1)).map fun i => decide ((ds.map keyD).getD i 0 < (ds.map keyD).getD (i + 1) 0)).map V.bl := by
      refine list_eq (by rw [hyl, List.length_map, List.length_map, List.length_range]; omega) fun i y hy => ?_
      have hi := (List.getElem?_eq_some_iff.mp hy).1
      rw [hys i y hy, List.map_map, List.getElem?_map, List.getElem?_range (by omega)]
      rfl
    subst ey
    refine g_all (SqL.of e1) ?_
    rw [List.all_map]
    have e2 : risesI (ds.map keyD) = (List.range (ds.length - 1)).all (id ∘ fun i => decide ((ds.map keyD).getD i 0 < (ds.map keyD).getD (i + 1) 0)) := by
      unfold risesI
      rw [List.length_map]
      rfl
    rw [← e2]
    exact q H1 s1
theorem ok_is_block (T : Tx K mg) : FnOk P w K mg base CX0 4 T.a_is_block T.d_is_block ["thing", "least", "most"] (sp_is_block K) := by
  refine T.F_is_block.ok sc_is_block (fun vs H Q E h => ?_) (fun cdv A outer s H vs Q E hr h => ?_)
  · obtain ⟨x, d, l, m, rfl, _⟩ := h
    rfl
  obtain ⟨x, d, l, m, rfl, ht, hf, q⟩ := h
  refine ⟨_, (pss_cons (ps_if (pt_not (pt_val (pe_call (ok_is_two T) (hr.mono (by decide)) (by rfl) T.g_is_two T.F_is_two.kp T.b_is_two .nil pass0 (pa_cons (pv 0) pa_nil))))
      (pss_one (ps_ret pe_bl))
      pss_nil)
    (pss_cons (ps_asg (pv 0) (pg_tup rfl (pgs_cons (pg_name (i := 3) sc_is_block.nd rfl (Or.inr rfl)) (pgs_cons (pg_name (i := 4) sc_is_block.nd rfl (Or.inl rfl)) pgs_nil))))
    (pss_cons (ps_if (pw_or (pt_cmpR op_notTyB (pe_callTy call_type1 (by rfl) T.z_type (by decide +kernel) (pa_cons (pv 3) pa_nil)) (pe_bltn (v := .ty "str") (by rfl) T.z_str (by decide +kernel) rfl) (nomark _)) (pw_or1 (pt_cmpR op_notIn_seq (pv 3) (pe_tup (pa_cons pe_str (pa_cons pe_str pa_nil))) (by with_unfolding_all rfl)))).pt
      (pss_one (ps_ret pe_bl))
      pss_nil)
    (pss_cons (ps_if (pw_or (pt_cmpR op_notTyB (pe_callTy call_type1 (by rfl) T.z_type (by decide +kernel) (pa_cons (pv 4) pa_nil)) (pe_bltn (v := .ty "tuple") (by rfl) T.z_tuple (by decide +kernel) rfl) (nomark _)) (pw_or1 (pt_not (pt_chain op_le op_le (pv 1) (pe_callB my_len (by rfl) T.z_len PySem.boot_len (pa_cons (pv 4) pa_nil)) (pv 2))))).pt
      (pss_one (ps_ret pe_bl))
      pss_nil)
    (pss_one (ps_ret (pe_and (pe_callB (cr_all rfl) (by rfl) T.z_all (by decide +kernel) (pa_cons (pe_lc (own := [("pair", 5)]) (g := gName 5) (tt := tYes) rfl sc_is_block.nd (pi_tup (pv 4)) (blkOk_by (own := [("pair", 5)]) (N := N_is_block) (sc := defScope s_is_block) (by decide +kernel)) (fun _ _ _ _ _ => (pg_name (i := 5) sc_is_block.nd rfl (Or.inl rfl))) (fun _ _ _ _ _ => pts_nil) (fun _ _ _ _ _ => (pe_call (ok_is_pair T) hr (by rfl) T.g_is_pair T.F_is_pair.kp T.b_is_pair .nil pass0 (pa_cons (pv 5) (pa_cons (pv 3) pa_nil))))) pa_nil)) (pe_one (pe_call (ok_rises T) (hr.mono (by decide)) (by rfl) T.g_rises T.F_rises.kp T.b_rises .nil pass0 (pa_cons (pv 4) pa_nil)))))))))), ?_⟩
  wtm_at "go"
  refine ⟨x, d, rfl, ht, ?_⟩
  cases h2 : isTwoD d with
  | false =>
    wtm_at "go"
    refine g_br (fun _ => ?_) (fun c => nomatch c)
    wtm_at "go"
    rw [isBlockD_not2 h2] at q
    exact q H (L2.Same.refl H)
  | true =>
    wtm_at "go"
    refine g_br (fun c => nomatch c) (fun _ => ?_)
    obtain ⟨wd, pd, rfl⟩ := isTwoD_two h2
    obtain ⟨a, xs, rfl, hs, ha⟩ := dp_tuple ht
    obtain ⟨wv, pv', rfl, hw, hp⟩ := dpAll_two ha
    have tw := dp_tyb hw
    have tp := dp_tyb hp
    wtm_at "go"
    cases cw : decide (tyD wd = "str") with
    | false =>
      refine g_orK (fun _ => ?_) (fun c => nomatch c)
      wtm_at "go"
      rw [isBlockD_word (of_decide_eq_false cw)] at q
      exact q H (L2.Same.refl H)
    | true =>
      refine g_orK (fun c => nomatch c) (fun _ => ?_)
      obtain ⟨ws, rfl⟩ := tyD_str (of_decide_eq_true cw)
      cases dp_str hw
      wtm_at "go"
      refine g_tupK (by wtm_at "ln") fun p1 H1 n1 s1 e1 => ?_
      refine g_in (.inr (SqT.of e1)) rfl rfl ?_
      have ew : (if true = true then !inV (.str ws) [V.str (Str.ofString "leaf"), V.str (Str.ofString "branch")] else inV (.str ws) [V.str (Str.ofString "leaf"), V.str (Str.ofString "branch")]) = !(decide (ws = leafW) || decide (ws = branchW)) := by
        rw [if_pos rfl]
        unfold inV
        rw [List.any_cons, List.any_cons, List.any_nil, Bool.or_false]
        show (!(decide (leafW = ws) || decide (branchW = ws))) = _
        rw [show decide (leafW = ws) = decide (ws = leafW) from decide_eq_decide.mpr eq_comm, show decide (branchW = ws) = decide (ws = branchW) from decide_eq_decide.mpr eq_comm]
      rw [ew]
      wtm_at "go"
      cases cb : (decide (ws = leafW) || decide (ws = branchW)) with
      | false =>
        refine g_br (fun _ => ?_) (fun c => nomatch c)
        wtm_at "go"
        have e : isBlockD l m (.tuple [.str ws, pd]) = false := by
          cases pd <;> first | rfl | (show ((decide (ws = leafW) || decide (ws = branchW)) && _ && _) = false; rw [cb]; rfl)
        rw [e] at q
        exact q H1 s1
      | true =>
        refine g_br (fun c => nomatch c) (fun _ => ?_)
        have tp1 := dp_tyb (Dp.go s1 hp)
        wtm_at "go"
        cases cp : decide (tyD pd = "tuple") with
        | false =>
          refine g_orK (fun _ => ?_) (fun c => nomatch c)
          wtm_at "go"
          rw [isBlockD_pairs (of_decide_eq_false cp)] at q
          exact q H1 s1
        | true =>
          refine g_orK (fun c => nomatch c) (fun _ => ?_)
          obtain ⟨ps, rfl⟩ := tyD_tuple (of_decide_eq_true cp)
          obtain ⟨b, ys, rfl, hb, hd⟩ := dp_tuple (Dp.go s1 hp)
          obtain ⟨hlen, hfit⟩ := hf _ _ rfl
          have ly := dpAll_len hd
          have ebl : isBlockD l m (.tuple [.str ws, .tuple ps]) = ((decide (l ≤ (ps.length : Int)) && decide ((ps.length : Int) ≤ m)) && (ps.all (isPairD ws) && risesI (ps.map keyD))) := by
            show ((decide (ws = leafW) || decide (ws = branchW)) && _ && _) = _
            rw [cb, Bool.true_and]
          rw [ebl, ← ly] at q
          wtm_at "go"
          have fin : ∀ H2, Same H1 H2 → (decide (l ≤ (ys.length : Int)) && decide ((ys.length : Int) ≤ m)) = false → Q (.bl false) H2 := fun H2 s2 c => by
            rw [c, Bool.false_and] at q
            exact q H2 (s1.trans s2)
          refine g_chK (fun c1 => ?_) (fun c1 => ?_)
          · wtm_at "go"
            refine g_br (fun c2 => ?_) (fun c2 => ?_)
            · wtm_at "go"
              refine fin H1 (L2.Same.refl H1) ?_
              rw [c1, Bool.true_and]
              simpa using c2
            · have c3 : decide ((ys.length : Int) ≤ m) = true := by simpa using c2
              rw [c1, c3, Bool.true_and, Bool.true_and] at q
              wtm_at "go"
              refine g_lcT (xs := ys) (fun i y H => ∃ d, ps[i]? = some d ∧ y = .bl (isPairD ws d)) (fun R r => by wtm_at "go"; exact r) hb (by omega) (fun x => rfl)
                (fun i y H1 H2 st e => e) (fun i x H2 QE hx s2 k => ?_) (fun p2 zs H2 n2 s2 e2 hzl hzs => ?_)
              · obtain ⟨d, hd1, hd2⟩ := dpAll_get hd i x hx
                wtm_at "go"
                refine ⟨x, d, ws, rfl, Dp.go s2 hd2, hfit d (List.mem_of_getElem? hd1), fun H3 s3 => ?_⟩
                exact k _ H3 s3 ⟨d, hd1, rfl⟩
              · have ez : zs = (ps.map (isPairD ws)).map V.bl := bools_of (by rw [hzl, ly]) hzs
                subst ez
                wtm_at "go"
                refine g_all (SqL.of e2) ?_
                have ea : (ps.map (isPairD ws)).all id = ps.all (isPairD ws) := by rw [List.all_map]; rfl
                rw [ea]
                refine g_andV (fun c4 => ?_) (fun c4 => ?_)
                · wtm_at "go"
                  refine ⟨b, ys, ps, rfl, Same.seqT s2 hb, DpAll.go s2 hd, by omega, fun d hd5 => isPairD_key (List.all_eq_true.mp c4 d hd5), fun H3 s3 => ?_⟩
                  rw [c4, Bool.true_and] at q
                  exact q H3 (s1.trans (s2.trans s3))
                · rw [c4, Bool.false_and] at q
                  exact q H2 (s1.trans s2)
          · wtm_at "go"
            refine g_br (fun c2 => ?_) (fun c2 => nomatch c2)
            wtm_at "go"
            refine fin H1 (L2.Same.refl H1) ?_
            rw [c1, Bool.false_and]
theorem ok_l_cell_at (T : Tx K mg) : FnOk P w K mg base CX0 1 T.a_l_cell_at T.d_l_cell_at ["_law_script", "_law_k"] (sp_cell K) := by
  refine T.F_l_cell_at.ok sc_l_cell_at (fun vs H Q E h => ?_) (fun cdv A outer s H vs Q E hr h => ?_)
  · obtain ⟨a, ns, k, rfl, _⟩ := h
    rfl
  obtain ⟨a, ns, k, rfl, hS, h0, q⟩ := h
  refine ⟨_, (pss_cons (ps_if (pt_cmpR op_lt (pv 1) (pe_callB my_len (by rfl) T.z_len PySem.boot_len (pa_cons (pv 0) pa_nil)) (nomark _))
      (pss_one (ps_ret (pe_ix ix_list (pv 0) (pv 1) (fun _ _ => rfl))))
      pss_nil)
    (pss_one (ps_ret pe_int))), ?_⟩
  wtm_at "go"
  refine g_br (fun c => ?_) (fun c => ?_)
  · have c' : k < ((ns.map V.int).length : Int) := of_decide_eq_true c
    rw [List.length_map] at c'
    wtm_at "go"
    exact g_ixL hS (atI_cell h0 c') q
  · have c' : ¬ k < ((ns.map V.int).length : Int) := of_decide_eq_false c
    rw [List.length_map] at c'
    rw [cell_out c'] at q
    wtm_at "go"
    exact q
theorem ok_l_says (T : Tx K mg) : FnOk P w K mg base CX0 1 T.a_l_says T.d_l_says ["_law_found", "_law_due"] sp_l_says := by
  refine T.F_l_says.ok sc_l_says (fun vs H Q E h => ?_) (fun cdv A outer s H vs Q E hr h => ?_)
  · obtain ⟨f, d, rfl, _⟩ := h
    rfl
  obtain ⟨f, d, rfl, q⟩ := h
  refine ⟨_, (pss_one (ps_ret (pe_and (pe_or (pe_cmpR op_isBl (pv 0) pe_bl (nomark _)) (pe_one (pe_cmpR op_isBl (pv 0) pe_bl (nomark _)))) (pe_one (pe_cmpR op_eq (pv 0) (pv 1) (nomark _)))))), ?_⟩
  wtm_at "go"
  have e : decide (V.bl f = V.bl d) = decide (f = d) := by cases f <;> cases d <;> rfl
  cases f with
  | true =>
    refine g_orV (fun _ => ?_) (fun c => nomatch c)
    refine g_andV (fun _ => ?_) (fun c => nomatch c)
    wtm_at "go"
    rw [e]
    exact q
  | false =>
    refine g_orV (fun c => nomatch c) (fun _ => ?_)
    wtm_at "go"
    refine g_andV (fun _ => ?_) (fun c => nomatch c)
    wtm_at "go"
    rw [e]
    exact q
theorem ok_l_value_by (T : Tx K mg) : FnOk P w K mg base CX0 1 T.a_l_value_by T.d_l_value_by ["_law_cell"] sp_l_value_by := by
  refine T.F_l_value_by.ok sc_l_value_by (fun vs H Q E h => ?_) (fun cdv A outer s H vs Q E hr h => ?_)
  · obtain ⟨c, rfl, _⟩ := h
    rfl
  obtain ⟨c, rfl, h0, h1, q⟩ := h
  refine ⟨_, (pss_cons (ps_set (i := 1) sc_l_value_by.nd rfl (Or.inr rfl) pe_str)
    (pss_cons (ps_set (i := 1) sc_l_value_by.nd rfl (Or.inr rfl) (pe_op my_addS (pv 1) pe_str))
    (pss_cons (ps_set (i := 0) sc_l_value_by.nd rfl (Or.inr rfl) (pe_op op_mod (pe_op op_mulX (pv 0) pe_int) pe_int))
    (pss_cons (ps_set (i := 2) sc_l_value_by.nd rfl (Or.inl rfl) (pe_op op_mod (pv 0) pe_int))
    (Evl.pss_cut (ps_if (pt_cmpR op_eq (pe_op op_mod (pe_op op_fdiv (pv 0) pe_int) pe_int) pe_int (nomark _))
      (pss_one (ps_set (i := 2) sc_l_value_by.nd rfl (Or.inl rfl) (pe_op op_mod (pe_op op_fdiv (pv 0) pe_int) pe_int)))
      pss_nil)
    (pss_cons (ps_set (i := 3) sc_l_value_by.nd rfl (Or.inr rfl) (pe_ix ix_list (pe_lst (pa_cons pe_int (pa_cons pe_int (pa_cons pe_int pa_nil)))) (pe_op op_mod (pe_op op_fdiv (pv 0) pe_int) pe_int) (fun _ _ => rfl)))
    (pss_one (ps_ret (my_join pe_str (pe_lc (own := [("_law_k", 4)]) (g := gName 4) (tt := tYes) rfl sc_l_value_by.nd (pi_range1 (by rfl) T.z_range (pa_cons (pv 2) pa_nil)) (blkOk_by (own := [("_law_k", 4)]) (N := N_l_value_by) (sc := defScope s_l_value_by) (by decide +kernel)) (fun _ _ _ _ _ => (pg_name (i := 4) sc_l_value_by.nd rfl (Or.inl rfl))) (fun _ _ _ _ _ => pts_nil) (fun _ _ _ _ _ => (pe_ix ix_str (pv 1) (pe_op op_mod (pe_op op_add (pe_op op_fdiv (pv 0) pe_int) (pe_op op_mulX (pv 3) (pv 4))) pe_int) (fun _ _ => rfl))))))))))))), ?_⟩
  wtm_at "go"
  refine g_addS (by decide +kernel) ?_
  have el : ((Str.ofString " !\"#$&'()*+,-./0123456789:;<=>?@ABCDEFGHIJKLMNOPQRSTUVWXYZ[\\]^_`") ++ (Str.ofString "abcdefghijklmnopqrstuvwxyz{|}~")).cps.toList = someL := rfl
  generalize (Str.ofString " !\"#$&'()*+,-./0123456789:;<=>?@ABCDEFGHIJKLMNOPQRSTUVWXYZ[\\]^_`") ++ (Str.ofString "abcdefghijklmnopqrstuvwxyz{|}~") = so at el
  have hso : so.length ≤ sizeLine := by rw [str_len, el, someL_len]; decide
  wtm_at "go"
  have hc0 := Int.emod_nonneg (c * 69621) (show (2097143 : Int) ≠ 0 by decide)
  have hc1 := Int.emod_lt_of_pos (c * 69621) (show (0 : Int) < 2097143 by decide)
  generalize c * 69621 % 2097143 = m at hc0 hc1
  refine g_cut (fun σ' H' => ∃ z : Int, σ' = [some (.int m), some (.str so), some (.int z), none, none] ∧ H' = H ∧ 0 ≤ z ∧ z ≤ 60) ?_ ?_
  · wtm_at "go"
    refine g_br (fun c => ?_) (fun c => ?_) <;> (wtm_at "go"; exact ⟨_, rfl, rfl, by omega, by omega⟩)
  rintro σ' H1 ⟨z, rfl, rfl, hz0, hz1⟩
  wtm_at "go"
  refine g_lstK (by wtm_at "ln") fun p H2 n2 s2 e2 => ?_
  wtm_at "go"
  have hst : ∃ st : Int, atI [V.int 0, V.int 1, V.int 7] (m / 915 % 3) = some (.int st) ∧ 0 ≤ st ∧ st ≤ 7 := by
    have h3 : m / 915 % 3 = 0 ∨ m / 915 % 3 = 1 ∨ m / 915 % 3 = 2 := by omega
    rcases h3 with h | h | h <;> rw [h]
    · exact ⟨0, atI_nat (j := 0) rfl, by decide, by decide⟩
    · exact ⟨1, atI_nat (j := 1) rfl, by decide, by decide⟩
    · exact ⟨7, atI_nat (j := 2) rfl, by decide, by decide⟩
  obtain ⟨st, est, hst0, hst1⟩ := hst
  refine g_ixL (SqL.of e2) est ?_
  wtm_at "go"
  refine g_m1 (fun R r => by wtm_at "go"; exact r) ?_
  refine g_lcR1 (n := z) (fun i y H => y = .str ⟨#[someL.getD ((m / 2745 + st * (i : Int)) % 94).toNat 0]⟩) (fun R r => by wtm_at "go"; exact r) (by omega) (fun x => rfl)
    (fun i y H1 H2 st e => e) (fun i H1 QE hi s1 k => ?_) (fun p ys H1 n1 s1 e1 hyl hys => ?_)
  · have b1 := Int.emod_nonneg (m / 2745 + st * (i : Int)) (show (94 : Int) ≠ 0 by decide)
    have b2 := Int.emod_lt_of_pos (m / 2745 + st * (i : Int)) (show (0 : Int) < 94 by decide)
    wtm_at "go"
    generalize (m / 2745 + st * (i : Int)) % 94 = ix at b1 b2 k
    have e3 : atI so.cps.toList ix = some (someL.getD ix.toNat 0) := by
      rw [el, show ix = ((ix.toNat : Nat) : Int) by omega]
      refine atI_nat ?_
      have h3 : ix.toNat < someL.length := by rw [someL_len]; omega
      rw [Int.toNat_natCast, List.getD_eq_getElem?_getD, List.getElem?_eq_getElem h3]
      rfl
    exact g_ixS hso e3 (k _ H1 (L2.Same.refl _) rfl)
  · have ey : ys = ((signsF (fun i => m / 2745 + st * (i : Int)) z.toNat).map fun c => (⟨#[c]⟩ : Str)).map V.str := by
      rw [← strL]
      refine list_eq (by rw [hyl, List.length_map, signsF_len]) fun i y hy => ?_
      have hi := (List.getElem?_eq_some_iff.mp hy).1
      rw [hys i y hy]
      unfold signsF
      rw [List.map_map, List.getElem?_map, List.getElem?_range (by omega)]
      rfl
    subst ey
    have hj := join_signs (signsF (fun i => m / 2745 + st * (i : Int)) z.toNat)
    refine g_join (SqL.of e1) ?_ ?_
    · rw [sum_ones, List.length_map, signsF_len, show (Str.ofString "").length = 0 by decide +kernel]
      omega
    · have hl : (Txt.join (Str.ofString "") ((signsF (fun i => m / 2745 + st * (i : Int)) z.toNat).map fun c => (⟨#[c]⟩ : Str))).length = z.toNat := by rw [str_len, hj, signsF_len]
      refine q _ H1 (s2.trans s1) ?_ (by omega)
      show (decide (_ ≤ 60) && _) = true
      rw [hj, signsF_ok, Bool.and_true]
      exact decide_eq_true (by omega)
theorem ok_l_pairs_by (T : Tx K mg) : FnOk P w K mg base CX0 2 T.a_l_pairs_by T.d_l_pairs_by ["_law_kind", "_law_start", "_law_size", "_law_cell"] (sp_l_pairs_by K) := by
  refine T.F_l_pairs_by.ok sc_l_pairs_by (fun vs H Q E h => ?_) (fun cdv A outer s H vs Q E hr h => ?_)
  · obtain ⟨w, st, n, c, rfl, _⟩ := h
    rfl
  obtain ⟨wd, st, n, c, rfl, h0, h1, hc0, hc1, q⟩ := h
  refine ⟨_, (pss_cons (ps_if (pt_cmpR op_eq (pv 0) pe_str (nomark _))
      (pss_one (ps_ret (pe_lc (own := [("_law_k", 4)]) (g := gName 4) (tt := tYes) rfl sc_l_pairs_by.nd (pi_range1 (by rfl) T.z_range (pa_cons (pv 2) pa_nil)) (blkOk_by (own := [("_law_k", 4)]) (N := N_l_pairs_by) (sc := defScope s_l_pairs_by) (by decide +kernel)) (fun _ _ _ _ _ => (pg_name (i := 4) sc_l_pairs_by.nd rfl (Or.inl rfl))) (fun _ _ _ _ _ => pts_nil) (fun _ _ _ _ _ => (pe_tup (pa_cons (pe_op op_add (pv 1) (pe_op op_mulX pe_int (pv 4))) (pa_cons (pe_call (ok_l_value_by T) hr (by rfl) T.g_l_value_by T.F_l_value_by.kp T.b_l_value_by .nil pass0 (pa_cons (pe_op op_add (pv 3) (pv 4)) pa_nil)) pa_nil)))))))
      pss_nil)
    (pss_one (ps_ret (pe_lc (own := [("_law_k", 4)]) (g := gName 4) (tt := tYes) rfl sc_l_pairs_by.nd (pi_range1 (by rfl) T.z_range (pa_cons (pv 2) pa_nil)) (blkOk_by (own := [("_law_k", 4)]) (N := N_l_pairs_by) (sc := defScope s_l_pairs_by) (by decide +kernel)) (fun _ _ _ _ _ => (pg_name (i := 4) sc_l_pairs_by.nd rfl (Or.inl rfl))) (fun _ _ _ _ _ => pts_nil) (fun _ _ _ _ _ => (pe_tup (pa_cons (pe_op op_add (pv 1) (pe_op op_mulX pe_int (pv 4))) (pa_cons (pe_op op_add pe_int (pe_op op_mod (pe_op op_add (pv 3) (pe_op op_mulX pe_int (pv 4))) pe_int)) pa_nil)))))))), ?_⟩
  have fin : ∀ p ys H1, H p = none → Same H H1 → H1 p = some (.lst ys) → ys.length = n.toNat → (∀ (i : Nat) y, ys[i]? = some y → ∃ h, Dp K H1 y (.tuple [.int (st + 2 * (i : Int)), h]) ∧ heldD wd h = true ∧ (∀ z, h = .str z → z.length ≤ 60)) → Q (.ref p) H1 := fun p ys H1 np s1 e1 hyl hys => by
    obtain ⟨ds, hl, hds⟩ := exists_data (ys := ys) (R := fun i y d => Dp K H1 y d ∧ ∃ h, d = .tuple [.int (st + 2 * (i : Int)), h] ∧ heldD wd h = true ∧ (∀ z, h = .str z → z.length ≤ 60)) fun i y hy => by
      obtain ⟨h, h1, h2, h3⟩ := hys i y hy
      exact ⟨_, h1, h, rfl, h2, h3⟩
    refine q p ys ds H1 np s1 e1 (dpAll_of hl.symm fun i v d hv hd => (hds i v d hv hd).1) (by rw [hl, hyl]) fun i d hd => ?_
    have hi := (List.getElem?_eq_some_iff.mp hd).1
    exact (hds i _ d (List.getElem?_eq_getElem (by omega)) hd).2
  wtm_at "go"
  refine g_br (fun cc => ?_) (fun cc => ?_)
  · have ew : wd = leafW := V.str.inj (of_decide_eq_true cc)
    wtm_at "go"
    refine g_lcR1 (n := n) (fun i y H => ∃ (p : Addr) (z : Str), y = .ref p ∧ H p = some (.tup [.int (st + 2 * (i : Int)), .str z]) ∧ isValD (.str z) = true ∧ z.length ≤ 60) (fun R r => by wtm_at "go"; exact r) (by omega) (fun x => rfl)
      (fun i y H1 H2 stl ⟨p, z, e, r, r2⟩ => ⟨p, z, e, stl.tup r, r2⟩) (fun i H1 QE hi s1 k => ?_) (fun p ys H1 n1 s1 e1 hyl hys => ?_)
    · wtm_at "go"
      refine ⟨_, rfl, by omega, by omega, fun z H2 s2 hz hzl => ?_⟩
      wtm_at "go"
      refine g_tupK (by wtm_at "ln") fun p H3 n3 s3 e3 => ?_
      exact k _ H3 (s2.trans s3) ⟨p, z, rfl, e3, hz, hzl⟩
    · refine fin p ys H1 n1 s1 e1 hyl fun i y hy => ?_
      obtain ⟨p, z, rfl, e, hz, hzl⟩ := hys i y hy
      refine ⟨.str z, .tup (SqT.of e) (.cons (.int _) (.cons (.str _) .nil)), ?_, fun z' e => by cases e; exact hzl⟩
      unfold heldD
      rw [if_pos ew]
      exact hz
  · have ew : ¬ wd = leafW := fun e => of_decide_eq_false cc (congrArg V.str e)
    wtm_at "go"
    refine g_lcR1 (n := n) (fun i y H => ∃ (p : Addr) (z : Int), y = .ref p ∧ H p = some (.tup [.int (st + 2 * (i : Int)), .int z]) ∧ 1 ≤ z) (fun R r => by wtm_at "go"; exact r) (by omega) (fun x => rfl)
      (fun i y H1 H2 stl ⟨p, z, e, r, r2⟩ => ⟨p, z, e, stl.tup r, r2⟩) (fun i H1 QE hi s1 k => ?_) (fun p ys H1 n1 s1 e1 hyl hys => ?_)
    · wtm_at "go"
      refine g_tupK (by wtm_at "ln") fun p H3 n3 s3 e3 => ?_
      exact k _ H3 s3 ⟨p, _, rfl, e3, by omega⟩
    · refine fin p ys H1 n1 s1 e1 hyl fun i y hy => ?_
      obtain ⟨p, z, rfl, e, hz⟩ := hys i y hy
      refine ⟨.int z, .tup (SqT.of e) (.cons (.int _) (.cons (.int _) .nil)), ?_, fun z' e => nomatch e⟩
      unfold heldD
      rw [if_neg ew]
      exact decide_eq_true hz
theorem good_fit {wd : Str} {st : Int} {ds : List PyData} (hg : Good wd st ds) : ∀ d ∈ ds, FitP d := fun d hd k z e => by
  obtain ⟨i, hi⟩ := List.getElem?_of_mem hd
  obtain ⟨h, e2, _, h3⟩ := hg i d hi
  rw [e] at e2
  cases e2
  exact sz (by have := h3 z rfl; omega)
theorem fit_held {k h : PyData} (hz : ∀ z, h = .str z → z.length ≤ 60) : FitP (.tuple [k, h]) := fun k' z e => by
  cases e
  exact sz (by have := hz z rfl; omega)
theorem fit_not2 {d : PyData} (h : isTwoD d = false) : FitP d := fun k z e => by
  subst e
  cases h
set_option maxHeartbeats 400000 in
theorem ok_l_pair_spoilt (T : Tx K mg) : FnOk P w K mg base CX0 1 T.a_l_pair_spoilt T.d_l_pair_spoilt ["_law_pairs", "_law_at", "_law_way"] (sp_l_pair_spoilt K) := by
  refine T.F_l_pair_spoilt.ok sc_l_pair_spoilt (fun vs H Q E h => ?_) (fun cdv A outer s H vs Q E hr h => ?_)
  · obtain ⟨w, st, a1, way, a, xs, ds, rfl, _⟩ := h
    rfl
  obtain ⟨wd, st, pl, way, a, xs, ds, rfl, ha, hd, hg, hl, hs1, hs2, hp0, hp1, hw0, hw1, q⟩ := h
  refine ⟨_, (pss_cons (ps_set (i := 3) sc_l_pair_spoilt.nd rfl (Or.inl rfl) (pe_ix ix_list (pv 0) (pv 1) (fun _ _ => rfl)))
    (pss_cons (ps_set (i := 4) sc_l_pair_spoilt.nd rfl (Or.inl rfl) (pe_lst (pa_cons (pe_tup (pa_cons (pe_ix ix_tup (pv 3) pe_int (fun _ _ => rfl)) pa_nil)) (pa_cons (pe_tup (pa_cons (pe_ix ix_tup (pv 3) pe_int (fun _ _ => rfl)) (pa_cons (pe_ix ix_tup (pv 3) pe_int (fun _ _ => rfl)) (pa_cons (pe_ix ix_tup (pv 3) pe_int (fun _ _ => rfl)) pa_nil)))) (pa_cons (pe_callTy my_list (by rfl) T.z_list (by decide +kernel) (pa_cons (pv 3) pa_nil)) (pa_cons (pe_tup (pa_cons pe_bl (pa_cons (pe_ix ix_tup (pv 3) pe_int (fun _ _ => rfl)) pa_nil))) (pa_cons (pe_tup (pa_cons (pe_ix ix_tup (pv 3) pe_int (fun _ _ => rfl)) (pa_cons pe_non pa_nil))) (pa_cons (pe_tup (pa_cons (pe_op op_pow pe_int pe_int) (pa_cons (pe_ix ix_tup (pv 3) pe_int (fun _ _ => rfl)) pa_nil))) pa_nil))))))))
    (pss_cons (ps_set (i := 4) sc_l_pair_spoilt.nd rfl (Or.inl rfl) (pe_op op_cat (pv 4) (pe_lst (pa_cons (pe_tup (pa_cons (pe_callTy my_strI (by rfl) T.z_str (by decide +kernel) (pa_cons (pe_ix ix_tup (pv 3) pe_int (fun _ _ => rfl)) pa_nil)) (pa_cons (pe_ix ix_tup (pv 3) pe_int (fun _ _ => rfl)) pa_nil))) (pa_cons (pe_tup (pa_cons (pe_ix ix_tup (pv 3) pe_int (fun _ _ => rfl)) (pa_cons (pe_lst (pa_cons (pe_ix ix_tup (pv 3) pe_int (fun _ _ => rfl)) pa_nil)) pa_nil))) (pa_cons (pe_tup (pa_cons (pe_ix ix_tup (pv 3) pe_int (fun _ _ => rfl)) (pa_cons pe_bl pa_nil))) (pa_cons pe_non (pa_cons (pe_tup (pa_cons (pe_ix ix_tup (pv 3) pe_int (fun _ _ => rfl)) (pa_cons pe_int pa_nil))) (pa_cons (pe_tup (pa_cons (pe_ix ix_tup (pv 3) pe_int (fun _ _ => rfl)) (pa_cons (pe_un un_neg pe_int) pa_nil))) pa_nil)))))))))
    (pss_cons (ps_set (i := 4) sc_l_pair_spoilt.nd rfl (Or.inl rfl) (pe_op op_cat (pv 4) (pe_lst (pa_cons (pe_tup (pa_cons (pe_un un_neg (pe_op op_pow pe_int pe_int)) (pa_cons (pe_ix ix_tup (pv 3) pe_int (fun _ _ => rfl)) pa_nil))) pa_nil))))
    (pss_cons (ps_if (pt_cmpR op_lt (pv 2) pe_int (nomark _))
      (pss_one (ps_ret (pe_op op_cat (pe_op op_cat (pe_slice sl_list (pv 0) po_none (po_some (pv 1))) (pe_lst (pa_cons (pe_ix ix_list (pv 4) (pv 2) (fun _ _ => rfl)) pa_nil))) (pe_slice sl_list (pv 0) (po_some (pe_op op_add (pv 1) pe_int)) po_none))))
      pss_nil)
    (pss_cons (ps_if (pt_cmpR op_eq (pv 2) pe_int (nomark _))
      (pss_one (ps_ret (pe_op op_cat (pe_op op_cat (pe_slice sl_list (pv 0) po_none (po_some (pv 1))) (pe_lst (pa_cons (pv 3) (pa_cons (pv 3) pa_nil)))) (pe_slice sl_list (pv 0) (po_some (pe_op op_add (pv 1) pe_int)) po_none))))
      pss_nil)
    (pss_one (ps_ret (pe_op op_cat (pe_op op_cat (pe_slice sl_list (pv 0) po_none (po_some (pv 1))) (pe_lst (pa_cons (pv 3) (pa_cons (pe_tup (pa_cons (pe_op op_sub (pe_ix ix_tup (pv 3) pe_int (fun _ _ => rfl)) pe_int) (pa_cons (pe_ix ix_tup (pv 3) pe_int (fun _ _ => rfl)) pa_nil))) pa_nil)))) (pe_slice sl_list (pv 0) (po_some (pe_op op_add (pv 1) pe_int)) po_none)))))))))), ?_⟩
  obtain ⟨m, rfl⟩ : ∃ m : Nat, pl = (m : Int) := ⟨pl.toNat, by omega⟩
  have hm : m < ds.length := by omega
  obtain ⟨h, eh, hh, hz⟩ := hg m ds[m] (List.getElem?_eq_getElem hm)
  obtain ⟨x, ex, hx⟩ := dpAll_at hd (List.getElem?_eq_getElem hm)
  rw [eh] at hx
  have hk1 : (st + 2 * (m : Int)).natAbs.log2 < 1920 := log_small (by omega) (by omega)
  generalize ek : st + 2 * (m : Int) = k at hk1 hx eh
  wtm_at "go"
  refine g_ixL (SqL.of ha) (atI_nat ex) ?_
  wtm_at "go0"
  refine evn_asg (K := K) (by wtm_at "ev") fun p1 xs1 H1 n1 s1 e1 d1 => ?_
  wtm_at "red"
  have hx1 := Dp.go s1 hx
  refine evn_asg (K := K) (by wtm_at "ev") fun p2 xs2 H2 n2 s2 e2 d2 => ?_
  wtm_at "red"
  have hx2 := Dp.go s2 hx1
  refine evn_asg (K := K) (by wtm_at "ev") fun p3 xs3 H3 n3 s3 e3 d3 => ?_
  wtm_at "red"
  have hx3 := Dp.go s3 hx2
  have s03 := s1.trans (s2.trans s3)
  have hP : Dp K H3 (.ref a) (.list ds) := .lst (SqL.of (s03 _ _ ha)) (DpAll.go s03 hd)
  have hS : Dp K H3 (.ref p3) (.list _) := .lst (SqL.of e3) d3
  clear hx hx1 hx2 d1 d2 e1 e2
  have t1 : ((m : Int)).toNat = m := Int.toNat_natCast m
  have t2 : ((m : Int) + 1).toNat = m + 1 := by omega
  wtm_at "go"
  refine g_br (fun c => ?_) (fun c => ?_)
  · have c' : way < 13 := of_decide_eq_true c
    have hb : ∃ bad, ([PyData.tuple [.int k], .tuple [.int k, h, h], .list [.int k, h], .tuple [.bool true, h], .tuple [.int k, .none], .tuple [.int (10 ^ Int.toNat 60), h]] ++ [.tuple [.str (toString k), h], .tuple [.int k, .list [h]], .tuple [.int k, .bool true], .none, .tuple [.int k, .int 0], .tuple [.int k, .int (-1)]] ++ [.tuple [.int (-10 ^ Int.toNat 60), h]])[way.toNat]? = some bad ∧ isPairD wd bad = false ∧ FitP bad := by
      have h13 : way.toNat = 0 ∨ way.toNat = 1 ∨ way.toNat = 2 ∨ way.toNat = 3 ∨ way.toNat = 4 ∨ way.toNat = 5 ∨ way.toNat = 6 ∨ way.toNat = 7 ∨ way.toNat = 8 ∨ way.toNat = 9 ∨ way.toNat = 10 ∨ way.toNat = 11 ∨ way.toNat = 12 := by omega
      have no : ∀ x, isValD x = false → isNumD x = false → isPairD wd (.tuple [.int k, x]) = false := fun x h1 h2 => by
        show (isKeyD (.int k) && heldD wd x) = false
        rw [held_no h1 h2, Bool.and_false]
      have nk : ∀ x, isKeyD x = false → isPairD wd (.tuple [x, h]) = false := fun x h1 => by
        show (isKeyD x && heldD wd h) = false
        rw [h1, Bool.false_and]
      rcases h13 with e | e | e | e | e | e | e | e | e | e | e | e | e <;> rw [e]
      · exact ⟨_, rfl, rfl, fit_not2 rfl⟩
      · exact ⟨_, rfl, rfl, fit_not2 rfl⟩
      · exact ⟨_, rfl, rfl, fit_not2 rfl⟩
      · exact ⟨_, rfl, nk _ rfl, fit_held hz⟩
      · exact ⟨_, rfl, no _ rfl rfl, fit_held fun z e => nomatch e⟩
      · exact ⟨_, rfl, nk _ (by decide +kernel), fit_held hz⟩
      · exact ⟨_, rfl, nk _ rfl, fit_held hz⟩
      · exact ⟨_, rfl, no _ rfl rfl, fit_held fun z e => nomatch e⟩
      · exact ⟨_, rfl, no _ rfl rfl, fit_held fun z e => nomatch e⟩
      · exact ⟨_, rfl, rfl, fit_not2 rfl⟩
      · exact ⟨_, rfl, no _ rfl rfl, fit_held fun z e => nomatch e⟩
      · exact ⟨_, rfl, no _ rfl rfl, fit_held fun z e => nomatch e⟩
      · exact ⟨_, rfl, nk _ (by decide +kernel), fit_held hz⟩
    obtain ⟨bad, hb1, hb2, hb3⟩ := hb
    refine evn_ret (K := K) (by wtm_at "ev") fun p4 xs4 H4 n4 s4 e4 d4 => ?_
    rw [t1, t2] at d4
    refine q p4 xs4 _ H4 (s03.trans s4) e4 d4 (by simp only [List.length_append, List.length_take, List.length_drop, List.length_cons, List.length_nil]; omega) (fun d hd => ?_) (by rw [all_mid hb2, Bool.false_and])
    rcases List.mem_append.mp hd with hd | hd
    · rcases List.mem_append.mp hd with hd | hd
      · exact good_fit hg d (List.mem_of_mem_take hd)
      · cases List.mem_singleton.mp hd
        exact hb3
    · exact good_fit hg d (List.mem_of_mem_drop hd)
  · wtm_at "go"
    have fin : ∀ d2 : PyData, ¬ k < keyD d2 → FitP d2 → ∀ p4 xs4 H4, Same H3 H4 → H4 p4 = some (.lst xs4) → DpAll K H4 xs4 ((ds.take m ++ [.tuple [.int k, h], d2]) ++ ds.drop (m + 1)) → Q (.ref p4) H4 := fun d2 hk hf p4 xs4 H4 s4 e4 d4 => by
      refine q p4 xs4 _ H4 (s03.trans s4) e4 d4 (by simp only [List.length_append, List.length_take, List.length_drop, List.length_cons, List.length_nil]; omega) (fun d hd => ?_) (by rw [rises_mid (x := .tuple [.int k, h]) hk, Bool.and_false])
      rcases List.mem_append.mp hd with hd | hd
      · rcases List.mem_append.mp hd with hd | hd
        · exact good_fit hg d (List.mem_of_mem_take hd)
        · rcases List.mem_cons.mp hd with e | hd
          · rw [e]; exact fit_held hz
          · cases List.mem_singleton.mp hd
            exact hf
      · exact good_fit hg d (List.mem_of_mem_drop hd)
    refine g_br (fun c2 => ?_) (fun c2 => ?_)
    · refine evn_ret (K := K) (by wtm_at "ev") fun p4 xs4 H4 n4 s4 e4 d4 => ?_
      rw [t1, t2] at d4
      exact fin (.tuple [.int k, h]) (by show ¬ k < k; omega) (fit_held hz) p4 xs4 H4 s4 e4 d4
    · refine g_next ?_
      wtm_at "red"
      refine evn_ret (K := K) (by wtm_at "ev") fun p4 xs4 H4 n4 s4 e4 d4 => ?_
      rw [t1, t2] at d4
      exact fin (.tuple [.int (k - 1), h]) (by show ¬ k < k - 1; omega) (fit_held hz) p4 xs4 H4 s4 e4 d4
theorem block_false {l m : Int} {w : Str} {es : List PyData} (h : (es.all (isPairD w) && risesI (es.map keyD)) = false) : isBlockD l m (.tuple [.str w, .tuple es]) = false := by
  show ((decide (w = leafW) || decide (w = branchW)) && _ && _) = false
  rw [h, Bool.and_false]
theorem block_word {l m : Int} {w : Str} {es : List PyData} (h1 : w ≠ leafW) (h2 : w ≠ branchW) : isBlockD l m (.tuple [.str w, .tuple es]) = false := by
  show ((decide (w = leafW) || decide (w = branchW)) && _ && _) = false
  rw [decide_eq_false h1, decide_eq_false h2]
  rfl
theorem fitB_not {d : PyData} (h : ∀ w ps, d ≠ .tuple [w, .tuple ps]) : FitB d := fun w ps e => absurd e (h w ps)
theorem fitB_of {w : PyData} {ps : List PyData} (h : ps.length ≤ 30000) (hf : ∀ p ∈ ps, FitP p) : FitB (.tuple [w, .tuple ps]) := fun w' ps' e => by
  cases e
  exact ⟨h, hf⟩
theorem ok_l_spoilt (T : Tx K mg) : FnOk P w K mg base CX0 2 T.a_l_spoilt T.d_l_spoilt ["_law_kind", "_law_pairs", "_law_at", "_law_way"] (sp_l_spoilt K) := by
  refine T.F_l_spoilt.ok sc_l_spoilt (fun vs H Q E h => ?_) (fun cdv A outer s H vs Q E hr h => ?_)
  · obtain ⟨w, st, a1, way, a, xs, ds, rfl, _⟩ := h
    rfl
  obtain ⟨wd, st, pl, way, a, xs, ds, rfl, ha, hd, hg, hl, hw, hs1, hs2, hp0, hp1, hw0, hw1, q⟩ := h
  refine ⟨_, (pss_cons (ps_if (pt_cmpR op_lt (pv 3) pe_int (nomark _))
      (pss_one (ps_ret (pe_tup (pa_cons (pv 0) (pa_cons (pe_callTy my_tuple (by rfl) T.z_tuple (by decide +kernel) (pa_cons (pe_call (ok_l_pair_spoilt T) hr (by rfl) T.g_l_pair_spoilt T.F_l_pair_spoilt.kp T.b_l_pair_spoilt .nil pass0 (pa_cons (pv 1) (pa_cons (pv 2) (pa_cons (pv 3) pa_nil)))) pa_nil)) pa_nil)))))
      pss_nil)
    (pss_cons (ps_if (pt_cmpR op_eq (pv 3) pe_int (nomark _))
      (pss_one (ps_ret (pe_tup (pa_cons (pv 0) (pa_cons (pe_callTy my_list (by rfl) T.z_list (by decide +kernel) (pa_cons (pv 1) pa_nil)) pa_nil)))))
      pss_nil)
    (pss_cons (ps_if (pt_cmpR op_eq (pv 3) pe_int (nomark _))
      (pss_one (ps_ret (pe_lst (pa_cons (pv 0) (pa_cons (pe_callTy my_tuple (by rfl) T.z_tuple (by decide +kernel) (pa_cons (pv 1) pa_nil)) pa_nil)))))
      pss_nil)
    (pss_cons (ps_set (i := 4) sc_l_spoilt.nd rfl (Or.inl rfl) (pe_lst (pa_cons (pe_tup (pa_cons (pe_op my_addS (pv 0) pe_str) (pa_cons (pe_callTy my_tuple (by rfl) T.z_tuple (by decide +kernel) (pa_cons (pv 1) pa_nil)) pa_nil))) (pa_cons (pe_tup (pa_cons (pv 0) (pa_cons (pe_callTy my_tuple (by rfl) T.z_tuple (by decide +kernel) (pa_cons (pv 1) pa_nil)) (pa_cons pe_int pa_nil)))) (pa_cons (pe_tup (pa_cons (pv 0) pa_nil)) (pa_cons (pe_tup pa_nil) (pa_cons pe_non (pa_cons (pe_tup (pa_cons pe_int (pa_cons (pe_callTy my_tuple (by rfl) T.z_tuple (by decide +kernel) (pa_cons (pv 1) pa_nil)) pa_nil))) pa_nil))))))))
    (pss_one (ps_ret (pe_ix ix_list (pe_op op_cat (pv 4) (pe_lst (pa_cons (pe_tup (pa_cons pe_non (pa_cons (pe_callTy my_tuple (by rfl) T.z_tuple (by decide +kernel) (pa_cons (pv 1) pa_nil)) pa_nil))) (pa_cons (pe_tup (pa_cons (pe_tup (pa_cons (pv 0) pa_nil)) (pa_cons (pe_callTy my_tuple (by rfl) T.z_tuple (by decide +kernel) (pa_cons (pv 1) pa_nil)) pa_nil))) pa_nil)))) (pe_op op_sub (pv 3) pe_int) (fun _ _ => rfl)))))))), ?_⟩
  have hP : Dp K H (.ref a) (.list ds) := .lst (SqL.of ha) hd
  have hF := fitB_of (w := .str wd) (show ds.length ≤ 30000 by omega) (good_fit hg)
  have hws : wd.length + (Str.ofString "s").length ≤ 100000 := by
    rcases hw with e | e <;> rw [e] <;> decide +kernel
  have hn1 : wd ++ Str.ofString "s" ≠ leafW := by
    rcases hw with e | e <;> rw [e] <;> decide +kernel
  have hn2 : wd ++ Str.ofString "s" ≠ branchW := by
    rcases hw with e | e <;> rw [e] <;> decide +kernel
  wtm_at "go"
  refine g_br (fun c => ?_) (fun c => ?_)
  · have c' : way < 15 := of_decide_eq_true c
    wtm_at "go"
    refine ⟨wd, st, pl, way, a, xs, ds, rfl, ha, hd, hg, hl, hs1, hs2, hp0, hp1 c', hw0, c', fun p ys es H1 s1 e1 d1 hlen hfit hfalse => ?_⟩
    wtm_at "go"
    refine g_tupleL (SqL.of e1) fun p2 H2 n2 s2 e2 => ?_
    wtm_at "go"
    refine g_tupK (by wtm_at "ln") fun p3 H3 n3 s3 e3 => ?_
    exact q _ (.tuple [.str wd, .tuple es]) H3 (s1.trans (s2.trans s3)) (.tup (SqT.of e3) (.cons (.str _) (.cons (.tup (SqT.of (s3 _ _ e2)) (DpAll.go (s2.trans s3) d1)) .nil))) (fitB_of (by omega) hfit) (block_false hfalse)
  · refine g_next ?_
    wtm_at "go"
    refine g_br (fun c2 => ?_) (fun c2 => ?_)
    · refine evd_ret (K := K) (by wtm_at "ev") fun x H1 s1 hx => ?_
      exact q x _ H1 s1 hx (fitB_not fun w ps e => nomatch e) (isBlockD_pairs (by simp [tyD]))
    · refine g_next ?_
      wtm_at "go"
      refine g_br (fun c3 => ?_) (fun c3 => ?_)
      · refine evd_ret (K := K) (by wtm_at "ev") fun x H1 s1 hx => ?_
        exact q x _ H1 s1 hx (fitB_not fun w ps e => nomatch e) rfl
      · refine g_next ?_
        wtm_at "red"
        have ne15 : way ≠ 15 := fun e => of_decide_eq_false c2 (by rw [e])
        have ne16 : way ≠ 16 := fun e => of_decide_eq_false c3 (by rw [e])
        have c' : ¬ way < 15 := of_decide_eq_false c
        refine evn_asg (K := K) (by wtm_at "ev") fun p1 xs1 H1 n1 s1 e1 d1 => ?_
        wtm_at "red"
        have hP1 : Dp K H1 (.ref a) (.list ds) := Dp.go s1 hP
        have hb : ∃ d, ([PyData.tuple [.str (wd ++ Str.ofString "s"), .tuple ds], .tuple [.str wd, .tuple ds, .int 7], .tuple [.str wd], .tuple [], .none, .tuple [.int 7, .tuple ds]] ++ [.tuple [.none, .tuple ds], .tuple [.tuple [.str wd], .tuple ds]])[(way - 17).toNat]? = some d ∧ FitB d ∧ isBlockD 0 70 d = false := by
          have h8 : (way - 17).toNat = 0 ∨ (way - 17).toNat = 1 ∨ (way - 17).toNat = 2 ∨ (way - 17).toNat = 3 ∨ (way - 17).toNat = 4 ∨ (way - 17).toNat = 5 ∨ (way - 17).toNat = 6 ∨ (way - 17).toNat = 7 := by omega
          have hf := fun w => fitB_of (w := w) (show ds.length ≤ 30000 by omega) (good_fit hg)
          rcases h8 with e | e | e | e | e | e | e | e <;> rw [e]
          · exact ⟨_, rfl, hf _, block_word hn1 hn2⟩
          · exact ⟨_, rfl, fitB_not (fun w ps e => nomatch e), rfl⟩
          · exact ⟨_, rfl, fitB_not (fun w ps e => nomatch e), rfl⟩
          · exact ⟨_, rfl, fitB_not (fun w ps e => nomatch e), rfl⟩
          · exact ⟨_, rfl, fitB_not (fun w ps e => nomatch e), rfl⟩
          · exact ⟨_, rfl, hf _, rfl⟩
          · exact ⟨_, rfl, hf _, rfl⟩
          · exact ⟨_, rfl, hf _, rfl⟩
        obtain ⟨d, hd1, hd2, hd3⟩ := hb
        refine evd_ret (K := K) (by wtm_at "ev") fun x H2 s2 hx => ?_
        exact q x d H2 (s1.trans s2) hx hd2 hd3
theorem good_block {l m : Int} {wd : Str} {st : Int} {ds : List PyData} (hw : wd = leafW ∨ wd = branchW) (hg : Good wd st ds) (h1 : -KB < st) (h2 : st + 2 * (ds.length : Int) < KB) :
    isBlockD l m (.tuple [.str wd, .tuple ds]) = (decide (l ≤ (ds.length : Int)) && decide ((ds.length : Int) ≤ m)) := by
  have e1 : (decide (wd = leafW) || decide (wd = branchW)) = true := by
    rcases hw with e | e <;> rw [e] <;> decide +kernel
  have e2 : ds.all (isPairD wd) = true := by
    rw [List.all_eq_true]
    intro d hd
    obtain ⟨i, hi⟩ := List.getElem?_of_mem hd
    obtain ⟨h, rfl, hh, _⟩ := hg i d hi
    have hlt := (List.getElem?_eq_some_iff.mp hi).1
    show (isKeyD (.int (st + 2 * (i : Int))) && heldD wd h) = true
    rw [hh, Bool.and_true]
    show (decide (-KB < st + 2 * (i : Int)) && decide (st + 2 * (i : Int) < KB)) = true
    rw [decide_eq_true (by omega), decide_eq_true (by omega)]
    rfl
  have e3 : risesI (ds.map keyD) = true := by
    rw [rises_iff, List.pairwise_iff_getElem]
    intro i j hi hj hij
    rw [List.length_map] at hi hj
    obtain ⟨h, e, _, _⟩ := hg i ds[i] (List.getElem?_eq_getElem hi)
    obtain ⟨h', e', _, _⟩ := hg j ds[j] (List.getElem?_eq_getElem hj)
    rw [List.getElem_map, List.getElem_map, e, e']
    show st + 2 * (i : Int) < st + 2 * (j : Int)
    omega
  show ((decide (wd = leafW) || decide (wd = branchW)) && _ && _) = _
  rw [e1, e2, e3, Bool.true_and, Bool.and_self, Bool.and_true]
theorem ok_law {f : Addr} {fd : FuncData} (F : Fun K "law" "law" s_law f fd) (T : Tx K mg) : FnOk P w K mg base CX0 5 f fd ["_law_script"] (spLaw K) := by
  refine F.ok sc_law (fun vs H Q E h => ?_) (fun cdv A outer s H vs Q E hr h => ?_)
  · obtain ⟨a, ns, rfl, _⟩ := h
    rfl
  obtain ⟨a, ns, rfl, hS, hl, hb, q⟩ := h
  refine ⟨_, (pss_cons (ps_set (i := 1) sc_law.nd rfl (Or.inl rfl) (pe_ix ix_list (pe_lst (pa_cons pe_str (pa_cons pe_str pa_nil))) (pe_op op_mod (pe_call (ok_l_cell_at T) (hr.mono (by decide)) (by rfl) T.g_l_cell_at T.F_l_cell_at.kp T.b_l_cell_at .nil pass0 (pa_cons (pv 0) (pa_cons pe_int pa_nil))) pe_int) (fun _ _ => rfl)))
    (pss_cons (ps_set (i := 2) sc_law.nd rfl (Or.inl rfl) (pe_op op_mod (pe_call (ok_l_cell_at T) (hr.mono (by decide)) (by rfl) T.g_l_cell_at T.F_l_cell_at.kp T.b_l_cell_at .nil pass0 (pa_cons (pv 0) (pa_cons pe_int pa_nil))) pe_int))
    (Evl.pss_cut (ps_if (pt_cmpR op_eq (pe_op op_mod (pe_op op_fdiv (pe_call (ok_l_cell_at T) (hr.mono (by decide)) (by rfl) T.g_l_cell_at T.F_l_cell_at.kp T.b_l_cell_at .nil pass0 (pa_cons (pv 0) (pa_cons pe_int pa_nil))) pe_int) pe_int) pe_int (nomark _))
      (pss_one (ps_set (i := 2) sc_law.nd rfl (Or.inl rfl) (pe_op op_mod (pe_op op_fdiv (pe_call (ok_l_cell_at T) (hr.mono (by decide)) (by rfl) T.g_l_cell_at T.F_l_cell_at.kp T.b_l_cell_at .nil pass0 (pa_cons (pv 0) (pa_cons pe_int pa_nil))) pe_int) pe_int)))
      pss_nil)
    (pss_cons (ps_set (i := 3) sc_law.nd rfl (Or.inl rfl) (pe_op op_add (pe_op op_sub (pe_op op_mod (pe_op op_mulX (pe_call (ok_l_cell_at T) (hr.mono (by decide)) (by rfl) T.g_l_cell_at T.F_l_cell_at.kp T.b_l_cell_at .nil pass0 (pa_cons (pv 0) (pa_cons pe_int pa_nil))) (pe_op op_add (pe_op op_pow pe_int pe_int) pe_int)) (pe_op op_sub (pe_op op_mulX pe_int (pe_op op_pow pe_int pe_int)) pe_int)) (pe_op op_pow pe_int pe_int)) pe_int))
    (pss_cons (ps_set (i := 4) sc_law.nd rfl (Or.inl rfl) (pe_call (ok_l_pairs_by T) (hr.mono (by decide)) (by rfl) T.g_l_pairs_by T.F_l_pairs_by.kp T.b_l_pairs_by .nil pass0 (pa_cons (pv 1) (pa_cons (pv 3) (pa_cons (pv 2) (pa_cons (pe_op op_mod (pe_call (ok_l_cell_at T) (hr.mono (by decide)) (by rfl) T.g_l_cell_at T.F_l_cell_at.kp T.b_l_cell_at .nil pass0 (pa_cons (pv 0) (pa_cons pe_int pa_nil))) pe_int) pa_nil))))))
    (pss_cons (ps_set (i := 5) sc_law.nd rfl (Or.inl rfl) (pe_op op_add (pe_op op_sub (pv 2) pe_int) (pe_op op_mod (pe_call (ok_l_cell_at T) (hr.mono (by decide)) (by rfl) T.g_l_cell_at T.F_l_cell_at.kp T.b_l_cell_at .nil pass0 (pa_cons (pv 0) (pa_cons pe_int pa_nil))) pe_int)))
    (pss_cons (ps_set (i := 6) sc_law.nd rfl (Or.inl rfl) (pe_op op_add (pe_op op_sub (pv 2) pe_int) (pe_op op_mod (pe_op op_fdiv (pe_call (ok_l_cell_at T) (hr.mono (by decide)) (by rfl) T.g_l_cell_at T.F_l_cell_at.kp T.b_l_cell_at .nil pass0 (pa_cons (pv 0) (pa_cons pe_int pa_nil))) pe_int) pe_int)))
    (pss_cons (ps_if (pt_not (pt_val (pe_call (ok_l_says T) (hr.mono (by decide)) (by rfl) T.g_l_says T.F_l_says.kp T.b_l_says .nil pass0 (pa_cons (pe_call (ok_is_block T) hr (by rfl) T.g_is_block T.F_is_block.kp T.b_is_block .nil pass0 (pa_cons (pe_tup (pa_cons (pv 1) (pa_cons (pe_callTy my_tuple (by rfl) T.z_tuple (by decide +kernel) (pa_cons (pv 4) pa_nil)) pa_nil))) (pa_cons (pv 5) (pa_cons (pv 6) pa_nil)))) (pa_cons (pe_and (pe_cmpR op_le (pv 5) (pv 2) (nomark _)) (pe_one (pe_cmpR op_le (pv 2) (pv 6) (nomark _)))) pa_nil)))))
      (pss_one (ps_ret pe_bl))
      pss_nil)
    (pss_cons (ps_set (i := 7) sc_law.nd rfl (Or.inl rfl) (pe_op op_mod (pe_op op_mod (pe_op op_mulX (pe_call (ok_l_cell_at T) (hr.mono (by decide)) (by rfl) T.g_l_cell_at T.F_l_cell_at.kp T.b_l_cell_at .nil pass0 (pa_cons (pv 0) (pa_cons pe_int pa_nil))) pe_int) pe_int) pe_int))
    (Evl.pss_cut (ps_if (pt_cmpR op_gt (pv 7) pe_int (nomark _))
      (pss_one (ps_set (i := 7) sc_law.nd rfl (Or.inl rfl) (pe_op op_add pe_int (pe_op op_mod (pv 7) pe_int))))
      pss_nil)
    (pss_cons (ps_if (pw_or (pt_cmpR op_eq (pe_op op_mod (pe_call (ok_l_cell_at T) (hr.mono (by decide)) (by rfl) T.g_l_cell_at T.F_l_cell_at.kp T.b_l_cell_at .nil pass0 (pa_cons (pv 0) (pa_cons pe_int pa_nil))) pe_int) pe_int (nomark _)) (pw_or1 (pw_and (pt_cmpR op_eq (pv 2) pe_int (nomark _)) (pw_and1 (pt_cmpR op_lt (pv 7) pe_int (nomark _)))).pt)).pt
      (pss_one (ps_ret (pe_cmpR op_isBl (pe_call (ok_is_block T) hr (by rfl) T.g_is_block T.F_is_block.kp T.b_is_block .nil pass0 (pa_cons (pe_tup (pa_cons (pv 1) (pa_cons (pe_callTy my_tuple (by rfl) T.z_tuple (by decide +kernel) (pa_cons (pv 4) pa_nil)) pa_nil))) (pa_cons pe_int (pa_cons pe_int pa_nil)))) pe_bl (nomark _))))
      pss_nil)
    (pss_one (ps_ret (pe_cmpR op_isBl (pe_call (ok_is_block T) hr (by rfl) T.g_is_block T.F_is_block.kp T.b_is_block .nil pass0 (pa_cons (pe_call (ok_l_spoilt T) (hr.mono (by decide)) (by rfl) T.g_l_spoilt T.F_l_spoilt.kp T.b_l_spoilt .nil pass0 (pa_cons (pv 1) (pa_cons (pv 4) (pa_cons (pe_op op_mod (pe_call (ok_l_cell_at T) (hr.mono (by decide)) (by rfl) T.g_l_cell_at T.F_l_cell_at.kp T.b_l_cell_at .nil pass0 (pa_cons (pv 0) (pa_cons pe_int pa_nil))) (pe_callB (my_max2 rfl) (by rfl) T.z_max (by decide +kernel) (pa_cons pe_int (pa_cons (pv 2) pa_nil)))) (pa_cons (pv 7) pa_nil))))) (pa_cons pe_int (pa_cons pe_int pa_nil)))) pe_bl (nomark _))))))))))))))), ?_⟩
  wtm_at "go"
  refine g_lstK (by wtm_at "ln") fun p1 H1 n1 s1 e1 => ?_
  wtm_at "go"
  have hwd : ∃ wd, atI [V.str (Str.ofString "leaf"), V.str (Str.ofString "branch")] (cell ns 0 % 2) = some (.str wd) ∧ (wd = leafW ∨ wd = branchW) := by
    have h2 : cell ns 0 % 2 = 0 ∨ cell ns 0 % 2 = 1 := by omega
    rcases h2 with h | h <;> rw [h]
    · exact ⟨leafW, atI_nat (j := 0) rfl, .inl rfl⟩
    · exact ⟨branchW, atI_nat (j := 1) rfl, .inr rfl⟩
  obtain ⟨wd, ewd, hwd⟩ := hwd
  refine g_ixL (SqL.of e1) ewd ?_
  wtm_at "go"
  refine g_cut (fun σ' H' => ∃ z : Int, σ' = [some (.ref a), some (.str wd), some (.int z), none, none, none, none, none] ∧ H' = H1 ∧ 0 ≤ z ∧ z ≤ 64) ?_ ?_
  · wtm_at "go"
    refine g_br (fun c => ?_) (fun c => ?_) <;> (wtm_at "go"; exact ⟨_, rfl, rfl, by omega, by omega⟩)
  rintro σ' H2 ⟨z, rfl, rfl, hz0, hz1⟩
  have hpos : (0 : Int) < 2 * 10 ^ Int.toNat 60 - 300 := by decide +kernel
  wtm_at "go"
  refine g_rI (mulBits (Nat.le_trans (cell_bits hb 2) (by decide)) (by decide +kernel)) ?_
  wtm_at "go"
  have hst0 := Int.emod_nonneg (cell ns 2 * (10 ^ Int.toNat 41 + 7)) (show 2 * 10 ^ Int.toNat 60 - 300 ≠ 0 by omega)
  have hst1 := Int.emod_lt_of_pos (cell ns 2 * (10 ^ Int.toNat 41 + 7)) hpos
  rw [← KB_eq] at hst0 hst1 ⊢
  generalize cell ns 2 * (10 ^ Int.toNat 41 + 7) % (2 * KB - 300) = st0 at hst0 hst1
  obtain ⟨st, hst⟩ : ∃ st, st0 - KB + 1 = st := ⟨_, rfl⟩
  rw [hst]
  have hKB : KB < 2 ^ 200 := by decide +kernel
  refine ⟨wd, st, z, _, rfl, hz0, by omega, by omega, by omega, fun pp ys ds H3 n3 s3 e3 d3 hdl hg => ?_⟩
  wtm_at "go"
  have hdz : (ds.length : Int) = z := by omega
  have hF : ∀ w, FitB (.tuple [w, .tuple ds]) := fun w => fitB_of (by omega) (good_fit hg)
  have hgb : ∀ l m, isBlockD l m (.tuple [.str wd, .tuple ds]) = (decide (l ≤ z) && decide (z ≤ m)) := fun l m => by
    rw [good_block hwd hg (by omega) (by omega), hdz]
  refine g_tupleL (SqL.of e3) fun p4 H4 n4 s4 e4 => ?_
  wtm_at "go"
  refine g_tupK (by wtm_at "ln") fun p5 H5 n5 s5 e5 => ?_
  wtm_at "go"
  refine ⟨_, .tuple [.str wd, .tuple ds], _, _, rfl, .tup (SqT.of e5) (.cons (.str _) (.cons (.tup (SqT.of (s5 _ _ e4)) (DpAll.go (s4.trans s5) d3)) .nil)), hF _, fun H6 s6 => ?_⟩
  rw [hgb]
  wtm_at "go"
  refine g_andVJ (b := decide (z ≤ z - 1 + cell ns 4 / 4 % 4)) (fun _ R r => by wtm_at "go"; exact r) ?_
  wtm_at "go"
  rw [decide_eq_true rfl]
  wtm_at "go"
  refine g_br (fun c => nomatch c) (fun _ => ?_)
  wtm_at "go"
  refine g_cut (fun σ' H => ∃ way : Int, σ' = [some (.ref a), some (.str wd), some (.int z), some (.int st), some (.ref pp), some (.int (z - 2 + cell ns 4 % 4)), some (.int (z - 1 + cell ns 4 / 4 % 4)), some (.int way)] ∧ H = H6 ∧ 0 ≤ way ∧ way < 25) ?_ ?_
  · wtm_at "go"
    refine g_br (fun c => ?_) (fun c => ?_)
    · wtm_at "go"
      exact ⟨_, rfl, rfl, by omega, by omega⟩
    · have c' := of_decide_eq_false c
      wtm_at "go"
      exact ⟨_, rfl, rfl, by omega, by omega⟩
  rintro σ' H7 ⟨way, rfl, rfl, hw0, hw1⟩
  have s37 : Same H3 H7 := s4.trans (s5.trans s6)
  have s27 : Same H2 H7 := s3.trans s37
  have hS7 := L2.Same.seq s27 (L2.Same.seq s1 hS)
  have e37 := s37 _ _ e3
  have d37 := DpAll.go s37 d3
  clear s1 s3 s4 s5 s6 s37 s27 e3 d3 e1 e4 e5 n1 n3 n4 n5 hS
  refine g_seq ?_
  refine g_ifP True (way < 15 → 0 < z) (fun QB h1 h2 => ?_) (fun _ => ?_) (fun hway => ?_)
  · wtm_at "go"
    refine g_orK (fun _ => h1 trivial) (fun _ => ?_)
    wtm_at "go"
    refine g_andK (fun c => ?_) (fun c => ?_)
    · wtm_at "go"
      cases c2 : decide (way < 15) with
      | true => exact h1 trivial
      | false => exact h2 fun h => absurd h (of_decide_eq_false c2)
    · refine h2 fun h => ?_
      have : z ≠ 0 := fun e => of_decide_eq_false c (by rw [e])
      omega
  · wtm_at "go"
    refine g_tupleL (SqL.of e37) fun p8 H8 n8 s8 e8 => ?_
    wtm_at "go"
    refine g_tupK (by wtm_at "ln") fun p9 H9 n9 s9 e9 => ?_
    wtm_at "go"
    refine ⟨_, .tuple [.str wd, .tuple ds], _, _, rfl, .tup (SqT.of e9) (.cons (.str _) (.cons (.tup (SqT.of (s9 _ _ e8)) (DpAll.go (s8.trans s9) d37)) .nil)), hF _, fun H10 s10 => ?_⟩
    rw [hgb, decide_eq_true (by omega), decide_eq_true (by omega)]
    wtm_at "go"
    exact q _
  · refine g_next ?_
    have hmx : (0 : Int) < (if z > 1 then z else 1) := by split <;> omega
    have h60 := Int.emod_nonneg (cell ns 6) (show (if z > 1 then z else 1) ≠ 0 by omega)
    have h61 := Int.emod_lt_of_pos (cell ns 6) hmx
    wtm_at "go"
    generalize hgen : cell ns 6 % (if z > 1 then z else 1) = pl at h60 h61
    have hpl : way < 15 → pl < (ds.length : Int) := fun h => by
      have := hway h
      by_cases c : z > 1
      · rw [if_pos c] at h61; omega
      · rw [if_neg c] at h61; omega
    refine ⟨wd, st, pl, way, pp, ys, ds, rfl, e37, d37, hg, by omega, hwd, by omega, by omega, h60, hpl, hw0, hw1, fun x d H8 s8 hx hfit hfalse => ?_⟩
    wtm_at "go"
    refine ⟨x, d, 0, 70, rfl, hx, hfit, fun H9 s9 => ?_⟩
    rw [hfalse]
    wtm_at "go"
    exact q _
theorem all_mk {l : PySem.W.OpenLaw} {w : World} {K : PySem.W.Frag} {h : Heap} {mg : Str → Option Value} {fa : Addr} (X : K.In h) (G : h.Ns mainGlobals mg) (hfa : mg "law" = some (.ref fa))
    {f0 : Addr} {od0 an0 : Option Addr} {sl0 : Array (Option Value)} {oc0 kV0 dc0 pm0 cd0 ct0 : Value}
    (a0 : PySem.W.nsIn K mainGlobals "is_whole" = some (some (.ref f0))) (l0 : K.lookup f0 = some ⟨oc0, od0, .func (PySem.W.fnOf "is_whole" "is_whole" (defArgs s_is_whole) (defBody s_is_whole) (defScope s_is_whole) .none kV0 dc0 pm0 an0 cd0 ct0), sl0⟩) (c0 : PySem.W.codeIn K cd0 "is_whole" = true) (k0 : PySem.W.keepIn K (.ref f0) = true)
    {f1 : Addr} {od1 an1 : Option Addr} {sl1 : Array (Option Value)} {oc1 kV1 dc1 pm1 cd1 ct1 : Value}
    (a1 : PySem.W.nsIn K mainGlobals "is_key" = some (some (.ref f1))) (l1 : K.lookup f1 = some ⟨oc1, od1, .func (PySem.W.fnOf "is_key" "is_key" (defArgs s_is_key) (defBody s_is_key) (defScope s_is_key) .none kV1 dc1 pm1 an1 cd1 ct1), sl1⟩) (c1 : PySem.W.codeIn K cd1 "is_key" = true) (k1 : PySem.W.keepIn K (.ref f1) = true)
    {f2 : Addr} {od2 an2 : Option Addr} {sl2 : Array (Option Value)} {oc2 kV2 dc2 pm2 cd2 ct2 : Value}
    (a2 : PySem.W.nsIn K mainGlobals "is_value" = some (some (.ref f2))) (l2 : K.lookup f2 = some ⟨oc2, od2, .func (PySem.W.fnOf "is_value" "is_value" (defArgs s_is_value) (defBody s_is_value) (defScope s_is_value) .none kV2 dc2 pm2 an2 cd2 ct2), sl2⟩) (c2 : PySem.W.codeIn K cd2 "is_value" = true) (k2 : PySem.W.keepIn K (.ref f2) = true)
    {f3 : Addr} {od3 an3 : Option Addr} {sl3 : Array (Option Value)} {oc3 kV3 dc3 pm3 cd3 ct3 : Value}
    (a3 : PySem.W.nsIn K mainGlobals "is_number" = some (some (.ref f3))) (l3 : K.lookup f3 = some ⟨oc3, od3, .func (PySem.W.fnOf "is_number" "is_number" (defArgs s_is_number) (defBody s_is_number) (defScope s_is_number) .none kV3 dc3 pm3 an3 cd3 ct3), sl3⟩) (c3 : PySem.W.codeIn K cd3 "is_number" = true) (k3 : PySem.W.keepIn K (.ref f3) = true)
    {f4 : Addr} {od4 an4 : Option Addr} {sl4 : Array (Option Value)} {oc4 kV4 dc4 pm4 cd4 ct4 : Value}
    (a4 : PySem.W.nsIn K mainGlobals "is_two" = some (some (.ref f4))) (l4 : K.lookup f4 = some ⟨oc4, od4, .func (PySem.W.fnOf "is_two" "is_two" (defArgs s_is_two) (defBody s_is_two) (defScope s_is_two) .none kV4 dc4 pm4 an4 cd4 ct4), sl4⟩) (c4 : PySem.W.codeIn K cd4 "is_two" = true) (k4 : PySem.W.keepIn K (.ref f4) = true)
    {f5 : Addr} {od5 an5 : Option Addr} {sl5 : Array (Option Value)} {oc5 kV5 dc5 pm5 cd5 ct5 : Value}
    (a5 : PySem.W.nsIn K mainGlobals "is_pair" = some (some (.ref f5))) (l5 : K.lookup f5 = some ⟨oc5, od5, .func (PySem.W.fnOf "is_pair" "is_pair" (defArgs s_is_pair) (defBody s_is_pair) (defScope s_is_pair) .none kV5 dc5 pm5 an5 cd5 ct5), sl5⟩) (c5 : PySem.W.codeIn K cd5 "is_pair" = true) (k5 : PySem.W.keepIn K (.ref f5) = true)
    {f6 : Addr} {od6 an6 : Option Addr} {sl6 : Array (Option Value)} {oc6 kV6 dc6 pm6 cd6 ct6 : Value}
    (a6 : PySem.W.nsIn K mainGlobals "rises" = some (some (.ref f6))) (l6 : K.lookup f6 = some ⟨oc6, od6, .func (PySem.W.fnOf "rises" "rises" (defArgs s_rises) (defBody s_rises) (defScope s_rises) .none kV6 dc6 pm6 an6 cd6 ct6), sl6⟩) (c6 : PySem.W.codeIn K cd6 "rises" = true) (k6 : PySem.W.keepIn K (.ref f6) = true)
    {f7 : Addr} {od7 an7 : Option Addr} {sl7 : Array (Option Value)} {oc7 kV7 dc7 pm7 cd7 ct7 : Value}
    (a7 : PySem.W.nsIn K mainGlobals "is_block" = some (some (.ref f7))) (l7 : K.lookup f7 = some ⟨oc7, od7, .func (PySem.W.fnOf "is_block" "is_block" (defArgs s_is_block) (defBody s_is_block) (defScope s_is_block) .none kV7 dc7 pm7 an7 cd7 ct7), sl7⟩) (c7 : PySem.W.codeIn K cd7 "is_block" = true) (k7 : PySem.W.keepIn K (.ref f7) = true)
    {f8 : Addr} {od8 an8 : Option Addr} {sl8 : Array (Option Value)} {oc8 kV8 dc8 pm8 cd8 ct8 : Value}
    (a8 : PySem.W.nsIn K mainGlobals "_law_cell_at" = some (some (.ref f8))) (l8 : K.lookup f8 = some ⟨oc8, od8, .func (PySem.W.fnOf "_law_cell_at" "_law_cell_at" (defArgs s_l_cell_at) (defBody s_l_cell_at) (defScope s_l_cell_at) .none kV8 dc8 pm8 an8 cd8 ct8), sl8⟩) (c8 : PySem.W.codeIn K cd8 "_law_cell_at" = true) (k8 : PySem.W.keepIn K (.ref f8) = true)
    {f9 : Addr} {od9 an9 : Option Addr} {sl9 : Array (Option Value)} {oc9 kV9 dc9 pm9 cd9 ct9 : Value}
    (a9 : PySem.W.nsIn K mainGlobals "_law_value_by" = some (some (.ref f9))) (l9 : K.lookup f9 = some ⟨oc9, od9, .func (PySem.W.fnOf "_law_value_by" "_law_value_by" (defArgs s_l_value_by) (defBody s_l_value_by) (defScope s_l_value_by) .none kV9 dc9 pm9 an9 cd9 ct9), sl9⟩) (c9 : PySem.W.codeIn K cd9 "_law_value_by" = true) (k9 : PySem.W.keepIn K (.ref f9) = true)
    {f10 : Addr} {od10 an10 : Option Addr} {sl10 : Array (Option Value)} {oc10 kV10 dc10 pm10 cd10 ct10 : Value}
    (a10 : PySem.W.nsIn K mainGlobals "_law_says" = some (some (.ref f10))) (l10 : K.lookup f10 = some ⟨oc10, od10, .func (PySem.W.fnOf "_law_says" "_law_says" (defArgs s_l_says) (defBody s_l_says) (defScope s_l_says) .none kV10 dc10 pm10 an10 cd10 ct10), sl10⟩) (c10 : PySem.W.codeIn K cd10 "_law_says" = true) (k10 : PySem.W.keepIn K (.ref f10) = true)
    {f11 : Addr} {od11 an11 : Option Addr} {sl11 : Array (Option Value)} {oc11 kV11 dc11 pm11 cd11 ct11 : Value}
    (a11 : PySem.W.nsIn K mainGlobals "_law_pairs_by" = some (some (.ref f11))) (l11 : K.lookup f11 = some ⟨oc11, od11, .func (PySem.W.fnOf "_law_pairs_by" "_law_pairs_by" (defArgs s_l_pairs_by) (defBody s_l_pairs_by) (defScope s_l_pairs_by) .none kV11 dc11 pm11 an11 cd11 ct11), sl11⟩) (c11 : PySem.W.codeIn K cd11 "_law_pairs_by" = true) (k11 : PySem.W.keepIn K (.ref f11) = true)
    {f12 : Addr} {od12 an12 : Option Addr} {sl12 : Array (Option Value)} {oc12 kV12 dc12 pm12 cd12 ct12 : Value}
    (a12 : PySem.W.nsIn K mainGlobals "_law_pair_spoilt" = some (some (.ref f12))) (l12 : K.lookup f12 = some ⟨oc12, od12, .func (PySem.W.fnOf "_law_pair_spoilt" "_law_pair_spoilt" (defArgs s_l_pair_spoilt) (defBody s_l_pair_spoilt) (defScope s_l_pair_spoilt) .none kV12 dc12 pm12 an12 cd12 ct12), sl12⟩) (c12 : PySem.W.codeIn K cd12 "_law_pair_spoilt" = true) (k12 : PySem.W.keepIn K (.ref f12) = true)
    {f13 : Addr} {od13 an13 : Option Addr} {sl13 : Array (Option Value)} {oc13 kV13 dc13 pm13 cd13 ct13 : Value}
    (a13 : PySem.W.nsIn K mainGlobals "_law_spoilt" = some (some (.ref f13))) (l13 : K.lookup f13 = some ⟨oc13, od13, .func (PySem.W.fnOf "_law_spoilt" "_law_spoilt" (defArgs s_l_spoilt) (defBody s_l_spoilt) (defScope s_l_spoilt) .none kV13 dc13 pm13 an13 cd13 ct13), sl13⟩) (c13 : PySem.W.codeIn K cd13 "_law_spoilt" = true) (k13 : PySem.W.keepIn K (.ref f13) = true)
    {f14 : Addr} {od14 an14 : Option Addr} {sl14 : Array (Option Value)} {oc14 kV14 dc14 pm14 cd14 ct14 : Value}
    (a14 : PySem.W.nsIn K mainGlobals "law" = some (some (.ref f14))) (l14 : K.lookup f14 = some ⟨oc14, od14, .func (PySem.W.fnOf "law" "law" (defArgs s_law) (defBody s_law) (defScope s_law) .none kV14 dc14 pm14 an14 cd14 ct14), sl14⟩) (c14 : PySem.W.codeIn K cd14 "law" = true) (k14 : PySem.W.keepIn K (.ref f14) = true)
    {tk0 : Tok} (q0 : PySem.W.nsIn K mainGlobals "KEY_BOUND" = some (some (.int (KB) tk0)))
    {tk1 : Tok} (q1 : PySem.W.nsIn K mainGlobals "MOST_SIGNS" = some (some (.int (60) tk1)))
    (z0 : PySem.W.nsIn K mainGlobals "all" = some none)
    (z1 : PySem.W.nsIn K mainGlobals "int" = some none)
    (z2 : PySem.W.nsIn K mainGlobals "len" = some none)
    (z3 : PySem.W.nsIn K mainGlobals "list" = some none)
    (z4 : PySem.W.nsIn K mainGlobals "max" = some none)
    (z5 : PySem.W.nsIn K mainGlobals "range" = some none)
    (z6 : PySem.W.nsIn K mainGlobals "str" = some none)
    (z7 : PySem.W.nsIn K mainGlobals "tuple" = some none)
    (z8 : PySem.W.nsIn K mainGlobals "type" = some none)
    : ∃ fd : FuncData, (∀ (s : Shared) (v : Value), BindsTo s fd ⟨[v], []⟩ [("_law_script", v)]) ∧ ∀ base : Heap, K.In base → base.Ns mainGlobals mg → FnOk l.prog w K mg base CX0 5 fa fd ["_law_script"] (spLaw K) := by
  have e := hfa.symm.trans (PySem.W.mg_of X G a14)
  cases e
  have F0 := fun_mk (st := s_is_whole) l0 c0 k0
  have b0 := F0.binds (ps := ["thing"]) fun _ _ _ _ _ _ us hl => match us, hl with | [_], _ => rfl
  have F1 := fun_mk (st := s_is_key) l1 c1 k1
  have b1 := F1.binds (ps := ["thing"]) fun _ _ _ _ _ _ us hl => match us, hl with | [_], _ => rfl
  have F2 := fun_mk (st := s_is_value) l2 c2 k2
  have b2 := F2.binds (ps := ["thing"]) fun _ _ _ _ _ _ us hl => match us, hl with | [_], _ => rfl
  have F3 := fun_mk (st := s_is_number) l3 c3 k3
  have b3 := F3.binds (ps := ["thing"]) fun _ _ _ _ _ _ us hl => match us, hl with | [_], _ => rfl
  have F4 := fun_mk (st := s_is_two) l4 c4 k4
  have b4 := F4.binds (ps := ["thing"]) fun _ _ _ _ _ _ us hl => match us, hl with | [_], _ => rfl
  have F5 := fun_mk (st := s_is_pair) l5 c5 k5
  have b5 := F5.binds (ps := ["thing", "word"]) fun _ _ _ _ _ _ us hl => match us, hl with | [_, _], _ => rfl
  have F6 := fun_mk (st := s_rises) l6 c6 k6
  have b6 := F6.binds (ps := ["pairs"]) fun _ _ _ _ _ _ us hl => match us, hl with | [_], _ => rfl
  have F7 := fun_mk (st := s_is_block) l7 c7 k7
  have b7 := F7.binds (ps := ["thing", "least", "most"]) fun _ _ _ _ _ _ us hl => match us, hl with | [_, _, _], _ => rfl
  have F8 := fun_mk (st := s_l_cell_at) l8 c8 k8
  have b8 := F8.binds (ps := ["_law_script", "_law_k"]) fun _ _ _ _ _ _ us hl => match us, hl with | [_, _], _ => rfl
  have F9 := fun_mk (st := s_l_value_by) l9 c9 k9
  have b9 := F9.binds (ps := ["_law_cell"]) fun _ _ _ _ _ _ us hl => match us, hl with | [_], _ => rfl
  have F10 := fun_mk (st := s_l_says) l10 c10 k10
  have b10 := F10.binds (ps := ["_law_found", "_law_due"]) fun _ _ _ _ _ _ us hl => match us, hl with | [_, _], _ => rfl
  have F11 := fun_mk (st := s_l_pairs_by) l11 c11 k11
  have b11 := F11.binds (ps := ["_law_kind", "_law_start", "_law_size", "_law_cell"]) fun _ _ _ _ _ _ us hl => match us, hl with | [_, _, _, _], _ => rfl
  have F12 := fun_mk (st := s_l_pair_spoilt) l12 c12 k12
  have b12 := F12.binds (ps := ["_law_pairs", "_law_at", "_law_way"]) fun _ _ _ _ _ _ us hl => match us, hl with | [_, _, _], _ => rfl
  have F13 := fun_mk (st := s_l_spoilt) l13 c13 k13
  have b13 := F13.binds (ps := ["_law_kind", "_law_pairs", "_law_at", "_law_way"]) fun _ _ _ _ _ _ us hl => match us, hl with | [_, _, _, _], _ => rfl
  have F14 := fun_mk (st := s_law) l14 c14 k14
  have T : Tx K mg := ⟨f0, _, F0, b0, PySem.W.mg_of X G a0, f1, _, F1, b1, PySem.W.mg_of X G a1, f2, _, F2, b2, PySem.W.mg_of X G a2, f3, _, F3, b3, PySem.W.mg_of X G a3, f4, _, F4, b4, PySem.W.mg_of X G a4, f5, _, F5, b5, PySem.W.mg_of X G a5, f6, _, F6, b6, PySem.W.mg_of X G a6, f7, _, F7, b7, PySem.W.mg_of X G a7, f8, _, F8, b8, PySem.W.mg_of X G a8, f9, _, F9, b9, PySem.W.mg_of X G a9, f10, _, F10, b10, PySem.W.mg_of X G a10, f11, _, F11, b11, PySem.W.mg_of X G a11, f12, _, F12, b12, PySem.W.mg_of X G a12, f13, _, F13, b13, PySem.W.mg_of X G a13, _, PySem.W.mg_of X G q0, _, PySem.W.mg_of X G q1, PySem.W.mg_none_of X G z0, PySem.W.mg_none_of X G z1, PySem.W.mg_none_of X G z2, PySem.W.mg_none_of X G z3, PySem.W.mg_none_of X G z4, PySem.W.mg_none_of X G z5, PySem.W.mg_none_of X G z6, PySem.W.mg_none_of X G z7, PySem.W.mg_none_of X G z8⟩
  exact ⟨_, fun s v => .of_eq rfl, fun base _ _ => ok_law F14 T⟩
end
end My
open PySem PySem.W PyProof.Rows
set_option maxRecDepth 100000 in
set_option maxHeartbeats 0 in
theorem PySem.Challenge.cw_btreelog_k04_a_block_holds : PySem.Challenge.rw_btreelog_k04_a_block.Holds := by
  w_on; o_law; k_head; (case hw => w_witness2)
  k_fill
  refine L2.walk_ofB (l := PySem.Challenge.rw_btreelog_k04_a_block) (n := 63) (k := 5) (x := "_law_script") (CX := fun _ => L2.CX0) (sp := fun w => My.spLaw _) rfl (by decide) rfl ⟨rfl, by decide, by decide⟩ (fun w h Y => PySem.W.kIn_of Y) ?F (fun _ _ a ns hl hb _ hS => ⟨a, ns, rfl, hS, hl, hb, fun _ => rfl⟩) (fun _ _ _ _ _ h => h)
  case F =>
    intro w mg fa h KX G hmg
    refine' My.all_mk KX G hmg ?a0 ?l0 ?c0 ?k0 ?a1 ?l1 ?c1 ?k1 ?a2 ?l2 ?c2 ?k2 ?a3 ?l3 ?c3 ?k3 ?a4 ?l4 ?c4 ?k4 ?a5 ?l5 ?c5 ?k5 ?a6 ?l6 ?c6 ?k6 ?a7 ?l7 ?c7 ?k7 ?a8 ?l8 ?c8 ?k8 ?a9 ?l9 ?c9 ?k9 ?a10 ?l10 ?c10 ?k10 ?a11 ?l11 ?c11 ?k11 ?a12 ?l12 ?c12 ?k12 ?a13 ?l13 ?c13 ?k13 ?a14 ?l14 ?c14 ?k14 ?q0 ?q1 ?z0 ?z1 ?z2 ?z3 ?z4 ?z5 ?z6 ?z7 ?z8
    (case a0 => k_is)
    (case l0 => k_is)
    (case c0 => k_is)
    (case k0 => k_is)
    (case a1 => k_is)
    (case l1 => k_is)
    (case c1 => k_is)
    (case k1 => k_is)
    (case a2 => k_is)
    (case l2 => k_is)
    (case c2 => k_is)
    (case k2 => k_is)
    (case a3 => k_is)
    (case l3 => k_is)
    (case c3 => k_is)
    (case k3 => k_is)
    (case a4 => k_is)
    (case l4 => k_is)
    (case c4 => k_is)
    (case k4 => k_is)
    (case a5 => k_is)
    (case l5 => k_is)
    (case c5 => k_is)
    (case k5 => k_is)
    (case a6 => k_is)
    (case l6 => k_is)
    (case c6 => k_is)
    (case k6 => k_is)
    (case a7 => k_is)
    (case l7 => k_is)
    (case c7 => k_is)
    (case k7 => k_is)
    (case a8 => k_is)
    (case l8 => k_is)
    (case c8 => k_is)
    (case k8 => k_is)
    (case a9 => k_is)
    (case l9 => k_is)
    (case c9 => k_is)
    (case k9 => k_is)
    (case a10 => k_is)
    (case l10 => k_is)
    (case c10 => k_is)
    (case k10 => k_is)
    (case a11 => k_is)
    (case l11 => k_is)
    (case c11 => k_is)
    (case k11 => k_is)
    (case a12 => k_is)
    (case l12 => k_is)
    (case c12 => k_is)
    (case k12 => k_is)
    (case a13 => k_is)
    (case l13 => k_is)
    (case c13 => k_is)
    (case k13 => k_is)
    (case a14 => k_is)
    (case l14 => k_is)
    (case c14 => k_is)
    (case k14 => k_is)
    (case q0 => k_is)
    (case q1 => k_is)
    (case z0 => k_is)
    (case z1 => k_is)
    (case z2 => k_is)
    (case z3 => k_is)
    (case z4 => k_is)
    (case z5 => k_is)
    (case z6 => k_is)
    (case z7 => k_is)
    (case z8 => k_is)
