import PyProof.Rows.All
import Wide.All
import OpenK.AllK
import Wide.FinOn
import HandS.ForMost
import HandS.More
import HandS.IsInst
import HandS.RevRange
import HandS.Style
import HandS.EndBits
import HandS.Evl
import HandS.Walk
import Flt.Len
import HandS.DictComp
import HandS.DictEq
import HandS.SortInts
import KE.KEqDict
import PyProof.StrOps2
import HandS.TupAny
import PySem.Challenge.RW_btreelog_k07_sound
set_option Elab.async false
set_option linter.all false
set_option maxRecDepth 100000
set_option maxHeartbeats 1000000
namespace My
open PySem L2
/-! ### facts carried from heap to heap -/
theorem Same.at {H H' : Hp} {a : Addr} {o : HO} (e : Same H H') (h : H a = some o) : H' a = some o := e a o h
theorem Same.seqT {K : PySem.W.Frag} {H H' : Hp} {a : Addr} {xs : List V} (e : Same H H') (h : SqT K H a xs) : SqT K H' a xs := Evl.ex_t e h
theorem Same.new {H : Hp} {p : Addr} (h : H p = none) (o : HO) : Same H (upd H p o) := Evl.Ex.new h
theorem seq_l {K : PySem.W.Frag} {H : Hp} {a : Addr} {xs : List V} (h : SqL K H a xs) : SqL K H a xs ∨ SqT K H a xs := .inl h
theorem seq_t {K : PySem.W.Frag} {H : Hp} {a : Addr} {xs : List V} (h : SqT K H a xs) : SqL K H a xs ∨ SqT K H a xs := .inr h
theorem Same.seqO {K : PySem.W.Frag} {H H' : Hp} {a : Addr} {xs : List V} (e : Same H H') (h : SqL K H a xs ∨ SqT K H a xs) : SqL K H' a xs ∨ SqT K H' a xs :=
  h.elim (fun h => .inl (e.seq h)) fun h => .inr (Same.seqT e h)
mutual
theorem Dp.go {K : PySem.W.Frag} {H H' : Hp} (e : Same H H') : ∀ {v : V} {d : PyData}, Dp K H v d → Dp K H' v d
  | _, _, .non => .non
  | _, _, .bl b => .bl b
  | _, _, .int i => .int i
  | _, _, .str x => .str x
  | _, _, .lst h r => .lst (e.seq h) (DpAll.go e r)
  | _, _, .tup h r => .tup (Same.seqT e h) (DpAll.go e r)
theorem DpAll.go {K : PySem.W.Frag} {H H' : Hp} (e : Same H H') : ∀ {vs : List V} {ds : List PyData}, DpAll K H vs ds → DpAll K H' vs ds
  | _, _, .nil => .nil
  | _, _, .cons h r => .cons (Dp.go e h) (DpAll.go e r)
end
/-! ### readings, a step at a time -/
section
variable {K : PySem.W.Frag} {σ : L2.St} {H : Hp} {Q : VK} {ta tb tc te : TE} {v x y z : V} {D : Ends} {t u : TS} {tt tu : TT} {r r' : R2} {tr : TA} {QA : List V → Hp → Prop} {QB : Bool → Hp → Prop}
theorem g_var {i : Nat} (h : σ[i]? = some (some v)) (q : Q v H) : tVar i σ H Q := ⟨v, h, q⟩
theorem g_c (q : Q v H) : tC v σ H Q := q
theorem g_op (q : ta σ H fun x H1 => tb σ H1 fun y H2 => r x y H2 Q) : tOp r ta tb σ H Q := q
theorem g_un {f : V → Hp → VK → Prop} (q : ta σ H fun x H1 => f x H1 Q) : tUn f ta σ H Q := q
theorem g_rI0 {g : Int → Int → V} {i j : Int} (q : Q (g i j) H) : rI0 g (.int i) (.int j) H Q := ⟨i, j, rfl, rfl, q⟩
theorem g_rI {C : Int → Int → Prop} {g : Int → Int → V} {i j : Int} (c : C i j) (q : Q (g i j) H) : rI C g (.int i) (.int j) H Q := ⟨i, j, rfl, rfl, c, q⟩
theorem g_rU {g : Int → V} {i : Int} (q : Q (g i) H) : rU g (.int i) H Q := ⟨i, rfl, q⟩
theorem g_rEq (s : scal x y = true) (q : Q (.bl (decide (x = y))) H) : rEq x y H Q := ⟨s, q⟩
theorem g_rNe (s : scal x y = true) (q : Q (.bl (!decide (x = y))) H) : rNe x y H Q := ⟨s, q⟩
/-- what a test waits for -/
def isB (QB : Bool → Hp → Prop) : VK := fun x H => ∃ k, x = .bl k ∧ QB k H
theorem g_isB {k : Bool} (q : QB k H) : isB QB (.bl k) H := ⟨k, rfl, q⟩
theorem g_test (q : ta σ H (isB QB)) : tTest ta σ H QB := q
theorem g_tB (q : ta σ H (isB QB)) : tB ta σ H QB := q
def chK (r' : R2) (tc : TE) (y : V) (σ : L2.St) (Q : VK) : Bool → Hp → Prop := fun k H => if k = true then tc σ H fun w H4 => r' y w H4 Q else Q (.bl false) H
theorem g_chain (q : ta σ H fun x H1 => tb σ H1 fun y H2 => r x y H2 (isB (chK r' tc y σ Q))) : tChain r r' ta tb tc σ H Q := q
theorem g_chK {k : Bool} (h1 : k = true → tc σ H fun w H4 => r' y w H4 Q) (h2 : k = false → Q (.bl false) H) : chK r' tc y σ Q k H := by
  cases k
  · exact h2 rfl
  · exact h1 rfl
def andK (u : TT) (σ : L2.St) (Q : Bool → Hp → Prop) : Bool → Hp → Prop := fun c H => if c = true then u σ H Q else Q false H
def orK (u : TT) (σ : L2.St) (Q : Bool → Hp → Prop) : Bool → Hp → Prop := fun c H => if c = true then Q true H else u σ H Q
def notK (Q : Bool → Hp → Prop) : Bool → Hp → Prop := fun c H => Q (!c) H
theorem g_and (q : tt σ H (andK tu σ QB)) : tAnd tt tu σ H QB := q
theorem g_or (q : tt σ H (orK tu σ QB)) : tOr tt tu σ H QB := q
theorem g_not (q : tt σ H (notK QB)) : tNot tt σ H QB := q
theorem g_notK {k : Bool} (q : QB (!k) H) : notK QB k H := q
theorem g_andK {k : Bool} (h1 : k = true → tu σ H QB) (h2 : k = false → QB false H) : andK tu σ QB k H := by
  cases k
  · exact h2 rfl
  · exact h1 rfl
theorem g_orK {k : Bool} (h1 : k = true → QB true H) (h2 : k = false → tu σ H QB) : orK tu σ QB k H := by
  cases k
  · exact h2 rfl
  · exact h1 rfl
/-- .. as values -/
def andV (tb : TE) (σ : L2.St) (Q : VK) : VK := fun x H => ∃ c, x = .bl c ∧ if c = true then tb σ H Q else Q (.bl false) H
def orV (tb : TE) (σ : L2.St) (Q : VK) : VK := fun x H => ∃ c, x = .bl c ∧ if c = true then Q (.bl true) H else tb σ H Q
def notV (Q : VK) : VK := fun x H => ∃ c, x = .bl c ∧ Q (.bl (!c)) H
theorem g_andT (q : ta σ H (andV tb σ Q)) : tAndV ta tb σ H Q := q
theorem g_orT (q : ta σ H (orV tb σ Q)) : tOrV ta tb σ H Q := q
theorem g_notT (q : ta σ H (notV Q)) : tNotV ta σ H Q := q
theorem g_andV {k : Bool} (h1 : k = true → tb σ H Q) (h2 : k = false → Q (.bl false) H) : andV tb σ Q (.bl k) H := ⟨k, rfl, by
  cases k
  · exact h2 rfl
  · exact h1 rfl⟩
theorem g_orV {k : Bool} (h1 : k = true → Q (.bl true) H) (h2 : k = false → tb σ H Q) : orV tb σ Q (.bl k) H := ⟨k, rfl, by
  cases k
  · exact h2 rfl
  · exact h1 rfl⟩
theorem g_notV {k : Bool} (q : Q (.bl (!k)) H) : notV Q (.bl k) H := ⟨k, rfl, q⟩
def ifV (ta tb : TE) (σ : L2.St) (Q : VK) : Bool → Hp → Prop := fun c H => if c = true then ta σ H Q else tb σ H Q
theorem g_ifE (q : tt σ H (ifV ta tb σ Q)) : tIf tt ta tb σ H Q := q
theorem g_ifV {k : Bool} (h1 : k = true → ta σ H Q) (h2 : k = false → tb σ H Q) : ifV ta tb σ Q k H := by
  cases k
  · exact h2 rfl
  · exact h1 rfl
/-! tuples, lists, arguments, calls -/
theorem g_nil (q : QA [] H) : tNil σ H QA := q
theorem g_cons (q : ta σ H fun x H1 => tr σ H1 fun xs H2 => QA (x :: xs) H2) : tCons ta tr σ H QA := q
def tupK (Q : VK) : List V → Hp → Prop := fun xs H => xs.length ≤ sizeLine ∧ ∀ p, H p = none → Q (.ref p) (upd H p (.tup xs))
def lstK (Q : VK) : List V → Hp → Prop := fun xs H => xs.length ≤ sizeLine ∧ ∀ p, H p = none → Q (.ref p) (upd H p (.lst xs))
theorem g_tup (q : tr σ H (tupK Q)) : tTup tr σ H Q := q
theorem g_lst (q : tr σ H (lstK Q)) : tLst tr σ H Q := q
theorem g_tupK {xs : List V} (hl : xs.length ≤ sizeLine) (q : ∀ p H1, H p = none → Same H H1 → H1 p = some (.tup xs) → Q (.ref p) H1) : tupK Q xs H :=
  ⟨hl, fun p hp => q p _ hp (Same.new hp _) upd_same⟩
theorem g_lstK {xs : List V} (hl : xs.length ≤ sizeLine) (q : ∀ p H1, H p = none → Same H H1 → H1 p = some (.lst xs) → Q (.ref p) H1) : lstK Q xs H :=
  ⟨hl, fun p hp => q p _ hp (Same.new hp _) upd_same⟩
theorem g_call {sp : Sp} {dvs : List V} {E : XK} (q : tr σ H fun vs H1 => sp (vs ++ dvs) H1 Q E) : tCall sp dvs E tr σ H Q := q
theorem g_cb {f : List V → Hp → VK → Prop} (q : tr σ H fun vs H1 => f vs H1 Q) : tCB f tr σ H Q := q
theorem g_bm {T : String} {f : V → List V → Hp → VK → Prop} (q : ta σ H fun x H1 => tyV K T x H1 ∧ tr σ H1 fun xs H2 => f x xs H2 Q) : tBM K T f ta tr σ H Q := q
/-! subscripts, slices -/
theorem g_ixL {p : Addr} {xs : List V} {i : Int} (h : SqL K H p xs) (ha : atI xs i = some v) (q : Q v H) : rIxL K (.ref p) (.int i) H Q := ⟨p, xs, i, v, rfl, rfl, h, ha, q⟩
theorem g_ixT {p : Addr} {xs : List V} {i : Int} (h : SqT K H p xs) (ha : atI xs i = some v) (q : Q v H) : rIxT K (.ref p) (.int i) H Q := ⟨p, xs, i, v, rfl, rfl, h, ha, q⟩
theorem g_ixO {p : Addr} {xs : List V} {i : Int} (h : SqL K H p xs ∨ SqT K H p xs) (ha : atI xs i = some v) (q : Q v H) : rIx K (.ref p) (.int i) H Q :=
  h.elim (fun h => .inl ⟨p, xs, i, v, rfl, rfl, h, ha, q⟩) fun h => .inr (.inl ⟨p, xs, i, v, rfl, rfl, h, ha, q⟩)
theorem g_sl {f : V → Option Int → Option Int → Hp → VK → Prop} {tl th : TO} (q : te σ H fun x H1 => tl σ H1 fun l H2 => th σ H2 fun u H3 => f x l u H3 Q) : tSl f te tl th σ H Q := q
theorem g_noPart {QO : Option Int → Hp → Prop} (q : QO none H) : tNoPart σ H QO := q
def partK (QO : Option Int → Hp → Prop) : VK := fun x H => ∃ i, x = .int i ∧ QO (some i) H
theorem g_part {QO : Option Int → Hp → Prop} (q : te σ H (partK QO)) : tPart te σ H QO := q
theorem g_partK {QO : Option Int → Hp → Prop} {i : Int} (q : QO (some i) H) : partK QO (.int i) H := ⟨i, rfl, q⟩
theorem g_slL {a : Addr} {xs : List V} {lo hi : Option Int} (h : SqL K H a xs) (q : ∀ p H1, H p = none → Same H H1 → H1 p = some (.lst (cutV xs lo hi)) → Q (.ref p) H1) : rSlL K (.ref a) lo hi H Q :=
  ⟨a, xs, rfl, h, fun p hp => q p _ hp (Same.new hp _) upd_same⟩
theorem g_slT {a : Addr} {xs : List V} {lo hi : Option Int} (h : SqT K H a xs) (n : ¬ (HT.sIx xs.length 0 lo = 0 ∧ HT.sIx xs.length xs.length hi = xs.length)) (q : ∀ p H1, H p = none → Same H H1 → H1 p = some (.tup (cutV xs lo hi)) → Q (.ref p) H1) : rSlT K (.ref a) lo hi H Q :=
  ⟨a, xs, rfl, h, n, fun p hp => q p _ hp (Same.new hp _) upd_same⟩
/-! statements -/
theorem g_seq (q : t { D with nx := u D } σ H) : tSeq t u D σ H := q
theorem g_next (q : D.nx σ H) : tNext D σ H := q
theorem g_asg {g : TG} (q : te σ H fun x H1 => g x σ H1 D.nx) : tAsg te g D σ H := q
theorem g_name {i : Nat} {QS : L2.St → Hp → Prop} (q : QS (σ.set i (some v)) H) : gName i v σ H QS := q
theorem g_gtup {n : Nat} {tg : TGs} {a : Addr} {xs : List V} {QS : L2.St → Hp → Prop} (h : SqT K H a xs) (hl : xs.length = n) (q : tg xs σ H QS) : gTup K n tg (.ref a) σ H QS := ⟨a, xs, rfl, h, hl, q⟩
theorem g_gcons {g : TG} {tg : TGs} {vs : List V} {QS : L2.St → Hp → Prop} (q : g v σ H fun σ' H' => tg vs σ' H' QS) : gCons g tg (v :: vs) σ H QS := ⟨v, vs, rfl, q⟩
theorem g_gnil {QS : L2.St → Hp → Prop} (q : QS σ H) : gNil [] σ H QS := ⟨rfl, q⟩
theorem g_ret (q : te σ H D.rt) : tRet te D σ H := q
theorem g_retN (q : D.rt .non H) : tRetN D σ H := q
theorem g_drop (q : te σ H fun _ H1 => D.nx σ H1) : tDrop te D σ H := q
def brS (t u : TS) (D : Ends) (σ : L2.St) : Bool → Hp → Prop := fun b H1 => if b = true then t D σ H1 else u D σ H1
theorem g_if (q : tt σ H (brS t u D σ)) : tIfS tt t u D σ H := q
theorem g_br {k : Bool} (h1 : k = true → t D σ H) (h2 : k = false → u D σ H) : brS t u D σ k H := by
  cases k
  · exact h2 rfl
  · exact h1 rfl
theorem g_brT (h1 : t D σ H) : brS t u D σ true H := h1
theorem g_brF (h1 : u D σ H) : brS t u D σ false H := h1
end
/-! ### rules whose relation has a name -/
section
variable {X : Cx}
def rLen (K : PySem.W.Frag) : List V → Hp → VK → Prop := fun xs H Q => ∃ p ys, xs = [.ref p] ∧ (SqL K H p ys ∨ SqT K H p ys) ∧ Q (.int ys.length) H
theorem my_len : CallR X (.builtin "len") (rLen X.K) := call_len_seq
def rLenS : List V → Hp → VK → Prop := fun us H Q => ∃ t, us = [.str t] ∧ t.length ≤ sizeLine ∧ Q (.int t.length) H
theorem my_lenS : CallR X (.builtin "len") rLenS := call_len_str
def rList (K : PySem.W.Frag) : List V → Hp → VK → Prop := fun xs H Q => ∃ p ys, xs = [.ref p] ∧ (SqL K H p ys ∨ SqT K H p ys) ∧ ∀ l, H l = none → Q (.ref l) (upd H l (.lst ys))
theorem my_list : CallR X (.type "list") (rList X.K) := call_list_of
def rTuple (K : PySem.W.Frag) : List V → Hp → VK → Prop := fun xs H Q => ∃ p ys, xs = [.ref p] ∧ ((SqL K H p ys ∧ ∀ l, H l = none → Q (.ref l) (upd H l (.tup ys))) ∨ (SqT K H p ys ∧ Q (.ref p) H))
theorem my_tuple : CallR X (.type "tuple") (rTuple X.K) := call_tuple_of
def rInt : List V → Hp → VK → Prop := fun xs H Q => (∃ i, xs = [.int i] ∧ Q (.int i) H) ∨ ∃ k, xs = [.bl k] ∧ Q (.int (if k then 1 else 0)) H
theorem my_int : CallR X (.type "int") rInt := call_int1
def rMax2 : List V → Hp → VK → Prop := fun us H Q => ∃ i j, us = [.int i, .int j] ∧ Q (.int (if j > i then j else i)) H
theorem my_max2 (hc : X.calm = true) : CallR X (.builtin "max") rMax2 := call_max2 hc
def rStrI : List V → Hp → VK → Prop := fun xs H Q => ∃ i, xs = [.int i] ∧ i.natAbs.log2 < 1920 ∧ Q (.str (toString i)) H
theorem my_strI : CallR X (.type "str") rStrI := call_str_int
def rAddS : R2 := fun x y H Q => ∃ i j, x = .str i ∧ y = .str j ∧ i.length + j.length ≤ sizeLine ∧ Q (.str (i ++ j)) H
theorem my_addS : OpR X (binaryOp .Add) rAddS := op_add_str
def rIsN : R2 := fun u v H Q => v = .non ∧ Q (.bl (decide (u = .non))) H
def rNotN : R2 := fun u v H Q => v = .non ∧ Q (.bl (!decide (u = .non))) H
theorem my_isN : OpR X (compareOp .Is) rIsN := op_isN
theorem my_notN : OpR X (compareOp .IsNot) rNotN := op_notN
def rIsTy : R2 := fun x y H Q => ∃ a b, x = .ty a ∧ y = .ty b ∧ Q (.bl (decide (a = b))) H
theorem my_isTy : OpR X (compareOp .Is) rIsTy := op_isTyB
theorem op_mulX : OpR X (binaryOp .Mult) (rI IntMulOk fun i j => .int (i * j)) := opI fun _ _ _ _ _ _ _ hc q => PyProof.Rows.mul_int q hc
end
section
variable {K : PySem.W.Frag} {H : Hp} {Q : VK} {v x y : V} {a : Addr} {xs : List V}
theorem g_len (h : SqL K H a xs ∨ SqT K H a xs) (q : Q (.int xs.length) H) : rLen K [.ref a] H Q := ⟨a, xs, rfl, h, q⟩
theorem g_lenS {z : Str} (h : z.length ≤ sizeLine) (q : Q (.int z.length) H) : rLenS [.str z] H Q := ⟨z, rfl, h, q⟩
theorem g_list (h : SqL K H a xs ∨ SqT K H a xs) (q : ∀ p H1, H p = none → Same H H1 → H1 p = some (.lst xs) → Q (.ref p) H1) : rList K [.ref a] H Q := ⟨a, xs, rfl, h, fun p hp => q p _ hp (Same.new hp _) upd_same⟩
theorem g_tupleL (h : SqL K H a xs) (q : ∀ p H1, H p = none → Same H H1 → H1 p = some (.tup xs) → Q (.ref p) H1) : rTuple K [.ref a] H Q := ⟨a, xs, rfl, .inl ⟨h, fun p hp => q p _ hp (Same.new hp _) upd_same⟩⟩
theorem g_tupleT (h : SqT K H a xs) (q : Q (.ref a) H) : rTuple K [.ref a] H Q := ⟨a, xs, rfl, .inr ⟨h, q⟩⟩
/-- tuple(x) of either: some tuple of the items -/
theorem g_tupleO (h : SqL K H a xs ∨ SqT K H a xs) (q : ∀ p H1, Same H H1 → SqT K H1 p xs → Q (.ref p) H1) : rTuple K [.ref a] H Q :=
  h.elim (fun h => g_tupleL h fun p H1 _ s e => q p H1 s (SqT.of e)) fun h => g_tupleT h (q a H (L2.Same.refl H) h)
theorem g_intB {k : Bool} (q : Q (.int (if k then 1 else 0)) H) : rInt [.bl k] H Q := .inr ⟨k, rfl, q⟩
theorem g_intI {i : Int} (q : Q (.int i) H) : rInt [.int i] H Q := .inl ⟨i, rfl, q⟩
theorem g_max2 {i j : Int} (q : Q (.int (if j > i then j else i)) H) : rMax2 [.int i, .int j] H Q := ⟨i, j, rfl, q⟩
theorem g_strI {i : Int} (h : i.natAbs.log2 < 1920) (q : Q (.str (toString i)) H) : rStrI [.int i] H Q := ⟨i, rfl, h, q⟩
theorem g_addS {i j : Str} (h : i.length + j.length ≤ sizeLine) (q : Q (.str (i ++ j)) H) : rAddS (.str i) (.str j) H Q := ⟨i, j, rfl, rfl, h, q⟩
theorem g_isN (q : Q (.bl (decide (x = .non))) H) : rIsN x .non H Q := ⟨rfl, q⟩
theorem g_notN (q : Q (.bl (!decide (x = .non))) H) : rNotN x .non H Q := ⟨rfl, q⟩
theorem g_isTy {m n : String} (q : Q (.bl (decide (m = n))) H) : rIsTy (.ty m) (.ty n) H Q := ⟨m, n, rfl, rfl, q⟩
theorem g_notTy {m n : String} (q : Q (.bl (!decide (m = n))) H) : rNT (.ty m) (.ty n) H Q := ⟨m, n, rfl, rfl, q⟩
theorem g_isBl {m n : Bool} (q : Q (.bl (decide (m = n))) H) : rIsB (.bl m) (.bl n) H Q := ⟨m, n, rfl, rfl, q⟩
theorem g_notBl {m n : Bool} (q : Q (.bl (!decide (m = n))) H) : rNotB (.bl m) (.bl n) H Q := ⟨m, n, rfl, rfl, q⟩
theorem g_typ {T : String} (t : TyB K H x T) (q : Q (.ty T) H) : rTyp K [x] H Q := ⟨x, T, rfl, t, q⟩
theorem g_isi {c : V} {t u : Value} {b : Bool} (k : ClsV c u) (ty : TyX K H x t) (e : PySem.W.kitOne K t u = some b) (q : Q (.bl b) H) : rIsi K [x, c] H Q := ⟨x, c, t, u, b, rfl, k, ty, e, q⟩
theorem g_eqD {d e : PyData} (hx : Dp K H x d) (hy : Dp K H y e) (sd : SeqAt.shaped d = true) (se : SeqAt.shaped e = true) (q : Q (.bl (PyData.eqv d e)) H) : rEqD K x y H Q := ⟨d, e, hx, hy, sd, se, q⟩
theorem g_neD {d e : PyData} (hx : Dp K H x d) (hy : Dp K H y e) (sd : SeqAt.shaped d = true) (se : SeqAt.shaped e = true) (q : Q (.bl (!PyData.eqv d e)) H) : rNeD K x y H Q := ⟨d, e, hx, hy, sd, se, q⟩
theorem g_all {bs : List Bool} (h : SqL K H a (bs.map V.bl)) (q : Q (.bl (bs.all id)) H) : rAll K [.ref a] H Q := ⟨a, bs, rfl, h, q⟩
theorem g_in {neg : Bool} (h : SqL K H a xs ∨ SqT K H a xs) (f : flatV x = true) (fs : xs.all flatV = true) (q : Q (.bl (if neg then !inV x xs else inV x xs)) H) : rIn K neg x (.ref a) H Q := ⟨a, xs, rfl, h, f, fs, q⟩
end
end My
namespace My
open PySem L2
section
variable {X : Cx} {K : PySem.W.Frag} {H : Hp} {Q : VK} {a : Addr} {xs : List V} {lo hi : Option Int}
def rSlO (K : PySem.W.Frag) : V → Option Int → Option Int → Hp → VK → Prop := fun x lo hi H Q => rSlL K x lo hi H Q ∨ rSlT K x lo hi H Q
theorem my_slO : SlR X (rSlO X.K) := sl_list.or sl_tup
theorem g_slO (h : SqL K H a xs ∨ SqT K H a xs) (n : ¬ (HT.sIx xs.length 0 lo = 0 ∧ HT.sIx xs.length xs.length hi = xs.length))
    (q : ∀ p H1, H p = none → Same H H1 → (SqL K H1 p (cutV xs lo hi) ∨ SqT K H1 p (cutV xs lo hi)) → Q (.ref p) H1) : rSlO K (.ref a) lo hi H Q :=
  h.elim (fun h => .inl (g_slL h fun p H1 np s e => q p H1 np s (.inl (SqL.of e)))) fun h => .inr (g_slT h n fun p H1 np s e => q p H1 np s (.inr (SqT.of e)))
theorem cut_to (xs : List V) (n : Nat) : cutV xs none (some (n : Int)) = xs.take n := by
  unfold cutV
  rw [HT.sIx_none, HT.sIx_nat, List.drop_zero, Nat.sub_zero]
  by_cases h : n ≤ xs.length
  · rw [Nat.min_eq_left h]
  · rw [Nat.min_eq_right (by omega), List.take_length, List.take_of_length_le (by omega)]
theorem cut_from (xs : List V) (n : Nat) : cutV xs (some (n : Int)) none = xs.drop n := by
  unfold cutV
  rw [HT.sIx_none, HT.sIx_nat]
  by_cases h : n ≤ xs.length
  · rw [Nat.min_eq_left h, List.take_of_length_le (by rw [List.length_drop]; omega)]
  · rw [Nat.min_eq_right (by omega), Nat.sub_self, List.take_zero, List.drop_eq_nil_of_le (by omega)]
theorem sz {n : Nat} (h : n ≤ 100000) : n ≤ sizeLine := Nat.le_trans h (by decide)
end
end My
namespace My
open PySem L2
/-! ### joins, comprehensions, loops -/
section
variable {K : PySem.W.Frag} {σ : L2.St} {H : Hp} {Q : VK} {D : Ends} {t u : TS} {te tl : TE}
theorem g_cut (M : L2.St → Hp → Prop) (h : t { D with nx := M } σ H) (k : ∀ σ' H', M σ' H' → u D σ' H') : Evl.tCut t u D σ H := ⟨M, h, k⟩
/-- all objects but lists stand as they stood -/
def Still (H H' : Hp) : Prop := ∀ b o, (∀ xs, o ≠ .lst xs) → H b = some o → H' b = some o
theorem Still.of (e : Same H H') : Still H H' := fun b o _ h => e b o h
theorem Still.refl (H : Hp) : Still H H := fun _ _ _ h => h
theorem Still.trans {H H1 H2 : Hp} (a : Still H H1) (b : Still H1 H2) : Still H H2 := fun c o n h => b c o n (a c o n h)
theorem Still.upd {H : Hp} {p : Addr} {xs ys : List V} (h : H p = some (.lst xs)) : Still H (upd H p (.lst ys)) := fun b o n e => by
  rw [upd_ne (ne_of e h (n xs))]
  exact e
theorem Still.tup {H H' : Hp} {p : Addr} {xs : List V} (e : Still H H') (h : H p = some (.tup xs)) : H' p = some (.tup xs) := e p _ (fun _ z => nomatch z) h
theorem g_lcR1 {ta : TA} {j : Nat} {vs : List Nat} {n : Int} (Rel : Nat → V → Hp → Prop) (ha : ∀ R : List V → Hp → Prop, R [.int n] H → ta σ H R) (hn : -40000 ≤ n ∧ n ≤ 40000)
    (hw : ∀ x, wipe ((wipe σ vs).set j (some x)) vs = wipe σ vs) (hst : ∀ i y H1 H2, Still H1 H2 → Rel i y H1 → Rel i y H2)
    (he : ∀ (i : Nat) (H1 : Hp) (QE : VK), (i : Int) < n → Same H H1 → (∀ y H2, Same H1 H2 → Rel i y H2 → QE y H2) → te ((wipe σ vs).set j (some (.int (i : Int)))) H1 QE)
    (q : ∀ p ys H1, H p = none → Same H H1 → H1 p = some (.lst ys) → ys.length = n.toNat → (∀ i y, ys[i]? = some y → Rel i y H1) → Q (.ref p) H1) :
    tLc (iRng1 ta) (gName j) tYes te vs σ H Q := by
  refine ha _ ⟨n, rfl, by omega, by omega, fun Dl hD => ?_⟩
  refine lc_range (lo := 0) (n := n.toNat) (fun i H' => Same H H' ∧ ∃ ys, H' Dl = some (.lst ys) ∧ ys.length = i ∧ ∀ k y, ys[k]? = some y → Rel k y H')
    ⟨Same.new hD _, [], upd_same, rfl, fun k y h => nomatch h⟩ (fun i H' hi p => ?_) (fun H' p => ?_)
  · obtain ⟨s, ys, e, hl, hr⟩ := p
    show wipe ((wipe σ vs).set j (some (.int ((0 : Int) + (i : Int))))) vs = wipe σ vs ∧ _
    rw [Int.zero_add]
    refine ⟨hw _, ?_⟩
    show te ((wipe σ vs).set j (some (.int (i : Int)))) H' _
    refine he i H' _ (by omega) s fun y H2 s2 r => ⟨ys, s2 _ _ e, Evl.sz_lt (by omega), ?_⟩
    have st : Still H2 (upd H2 Dl (.lst (ys ++ [y]))) := Still.upd (s2 _ _ e)
    refine ⟨fun b o h => ?_, ys ++ [y], upd_same, by rw [List.length_append, hl]; rfl, fun k z hk => ?_⟩
    · rw [upd_ne (ne_of_none h hD)]
      exact s2 _ _ (s _ _ h)
    · by_cases c : k < ys.length
      · rw [List.getElem?_append_left c] at hk
        exact hst k z _ _ st (hst k z _ _ (Still.of s2) (hr k z hk))
      · rw [List.getElem?_append_right (by omega)] at hk
        by_cases c2 : k - ys.length = 0
        · rw [c2] at hk
          have ez : y = z := Option.some.inj hk
          have ek : k = i := by omega
          subst ez ek
          exact hst _ _ _ _ st r
        · rw [List.getElem?_eq_none (by rw [List.length_singleton]; omega)] at hk
          cases hk
  · obtain ⟨s, ys, e, hl, hr⟩ := p
    exact q Dl ys H' hD s e hl hr
/-- over a list (its items told): a value for each item, no test -/
theorem g_lcL {a : Addr} {xs : List V} {j : Nat} {vs : List Nat} (Rel : Nat → V → Hp → Prop) (ha : ∀ R : VK, R (.ref a) H → tl σ H R) (hx : SqL K H a xs) (hn : xs.length ≤ 40000)
    (hw : ∀ x, wipe ((wipe σ vs).set j (some x)) vs = wipe σ vs) (hst : ∀ i y H1 H2, Still H1 H2 → Rel i y H1 → Rel i y H2)
    (he : ∀ (i : Nat) (x : V) (H1 : Hp) (QE : VK), xs[i]? = some x → Same H H1 → (∀ y H2, Same H1 H2 → Rel i y H2 → QE y H2) → te ((wipe σ vs).set j (some x)) H1 QE)
    (q : ∀ p ys H1, H p = none → Same H H1 → H1 p = some (.lst ys) → ys.length = xs.length → (∀ i y, ys[i]? = some y → Rel i y H1) → Q (.ref p) H1) :
    tLc (iList K tl) (gName j) tYes te vs σ H Q := by
  refine ha _ ⟨a, rfl, ⟨xs, hx⟩, fun Dl hD => ?_⟩
  refine lc_list (xs := xs) (fun i H' => Same H H' ∧ ∃ ys, H' Dl = some (.lst ys) ∧ ys.length = i ∧ ∀ k y, ys[k]? = some y → Rel k y H')
    ⟨Same.new hD _, [], upd_same, rfl, fun k y h => nomatch h⟩ (fun i H' _ p => p.1.seq hx) (fun i x H' hi p => ?_) (fun H' p => ?_)
  · obtain ⟨s, ys, e, hl, hr⟩ := p
    have hi2 := (List.getElem?_eq_some_iff.mp hi).1
    refine ⟨hw _, ?_⟩
    show te ((wipe σ vs).set j (some x)) H' _
    refine he i x H' _ hi s fun y H2 s2 r => ⟨ys, s2 _ _ e, Evl.sz_lt (by omega), ?_⟩
    have st : Still H2 (upd H2 Dl (.lst (ys ++ [y]))) := Still.upd (s2 _ _ e)
    refine ⟨fun b o h => ?_, ys ++ [y], upd_same, by rw [List.length_append, hl]; rfl, fun k z hk => ?_⟩
    · rw [upd_ne (ne_of_none h hD)]
      exact s2 _ _ (s _ _ h)
    · by_cases c : k < ys.length
      · rw [List.getElem?_append_left c] at hk
        exact hst k z _ _ st (hst k z _ _ (Still.of s2) (hr k z hk))
      · rw [List.getElem?_append_right (by omega)] at hk
        by_cases c2 : k - ys.length = 0
        · rw [c2] at hk
          have ez : y = z := Option.some.inj hk
          have ek : k = i := by omega
          subst ez ek
          exact hst _ _ _ _ st r
        · rw [List.getElem?_eq_none (by rw [List.length_singleton]; omega)] at hk
          cases hk
  · obtain ⟨s, ys, e, hl, hr⟩ := p
    exact q Dl ys H' hD s e hl hr
theorem g_lcT {a : Addr} {xs : List V} {j : Nat} {vs : List Nat} (Rel : Nat → V → Hp → Prop) (ha : ∀ R : VK, R (.ref a) H → tl σ H R) (hx : SqT K H a xs) (hn : xs.length ≤ 40000)
    (hw : ∀ x, wipe ((wipe σ vs).set j (some x)) vs = wipe σ vs) (hst : ∀ i y H1 H2, Still H1 H2 → Rel i y H1 → Rel i y H2)
    (he : ∀ (i : Nat) (x : V) (H1 : Hp) (QE : VK), xs[i]? = some x → Same H H1 → (∀ y H2, Same H1 H2 → Rel i y H2 → QE y H2) → te ((wipe σ vs).set j (some x)) H1 QE)
    (q : ∀ p ys H1, H p = none → Same H H1 → H1 p = some (.lst ys) → ys.length = xs.length → (∀ i y, ys[i]? = some y → Rel i y H1) → Q (.ref p) H1) :
    tLc (iTup K tl) (gName j) tYes te vs σ H Q := by
  refine ha _ ⟨a, rfl, ⟨xs, hx⟩, fun Dl hD => ?_⟩
  refine lc_tup (xs := xs) (fun i H' => Same H H' ∧ ∃ ys, H' Dl = some (.lst ys) ∧ ys.length = i ∧ ∀ k y, ys[k]? = some y → Rel k y H')
    ⟨Same.new hD _, [], upd_same, rfl, fun k y h => nomatch h⟩ (fun i H' _ p => Same.seqT p.1 hx) (fun i x H' hi p => ?_) (fun H' p => ?_)
  · obtain ⟨s, ys, e, hl, hr⟩ := p
    have hi2 := (List.getElem?_eq_some_iff.mp hi).1
    refine ⟨hw _, ?_⟩
    show te ((wipe σ vs).set j (some x)) H' _
    refine he i x H' _ hi s fun y H2 s2 r => ⟨ys, s2 _ _ e, Evl.sz_lt (by omega), ?_⟩
    have st : Still H2 (upd H2 Dl (.lst (ys ++ [y]))) := Still.upd (s2 _ _ e)
    refine ⟨fun b o h => ?_, ys ++ [y], upd_same, by rw [List.length_append, hl]; rfl, fun k z hk => ?_⟩
    · rw [upd_ne (ne_of_none h hD)]
      exact s2 _ _ (s _ _ h)
    · by_cases c : k < ys.length
      · rw [List.getElem?_append_left c] at hk
        exact hst k z _ _ st (hst k z _ _ (Still.of s2) (hr k z hk))
      · rw [List.getElem?_append_right (by omega)] at hk
        by_cases c2 : k - ys.length = 0
        · rw [c2] at hk
          have ez : y = z := Option.some.inj hk
          have ek : k = i := by omega
          subst ez ek
          exact hst _ _ _ _ st r
        · rw [List.getElem?_eq_none (by rw [List.length_singleton]; omega)] at hk
          cases hk
  · obtain ⟨s, ys, e, hl, hr⟩ := p
    exact q Dl ys H' hD s e hl hr
/-! loops: Pv of the turn, the slots and the heap -/
theorem g_forL {a : Addr} {xs : List V} {g : TG} (Pv : Nat → L2.St → Hp → Prop) (ha : ∀ R : VK, R (.ref a) H → tl σ H R) (hx : SqL K H a xs) (h0 : Pv 0 σ H) (hl : ∀ i σ' H', i ≤ xs.length → Pv i σ' H' → SqL K H' a xs)
    (hs : ∀ i x σ' H', xs[i]? = some x → Pv i σ' H' → g x σ' H' fun σ2 H2 => t { D with nx := Pv (i + 1), ct := Pv (i + 1), bk := D.nx } σ2 H2) (hd : ∀ σ' H', Pv xs.length σ' H' → D.nx σ' H') : tFor (iList K tl) g t D σ H :=
  ha _ ⟨a, rfl, ⟨xs, hx⟩, for_list Pv h0 hl hs hd⟩
theorem g_forT {a : Addr} {xs : List V} {g : TG} (Pv : Nat → L2.St → Hp → Prop) (ha : ∀ R : VK, R (.ref a) H → tl σ H R) (hx : SqT K H a xs) (h0 : Pv 0 σ H) (hl : ∀ i σ' H', i ≤ xs.length → Pv i σ' H' → SqT K H' a xs)
    (hs : ∀ i x σ' H', xs[i]? = some x → Pv i σ' H' → g x σ' H' fun σ2 H2 => t { D with nx := Pv (i + 1), ct := Pv (i + 1), bk := D.nx } σ2 H2) (hd : ∀ σ' H', Pv xs.length σ' H' → D.nx σ' H') : tFor (iTup K tl) g t D σ H :=
  ha _ ⟨a, rfl, ⟨xs, hx⟩, for_tup Pv h0 hl hs hd⟩
theorem g_forR1 {ta : TA} {j : Nat} {n : Int} (Pv : Nat → L2.St → Hp → Prop) (ha : ∀ R : List V → Hp → Prop, R [.int n] H → ta σ H R) (hn : -1000000 ≤ n ∧ n ≤ 1000000) (h0 : Pv 0 σ H)
    (hs : ∀ (i : Nat) σ' H', (i : Int) < n → Pv i σ' H' → t { D with nx := Pv (i + 1), ct := Pv (i + 1), bk := D.nx } (σ'.set j (some (.int (i : Int)))) H') (hd : ∀ σ' H', Pv n.toNat σ' H' → D.nx σ' H') : tFor (iRng1 ta) (gName j) t D σ H :=
  ha _ ⟨n, rfl, by omega, by omega, for_range (lo := 0) (n := n.toNat) Pv h0 (fun i σ' H' hi p => by
    have e0 : (0 : Int) + (i : Int) = (i : Int) := Int.zero_add _
    show t { D with nx := Pv (i + 1), ct := Pv (i + 1), bk := D.nx } (σ'.set j (some (.int ((0 : Int) + (i : Int))))) H'
    rw [e0]
    exact hs i σ' H' (by omega) p) hd⟩
end
/-! ### data of flat tuples: == and != -/
theorem canAll : ∀ {ds : List PyData}, (∀ d ∈ ds, PyData.canLay0 d = true) → PyData.canLayAll0 ds = true
  | [], _ => by simp [PyData.canLayAll0]
  | d :: ds, h => by
    simp only [PyData.canLayAll0, Bool.and_eq_true]
    exact ⟨h d List.mem_cons_self, canAll fun x hx => h x (List.mem_cons_of_mem _ hx)⟩
end My
namespace My
open PySem L2
theorem depthAll_le {n : Nat} : ∀ {ds : List PyData}, (∀ d ∈ ds, PyData.depth d ≤ n) → PyData.depthAll ds ≤ n
  | [], _ => by simp [PyData.depthAll]
  | d :: ds, h => by
    simp only [PyData.depthAll]
    have h1 := h d List.mem_cons_self
    have h2 := depthAll_le (ds := ds) fun x hx => h x (List.mem_cons_of_mem _ hx)
    omega
theorem shaped_list {ds : List PyData} {n : Nat} (h : ∀ d ∈ ds, PyData.canLay0 d = true ∧ PyData.depth d ≤ n) (hn : n < 64) : SeqAt.shaped (.list ds) = true := by
  unfold SeqAt.shaped
  rw [Bool.and_eq_true, decide_eq_true_eq]
  refine ⟨?_, ?_⟩
  · simp only [PyData.canLay0]
    exact canAll fun d hd => (h d hd).1
  · simp only [PyData.depth]
    have := depthAll_le (n := n) fun d hd => (h d hd).2
    omega
theorem dpAll_of {K : PySem.W.Frag} {H : Hp} : ∀ {vs : List V} {ds : List PyData}, vs.length = ds.length → (∀ (i : Nat) v d, vs[i]? = some v → ds[i]? = some d → Dp K H v d) → DpAll K H vs ds
  | [], [], _, _ => .nil
  | [], _ :: _, h, _ => nomatch h
  | _ :: _, [], h, _ => nomatch h
  | v :: vs, d :: ds, h, f => .cons (f 0 v d rfl rfl) (dpAll_of (by simpa using h) fun i x y hx hy => f (i + 1) x y (by simpa using hx) (by simpa using hy))
theorem dpAll_get {K : PySem.W.Frag} {H : Hp} : ∀ {vs : List V} {ds : List PyData}, DpAll K H vs ds → ∀ (i : Nat) (v : V), vs[i]? = some v → ∃ d, ds[i]? = some d ∧ Dp K H v d
  | _, _, .nil, i, v, h => nomatch h
  | _, _, .cons h1 h2, 0, v, h => ⟨_, rfl, by cases Option.some.inj h; exact h1⟩
  | _, _, .cons h1 h2, i + 1, v, h => dpAll_get h2 i v (by simpa using h)
theorem dpAll_len {K : PySem.W.Frag} {H : Hp} : ∀ {vs : List V} {ds : List PyData}, DpAll K H vs ds → vs.length = ds.length
  | _, _, .nil => rfl
  | _, _, .cons _ h => by simp [dpAll_len h]
theorem dpAll_take {K : PySem.W.Frag} {H : Hp} : ∀ {vs : List V} {ds : List PyData} (n : Nat), DpAll K H vs ds → DpAll K H (vs.take n) (ds.take n)
  | _, _, 0, _ => .nil
  | _, _, _ + 1, .nil => .nil
  | _, _, n + 1, .cons h r => .cons h (dpAll_take n r)
theorem dpAll_drop {K : PySem.W.Frag} {H : Hp} : ∀ {vs : List V} {ds : List PyData} (n : Nat), DpAll K H vs ds → DpAll K H (vs.drop n) (ds.drop n)
  | _, _, 0, h => h
  | _, _, _ + 1, .nil => .nil
  | _, _, n + 1, .cons _ r => dpAll_drop n r
theorem eqv_list {ds : List PyData} (h : SeqAt.shaped (.list ds) = true) : PyData.eqv (.list ds) (.list ds) = true := SeqAt.eqv_refl _ (SeqAt.canLay_of_shaped h)
/-- two lists of the same data: == is True, != is False -/
theorem g_eqL {K : PySem.W.Frag} {H : Hp} {Q : VK} {a b : Addr} {xs ys : List V} {ds : List PyData} {n : Nat} (ha : SqL K H a xs) (hb : SqL K H b ys) (h1 : DpAll K H xs ds) (h2 : DpAll K H ys ds) (hd : ∀ d ∈ ds, PyData.canLay0 d = true ∧ PyData.depth d ≤ n) (hn : n < 64)
    (q : Q (.bl true) H) : rEqD K (.ref a) (.ref b) H Q := by
  have sh := shaped_list hd hn
  refine ⟨_, _, .lst ha h1, .lst hb h2, sh, sh, ?_⟩
  rw [eqv_list sh]
  exact q
theorem g_neL {K : PySem.W.Frag} {H : Hp} {Q : VK} {a b : Addr} {xs ys : List V} {ds : List PyData} {n : Nat} (ha : SqL K H a xs) (hb : SqL K H b ys) (h1 : DpAll K H xs ds) (h2 : DpAll K H ys ds) (hd : ∀ d ∈ ds, PyData.canLay0 d = true ∧ PyData.depth d ≤ n) (hn : n < 64)
    (q : Q (.bl false) H) : rNeD K (.ref a) (.ref b) H Q := by
  have sh := shaped_list hd hn
  refine ⟨_, _, .lst ha h1, .lst hb h2, sh, sh, ?_⟩
  rw [eqv_list sh]
  exact q
end My
namespace My
open PySem L2
theorem kit_ll : PySem.W.kitOne K (.type "list") (.type "list") = some true := kit_ty (by decide +kernel)
theorem kit_tt : PySem.W.kitOne K (.type "tuple") (.type "tuple") = some true := kit_ty (by decide +kernel)
theorem g_isiL {K : PySem.W.Frag} {H : Hp} {Q : VK} {a : Addr} {xs : List V} (h : H a = some (.lst xs)) (q : Q (.bl true) H) : rIsi K [.ref a, .ty "list"] H Q := g_isi (.ty "list") (.base (.lst h)) kit_ll q
theorem tyx_t {K : PySem.W.Frag} {H : Hp} {a : Addr} {xs : List V} (h : SqT K H a xs) : TyX K H (.ref a) (.type "tuple") := by
  rcases h with (h | ⟨o, h⟩) | ⟨o, its, n, h, hc, _⟩
  · exact .base (.tup h)
  · exact .fTuple h
  · exact .kTuple h hc
theorem g_isiT {K : PySem.W.Frag} {H : Hp} {Q : VK} {a : Addr} {xs : List V} (h : SqT K H a xs) (q : Q (.bl true) H) : rIsi K [.ref a, .ty "tuple"] H Q := g_isi (.ty "tuple") (tyx_t h) kit_tt q
end My
namespace My
open PySem L2
theorem pair_at {α β : Type} {R : α → β → Prop} : ∀ {as : List α} {bs : List β}, Paired R as bs → ∀ {n : Nat} {a : α}, as[n]? = some a → ∃ b, bs[n]? = some b ∧ R a b
  | _, _, .nil, i, x, h => nomatch h
  | _, _, .cons r t, 0, x, h => ⟨_, rfl, by cases Option.some.inj h; exact r⟩
  | _, _, .cons r t, i + 1, x, h => pair_at t (by simpa using h)
end My
namespace My
open PySem L2
section
variable {K : PySem.W.Frag} {σ : L2.St} {H : Hp} {Q : VK} {D : Ends} {t u : TS} {te tl : TE}
theorem g_forRev {n : Int} {j : Nat} (Pv : Nat → L2.St → Hp → Prop) (ha : ∀ R : VK, R (.int n) H → te σ H R) (hn : 0 ≤ n ∧ n ≤ 1000000) (h0 : Pv 0 σ H)
    (hs : ∀ (i : Nat) σ' H', (i : Int) < n → Pv i σ' H' → t { D with nx := Pv (i + 1), ct := Pv (i + 1), bk := D.nx } (σ'.set j (some (.int (n - 1 - (i : Int))))) H') (hd : ∀ σ' H', Pv n.toNat σ' H' → D.nx σ' H') :
    tFor (iRevR (tRg1 te)) (gName j) t D σ H := by
  refine ha _ ⟨n, rfl, by omega, by omega, by omega, by omega, ?_⟩
  have e1 : (n - 0).toNat = n.toNat := by omega
  have e2 : 0 + ((n.toNat : Nat) : Int) - 1 = n - 1 := by omega
  rw [e1, e2]
  exact for_rangeC (lo := n - 1) (c := -1) (n := n.toNat) Pv h0 (fun i σ' H' hi p => by
    show t { D with nx := Pv (i + 1), ct := Pv (i + 1), bk := D.nx } (σ'.set j (some (.int (n - 1 + ((i : Nat) : Int) * (-1))))) H'
    have e3 : n - 1 + ((i : Nat) : Int) * (-1) = n - 1 - (i : Int) := by omega
    rw [e3]
    exact hs i σ' H' (by omega) p) hd
theorem g_tyL {P : Prop} {l : Addr} {xs : List V} (h : H l = some (.lst xs)) (q : P) : tyV K "list" (.ref l) H ∧ P := ⟨.inl ⟨rfl, _, SqL.of h⟩, q⟩
theorem g_append {l : Addr} {xs : List V} {v : V} (h : H l = some (.lst xs)) (hl : xs.length ≤ 100000) (q : Q .non (upd H l (.lst (xs ++ [v])))) : rAppend (.ref l) [v] H Q := ⟨l, xs, v, rfl, rfl, h, Nat.lt_of_le_of_lt hl (by decide), q⟩
/-- a comprehension over a list with a test: pure test, pure value -/
theorem g_lcF {tt : TT} {a : Addr} {xs : List V} {j : Nat} {vs : List Nat} (p : V → Bool) (f : V → V) (ha : ∀ R : VK, R (.ref a) H → tl σ H R) (hx : SqL K H a xs) (hn : xs.length ≤ 40000)
    (hw : ∀ x, wipe ((wipe σ vs).set j (some x)) vs = wipe σ vs)
    (ht : ∀ (i : Nat) (x : V) (H1 : Hp) (QB : Bool → Hp → Prop), xs[i]? = some x → Same H H1 → QB (p x) H1 → tt ((wipe σ vs).set j (some x)) H1 QB)
    (he : ∀ (i : Nat) (x : V) (H1 : Hp) (QE : VK), xs[i]? = some x → p x = true → Same H H1 → QE (f x) H1 → te ((wipe σ vs).set j (some x)) H1 QE)
    (q : ∀ pp H1, H pp = none → Same H H1 → H1 pp = some (.lst ((xs.filter p).map f)) → Q (.ref pp) H1) :
    tLc (iList K tl) (gName j) tt te vs σ H Q := by
  refine ha _ ⟨a, rfl, ⟨xs, hx⟩, fun Dl hD => ?_⟩
  refine lc_list (xs := xs) (fun i H' => Same H H' ∧ H' Dl = some (.lst (((xs.take i).filter p).map f)))
    ⟨Same.new hD _, upd_same⟩ (fun i H' _ p => p.1.seq hx) (fun i x H' hi pr => ?_) (fun H' pr => ?_)
  · obtain ⟨s, e⟩ := pr
    have hi2 := (List.getElem?_eq_some_iff.mp hi).1
    have et : xs.take (i + 1) = xs.take i ++ [x] := by rw [List.take_add_one, hi]; rfl
    have hz : (((xs.take i).filter p).map f).length < sizeLine := by
      rw [List.length_map]
      have h1 := List.length_filter_le p (xs.take i)
      rw [List.length_take] at h1
      exact Evl.sz_lt (by omega)
    refine ⟨hw _, ht i x H' _ hi s ?_⟩
    cases hp : p x with
    | true =>
      show te ((wipe σ vs).set j (some x)) H' _
      refine he i x H' _ hi hp s ⟨_, e, hz, fun b o h => ?_, ?_⟩
      · rw [upd_ne (ne_of_none h hD)]
        exact s _ _ h
      · rw [upd_same, et, List.filter_append, List.map_append, List.filter_cons, if_pos hp]
        rfl
    | false =>
      show Same H H' ∧ H' Dl = some (.lst (((xs.take (i + 1)).filter p).map f))
      refine ⟨s, ?_⟩
      rw [et, List.filter_append, List.map_append, List.filter_cons, if_neg (by rw [hp]; decide), e]
      simp
  · obtain ⟨s, e⟩ := pr
    rw [List.take_length] at e
    exact q Dl H' hD s e
end
theorem mulBits {a b : Int} (ha : Builtin.Int.intBits a ≤ 10000000) (hb : Builtin.Int.intBits b ≤ 10000000) : IntMulOk a b := by
  unfold IntMulOk Builtin.Int.intTooBig
  intro z
  rw [Bool.and_eq_true, decide_eq_true_eq] at z
  have z2 := z.2
  have e : bitsLine = 134217728 := by decide
  rw [e] at z2
  omega
/-! ### what all laws have: the script's cells, whole numbers, the answer -/
def cell (ns : List Int) (k : Int) : Int := ns.getD k.toNat 0
def sp_cell (K : PySem.W.Frag) : Sp := fun vs H Q _ => ∃ (a : Addr) (ns : List Int) (k : Int), vs = [.ref a, .int k] ∧ SqL K H a (ns.map V.int) ∧ 0 ≤ k ∧ Q (.int (cell ns k)) H
theorem use_cell {K : PySem.W.Frag} {H : Hp} {Q : VK} {E : XK} {a : Addr} {ns : List Int} {k : Int} (h : SqL K H a (ns.map V.int)) (h0 : 0 ≤ k) (q : Q (.int (cell ns k)) H) : sp_cell K [.ref a, .int k] H Q E := ⟨a, ns, k, rfl, h, h0, q⟩
def spLaw (K : PySem.W.Frag) : Sp := fun vs H Q _ => ∃ (a : Addr) (ns : List Int), vs = [.ref a] ∧ SqL K H a (ns.map V.int) ∧ ns.length ≤ 63 ∧ (∀ z ∈ ns, Builtin.Int.intBits z ≤ 1048576) ∧ ∀ H', Q (.bl true) H'
theorem atI_cell {ns : List Int} {k : Int} (h0 : 0 ≤ k) (h : k < (ns.length : Int)) : atI (ns.map V.int) k = some (.int (cell ns k)) := by
  have hk : k.toNat < ns.length := by omega
  have ek : k = ((k.toNat : Nat) : Int) := by omega
  rw [ek]
  refine atI_nat ?_
  rw [List.getElem?_map, List.getElem?_eq_getElem hk]
  show some (V.int ns[k.toNat]) = some (V.int (cell ns _))
  unfold cell
  rw [Int.toNat_natCast, List.getD_eq_getElem?_getD, List.getElem?_eq_getElem hk]
  rfl
theorem cell_out {ns : List Int} {k : Int} (h : ¬ k < (ns.length : Int)) : cell ns k = 0 := by
  unfold cell
  rw [List.getD_eq_getElem?_getD, List.getElem?_eq_none (by omega)]
  rfl
theorem cell_bits {ns : List Int} (h : ∀ z ∈ ns, Builtin.Int.intBits z ≤ 1048576) (k : Int) : Builtin.Int.intBits (cell ns k) ≤ 1048576 := by
  unfold cell
  rw [List.getD_eq_getElem?_getD]
  cases e : ns[k.toNat]? with
  | none => exact Nat.zero_le _
  | some z => exact h z (List.mem_of_getElem? e)
end My
namespace My
open PySem L2
section
variable {X : Cx} {K : PySem.W.Frag}
theorem ixTK (h : X.K = K) : IxR X (rIxT K) := h ▸ ix_tup
theorem ixLK (h : X.K = K) : IxR X (rIxL K) := h ▸ ix_list
theorem ixOK (h : X.K = K) : IxR X (rIx K) := h ▸ ix_seq
theorem lenK (h : X.K = K) : CallR X (.builtin "len") (rLen K) := h ▸ my_len
theorem listK (h : X.K = K) : CallR X (.type "list") (rList K) := h ▸ my_list
theorem tupleK (h : X.K = K) : CallR X (.type "tuple") (rTuple K) := h ▸ my_tuple
theorem typK (h : X.K = K) : CallR X (.type "type") (rTyp K) := h ▸ call_type1
theorem isiK (h : X.K = K) : CallR X (.builtin "isinstance") (rIsi K) := h ▸ call_isi
theorem inK (h : X.K = K) : OpR X (compareOp .In) (rIn K false) := h ▸ op_in_seq
theorem ninK (h : X.K = K) : OpR X (compareOp .NotIn) (rIn K true) := h ▸ op_notIn_seq
theorem slLK (h : X.K = K) : SlR X (rSlL K) := h ▸ sl_list
theorem slTK (h : X.K = K) : SlR X (rSlT K) := h ▸ sl_tup
end
end My

set_option Elab.async false
set_option linter.all false
set_option maxRecDepth 100000
set_option maxHeartbeats 1000000
/-! texts, and what keys and values are -/
namespace My
open PySem L2
section
variable {X : Cx} {K : PySem.W.Frag} {σ : L2.St} {H : Hp} {Q : VK} {D : Ends} {t u : TS} {te tl : TE}
/-- a comprehension over a text: a pure value for each sign -/
theorem g_lcS {z : Str} {j : Nat} {vs : List Nat} (f : Nat → V) (ha : ∀ R : VK, R (.str z) H → tl σ H R) (hn : z.cps.size ≤ 40000)
    (hw : ∀ x, wipe ((wipe σ vs).set j (some x)) vs = wipe σ vs)
    (he : ∀ (c : Nat) (H1 : Hp) (QE : VK), c ∈ z.cps.toList → Same H H1 → QE (f c) H1 → te ((wipe σ vs).set j (some (.str ⟨#[c]⟩))) H1 QE)
    (q : ∀ p H1, H p = none → Same H H1 → H1 p = some (.lst (z.cps.toList.map f)) → Q (.ref p) H1) :
    tLc (iStr tl) (gName j) tYes te vs σ H Q := by
  refine ha _ ⟨z, rfl, fun Dl hD => ?_⟩
  refine lc_it walk_str (fun i H' => Same H H' ∧ H' Dl = some (.lst ((z.cps.toList.take i).map f)))
    ⟨Same.new hD _, upd_same⟩ (fun _ _ _ _ => trivial) (fun i x H1 H' hi pr y => ?_) (fun H' pr => ?_)
  · obtain ⟨s, e⟩ := pr
    obtain ⟨rfl, c, hc, rfl⟩ := y
    have hc2 : z.cps.toList[i]? = some c := by rw [Array.getElem?_toList]; exact hc
    refine ⟨hw _, ?_⟩
    show te ((wipe σ vs).set j (some (.str ⟨#[c]⟩))) H' _
    refine he c H' _ (List.mem_of_getElem? hc2) s ⟨_, e, by rw [List.length_map, List.length_take]; exact Evl.sz_lt (by omega), fun b o h => ?_, ?_⟩
    · rw [upd_ne (ne_of_none h hD)]
      exact s _ _ h
    · rw [upd_same, List.take_add_one, hc2, List.map_append]
      rfl
  · obtain ⟨s, e⟩ := pr
    rw [show z.cps.size = z.cps.toList.length from Array.length_toList.symm, List.take_length] at e
    exact q Dl H' hD s e
theorem pe_gI {x : Str} {i : Int} {t : Tok} {pos : Pos} (hg : Gl X x) (hm : X.mg x = some (.int i t)) (hd : (x == ("__debug__" : Str)) = false := by decide) : PE X (.Name x pos) (tC (.int i)) := pe_glob hg hm ⟨t, rfl⟩ hd
theorem g_dnewK (q : ∀ p H1, H p = none → Same H H1 → H1 p = some (.dK []) → Q (.ref p) H1) : tDNewK σ H Q := fun p hp => q p _ hp (Same.new hp _) upd_same
def rLeS : R2 := fun x y H Q => ∃ i j, x = .str i ∧ y = .str j ∧ Q (.bl (!decide (j.cps.toList < i.cps.toList))) H
theorem my_leS : OpR X (compareOp .LtE) rLeS := op_le_str
theorem g_leS {i j : Str} (q : Q (.bl (!decide (j.cps.toList < i.cps.toList))) H) : rLeS (.str i) (.str j) H Q := ⟨i, j, rfl, rfl, q⟩
theorem g_slS {z : Str} {lo hi : Option Int} (h : z.length ≤ sizeLine) (q : Q (.str (cutS z lo hi)) H) : rSlS (.str z) lo hi H Q := ⟨z, rfl, h, q⟩
theorem g_ixS {z : Str} {i : Int} {c : Nat} (h : z.length ≤ sizeLine) (ha : atI z.cps.toList i = some c) (q : Q (.str ⟨#[c]⟩) H) : rIxS (.str z) (.int i) H Q := ⟨z, i, c, rfl, rfl, h, ha, q⟩
def rJoin (K : PySem.W.Frag) : V → List V → Hp → VK → Prop := fun x xs H Q => ∃ a p, ∃ ys : List Str, x = .str a ∧ xs = [.ref p] ∧ (SqL K H p (ys.map V.str) ∨ SqT K H p (ys.map V.str)) ∧
      (ys.map (·.length)).sum + ys.length * a.length ≤ 16777216 ∧ Q (.str (Txt.join a ys)) H
theorem my_join {o e : Expr} {to te : TE} {apos pos : Pos} (ho : PE X o to) (he : PE X e te) (hs : starEach [e] X.env = [(false, eval e X.env)] := by rfl) (hbase : attributeBase o "join" X.env (eval o X.env) = eval o X.env := by rfl) (hline : (apos.endLine == pos.line) = true := by rfl) :
    PE X (.Call (.Attribute o "join" apos) [e] [] pos) (tM1 (rJoin X.K) to te) := pe_join ho he hs hbase hline
theorem g_m1 {r : V → List V → Hp → VK → Prop} {to te : TE} {z : Str} (q : ∀ R : VK, R (.str z) H → to σ H R) (k : te σ H fun y H2 => r (.str z) [y] H2 Q) : tM1 r to te σ H Q := q _ ⟨⟨z, rfl⟩, k⟩
theorem g_join {a : Str} {p : Addr} {ys : List Str} (h : SqL K H p (ys.map V.str)) (hz : (ys.map (·.length)).sum + ys.length * a.length ≤ 16777216) (q : Q (.str (Txt.join a ys)) H) : rJoin K (.str a) [.ref p] H Q := ⟨a, p, ys, rfl, rfl, .inl h, hz, q⟩
end
/-! signs -/
theorem str_ext {a b : Str} (h : a.cps.toList = b.cps.toList) : a = b := by
  obtain ⟨⟨x⟩⟩ := a
  obtain ⟨⟨y⟩⟩ := b
  have : x = y := h
  rw [this]
theorem str_len (z : Str) : z.length = z.cps.toList.length := Array.length_toList.symm
theorem app_toList (a b : Str) : (a ++ b).cps.toList = a.cps.toList ++ b.cps.toList := Array.toList_append
theorem app_len (a b : Str) : (a ++ b).length = a.length + b.length := by rw [str_len, str_len, str_len, app_toList, List.length_append]
theorem join_signs : ∀ cs : List Nat, (Txt.join (Str.ofString "") (cs.map fun c => (⟨#[c]⟩ : Str))).cps.toList = cs := fun cs => by
  have e0 : (Str.ofString "") = (⟨#[]⟩ : Str) := by decide +kernel
  rw [e0, show Txt.join = Str.join from by funext y parts; exact TL.join_eq y parts]
  induction cs with
  | nil => rfl
  | cons c r ih =>
    cases r with
    | nil => rfl
    | cons d r =>
      show ((⟨#[c]⟩ : Str) ++ ⟨#[]⟩ ++ Str.join ⟨#[]⟩ ((d :: r).map fun c => (⟨#[c]⟩ : Str))).cps.toList = _
      rw [app_toList, app_toList, ih]
      rfl
theorem sum_ones (cs : List Nat) : ((cs.map fun c => (⟨#[c]⟩ : Str)).map (·.length)).sum = cs.length := by
  induction cs with
  | nil => rfl
  | cons c r ih =>
    rw [List.map_cons, List.map_cons, List.sum_cons, ih, List.length_cons]
    exact Nat.add_comm 1 r.length
theorem cutS_to (z : Str) (n : Nat) : (cutS z none (some (n : Int))).cps.toList = z.cps.toList.take n := by
  unfold cutS
  show (z.cps.toList.drop _).take _ = _
  rw [HT.sIx_none, HT.sIx_nat, List.drop_zero, Nat.sub_zero, str_len]
  by_cases h : n ≤ z.cps.toList.length
  · rw [Nat.min_eq_left h]
  · rw [Nat.min_eq_right (by omega), List.take_length, List.take_of_length_le (by omega)]
theorem cutS_from (z : Str) (n : Nat) : (cutS z (some (n : Int)) none).cps.toList = z.cps.toList.drop n := by
  unfold cutS
  show (z.cps.toList.drop _).take _ = _
  rw [HT.sIx_none, HT.sIx_nat, str_len]
  by_cases h : n ≤ z.cps.toList.length
  · rw [Nat.min_eq_left h, List.take_of_length_le (by rw [List.length_drop]; omega)]
  · rw [Nat.min_eq_right (by omega), Nat.sub_self, List.take_zero, List.drop_eq_nil_of_le (by omega)]
/-! ### keys and values -/
def KB : Int := 1000000000000000000000000000000000000000000000000000000000000
theorem KB_eq : KB = 10 ^ Int.toNat 60 := by decide +kernel
def isInt : V → Bool
  | .int _ => true
  | _ => false
def isStr : V → Bool
  | .str _ => true
  | _ => false
def isKeyV : V → Bool
  | .int i => decide (-KB < i) && decide (i < KB)
  | _ => false
def signOk (c : Nat) : Bool := decide (32 ≤ c) && decide (c ≤ 126)
def isValV : V → Bool
  | .str z => decide (z.length ≤ 60) && z.cps.toList.all signOk
  | _ => false
/-- a thing whose kind is known -/
def Thing (K : PySem.W.Frag) (H : Hp) (x : V) : Prop := ∃ T, TyB K H x T ∧ (∀ z, x = .str z → z.length ≤ sizeLine)
theorem Thing.int {K : PySem.W.Frag} {H : Hp} (i : Int) : Thing K H (.int i) := ⟨_, .int i, fun _ h => nomatch h⟩
theorem Thing.str {K : PySem.W.Frag} {H : Hp} (z : Str) (h : z.length ≤ sizeLine) : Thing K H (.str z) := ⟨_, .str z, fun y e => by cases e; exact h⟩
theorem tyb_int {K : PySem.W.Frag} {H : Hp} {x : V} {T : String} (t : TyB K H x T) : decide (T = "int") = isInt x := by cases t <;> rfl
theorem tyb_str {K : PySem.W.Frag} {H : Hp} {x : V} {T : String} (t : TyB K H x T) : decide (T = "str") = isStr x := by cases t <;> rfl
theorem isKeyV_no {x : V} (h : isInt x = false) : isKeyV x = false := by
  cases x <;> first | rfl | cases h
theorem isValV_no {x : V} (h : isStr x = false) : isValV x = false := by
  cases x <;> first | rfl | cases h
theorem sign_lo (c : Nat) : (!decide ((⟨#[c]⟩ : Str).cps.toList < (Str.ofString " ").cps.toList)) = decide (32 ≤ c) := by
  have e : (Str.ofString " ").cps.toList = [32] := by decide +kernel
  rw [e]
  show (!decide (([c] : List Nat) < [32])) = decide (32 ≤ c)
  by_cases h : 32 ≤ c
  · rw [decide_eq_true h, Bool.not_eq_true', decide_eq_false_iff_not, List.cons_lt_cons_iff]
    simp
    omega
  · rw [decide_eq_false h, Bool.not_eq_false', decide_eq_true_iff, List.cons_lt_cons_iff]
    exact .inl (by omega)
theorem sign_hi (c : Nat) : (!decide ((Str.ofString "~").cps.toList < (⟨#[c]⟩ : Str).cps.toList)) = decide (c ≤ 126) := by
  have e : (Str.ofString "~").cps.toList = [126] := by decide +kernel
  rw [e]
  show (!decide (([126] : List Nat) < [c])) = decide (c ≤ 126)
  by_cases h : c ≤ 126
  · rw [decide_eq_true h, Bool.not_eq_true', decide_eq_false_iff_not, List.cons_lt_cons_iff]
    simp
    omega
  · rw [decide_eq_false h, Bool.not_eq_false', decide_eq_true_iff, List.cons_lt_cons_iff]
    exact .inl (by omega)
def Thing0 (K : PySem.W.Frag) (H : Hp) (x : V) : Prop := ∃ T, TyB K H x T
theorem Thing.zero {K : PySem.W.Frag} {H : Hp} {x : V} (h : Thing K H x) : Thing0 K H x := ⟨_, h.choose_spec.1⟩
def sp_is_whole (K : PySem.W.Frag) : Sp := fun vs H Q _ => ∃ x : V, vs = [x] ∧ Thing0 K H x ∧ Q (.bl (isInt x)) H
def sp_is_key (K : PySem.W.Frag) : Sp := fun vs H Q _ => ∃ x : V, vs = [x] ∧ Thing0 K H x ∧ Q (.bl (isKeyV x)) H
def sp_is_value (K : PySem.W.Frag) : Sp := fun vs H Q _ => ∃ x : V, vs = [x] ∧ Thing K H x ∧ ∀ H', Same H H' → Q (.bl (isValV x)) H'
def sp_l_says : Sp := fun vs H Q _ => ∃ f d : Bool, vs = [.bl f, .bl d] ∧ Q (.bl (decide (f = d))) H
end My
namespace My
open PySem L2
theorem list_eq {α : Type} {xs ys : List α} (hl : xs.length = ys.length) (h : ∀ (i : Nat) x, xs[i]? = some x → ys[i]? = some x) : xs = ys := by
  refine List.ext_getElem? fun i => ?_
  cases e : xs[i]? with
  | some x => exact (h i x e).symm
  | none =>
    have := List.getElem?_eq_none_iff.mp e
    exact (List.getElem?_eq_none (by omega)).symm
theorem strL {cs : List Nat} : (cs.map fun c => V.str ⟨#[c]⟩) = (cs.map fun c => (⟨#[c]⟩ : Str)).map V.str := by rw [List.map_map]; rfl
end My
namespace My
open PySem L2
section
variable {σ : L2.St} {H : Hp} {Q : VK} {tb : TE}
theorem g_andVJ {k b : Bool} (h : k = true → ∀ R : VK, R (.bl b) H → tb σ H R) (q : Q (.bl (k && b)) H) : andV tb σ Q (.bl k) H := ⟨k, rfl, by
  cases k
  · exact q
  · exact h rfl _ q⟩
theorem g_orVJ {k b : Bool} (h : k = false → ∀ R : VK, R (.bl b) H → tb σ H R) (q : Q (.bl (k || b)) H) : orV tb σ Q (.bl k) H := ⟨k, rfl, by
  cases k
  · exact h rfl _ q
  · exact q⟩
end
theorem notval_of_mem {z : Str} {c : Nat} (h : c ∈ z.cps.toList) (hc : signOk c = false) : isValV (.str z) = false := by
  have e : isValV (.str z) = (decide (z.length ≤ 60) && z.cps.toList.all signOk) := rfl
  rw [e, Bool.and_eq_false_iff]
  refine .inr ?_
  rw [List.all_eq_false]
  exact ⟨c, h, by rw [hc]; decide⟩
end My
namespace My
open PySem L2
theorem tyof_same {K : PySem.W.Frag} {H H' : Hp} (e : Same H H') {x : V} {t : Value} (h : TyOf K H x t) : TyOf K H' x t := by
  cases h with
  | non => exact .non
  | bl b => exact .bl b
  | int i => exact .int i
  | str x => exact .str x
  | flt x => exact .flt x
  | lst ea => exact .lst (e _ _ ea)
  | frz ea => exact .frz (e _ _ ea)
  | tup ea => exact .tup (e _ _ ea)
  | dK ea => exact .dK (e _ _ ea)
  | dT ea => exact .dT (e _ _ ea)
  | ins ea cl ha hn htk hm => exact .ins (e _ _ ea) cl ha hn htk hm
end My

set_option Elab.async false
set_option linter.all false
set_option maxRecDepth 100000
set_option maxHeartbeats 1000000
/-! what a block is, told of data -/
namespace My
open PySem L2
def isKeyD : PyData → Bool
  | .int i => decide (-KB < i) && decide (i < KB)
  | _ => false
def isValD : PyData → Bool
  | .str z => decide (z.length ≤ 60) && z.cps.toList.all signOk
  | _ => false
def isNumD : PyData → Bool
  | .int i => decide (1 ≤ i)
  | _ => false
def isTwoD : PyData → Bool
  | .tuple ds => decide (ds.length = 2)
  | _ => false
def tyD : PyData → String
  | .none => "NoneType"
  | .bool _ => "bool"
  | .int _ => "int"
  | .str _ => "str"
  | .list _ => "list"
  | .tuple _ => "tuple"
  | .dict _ => "dict"
def leafW : Str := Str.ofString "leaf"
def branchW : Str := Str.ofString "branch"
def heldD (w : Str) (h : PyData) : Bool := if w = leafW then isValD h else isNumD h
def isPairD (w : Str) : PyData → Bool
  | .tuple [k, h] => isKeyD k && heldD w h
  | _ => false
def keyD : PyData → Int
  | .tuple (.int k :: _) => k
  | _ => 0
def risesI (ks : List Int) : Bool := (List.range (ks.length - 1)).all fun i => decide (ks.getD i 0 < ks.getD (i + 1) 0)
def isBlockD (least most : Int) : PyData → Bool
  | .tuple [.str w, .tuple ps] => (decide (w = leafW) || decide (w = branchW)) && (decide (least ≤ (ps.length : Int)) && decide ((ps.length : Int) ≤ most)) && (ps.all (isPairD w) && risesI (ps.map keyD))
  | _ => false
/-- texts that are held are no longer than the line -/
def FitP (d : PyData) : Prop := ∀ k z, d = .tuple [k, .str z] → z.length ≤ sizeLine
def FitB (d : PyData) : Prop := ∀ w ps, d = .tuple [w, .tuple ps] → ps.length ≤ 30000 ∧ ∀ p ∈ ps, FitP p
theorem rises_iff (ks : List Int) : risesI ks = true ↔ ks.Pairwise (· < ·) := by
  unfold risesI
  rw [List.all_eq_true]
  constructor
  · intro h
    induction ks with
    | nil => exact .nil
    | cons x r ih =>
      have hr : r.Pairwise (· < ·) := ih fun i hi => by
        rw [List.mem_range] at hi
        have := h (i + 1) (by rw [List.mem_range, List.length_cons]; omega)
        simpa using this
      refine List.pairwise_cons.mpr ⟨fun y hy => ?_, hr⟩
      cases r with
      | nil => cases hy
      | cons z t =>
        have hz : x < z := by
          have := h 0 (by rw [List.mem_range, List.length_cons, List.length_cons]; omega)
          simpa using this
        rcases List.mem_cons.mp hy with e | e
        · rw [e]; exact hz
        · exact Int.lt_trans hz ((List.pairwise_cons.mp hr).1 y e)
  · intro h i hi
    rw [List.mem_range] at hi
    have h1 : i < ks.length := by omega
    have h2 : i + 1 < ks.length := by omega
    rw [List.getD_eq_getElem?_getD, List.getD_eq_getElem?_getD, List.getElem?_eq_getElem h1, List.getElem?_eq_getElem h2]
    exact decide_eq_true (List.pairwise_iff_getElem.mp h i (i + 1) h1 h2 (by omega))
theorem rises_not {as bs : List Int} {x y : Int} (h : ¬ x < y) : risesI (as ++ x :: y :: bs) = false := by
  rw [Bool.eq_false_iff]
  intro e
  have := (List.pairwise_append.mp ((rises_iff _).mp e)).2.1
  exact h ((List.pairwise_cons.mp this).1 y List.mem_cons_self)
/-! data and values -/
theorem dp_tyb {K : PySem.W.Frag} {H : Hp} {x : V} {d : PyData} (h : Dp K H x d) : TyB K H x (tyD d) := by
  cases h with
  | non => exact .non
  | bl b => exact .bl b
  | int i => exact .int i
  | str z => exact .str z
  | lst h _ => exact .lst h
  | tup h _ => exact .tup h
theorem dp_key {K : PySem.W.Frag} {H : Hp} {x : V} {d : PyData} (h : Dp K H x d) : isKeyV x = isKeyD d := by cases h <;> rfl
theorem dp_val {K : PySem.W.Frag} {H : Hp} {x : V} {d : PyData} (h : Dp K H x d) : isValV x = isValD d := by cases h <;> rfl
theorem dp_int {K : PySem.W.Frag} {H : Hp} {x : V} {d : PyData} (h : Dp K H x d) : isInt x = decide (tyD d = "int") := by cases h <;> rfl
theorem dp_tuple {K : PySem.W.Frag} {H : Hp} {x : V} {ds : List PyData} (h : Dp K H x (.tuple ds)) : ∃ a xs, x = .ref a ∧ SqT K H a xs ∧ DpAll K H xs ds := by
  cases h with
  | tup h r => exact ⟨_, _, rfl, h, r⟩
theorem dpAll_two {K : PySem.W.Frag} {H : Hp} {xs : List V} {k h : PyData} (r : DpAll K H xs [k, h]) : ∃ x y, xs = [x, y] ∧ Dp K H x k ∧ Dp K H y h := by
  cases r with
  | cons h1 r =>
    cases r with
    | cons h2 r =>
      cases r
      exact ⟨_, _, rfl, h1, h2⟩
theorem dp_str {K : PySem.W.Frag} {H : Hp} {x : V} {z : Str} (h : Dp K H x (.str z)) : x = .str z := by cases h; rfl
theorem dp_i {K : PySem.W.Frag} {H : Hp} {x : V} {i : Int} (h : Dp K H x (.int i)) : x = .int i := by cases h; rfl
theorem tyD_tuple {d : PyData} (h : tyD d = "tuple") : ∃ ds, d = .tuple ds := by
  cases d <;> first | exact ⟨_, rfl⟩ | (simp [tyD] at h)
theorem tyD_str {d : PyData} (h : tyD d = "str") : ∃ z, d = .str z := by
  cases d <;> first | exact ⟨_, rfl⟩ | (simp [tyD] at h)
theorem tyD_int {d : PyData} (h : tyD d = "int") : ∃ z, d = .int z := by
  cases d <;> first | exact ⟨_, rfl⟩ | (simp [tyD] at h)
theorem isTwoD_two {d : PyData} (h : isTwoD d = true) : ∃ k x, d = .tuple [k, x] := by
  match d, h with
  | .tuple [k, x], _ => exact ⟨k, x, rfl⟩
theorem isPairD_not2 {w : Str} {d : PyData} (h : isTwoD d = false) : isPairD w d = false := by
  match d, h with
  | .tuple [], _ => rfl
  | .tuple [_], _ => rfl
  | .tuple (_ :: _ :: _ :: _), _ => rfl
  | .none, _ => rfl
  | .bool _, _ => rfl
  | .int _, _ => rfl
  | .str _, _ => rfl
  | .list _, _ => rfl
  | .dict _, _ => rfl
theorem isPairD_key {w : Str} {d : PyData} (h : isPairD w d = true) : ∃ k x, d = .tuple [.int k, x] := by
  cases e : isTwoD d with
  | false =>
    rw [isPairD_not2 e] at h
    cases h
  | true =>
    obtain ⟨k, x, rfl⟩ := isTwoD_two e
    cases k <;> first | exact ⟨_, _, rfl⟩ | (simp [isPairD, isKeyD] at h)
theorem isBlockD_one {l m : Int} (x : PyData) : isBlockD l m (.tuple [x]) = false := by
  cases x <;> rfl
theorem isBlockD_three {l m : Int} (x y z : PyData) (r : List PyData) : isBlockD l m (.tuple (x :: y :: z :: r)) = false := by
  cases x <;> first | rfl | (cases y <;> rfl)
theorem isBlockD_not2 {l m : Int} {d : PyData} (h : isTwoD d = false) : isBlockD l m d = false := by
  match d, h with
  | .tuple [], _ => rfl
  | .tuple [x], _ => exact isBlockD_one x
  | .tuple (x :: y :: z :: r), _ => exact isBlockD_three x y z r
  | .none, _ => rfl
  | .bool _, _ => rfl
  | .int _, _ => rfl
  | .str _, _ => rfl
  | .list _, _ => rfl
  | .dict _, _ => rfl
theorem isBlockD_word {l m : Int} {w p : PyData} (h : tyD w ≠ "str") : isBlockD l m (.tuple [w, p]) = false := by
  cases w <;> first | rfl | exact absurd rfl h
theorem isBlockD_pairs {l m : Int} {w : Str} {p : PyData} (h : tyD p ≠ "tuple") : isBlockD l m (.tuple [.str w, p]) = false := by
  cases p <;> first | rfl | exact absurd rfl h
/-! promises -/
def sp_is_number (K : PySem.W.Frag) : Sp := fun vs H Q _ => ∃ (x : V) (d : PyData), vs = [x] ∧ Dp K H x d ∧ Q (.bl (isNumD d)) H
def sp_is_two (K : PySem.W.Frag) : Sp := fun vs H Q _ => ∃ (x : V) (d : PyData), vs = [x] ∧ Dp K H x d ∧ Q (.bl (isTwoD d)) H
def sp_is_pair (K : PySem.W.Frag) : Sp := fun vs H Q _ => ∃ (x : V) (d : PyData) (w : Str), vs = [x, .str w] ∧ Dp K H x d ∧ FitP d ∧ ∀ H', Same H H' → Q (.bl (isPairD w d)) H'
def sp_rises (K : PySem.W.Frag) : Sp := fun vs H Q _ => ∃ (a : Addr) (xs : List V) (ds : List PyData), vs = [.ref a] ∧ SqT K H a xs ∧ DpAll K H xs ds ∧ ds.length ≤ 30000 ∧ (∀ d ∈ ds, ∃ k x, d = .tuple [.int k, x]) ∧
  ∀ H', Same H H' → Q (.bl (risesI (ds.map keyD))) H'
def sp_is_block (K : PySem.W.Frag) : Sp := fun vs H Q _ => ∃ (x : V) (d : PyData) (l m : Int), vs = [x, .int l, .int m] ∧ Dp K H x d ∧ FitB d ∧ ∀ H', Same H H' → Q (.bl (isBlockD l m d)) H'
/-- items that are bools by a function of the data -/
theorem bools_of {ys : List V} {ds : List PyData} {f : PyData → Bool} (hl : ys.length = ds.length) (h : ∀ (i : Nat) y, ys[i]? = some y → ∃ d, ds[i]? = some d ∧ y = .bl (f d)) : ys = (ds.map f).map V.bl := by
  refine list_eq (by rw [hl, List.length_map, List.length_map]) fun i y hy => ?_
  obtain ⟨d, hd, rfl⟩ := h i y hy
  rw [List.getElem?_map, List.getElem?_map, hd]
  rfl
end My

set_option Elab.async false
set_option linter.all false
set_option maxRecDepth 100000
set_option maxHeartbeats 1000000
/-! expressions that give data, whatever heap comes behind -/
namespace My
open PySem L2
def EvD (K : PySem.W.Frag) (te : TE) (σ : L2.St) (H : Hp) (d : PyData) : Prop := ∀ H1, Same H H1 → ∀ Q : VK, (∀ x H2, Same H1 H2 → Dp K H2 x d → Q x H2) → te σ H1 Q
def EvDs (K : PySem.W.Frag) (tr : TA) (σ : L2.St) (H : Hp) (ds : List PyData) : Prop := ∀ H1, Same H H1 → ∀ Q : List V → Hp → Prop, (∀ xs H2, Same H1 H2 → DpAll K H2 xs ds → Q xs H2) → tr σ H1 Q
/-- a new list -/
def EvN (K : PySem.W.Frag) (te : TE) (σ : L2.St) (H : Hp) (ds : List PyData) : Prop := ∀ H1, Same H H1 → ∀ Q : VK, (∀ p xs H2, H1 p = none → Same H1 H2 → H2 p = some (.lst xs) → DpAll K H2 xs ds → Q (.ref p) H2) → te σ H1 Q
def EvO (K : PySem.W.Frag) (to : TO) (σ : L2.St) (H : Hp) (o : Option Int) : Prop := ∀ H1, Same H H1 → ∀ Q : Option Int → Hp → Prop, (∀ H2, Same H1 H2 → Q o H2) → to σ H1 Q
section
variable {K : PySem.W.Frag} {σ : L2.St} {H H' : Hp} {ta tb te : TE} {tr : TA} {d e : PyData} {ds es : List PyData} {i j k : Int}
theorem EvD.mono (s : Same H H') (h : EvD K te σ H d) : EvD K te σ H' d := fun H1 s1 => h H1 (s.trans s1)
theorem EvN.mono (s : Same H H') (h : EvN K te σ H ds) : EvN K te σ H' ds := fun H1 s1 => h H1 (s.trans s1)
theorem EvN.toD (h : EvN K te σ H ds) : EvD K te σ H (.list ds) := fun H1 s1 Q q => h H1 s1 Q fun p xs H2 np s2 e hd => q _ H2 s2 (.lst (SqL.of e) hd)
theorem evd_i : EvD K (tC (.int i)) σ H (.int i) := fun H1 _ Q q => q _ H1 (L2.Same.refl H1) (.int i)
theorem evd_b {b : Bool} : EvD K (tC (.bl b)) σ H (.bool b) := fun H1 _ Q q => q _ H1 (L2.Same.refl H1) (.bl b)
theorem evd_n : EvD K (tC .non) σ H .none := fun H1 _ Q q => q _ H1 (L2.Same.refl H1) .non
theorem evd_s {z : Str} : EvD K (tC (.str z)) σ H (.str z) := fun H1 _ Q q => q _ H1 (L2.Same.refl H1) (.str z)
theorem evd_v {n : Nat} {x : V} (h : σ[n]? = some (some x)) (hd : Dp K H x d) : EvD K (tVar n) σ H d := fun H1 s1 Q q => ⟨x, h, q x H1 (L2.Same.refl H1) (Dp.go s1 hd)⟩
theorem evd_op0 {g : Int → Int → V} (ha : EvD K ta σ H (.int i)) (hb : EvD K tb σ H (.int j)) (hg : g i j = .int k) : EvD K (tOp (rI0 g) ta tb) σ H (.int k) := fun H1 s1 Q q =>
  ha H1 s1 _ fun x H2 s2 hx => hb H2 (s1.trans s2) _ fun y H3 s3 hy => by
    cases dp_i hx
    cases dp_i hy
    exact ⟨i, j, rfl, rfl, q _ H3 (s2.trans s3) (by rw [hg]; exact .int k)⟩
theorem evd_op {C : Int → Int → Prop} {g : Int → Int → V} (ha : EvD K ta σ H (.int i)) (hb : EvD K tb σ H (.int j)) (hc : C i j) (hg : g i j = .int k) : EvD K (tOp (rI C g) ta tb) σ H (.int k) := fun H1 s1 Q q =>
  ha H1 s1 _ fun x H2 s2 hx => hb H2 (s1.trans s2) _ fun y H3 s3 hy => by
    cases dp_i hx
    cases dp_i hy
    exact ⟨i, j, rfl, rfl, hc, q _ H3 (s2.trans s3) (by rw [hg]; exact .int k)⟩
theorem evd_neg (ha : EvD K ta σ H (.int i)) : EvD K (tUn (rU fun i => .int (-i)) ta) σ H (.int (-i)) := fun H1 s1 Q q => ha H1 s1 _ fun x H2 s2 hx => by
  cases dp_i hx
  exact ⟨i, rfl, q _ H2 s2 (.int _)⟩
theorem evds_nil : EvDs K tNil σ H [] := fun H1 _ Q q => q [] H1 (L2.Same.refl H1) .nil
theorem evds_cons (h : EvD K te σ H d) (hr : EvDs K tr σ H ds) : EvDs K (tCons te tr) σ H (d :: ds) := fun H1 s1 Q q =>
  h H1 s1 _ fun x H2 s2 hx => hr H2 (s1.trans s2) _ fun xs H3 s3 hxs => q _ H3 (s2.trans s3) (.cons (Dp.go s3 hx) hxs)
theorem evd_tup (h : EvDs K tr σ H ds) (hl : ds.length ≤ 100000) : EvD K (tTup tr) σ H (.tuple ds) := fun H1 s1 Q q =>
  h H1 s1 _ fun xs H2 s2 hxs => g_tupK (by rw [dpAll_len hxs]; exact sz hl) fun p H3 np s3 e => q _ H3 (s2.trans s3) (.tup (SqT.of e) (DpAll.go s3 hxs))
theorem evn_lst (h : EvDs K tr σ H ds) (hl : ds.length ≤ 100000) : EvN K (tLst tr) σ H ds := fun H1 s1 Q q =>
  h H1 s1 _ fun xs H2 s2 hxs => g_lstK (by rw [dpAll_len hxs]; exact sz hl) fun p H3 np s3 e => q p xs H3 (s2.free np) (s2.trans s3) e (DpAll.go s3 hxs)
theorem dpAll_at {xs : List V} (h : DpAll K H xs ds) {n : Nat} (hd : ds[n]? = some d) : ∃ x, xs[n]? = some x ∧ Dp K H x d := by
  have hl := dpAll_len h
  have hn := (List.getElem?_eq_some_iff.mp hd).1
  obtain ⟨d', e1, e2⟩ := dpAll_get h n xs[n] (List.getElem?_eq_getElem (by omega))
  rw [hd] at e1
  cases Option.some.inj e1
  exact ⟨_, List.getElem?_eq_getElem (by omega), e2⟩
theorem evd_ixT (h : EvD K ta σ H (.tuple ds)) (hi : EvD K tb σ H (.int i)) (h0 : 0 ≤ i) (hd : ds[i.toNat]? = some d) : EvD K (tOp (rIxT K) ta tb) σ H d := fun H1 s1 Q q =>
  h H1 s1 _ fun x H2 s2 hx => hi H2 (s1.trans s2) _ fun y H3 s3 hy => by
    cases dp_i hy
    obtain ⟨a, xs, rfl, hs, hxs⟩ := dp_tuple (Dp.go s3 hx)
    obtain ⟨x, e1, e2⟩ := dpAll_at hxs hd
    have ei : i = ((i.toNat : Nat) : Int) := by omega
    exact ⟨a, xs, i, x, rfl, rfl, hs, (by rw [ei]; exact atI_nat e1), q x H3 (s2.trans s3) e2⟩
theorem dp_list {x : V} (h : Dp K H x (.list ds)) : ∃ a xs, x = .ref a ∧ SqL K H a xs ∧ DpAll K H xs ds := by
  cases h with
  | lst h r => exact ⟨_, _, rfl, h, r⟩
theorem evd_ixL (h : EvD K ta σ H (.list ds)) (hi : EvD K tb σ H (.int i)) (h0 : 0 ≤ i) (hd : ds[i.toNat]? = some d) : EvD K (tOp (rIxL K) ta tb) σ H d := fun H1 s1 Q q =>
  h H1 s1 _ fun x H2 s2 hx => hi H2 (s1.trans s2) _ fun y H3 s3 hy => by
    cases dp_i hy
    obtain ⟨a, xs, rfl, hs, hxs⟩ := dp_list (Dp.go s3 hx)
    obtain ⟨x, e1, e2⟩ := dpAll_at hxs hd
    have ei : i = ((i.toNat : Nat) : Int) := by omega
    exact ⟨a, xs, i, x, rfl, rfl, hs, (by rw [ei]; exact atI_nat e1), q x H3 (s2.trans s3) e2⟩
theorem dpAll_app : ∀ {xs ys : List V} {ds es : List PyData}, DpAll K H xs ds → DpAll K H ys es → DpAll K H (xs ++ ys) (ds ++ es)
  | _, _, _, _, .nil, h => h
  | _, _, _, _, .cons a r, h => .cons a (dpAll_app r h)
theorem evn_cat (ha : EvN K ta σ H ds) (hb : EvN K tb σ H es) (hl : ds.length + es.length ≤ 100000) : EvN K (tOp rCat ta tb) σ H (ds ++ es) := fun H1 s1 Q q =>
  ha H1 s1 _ fun p xs H2 np s2 e1 h1 => hb H2 (s1.trans s2) _ fun r ys H3 nr s3 e2 h2 =>
    ⟨p, r, xs, ys, rfl, rfl, s3 _ _ e1, e2, by rw [dpAll_len h1, dpAll_len h2]; exact sz hl, fun t nt =>
      q t (xs ++ ys) _ ((s2.trans s3).free nt) ((s2.trans s3).trans (Same.new nt _)) upd_same (DpAll.go (Same.new nt _) (dpAll_app (DpAll.go s3 h1) h2))⟩
/-- a list that stands: x + [..] wants its very object -/
theorem evn_v {n : Nat} {p : Addr} {xs : List V} (h : σ[n]? = some (some (.ref p))) (hp : H p = some (.lst xs)) (hd : DpAll K H xs ds) {tb : TE} (hb : EvN K tb σ H es) (hl : ds.length + es.length ≤ 100000) : EvN K (tOp rCat (tVar n) tb) σ H (ds ++ es) := fun H1 s1 Q q =>
  ⟨_, h, hb H1 s1 _ fun r ys H3 nr s3 e2 h2 =>
    ⟨p, r, xs, ys, rfl, rfl, s3 _ _ (s1 _ _ hp), e2, by rw [dpAll_len hd, dpAll_len h2]; exact sz hl, fun t nt =>
      q t (xs ++ ys) _ (s3.free nt) (s3.trans (Same.new nt _)) upd_same (DpAll.go (Same.new nt _) (dpAll_app (DpAll.go (s1.trans s3) hd) h2))⟩⟩
theorem evo_none : EvO K tNoPart σ H none := fun H1 _ Q q => q H1 (L2.Same.refl H1)
theorem evo_some (h : EvD K te σ H (.int i)) : EvO K (tPart te) σ H (some i) := fun H1 s1 Q q => h H1 s1 _ fun x H2 s2 hx => by
  cases dp_i hx
  exact ⟨i, rfl, q H2 s2⟩
theorem evn_slTo {th : TO} (h : EvD K te σ H (.list ds)) (hi : EvO K th σ H (some i)) (h0 : 0 ≤ i) : EvN K (tSl (rSlL K) te tNoPart th) σ H (ds.take i.toNat) := fun H1 s1 Q q =>
  h H1 s1 _ fun x H2 s2 hx => hi H2 (s1.trans s2) _ fun H3 s3 => by
    obtain ⟨a, xs, rfl, hs, hxs⟩ := dp_list (Dp.go s3 hx)
    refine ⟨a, xs, rfl, hs, fun p np => q p (xs.take i.toNat) _ ((s2.trans s3).free np) ((s2.trans s3).trans (Same.new np _)) ?_ (DpAll.go (Same.new np _) (dpAll_take _ hxs))⟩
    rw [show i = ((i.toNat : Nat) : Int) by omega, cut_to, Int.toNat_natCast]
    exact upd_same
theorem evn_slFrom {tl : TO} (h : EvD K te σ H (.list ds)) (hi : EvO K tl σ H (some i)) (h0 : 0 ≤ i) : EvN K (tSl (rSlL K) te tl tNoPart) σ H (ds.drop i.toNat) := fun H1 s1 Q q =>
  h H1 s1 _ fun x H2 s2 hx => hi H2 (s1.trans s2) _ fun H3 s3 => by
    obtain ⟨a, xs, rfl, hs, hxs⟩ := dp_list (Dp.go s3 hx)
    refine ⟨a, xs, rfl, hs, fun p np => q p (xs.drop i.toNat) _ ((s2.trans s3).free np) ((s2.trans s3).trans (Same.new np _)) ?_ (DpAll.go (Same.new np _) (dpAll_drop _ hxs))⟩
    rw [show i = ((i.toNat : Nat) : Int) by omega, cut_from, Int.toNat_natCast]
    exact upd_same
theorem evn_listL (h : EvD K te σ H (.list ds)) : EvN K (tCB (rList K) (tCons te tNil)) σ H ds := fun H1 s1 Q q => h H1 s1 _ fun x H2 s2 hx => by
  obtain ⟨a, xs, rfl, hs, hxs⟩ := dp_list hx
  exact ⟨a, xs, rfl, .inl hs, fun p np => q p xs _ (s2.free np) (s2.trans (Same.new np _)) upd_same (DpAll.go (Same.new np _) hxs)⟩
theorem evn_listT (h : EvD K te σ H (.tuple ds)) : EvN K (tCB (rList K) (tCons te tNil)) σ H ds := fun H1 s1 Q q => h H1 s1 _ fun x H2 s2 hx => by
  obtain ⟨a, xs, rfl, hs, hxs⟩ := dp_tuple hx
  exact ⟨a, xs, rfl, .inr hs, fun p np => q p xs _ (s2.free np) (s2.trans (Same.new np _)) upd_same (DpAll.go (Same.new np _) hxs)⟩
theorem evd_tupleL (h : EvD K te σ H (.list ds)) : EvD K (tCB (rTuple K) (tCons te tNil)) σ H (.tuple ds) := fun H1 s1 Q q => h H1 s1 _ fun x H2 s2 hx => by
  obtain ⟨a, xs, rfl, hs, hxs⟩ := dp_list hx
  exact ⟨a, xs, rfl, .inl ⟨hs, fun p np => q _ _ (s2.trans (Same.new np _)) (.tup (SqT.of upd_same) (DpAll.go (Same.new np _) hxs))⟩⟩
theorem evd_tupleT (h : EvD K te σ H (.tuple ds)) : EvD K (tCB (rTuple K) (tCons te tNil)) σ H (.tuple ds) := fun H1 s1 Q q => h H1 s1 _ fun x H2 s2 hx => by
  obtain ⟨a, xs, rfl, hs, hxs⟩ := dp_tuple hx
  exact ⟨a, xs, rfl, .inr ⟨hs, q _ _ s2 (.tup hs hxs)⟩⟩
theorem evd_strI (h : EvD K te σ H (.int i)) (hl : i.natAbs.log2 < 1920) : EvD K (tCB rStrI (tCons te tNil)) σ H (.str (toString i)) := fun H1 s1 Q q => h H1 s1 _ fun x H2 s2 hx => by
  cases dp_i hx
  exact ⟨i, rfl, hl, q _ H2 s2 (.str _)⟩
theorem evd_addS {a b : Str} (ha : EvD K ta σ H (.str a)) (hb : EvD K tb σ H (.str b)) (hl : a.length + b.length ≤ 100000) : EvD K (tOp rAddS ta tb) σ H (.str (a ++ b)) := fun H1 s1 Q q =>
  ha H1 s1 _ fun x H2 s2 hx => hb H2 (s1.trans s2) _ fun y H3 s3 hy => by
    cases dp_str hx
    cases dp_str hy
    exact ⟨a, b, rfl, rfl, sz hl, q _ H3 (s2.trans s3) (.str _)⟩
/-- data behind items that each read as something -/
theorem exists_data : ∀ {ys : List V} {R : Nat → V → PyData → Prop}, (∀ (i : Nat) y, ys[i]? = some y → ∃ d, R i y d) → ∃ ds : List PyData, ds.length = ys.length ∧ ∀ (i : Nat) y d, ys[i]? = some y → ds[i]? = some d → R i y d
  | [], R, _ => ⟨[], rfl, fun i y d h => nomatch h⟩
  | y :: ys, R, h => by
    obtain ⟨d, hd⟩ := h 0 y rfl
    obtain ⟨ds, hl, hr⟩ := exists_data (ys := ys) (R := fun i => R (i + 1)) fun i z hz => h (i + 1) z (by simpa using hz)
    refine ⟨d :: ds, by simp [hl], fun i z e h1 h2 => ?_⟩
    cases i with
    | zero =>
      cases Option.some.inj h1
      cases Option.some.inj h2
      exact hd
    | succ i => exact hr i z e (by simpa using h1) (by simpa using h2)
end
end My
namespace My
open PySem L2
section
variable {K : PySem.W.Frag} {σ : L2.St} {H : Hp} {te : TE} {d : PyData} {ds : List PyData} {D : Ends} {u : TS} {i : Nat} {Q : VK}
theorem evn_asg (h : EvN K te σ H ds) (k : ∀ p xs H1, H p = none → Same H H1 → H1 p = some (.lst xs) → DpAll K H1 xs ds → u D (σ.set i (some (.ref p))) H1) : tSeq (tAsg te (gName i)) u D σ H := h H (L2.Same.refl H) _ k
theorem evd_asg (h : EvD K te σ H d) (k : ∀ x H1, Same H H1 → Dp K H1 x d → u D (σ.set i (some x)) H1) : tSeq (tAsg te (gName i)) u D σ H := h H (L2.Same.refl H) _ k
theorem evn_ret (h : EvN K te σ H ds) (k : ∀ p xs H1, H p = none → Same H H1 → H1 p = some (.lst xs) → DpAll K H1 xs ds → D.rt (.ref p) H1) : tRet te D σ H := h H (L2.Same.refl H) _ k
theorem evd_ret (h : EvD K te σ H d) (k : ∀ x H1, Same H H1 → Dp K H1 x d → D.rt x H1) : tRet te D σ H := h H (L2.Same.refl H) _ k
theorem evd_to (h : EvD K te σ H d) (k : ∀ x H1, Same H H1 → Dp K H1 x d → Q x H1) : te σ H Q := h H (L2.Same.refl H) _ k
end
theorem held_no {w : Str} {h : PyData} (h1 : isValD h = false) (h2 : isNumD h = false) : heldD w h = false := by
  unfold heldD
  split <;> assumption
theorem all_mid {as bs : List PyData} {x : PyData} {p : PyData → Bool} (h : p x = false) : ((as ++ [x]) ++ bs).all p = false := by
  rw [List.all_append, List.all_append, List.all_cons, h, Bool.false_and, Bool.and_false, Bool.false_and]
theorem rises_mid {as bs : List PyData} {x y : PyData} (h : ¬ keyD x < keyD y) : risesI (((as ++ [x, y]) ++ bs).map keyD) = false := by
  rw [List.map_append, List.map_append, List.append_assoc]
  exact rises_not h
theorem log_small {k : Int} (h1 : -(2 ^ 300) < k) (h2 : k < 2 ^ 300) : k.natAbs.log2 < 1920 :=
  Nat.lt_of_lt_of_le (PySem.Flt.log2_lt_of (k := 300) (by decide) (by omega)) (by decide)
end My
namespace My
open PySem L2
section
variable {σ : L2.St} {H : Hp} {D : Ends} {t u : TS} {c : TT}
theorem g_ifP (P1 P2 : Prop) (hc : ∀ QB : Bool → Hp → Prop, (P1 → QB true H) → (P2 → QB false H) → c σ H QB) (h1 : P1 → t D σ H) (h2 : P2 → u D σ H) : tIfS c t u D σ H := hc _ (fun p => h1 p) (fun p => h2 p)
end
end My

set_option Elab.async false
set_option linter.all false
set_option maxRecDepth 100000
set_option maxHeartbeats 1000000
/-! dicts: their steps, their data, == and != -/
namespace My
open PySem L2
/-! ### named relations -/
section
variable {X : Cx}
def rDictD : List V → Hp → VK → Prop := fun us H Q => ∃ (d : Addr) (m : List (Key × V)), us = [.ref d] ∧ Rd H d (.dK m) ∧ ∀ p, H p = none → Q (.ref p) (upd H p (.dK m))
theorem my_dictD : CallR X (.type "dict") rDictD := call_dictD
def rListD : List V → Hp → VK → Prop := fun us H Q => ∃ (d : Addr) (m : List (Key × V)), us = [.ref d] ∧ Rd H d (.dK m) ∧ ∀ p, H p = none → Q (.ref p) (upd H p (.lst (m.map fun kv => kV kv.1)))
theorem my_listD (hc : X.calm = true) : CallR X (.type "list") rListD := call_listD hc
def rLenD : List V → Hp → VK → Prop := fun us H Q => ∃ (d : Addr) (m : List (Key × V)), us = [.ref d] ∧ Rd H d (.dK m) ∧ Q (.int m.length) H
theorem my_lenD : CallR X (.builtin "len") rLenD := by
  intro pins s σ H xs us Q I r h
  obtain ⟨d, m, rfl, hd, q⟩ := h
  cases r with
  | cons r0 r1 =>
    cases r1
    cases (show _ = Value.ref d from r0)
    exact d_len I hd fun t s' I' => ⟨.int _, H, I', ⟨_, rfl⟩, q⟩
/-- text * int -/
def repS (z : Str) (n : Nat) : Str := ⟨(List.replicate n z.cps.toList).flatten.toArray⟩
theorem repS_toList (z : Str) (n : Nat) : (repS z n).cps.toList = (List.replicate n z.cps.toList).flatten := rfl
theorem repS_len (z : Str) (n : Nat) : (repS z n).length = n * z.length := by
  rw [str_len, repS_toList, str_len, List.length_flatten, List.map_replicate, List.sum_replicate_nat]
def rMulS : R2 := fun x y H Q => ∃ (z : Str) (n : Int), x = .str z ∧ y = .int n ∧ 0 ≤ n ∧ n ≤ 1000 ∧ z.length ≤ 1000 ∧ Q (.str (repS z n.toNat)) H
theorem fold_app (z : Array Nat) : ∀ (n : Nat) (acc : Array Nat), ((List.replicate n z).foldl (· ++ ·) acc).toList = acc.toList ++ (List.replicate n z.toList).flatten
  | 0, acc => by simp
  | n + 1, acc => by
    rw [List.replicate_succ, List.foldl_cons, fold_app z n, Array.toList_append, List.replicate_succ, List.flatten_cons, List.append_assoc]
theorem op_mulS : OpR X (binaryOp .Mult) rMulS := by
  intro pins s σ H x y v u Q I rx ry h
  obtain ⟨z, n, rfl, rfl, h0, h1, hz, q⟩ := h
  obtain ⟨t, rfl⟩ := (show ∃ t, v = Value.str z t from rx)
  obtain ⟨t', rfl⟩ := (show ∃ t, u = Value.int n t from ry)
  have hlen : z.length * n.toNat ≤ 1000000 := Nat.mul_le_mul hz (show n.toNat ≤ 1000 by omega)
  have fin : ∀ (y : Str) (tk : Tok) (k : Nat), y = repS z n.toNat → EP X pins σ Q (.str y tk) { s with toks := k } := fun y tk k e => ⟨.str y, H, I.tok k, ⟨tk, rfl⟩, by rw [e]; exact q⟩
  refine P.mul_str (by rw [decide_eq_false (by omega), decide_eq_false (by omega)]; rfl) (fun h2 _ h3 => ?_) (fun h2 h3 => ?_) ?_
  · have hn : 0 < n := by omega
    have : (2 ^ 63 - 1 : Int) / 1000 ≤ (2 ^ 63 - 1) / n := Int.le_ediv_of_mul_le hn (by have := Int.mul_le_mul_of_nonneg_left h1 (show (0:Int) ≤ (2^63-1)/1000 by decide); omega)
    omega
  · unfold Builtin.Str.tooLong
    exact decide_eq_false (by have : sizeLine = 16777216 := sizeLine_eq; omega)
  · by_cases c1 : n < 1
    · rw [if_pos c1]
      refine ⟨by decide, fin _ _ _ ?_⟩
      have e0 : n.toNat = 0 := by omega
      rw [e0]
      rfl
    · rw [if_neg c1]
      by_cases c2 : (n == 1 || z.length == 0) = true
      · rw [if_pos c2]
        refine fin z t s.toks ?_
        refine str_ext ?_
        rw [repS_toList]
        rcases Bool.or_eq_true_iff.mp c2 with c | c
        · have e1 : n = 1 := of_decide_eq_true c
          subst e1
          simp
        · have e1 : z.cps.toList = [] := by
            have := of_decide_eq_true c
            rw [str_len] at this
            exact List.length_eq_zero_iff.mp this
          rw [e1]
          simp
      · rw [if_neg c2]
        refine ⟨?_, fin _ _ _ (str_ext ?_)⟩
        · have e : (⟨List.foldl (fun x1 x2 => x1 ++ x2) #[] (List.replicate n.toNat z.cps)⟩ : Str) = repS z n.toNat := str_ext (by rw [repS_toList, fold_app]; rfl)
          rw [e, repS_len, sizeLine_eq, Nat.mul_comm]
          omega
        · rw [repS_toList, fold_app]
          rfl
end
section
variable {H : Hp} {Q : VK} {d : Addr} {m : List (Key × V)}
theorem g_mulS {z : Str} {n : Int} (h0 : 0 ≤ n) (h1 : n ≤ 1000) (hz : z.length ≤ 1000) (q : Q (.str (repS z n.toNat)) H) : rMulS (.str z) (.int n) H Q := ⟨z, n, rfl, rfl, h0, h1, hz, q⟩
theorem g_dictD (h : Rd H d (.dK m)) (q : ∀ p H1, H p = none → Same H H1 → H1 p = some (.dK m) → Q (.ref p) H1) : rDictD [.ref d] H Q := ⟨d, m, rfl, h, fun p hp => q p _ hp (Same.new hp _) upd_same⟩
theorem g_listD (h : Rd H d (.dK m)) (q : ∀ p H1, H p = none → Same H H1 → H1 p = some (.lst (m.map fun kv => kV kv.1)) → Q (.ref p) H1) : rListD [.ref d] H Q := ⟨d, m, rfl, h, fun p hp => q p _ hp (Same.new hp _) upd_same⟩
theorem g_lenD (h : Rd H d (.dK m)) (q : Q (.int m.length) H) : rLenD [.ref d] H Q := ⟨d, m, rfl, h, q⟩
end
end My

set_option Elab.async false
set_option linter.all false
set_option maxRecDepth 100000
set_option maxHeartbeats 1000000
/-! tables by whole numbers, and dicts of data -/
namespace My
open PySem L2
/-! ### tables -/
section
variable {β : Type}
def getA (m : List (Int × β)) (k : Int) : Option β := (m.find? fun p => decide (p.1 = k)).map (·.2)
def putA (m : List (Int × β)) (k : Int) (v : β) : List (Int × β) := if (m.any fun p => decide (p.1 = k)) = true then m.map (fun p => if p.1 = k then (p.1, v) else p) else m ++ [(k, v)]
def dropA (m : List (Int × β)) (k : Int) : List (Int × β) := m.filter fun p => decide (p.1 ≠ k)
def keysA (m : List (Int × β)) : List Int := m.map (·.1)
theorem getA_nil {k : Int} : getA ([] : List (Int × β)) k = none := rfl
theorem getA_cons {p : Int × β} {m : List (Int × β)} {k : Int} : getA (p :: m) k = if p.1 = k then some p.2 else getA m k := by
  by_cases e : p.1 = k
  · simp [getA, List.find?_cons, e]
  · simp [getA, List.find?_cons, e]
theorem getA_app {m n : List (Int × β)} {k : Int} : getA (m ++ n) k = (getA m k).or (getA n k) := by
  induction m with
  | nil => simp [getA_nil]
  | cons p m ih =>
    rw [List.cons_append, getA_cons, getA_cons, ih]
    split <;> simp
theorem any_getA {m : List (Int × β)} {k : Int} : (m.any fun p => decide (p.1 = k)) = (getA m k).isSome := by
  induction m with
  | nil => rfl
  | cons p m ih =>
    rw [List.any_cons, getA_cons, ih]
    by_cases e : p.1 = k
    · rw [if_pos e, decide_eq_true e]; rfl
    · rw [if_neg e, decide_eq_false e]; rfl
theorem getA_map {m : List (Int × β)} {k j : Int} {v : β} : getA (m.map fun p => if p.1 = k then (p.1, v) else p) j = (getA m j).map fun x => if j = k then v else x := by
  induction m with
  | nil => rfl
  | cons p m ih =>
    rw [List.map_cons, getA_cons, getA_cons, ih]
    by_cases e : p.1 = k
    · rw [if_pos e]
      by_cases e2 : p.1 = j
      · rw [if_pos e2, if_pos e2]
        simp [← e2, e]
      · rw [if_neg e2, if_neg e2]
    · rw [if_neg e]
      by_cases e2 : p.1 = j
      · rw [if_pos e2, if_pos e2]
        simp [← e2, e]
      · rw [if_neg e2, if_neg e2]
theorem getA_put (m : List (Int × β)) (k j : Int) (v : β) : getA (putA m k v) j = if j = k then some v else getA m j := by
  unfold putA
  rw [any_getA]
  by_cases h : (getA m k).isSome = true
  · rw [if_pos h, getA_map]
    by_cases e : j = k
    · subst e
      obtain ⟨x, hx⟩ := Option.isSome_iff_exists.mp h
      rw [hx, if_pos rfl]
      simp
    · rw [if_neg e]
      cases getA m j <;> simp [e]
  · rw [if_neg h, getA_app, getA_cons, getA_nil]
    have hn : getA m k = none := by cases e : getA m k with
      | none => rfl
      | some x => rw [e] at h; exact absurd rfl h
    by_cases e : j = k
    · subst e
      rw [hn, if_pos rfl]
      simp
    · rw [if_neg e, if_neg (fun z => e z.symm)]
      cases getA m j <;> rfl
theorem getA_drop (m : List (Int × β)) (k j : Int) : getA (dropA m k) j = if j = k then none else getA m j := by
  unfold dropA
  induction m with
  | nil => simp [getA_nil]
  | cons p m ih =>
    rw [List.filter_cons]
    by_cases e : p.1 = k
    · rw [if_neg (by simp [e]), ih, getA_cons]
      by_cases e2 : j = k
      · rw [if_pos e2, if_pos e2]
      · rw [if_neg e2, if_neg e2, if_neg (fun z => e2 (by rw [← z, e]))]
    · rw [if_pos (by simp [e]), getA_cons, getA_cons, ih]
      by_cases e2 : p.1 = j
      · rw [if_pos e2, if_pos e2, if_neg (fun z => e (by rw [e2, z]))]
      · rw [if_neg e2, if_neg e2]
theorem getA_mem {m : List (Int × β)} {k : Int} {v : β} (h : getA m k = some v) : (k, v) ∈ m := by
  induction m with
  | nil => cases h
  | cons p m ih =>
    rw [getA_cons] at h
    by_cases e : p.1 = k
    · rw [if_pos e] at h
      cases Option.some.inj h
      rw [← e]
      exact List.mem_cons_self
    · rw [if_neg e] at h
      exact List.mem_cons_of_mem _ (ih h)
theorem mem_keysA {m : List (Int × β)} {k : Int} : k ∈ keysA m ↔ (getA m k).isSome = true := by
  rw [← any_getA, List.any_eq_true]
  unfold keysA
  rw [List.mem_map]
  constructor
  · rintro ⟨p, hp, e⟩
    exact ⟨p, hp, decide_eq_true e⟩
  · rintro ⟨p, hp, e⟩
    exact ⟨p, hp, of_decide_eq_true e⟩
theorem getA_of_mem {m : List (Int × β)} (nd : (keysA m).Nodup) {p : Int × β} (h : p ∈ m) : getA m p.1 = some p.2 := by
  induction m with
  | nil => cases h
  | cons q m ih =>
    unfold keysA at nd
    rw [List.map_cons, List.nodup_cons] at nd
    rw [getA_cons]
    rcases List.mem_cons.mp h with e | e
    · rw [e, if_pos rfl]
    · rw [if_neg (fun z => nd.1 (List.mem_map.mpr ⟨p, e, z.symm⟩)), ih nd.2 e]
theorem keysA_map {m : List (Int × β)} {k : Int} {v : β} : keysA (m.map fun p => if p.1 = k then (p.1, v) else p) = keysA m := by
  unfold keysA
  rw [List.map_map]
  refine List.map_congr_left fun p _ => ?_
  show (if p.1 = k then (p.1, v) else p).1 = p.1
  split <;> rfl
theorem keysA_put {m : List (Int × β)} {k : Int} {v : β} : keysA (putA m k v) = if (getA m k).isSome = true then keysA m else keysA m ++ [k] := by
  unfold putA
  rw [any_getA]
  split
  · exact keysA_map
  · unfold keysA
    rw [List.map_append]
    rfl
theorem nodup_snoc {l : List Int} {k : Int} (nd : l.Nodup) (h : k ∉ l) : (l ++ [k]).Nodup := by
  rw [List.nodup_append]
  refine ⟨nd, by simp, fun a ha b hb e => ?_⟩
  rw [List.mem_singleton.mp hb] at e
  exact h (e ▸ ha)
theorem nodup_put {m : List (Int × β)} {k : Int} {v : β} (nd : (keysA m).Nodup) : (keysA (putA m k v)).Nodup := by
  rw [keysA_put]
  split
  · exact nd
  · rename_i h
    exact nodup_snoc nd fun z => h (mem_keysA.mp z)
theorem nodup_drop {m : List (Int × β)} {k : Int} (nd : (keysA m).Nodup) : (keysA (dropA m k)).Nodup :=
  List.Nodup.sublist (List.Sublist.map _ List.filter_sublist) nd
theorem length_put {m : List (Int × β)} {k : Int} {v : β} : (putA m k v).length ≤ m.length + 1 := by
  unfold putA
  split
  · rw [List.length_map]; omega
  · rw [List.length_append, List.length_singleton]; omega
theorem length_drop {m : List (Int × β)} {k : Int} : (dropA m k).length ≤ m.length := List.length_filter_le _ _
theorem all_put {P : Int × β → Prop} {m : List (Int × β)} {k : Int} {v : β} (h : ∀ p ∈ m, P p) (hv : P (k, v)) : ∀ p ∈ putA m k v, P p := by
  intro p hp
  unfold putA at hp
  split at hp
  · obtain ⟨q, hq, e⟩ := List.mem_map.mp hp
    by_cases c : q.1 = k
    · rw [if_pos c, c] at e
      exact e ▸ hv
    · rw [if_neg c] at e
      exact e ▸ h q hq
  · rcases List.mem_append.mp hp with hp | hp
    · exact h p hp
    · rw [List.mem_singleton.mp hp]
      exact hv
theorem all_drop {P : Int × β → Prop} {m : List (Int × β)} {k : Int} (h : ∀ p ∈ m, P p) : ∀ p ∈ dropA m k, P p := fun p hp => h p (List.mem_filter.mp hp).1
/-- the same number of keys where the same keys stand -/
theorem length_of_get {m n : List (Int × β)} (hm : (keysA m).Nodup) (hn : (keysA n).Nodup) (h : ∀ k, (getA m k).isSome = (getA n k).isSome) : m.length = n.length := by
  have p : (keysA m).Perm (keysA n) := (List.perm_ext_iff_of_nodup hm hn).mpr fun k => by rw [mem_keysA, mem_keysA, h]
  have := p.length_eq
  unfold keysA at this
  rwa [List.length_map, List.length_map] at this
end
/-! ### strict data: no truths, no lists: == is being the same -/
mutual
def strictD : PyData → Bool
  | .none => true
  | .int _ => true
  | .str z => PyData.strOk z
  | .tuple xs => strictAll xs
  | .bool _ => false
  | .list _ => false
  | .dict _ => false
def strictAll : List PyData → Bool
  | [] => true
  | x :: xs => strictD x && strictAll xs
end
mutual
theorem eqv_strict : ∀ {d e : PyData}, strictD d = true → strictD e = true → (PyData.eqv d e = true ↔ d = e)
  | .none, e, _, _ => by cases e <;> simp [PyData.eqv]
  | .int i, e, _, h => by cases e <;> simp [PyData.eqv, strictD] at h ⊢
  | .str i, e, _, h => by cases e <;> simp [PyData.eqv, strictD] at h ⊢
  | .tuple xs, e, h1, h => by
    cases e <;> simp [PyData.eqv, strictD] at h h1 ⊢
    exact eqvAll_strict h1 h
  | .bool _, _, h, _ => by simp [strictD] at h
  | .list _, _, h, _ => by simp [strictD] at h
  | .dict _, _, h, _ => by simp [strictD] at h
theorem eqvAll_strict : ∀ {ds es : List PyData}, strictAll ds = true → strictAll es = true → (PyData.eqvAll ds es = true ↔ ds = es)
  | [], [], _, _ => by simp [PyData.eqvAll]
  | [], _ :: _, _, _ => by simp [PyData.eqvAll]
  | _ :: _, [], _, _ => by simp [PyData.eqvAll]
  | d :: ds, e :: es, h1, h2 => by
    simp [strictAll] at h1 h2
    have a := eqv_strict h1.1 h2.1
    have b := eqvAll_strict h1.2 h2.2
    simp [PyData.eqvAll, a, b]
end
mutual
theorem strict_lay : ∀ {d : PyData}, strictD d = true → PyData.canLay0 d = true
  | .none, _ => by simp [PyData.canLay0]
  | .int _, _ => by simp [PyData.canLay0]
  | .str _, h => by simpa [PyData.canLay0, strictD] using h
  | .tuple xs, h => by
    simp only [PyData.canLay0]
    exact strictAll_lay (by simpa [strictD] using h)
  | .bool _, h => by simp [strictD] at h
  | .list _, h => by simp [strictD] at h
  | .dict _, h => by simp [strictD] at h
theorem strictAll_lay : ∀ {ds : List PyData}, strictAll ds = true → PyData.canLayAll0 ds = true
  | [], _ => by simp [PyData.canLayAll0]
  | d :: ds, h => by
    simp [strictAll] at h
    simp [PyData.canLayAll0, strict_lay h.1, strictAll_lay h.2]
end
theorem strictAll_iff : ∀ {ds : List PyData}, strictAll ds = true ↔ ∀ d ∈ ds, strictD d = true
  | [] => by simp [strictAll]
  | d :: ds => by simp [strictAll, strictAll_iff (ds := ds)]
/-! ### what moves from heap to heap -/
def Keep (P : HO → Prop) (H H' : Hp) : Prop := ∀ b o, P o → H b = some o → H' b = some o
/-- what never changes -/
def fixO : HO → Prop
  | .tup _ => True
  | .frz _ _ => True
  | _ => False
theorem Keep.of {P : HO → Prop} {H H' : Hp} (e : Same H H') : Keep P H H' := fun b o _ h => e b o h
theorem Keep.refl {P : HO → Prop} (H : Hp) : Keep P H H := fun _ _ _ h => h
theorem Keep.trans {P : HO → Prop} {H H1 H2 : Hp} (a : Keep P H H1) (b : Keep P H1 H2) : Keep P H H2 := fun c o p h => b c o p (a c o p h)
theorem Keep.upd {P : HO → Prop} {H : Hp} {a : Addr} {o u : HO} (h : H a = some o) (hp : ¬ P o) : Keep P H (upd H a u) := fun b v p e => by
  rw [upd_ne]
  · exact e
  · rintro rfl
    rw [h] at e
    cases Option.some.inj e
    exact hp p
theorem keep_seqT {P : HO → Prop} (h1 : ∀ xs, P (.tup xs)) (h2 : ∀ o u, P (.frz o u)) {K : PySem.W.Frag} {H H' : Hp} (e : Keep P H H') {a : Addr} {xs : List V} (h : SqT K H a xs) : SqT K H' a xs := by
  rcases h with (h | ⟨o, h⟩) | h
  · exact .inl (.inl (e _ _ (h1 _) h))
  · exact .inl (.inr ⟨o, e _ _ (h2 _ _) h⟩)
  · exact .inr h
theorem keep_seqL {P : HO → Prop} (h1 : ∀ xs, P (.lst xs)) (h2 : ∀ o u, P (.frz o u)) {K : PySem.W.Frag} {H H' : Hp} (e : Keep P H H') {a : Addr} {xs : List V} (h : SqL K H a xs) : SqL K H' a xs := by
  rcases h with (h | ⟨o, h⟩) | h
  · exact .inl (.inl (e _ _ (h1 _) h))
  · exact .inl (.inr ⟨o, e _ _ (h2 _ _) h⟩)
  · exact .inr h
mutual
/-- data without a list goes along whatever leaves tuples -/
theorem Dp.keep {P : HO → Prop} (h1 : ∀ xs, P (.tup xs)) (h2 : ∀ o u, P (.frz o u)) {K : PySem.W.Frag} {H H' : Hp} (e : Keep P H H') : ∀ {v : V} {d : PyData}, Dp K H v d → strictD d = true → Dp K H' v d
  | _, _, .non, _ => .non
  | _, _, .bl b, _ => .bl b
  | _, _, .int i, _ => .int i
  | _, _, .str x, _ => .str x
  | _, _, .lst h r, s => by simp [strictD] at s
  | _, _, .tup h r, s => .tup (keep_seqT h1 h2 e h) (DpAll.keep h1 h2 e r (by simpa [strictD] using s))
theorem DpAll.keep {P : HO → Prop} (h1 : ∀ xs, P (.tup xs)) (h2 : ∀ o u, P (.frz o u)) {K : PySem.W.Frag} {H H' : Hp} (e : Keep P H H') : ∀ {vs : List V} {ds : List PyData}, DpAll K H vs ds → strictAll ds = true → DpAll K H' vs ds
  | _, _, .nil, _ => .nil
  | _, _, .cons h r, s => .cons (Dp.keep h1 h2 e h (by simp [strictAll] at s; exact s.1)) (DpAll.keep h1 h2 e r (by simp [strictAll] at s; exact s.2))
end
mutual
/-- any data goes along whatever leaves tuples and lists -/
theorem Dp.keepL {P : HO → Prop} (h0 : ∀ xs, P (.lst xs)) (h1 : ∀ xs, P (.tup xs)) (h2 : ∀ o u, P (.frz o u)) {K : PySem.W.Frag} {H H' : Hp} (e : Keep P H H') : ∀ {v : V} {d : PyData}, Dp K H v d → Dp K H' v d
  | _, _, .non => .non
  | _, _, .bl b => .bl b
  | _, _, .int i => .int i
  | _, _, .str x => .str x
  | _, _, .lst h r => .lst (keep_seqL h0 h2 e h) (DpAll.keepL h0 h1 h2 e r)
  | _, _, .tup h r => .tup (keep_seqT h1 h2 e h) (DpAll.keepL h0 h1 h2 e r)
theorem DpAll.keepL {P : HO → Prop} (h0 : ∀ xs, P (.lst xs)) (h1 : ∀ xs, P (.tup xs)) (h2 : ∀ o u, P (.frz o u)) {K : PySem.W.Frag} {H H' : Hp} (e : Keep P H H') : ∀ {vs : List V} {ds : List PyData}, DpAll K H vs ds → DpAll K H' vs ds
  | _, _, .nil => .nil
  | _, _, .cons h r => .cons (Dp.keepL h0 h1 h2 e h) (DpAll.keepL h0 h1 h2 e r)
end
/-! ### dicts of data -/
inductive DdAll (K : PySem.W.Frag) (H : Hp) : List (Key × V) → List (Int × PyData) → Prop
  | nil : DdAll K H [] []
  | cons {k : Int} {v : V} {d : PyData} {kvs : List (Key × V)} {m : List (Int × PyData)} : Dp K H v d → DdAll K H kvs m → DdAll K H ((.inl k, v) :: kvs) ((k, d) :: m)
def Dd (K : PySem.W.Frag) (H : Hp) (a : Addr) (m : List (Int × PyData)) : Prop := ∃ kvs, H a = some (.dK kvs) ∧ DdAll K H kvs m
section
variable {K : PySem.W.Frag} {H H' : Hp} {kvs : List (Key × V)} {m n : List (Int × PyData)} {k : Int} {v : V} {d : PyData} {a : Addr}
theorem DdAll.map (f : ∀ {v d}, Dp K H v d → (∃ k, (k, d) ∈ m) → Dp K H' v d) (h : DdAll K H kvs m) : DdAll K H' kvs m := by
  induction h with
  | nil => exact .nil
  | cons h r ih => exact .cons (f h ⟨_, List.mem_cons_self⟩) (ih fun h ⟨k, e⟩ => f h ⟨k, List.mem_cons_of_mem _ e⟩)
theorem DdAll.go (e : Same H H') (h : DdAll K H kvs m) : DdAll K H' kvs m := h.map fun h _ => Dp.go e h
theorem DdAll.len (h : DdAll K H kvs m) : kvs.length = m.length := by
  induction h with
  | nil => rfl
  | cons _ _ ih => rw [List.length_cons, List.length_cons, ih]
theorem DdAll.val (h : DdAll K H kvs m) (k : Int) : (getA m k = none ∧ valV kvs (.inl k) = none) ∨ ∃ v d, getA m k = some d ∧ valV kvs (.inl k) = some v ∧ Dp K H v d := by
  induction h with
  | nil => exact .inl ⟨rfl, rfl⟩
  | @cons j v d kvs m h r ih =>
    rw [getA_cons]
    by_cases e : j = k
    · rw [if_pos e, valV_pos (congrArg Sum.inl e)]
      exact .inr ⟨v, d, rfl, rfl, h⟩
    · rw [if_neg e, valV_neg (fun z => e (Sum.inl.inj z))]
      exact ih
theorem DdAll.isSome (h : DdAll K H kvs m) (k : Int) : (valV kvs (.inl k)).isSome = (getA m k).isSome := by
  rcases h.val k with ⟨e1, e2⟩ | ⟨v, d, e1, e2, _⟩ <;> rw [e1, e2] <;> rfl
theorem DdAll.app {kvs2 : List (Key × V)} (h : DdAll K H kvs m) (h2 : DdAll K H kvs2 n) : DdAll K H (kvs ++ kvs2) (m ++ n) := by
  induction h with
  | nil => exact h2
  | cons a b ih => exact .cons a ih
theorem DdAll.put (h : DdAll K H kvs m) (hd : Dp K H v d) : DdAll K H (putK kvs (.inl k) v) (putA m k d) := by
  unfold putK putA
  rw [valV_any, any_getA, h.isSome]
  split
  · rename_i c0
    clear c0
    induction h with
    | nil => exact .nil
    | @cons j w e kvs m a b ih =>
      rw [List.map_cons, List.map_cons]
      by_cases c : j = k
      · rw [if_pos (congrArg Sum.inl c), if_pos c]
        exact .cons hd ih
      · rw [if_neg (fun z => c (Sum.inl.inj z)), if_neg c]
        exact .cons a ih
  · exact h.app (.cons hd .nil)
theorem DdAll.drop (h : DdAll K H kvs m) : DdAll K H (dropK kvs (.inl k)) (dropA m k) := by
  unfold dropK dropA
  induction h with
  | nil => exact .nil
  | @cons j w e kvs m a b ih =>
    rw [List.filter_cons, List.filter_cons]
    by_cases c : j = k
    · rw [if_neg (by simp [c]), if_neg (by simp [c])]
      exact ih
    · rw [if_pos (by simp [c]), if_pos (by simp [c])]
      exact .cons a ih
theorem DdAll.keys (h : DdAll K H kvs m) : kvs.map (fun kv => kV kv.1) = (keysA m).map V.int := by
  induction h with
  | nil => rfl
  | cons a b ih =>
    unfold keysA at ih ⊢
    rw [List.map_cons, List.map_cons, List.map_cons, ih]
    rfl
theorem Dd.go (e : Same H H') (h : Dd K H a m) : Dd K H' a m := by
  obtain ⟨kvs, h1, h2⟩ := h
  exact ⟨kvs, e _ _ h1, h2.go e⟩
/-- objects but the one at a stand -/
def Oth (a : Addr) (H H' : Hp) : Prop := ∀ b o, b ≠ a → H b = some o → H' b = some o
theorem Oth.upd {o : HO} : Oth a H (upd H a o) := fun b u n e => by rw [upd_ne n]; exact e
theorem Oth.keep {P : HO → Prop} (e : Oth a H H') (h : ∀ o, P o → H a ≠ some o) : Keep P H H' := fun b o p hb => e b o (fun z => h o p (z ▸ hb)) hb
theorem Oth.same {H0 : Hp} (e : Oth a H H') (s : Same H0 H) (h : H0 a = none) : Same H0 H' := fun b o hb => e b o (ne_of_none hb h) (s b o hb)
theorem Oth.trans {H1 H2 : Hp} (e : Oth a H H1) (f : Oth a H1 H2) : Oth a H H2 := fun b o n h => f b o n (e b o n h)
theorem Oth.of (s : Same H H') : Oth a H H' := fun b o _ h => s b o h
def notD : HO → Prop
  | .dK _ => False
  | _ => True
def notM : HO → Prop
  | .dK _ => False
  | .lst _ => False
  | _ => True
theorem Dp.oth {kvs0 : List (Key × V)} (h0 : H a = some (.dK kvs0)) (e : Oth a H H') (h : Dp K H v d) : Dp K H' v d :=
  Dp.keepL (P := notD) (fun _ => trivial) (fun _ => trivial) (fun _ _ => trivial) (e.keep fun o p z => by rw [h0] at z; cases z; exact p) h
theorem DpAll.oth {kvs0 : List (Key × V)} {vs : List V} {ds : List PyData} (h0 : H a = some (.dK kvs0)) (e : Oth a H H') (h : DpAll K H vs ds) : DpAll K H' vs ds :=
  DpAll.keepL (P := notD) (fun _ => trivial) (fun _ => trivial) (fun _ _ => trivial) (e.keep fun o p z => by rw [h0] at z; cases z; exact p) h
theorem Dd.oth {kvs0 : List (Key × V)} {b : Addr} (h0 : H a = some (.dK kvs0)) (e : Oth a H H') (n : b ≠ a) (h : Dd K H b m) : Dd K H' b m := by
  obtain ⟨kvs, h1, h2⟩ := h
  exact ⟨kvs, e _ _ n h1, h2.map fun h _ => Dp.oth h0 e h⟩
/-- behind a list that changes -/
theorem Dp.othL {xs0 : List V} (h0 : H a = some (.lst xs0)) (e : Oth a H H') (s : strictD d = true) (h : Dp K H v d) : Dp K H' v d :=
  Dp.keep (P := fixO) (fun _ => trivial) (fun _ _ => trivial) (e.keep fun o p z => by rw [h0] at z; cases z; exact p) h s
theorem DpAll.othL {xs0 : List V} {vs : List V} {ds : List PyData} (h0 : H a = some (.lst xs0)) (e : Oth a H H') (s : strictAll ds = true) (h : DpAll K H vs ds) : DpAll K H' vs ds :=
  DpAll.keep (P := fixO) (fun _ => trivial) (fun _ _ => trivial) (e.keep fun o p z => by rw [h0] at z; cases z; exact p) h s
theorem Dd.othL {xs0 : List V} {b : Addr} (h0 : H a = some (.lst xs0)) (e : Oth a H H') (s : ∀ p ∈ m, strictD p.2 = true) (h : Dd K H b m) : Dd K H' b m := by
  obtain ⟨kvs, h1, h2⟩ := h
  exact ⟨kvs, e _ _ (ne_of h1 h0 (by intro z; cases z)) h1, h2.map fun h ⟨k, hk⟩ => Dp.othL h0 e (s _ hk) h⟩
end
/-! ### steps -/
section
variable {K : PySem.W.Frag} {σ : L2.St} {H : Hp} {Q : VK} {D : Ends} {m : List (Int × PyData)} {k : Int} {v x y : V} {d : PyData} {a : Addr} {td ty tv tx : TE} {N : Hp → Prop}
def rDGet : R2 := fun x y H Q => ∃ a v, x = .ref a ∧ DGet H a y (some v) ∧ Q v H
def rDIn : R2 := fun y x H Q => ∃ a o, x = .ref a ∧ DGet H a y o ∧ Q (.bl o.isSome) H
def rDNotIn : R2 := fun y x H Q => ∃ a o, x = .ref a ∧ DGet H a y o ∧ Q (.bl (!o.isSome)) H
def rDPut (v x y : V) (H : Hp) (N : Hp → Prop) : Prop := ∃ a H4, x = .ref a ∧ DPut H a y v H4 ∧ N H4
def rDGet1 (x : V) (ty : TE) (σ : L2.St) (H : Hp) (Q : VK) : Prop := ∃ a, x = .ref a ∧ IsD H a ∧ ty σ H fun y H2 => ∃ o, DGet H2 a y o ∧ Q (o.getD .non) H2
theorem g_dget (q : td σ H fun x H1 => ty σ H1 fun y H2 => rDGet x y H2 Q) : tDGet td ty σ H Q := q
theorem g_din (q : ty σ H fun y H1 => td σ H1 fun x H2 => rDIn y x H2 Q) : tDIn ty td σ H Q := q
theorem g_dnin (q : ty σ H fun y H1 => td σ H1 fun x H2 => rDNotIn y x H2 Q) : tDNotIn ty td σ H Q := q
theorem g_dput (q : tv σ H fun v H1 => td σ H1 fun x H2 => ty σ H2 fun y H3 => rDPut v x y H3 (D.nx σ)) : sDPut td ty tv D σ H := q
theorem g_dget1 (q : td σ H fun x H1 => rDGet1 x ty σ H1 Q) : tDGet1 td ty σ H Q := q
theorem DdAll.dget {kvs : List (Key × V)} (h : H a = some (.dK kvs)) (k : Int) : DGet H a (.int k) (valV kvs (.inl k)) := .inl ⟨kvs, .inl k, .inl h, rfl, rfl⟩
theorem g_rDGet (h : Dd K H a m) (e : getA m k = some d) (q : ∀ v, Dp K H v d → Q v H) : rDGet (.ref a) (.int k) H Q := by
  obtain ⟨kvs, h1, h2⟩ := h
  rcases h2.val k with ⟨e1, _⟩ | ⟨v, d', e1, e2, hd⟩
  · rw [e] at e1
    cases e1
  · rw [e] at e1
    cases Option.some.inj e1
    exact ⟨a, v, rfl, by rw [← e2]; exact DdAll.dget h1 k, q v hd⟩
theorem g_rDIn (h : Dd K H a m) (q : Q (.bl (getA m k).isSome) H) : rDIn (.int k) (.ref a) H Q := by
  obtain ⟨kvs, h1, h2⟩ := h
  exact ⟨a, _, rfl, DdAll.dget h1 k, by rw [h2.isSome]; exact q⟩
theorem g_rDNotIn (h : Dd K H a m) (q : Q (.bl (!(getA m k).isSome)) H) : rDNotIn (.int k) (.ref a) H Q := by
  obtain ⟨kvs, h1, h2⟩ := h
  exact ⟨a, _, rfl, DdAll.dget h1 k, by rw [h2.isSome]; exact q⟩
def optD : Option PyData → PyData
  | some d => d
  | none => .none
theorem g_rDGet1 (h : Dd K H a m) (hy : ∀ R : VK, R (.int k) H → ty σ H R) (q : ∀ v, Dp K H v (optD (getA m k)) → Q v H) : rDGet1 (.ref a) ty σ H Q := by
  obtain ⟨kvs, h1, h2⟩ := h
  refine ⟨a, rfl, .inl ⟨kvs, .inl h1⟩, hy _ ⟨_, DdAll.dget h1 k, ?_⟩⟩
  rcases h2.val k with ⟨e1, e2⟩ | ⟨v, d', e1, e2, hd⟩
  · rw [e2]
    refine q _ ?_
    rw [e1]
    exact .non
  · rw [e2]
    refine q _ ?_
    rw [e1]
    exact hd
theorem g_rDPut (h : Dd K H a m) (hd : Dp K H v d) (hl : m.length ≤ 100000) (q : ∀ H1, Oth a H H1 → Dd K H1 a (putA m k d) → N H1) : rDPut v (.ref a) (.int k) H N := by
  obtain ⟨kvs, h1, h2⟩ := h
  refine ⟨a, _, rfl, .inl ⟨kvs, .inl k, h1, rfl, Nat.lt_of_le_of_lt (by rw [h2.len]; exact hl) (by decide), rfl⟩, q _ Oth.upd ⟨_, upd_same, ?_⟩⟩
  exact (h2.put hd).map fun h _ => Dp.oth h1 Oth.upd h
/-- d.pop(k, x) -/
def rDPop2 (x : V) (ty tx : TE) (σ : L2.St) (H : Hp) (Q : VK) : Prop := ∃ a, x = .ref a ∧ IsD H a ∧ ty σ H fun y H2 => tx σ H2 fun z H3 => ∃ kvs k, H3 a = some (.dK kvs) ∧ y = kV k ∧
  (∀ v, valV kvs k = some v → Q v (upd H3 a (.dK (dropK kvs k)))) ∧ (valV kvs k = none → Q z H3)
theorem g_dpop2 (q : td σ H fun x H1 => rDPop2 x ty tx σ H1 Q) : tDPop2 td ty tx σ H Q := q
theorem dropA_none {β : Type} {m : List (Int × β)} {k : Int} (h : getA m k = none) : dropA m k = m := by
  unfold dropA
  rw [List.filter_eq_self]
  intro p hp
  refine decide_eq_true fun e => ?_
  have : (getA m k).isSome = true := mem_keysA.mp (List.mem_map.mpr ⟨p, hp, e⟩)
  rw [h] at this
  cases this
theorem g_rDPop2 {z : V} (h : Dd K H a m) (hy : ∀ R : VK, R (.int k) H → ty σ H R) (hx : ∀ R : VK, R z H → tx σ H R) (q : ∀ u H1, Oth a H H1 → Dd K H1 a (dropA m k) → Q u H1) : rDPop2 (.ref a) ty tx σ H Q := by
  obtain ⟨kvs, h1, h2⟩ := h
  refine ⟨a, rfl, .inl ⟨kvs, .inl h1⟩, hy _ (hx _ ⟨kvs, .inl k, h1, rfl, fun v e => ?_, fun e => ?_⟩)⟩
  · exact q v _ Oth.upd ⟨_, upd_same, h2.drop.map fun h _ => Dp.oth h1 Oth.upd h⟩
  · have e2 : getA m k = none := by
      have := h2.isSome k
      rw [e] at this
      cases e3 : getA m k with
      | none => rfl
      | some x => rw [e3] at this; cases this
    refine q z H (fun b o _ h => h) ?_
    rw [dropA_none e2]
    exact ⟨kvs, h1, h2⟩
theorem g_dictDd (h : Dd K H a m) (q : ∀ p H1, H p = none → Same H H1 → Dd K H1 p m → Q (.ref p) H1) : rDictD [.ref a] H Q := by
  obtain ⟨kvs, h1, h2⟩ := h
  exact g_dictD (.inl h1) fun p H1 np s e => q p H1 np s ⟨kvs, e, h2.go s⟩
theorem g_listDd (h : Dd K H a m) (q : ∀ p H1, H p = none → Same H H1 → H1 p = some (.lst ((keysA m).map V.int)) → Q (.ref p) H1) : rListD [.ref a] H Q := by
  obtain ⟨kvs, h1, h2⟩ := h
  exact g_listD (.inl h1) fun p H1 np s e => q p H1 np s (by rw [← h2.keys]; exact e)
theorem g_lenDd (h : Dd K H a m) (q : Q (.int m.length) H) : rLenD [.ref a] H Q := by
  obtain ⟨kvs, h1, h2⟩ := h
  exact g_lenD (.inl h1) (by rw [h2.len]; exact q)
theorem g_dnewDd (q : ∀ p H1, H p = none → Same H H1 → Dd K H1 p [] → Q (.ref p) H1) : tDNewK σ H Q := g_dnewK fun p H1 np s e => q p H1 np s ⟨[], e, .nil⟩
end
/-! ### == of dicts of data -/
def eqA (m n : List (Int × PyData)) : Bool := decide (m.length = n.length) && m.all fun p => match getA n p.1 with
  | some e => PyData.eqv p.2 e
  | none => false
def fitA (m : List (Int × PyData)) : Prop := ∀ p ∈ m, PyData.canLay0 p.2 = true ∧ PyData.depth p.2 ≤ 40
def rEqDD (K : PySem.W.Frag) : R2 := fun x y H Q => ∃ a b m n, x = .ref a ∧ y = .ref b ∧ Dd K H a m ∧ Dd K H b n ∧ fitA m ∧ fitA n ∧ Q (.bl (eqA m n)) H
def rNeDD (K : PySem.W.Frag) : R2 := fun x y H Q => ∃ a b m n, x = .ref a ∧ y = .ref b ∧ Dd K H a m ∧ Dd K H b n ∧ fitA m ∧ fitA n ∧ Q (.bl (!eqA m n)) H
section
variable {X : Cx} {pins : List (Addr × Obj)} {σ : L2.St} {H : Hp} {s : Shared}
theorem hits_dd (I : Inv X pins σ H s) {A : Around} (hu : A.units + 40 < cLine) {ls : List (Key × V)} {vb : List (Key × Value)} {n : List (Int × PyData)} (rb : KV ls vb) (db : DdAll X.K H ls n) (fn : fitA n) :
    ∀ {ks : List (Key × V)} {va : List (Key × Value)} {m : List (Int × PyData)}, KV ks va → DdAll X.K H ks m → fitA m → PySem.W.KeqHits A s vb va (m.all fun p => match getA n p.1 with
      | some e => PyData.eqv p.2 e
      | none => false) := by
  intro ks va m t r fm
  induction r generalizing va with
  | nil =>
    unfold KV at t
    cases t
    exact .nil
  | @cons k v d kvs m hd r ih =>
    unfold KV at t
    cases t with
    | @cons _ q _ l2 h t =>
    obtain ⟨h1, h2⟩ := h
    obtain ⟨key, u⟩ := q
    have h1' : Sum.inl k = key := h1
    subst h1'
    rw [List.all_cons]
    have rr : RelO (valV ls (.inl k)) (valueAt vb (.inl k)) := rb.val _
    have ih := ih t fun p hp => fm p (List.mem_cons_of_mem _ hp)
    rcases db.val k with ⟨e1, e2⟩ | ⟨w, e, e1, e2, he⟩
    · rw [e2] at rr
      have e3 : valueAt vb (Sum.inl k) = none := by
        cases e : valueAt vb (Sum.inl k) with
        | none => rfl
        | some x => rw [e] at rr; cases rr
      dsimp only
      rw [e1]
      exact .miss e3
    · rw [e2] at rr
      obtain ⟨y, hy, ry⟩ := rr.some_of
      dsimp only
      rw [e1]
      have f1 := fm _ List.mem_cons_self
      have f2 := fn _ (getA_mem e1)
      obtain ⟨as, r1⟩ := Dp.reads I d v u hd h2
      obtain ⟨bs, r2⟩ := Dp.reads I e w y he ry
      exact .hit hy (SeqAt.eqAt_reads d e A s u y as bs r1 r2 f1.1 f2.1 (by have : min d.depth e.depth ≤ d.depth := Nat.min_le_left _ _; have := f1.2; dsimp only at this; omega)) ih
/-- the two compared, by their tables and their data -/
theorem eq_parts (I : Inv X pins σ H s) {a b : Addr} {m n : List (Int × PyData)} (ha : Dd X.K H a m) (hb : Dd X.K H b n) (fm : fitA m) (fn : fitA n) (hu : X.A.units + 64 < cLine) :
    ∃ va vb : List (Key × Value), (a == sysModules) = false ∧ (b == sysModules) = false ∧ s.heap.DictOf (mixKind X.prog X.w) a va ∧ s.heap.DictOf (mixKind X.prog X.w) b vb ∧ va.length = m.length ∧ vb.length = n.length ∧
      PySem.W.KeqHits X.A.in1 s vb va (m.all fun p => match getA n p.1 with
        | some e => PyData.eqv p.2 e
        | none => false) := by
  obtain ⟨ks, ea, hm⟩ := ha
  obtain ⟨ls, eb, hn⟩ := hb
  obtain ⟨-, xa, va, ra, qa⟩ := dk_of I.hok ea
  obtain ⟨-, xb, vb, rb, qb⟩ := dk_of I.hok eb
  refine ⟨va, vb, xa, xb, qa, qb, ?_, ?_, hits_dd I (by show X.A.units + 1 + 40 < cLine; omega) rb hn fn ra hm fm⟩
  · rw [← ra.length, hm.len]
  · rw [← rb.length, hn.len]
theorem op_eqDD (hu : X.A.units + 64 < cLine) : OpR X (compareOp .Eq) (rEqDD X.K) := fun pins s σ H x y v u Q I rx ry h => by
  obtain ⟨a, b, m, n, rfl, rfl, ha, hb, fm, fn, q⟩ := h
  obtain ⟨va, vb, xa, xb, qa, qb, la, lb, hk⟩ := eq_parts I ha hb fm fn hu
  cases (show v = Value.ref a from rx)
  cases (show u = Value.ref b from ry)
  refine PySem.W.keq_eq xa xb qa qb (by omega) (fun _ => hk) (fin_bl I q ?_)
  unfold eqA
  rw [la, lb]
  rfl
theorem op_neDD (hu : X.A.units + 64 < cLine) : OpR X (compareOp .NotEq) (rNeDD X.K) := fun pins s σ H x y v u Q I rx ry h => by
  obtain ⟨a, b, m, n, rfl, rfl, ha, hb, fm, fn, q⟩ := h
  obtain ⟨va, vb, xa, xb, qa, qb, la, lb, hk⟩ := eq_parts I ha hb fm fn hu
  cases (show v = Value.ref a from rx)
  cases (show u = Value.ref b from ry)
  refine PySem.W.keq_ne xa xb qa qb (by omega) (fun _ => hk) (fin_bl I q ?_)
  unfold eqA
  rw [la, lb]
  rfl
end
section
variable {K : PySem.W.Frag} {H : Hp} {Q : VK} {m n : List (Int × PyData)} {a b : Addr}
theorem g_eqDD (ha : Dd K H a m) (hb : Dd K H b n) (fm : fitA m) (fn : fitA n) (q : Q (.bl (eqA m n)) H) : rEqDD K (.ref a) (.ref b) H Q := ⟨a, b, m, n, rfl, rfl, ha, hb, fm, fn, q⟩
theorem g_neDD (ha : Dd K H a m) (hb : Dd K H b n) (fm : fitA m) (fn : fitA n) (q : Q (.bl (!eqA m n)) H) : rNeDD K (.ref a) (.ref b) H Q := ⟨a, b, m, n, rfl, rfl, ha, hb, fm, fn, q⟩
end
/-- the same table: equal -/
theorem eqA_of_get {m n : List (Int × PyData)} (hm : (keysA m).Nodup) (hn : (keysA n).Nodup) (sm : ∀ p ∈ m, PyData.canLay0 p.2 = true) (h : ∀ k, getA m k = getA n k) : eqA m n = true := by
  unfold eqA
  rw [Bool.and_eq_true, decide_eq_true_iff, List.all_eq_true]
  refine ⟨length_of_get hm hn fun k => by rw [h], fun p hp => ?_⟩
  rw [← h, getA_of_mem hm hp]
  exact SeqAt.eqv_refl _ (sm p hp)
end My

set_option Elab.async false
set_option linter.all false
set_option maxRecDepth 100000
set_option maxHeartbeats 1000000
/-! lists that grow; blocks, disks -/
namespace My
open PySem L2
section
variable {K : PySem.W.Frag} {σ : L2.St} {H H' : Hp} {Q : VK} {l a : Addr} {xs : List V} {y : V} {ta : TE} {v : V} {d : PyData}
theorem g_bm0 {T : String} {f : V → List V → Hp → VK → Prop} (q : ta σ H fun x H1 => tyV K T x H1 ∧ f x [] H1 Q) : tBM0 K T f ta σ H Q := q

theorem g_appendO (h : H l = some (.lst xs)) (hl : xs.length ≤ 100000) (q : ∀ H1, Oth l H H1 → H1 l = some (.lst (xs ++ [y])) → Q .non H1) : rAppend (.ref l) [y] H Q :=
  ⟨l, xs, y, rfl, rfl, h, Nat.lt_of_le_of_lt hl (by decide), q _ Oth.upd upd_same⟩
theorem g_clear (h : H l = some (.lst xs)) (q : ∀ H1, Oth l H H1 → H1 l = some (.lst []) → Q .non H1) : rClear (.ref l) [] H Q :=
  ⟨l, xs, rfl, rfl, h, q _ Oth.upd upd_same⟩
def stillP : HO → Prop := fun o => ∀ xs, o ≠ .lst xs
theorem Dp.still (e : Still H H') (s : strictD d = true) (h : Dp K H v d) : Dp K H' v d :=
  Dp.keep (P := stillP) (fun _ _ z => nomatch z) (fun _ _ _ z => nomatch z) (fun b o p hb => e b o p hb) h s
theorem kit_dd {K : PySem.W.Frag} : PySem.W.kitOne K (.type "dict") (.type "dict") = some true := kit_ty (by decide +kernel)
theorem g_isiD {m : List (Int × PyData)} (h : Dd K H a m) (q : Q (.bl true) H) : rIsi K [.ref a, .ty "dict"] H Q := by
  obtain ⟨kvs, h1, _⟩ := h
  exact g_isi (.ty "dict") (.base (.dK h1)) kit_dd q
end
/-! ### blocks -/
def layA (m : List (Int × PyData)) (n : Int) (b : PyData) : List (Int × PyData) := match b with
  | .none => dropA m n
  | _ => putA m n b
def okD (d : PyData) : Prop := strictD d = true ∧ PyData.depth d ≤ 20
def Blk (m : List (Int × PyData)) : Prop := (keysA m).Nodup ∧ ∀ p ∈ m, okD p.2
theorem Blk.nil : Blk [] := ⟨by unfold keysA; exact List.nodup_nil, fun p h => nomatch h⟩
theorem Blk.put {m : List (Int × PyData)} {n : Int} {b : PyData} (h : Blk m) (hb : okD b) : Blk (putA m n b) := ⟨nodup_put h.1, all_put h.2 hb⟩
theorem Blk.drop {m : List (Int × PyData)} {n : Int} (h : Blk m) : Blk (dropA m n) := ⟨nodup_drop h.1, all_drop h.2⟩
theorem Blk.lay {m : List (Int × PyData)} {n : Int} {b : PyData} (h : Blk m) (hb : okD b) : Blk (layA m n b) := by
  unfold layA
  split
  · exact h.drop
  · exact h.put hb
theorem Blk.fit {m : List (Int × PyData)} (h : Blk m) : fitA m := fun p hp => ⟨strict_lay (h.2 p hp).1, Nat.le_trans (h.2 p hp).2 (by decide)⟩
theorem Blk.strict {m : List (Int × PyData)} (h : Blk m) : ∀ p ∈ m, strictD p.2 = true := fun p hp => (h.2 p hp).1
theorem length_lay {m : List (Int × PyData)} {n : Int} {b : PyData} : (layA m n b).length ≤ m.length + 1 := by
  unfold layA
  split
  · exact Nat.le_trans length_drop (by omega)
  · exact length_put
theorem getA_lay (m : List (Int × PyData)) (n j : Int) (b : PyData) : getA (layA m n b) j = if j = n then (match b with | .none => none | _ => some b) else getA m j := by
  unfold layA
  split
  · rw [getA_drop]
  · rw [getA_put]
theorem eqA_blk {m n : List (Int × PyData)} (hm : Blk m) (hn : Blk n) (h : ∀ k, getA m k = getA n k) : eqA m n = true :=
  eqA_of_get hm.1 hn.1 (fun p hp => strict_lay (hm.2 p hp).1) h
theorem eqA_refl {m : List (Int × PyData)} (hm : Blk m) : eqA m m = true := eqA_blk hm hm fun _ => rfl
/-- the list of them -/
def okL (ds : List PyData) : Prop := ∀ d ∈ ds, okD d
theorem okL.strict {ds : List PyData} (h : okL ds) : strictAll ds = true := strictAll_iff.mpr fun d hd => (h d hd).1
theorem okL.fit {ds : List PyData} (h : okL ds) : ∀ d ∈ ds, PyData.canLay0 d = true ∧ PyData.depth d ≤ 20 := fun d hd => ⟨strict_lay (h d hd).1, (h d hd).2⟩
theorem okL.snoc {ds : List PyData} {d : PyData} (h : okL ds) (hd : okD d) : okL (ds ++ [d]) := fun e he => by
  rcases List.mem_append.mp he with he | he
  · exact h e he
  · rw [List.mem_singleton.mp he]; exact hd
theorem Dp.notNone {K : PySem.W.Frag} {H : Hp} {v : V} {d : PyData} (h : Dp K H v d) : decide (v = V.non) = (match d with | .none => true | _ => false) := by
  cases h <;> first | rfl | (exact decide_eq_true rfl) | (exact decide_eq_false (by intro z; cases z))
/-! ### deeds -/
def logW : Str := Str.ofString "log"
def writeW : Str := Str.ofString "write"
def clearW : Str := Str.ofString "clear"
def blockW : Str := Str.ofString "block"
def keptW : Str := Str.ofString "kept"
inductive Deed : PyData → Prop
  | log (e : PyData) : Deed (.tuple [.str logW, e])
  | write (n : Int) (b : PyData) : Deed (.tuple [.str writeW, .int n, b])
  | clear : Deed (.tuple [.str clearW])
def doneB (m : List (Int × PyData)) : PyData → List (Int × PyData)
  | .tuple [.str _, .int n, b] => layA m n b
  | _ => m
def doneL (es : List PyData) : PyData → List PyData
  | .tuple [.str _, .int _, _] => es
  | .tuple [.str _, e] => es ++ [e]
  | _ => []
def sp_lay (K : PySem.W.Frag) : Sp := fun vs H Q _ => ∃ (a : Addr) (m : List (Int × PyData)) (n : Int) (x : V) (b : PyData), vs = [.ref a, .int n, x] ∧ Dd K H a m ∧ Dp K H x b ∧ m.length ≤ 100000 ∧
  ∀ H', Oth a H H' → Dd K H' a (layA m n b) → Q .non H'
section
variable {K : PySem.W.Frag} {σ : L2.St} {H : Hp} {Q : VK} {D : Ends} {t u : TS} {te tl : TE} {tt : TT} {g : TG} {vs : List Nat} {a : Addr} {xs : List V} {ta : TA}
theorem g_cutS (h : t { D with nx := u D } σ H) : Evl.tCut t u D σ H := ⟨u D, h, fun _ _ h => h⟩
theorem evn_to {ds : List PyData} (h : EvN K te σ H ds) (k : ∀ p xs H1, H p = none → Same H H1 → H1 p = some (.lst xs) → DpAll K H1 xs ds → Q (.ref p) H1) : te σ H Q := h H (L2.Same.refl H) _ k
/-! walks, opened -/
def forR (g : TG) (tb : TS) (D : Ends) (σ : L2.St) : It → Hp → Prop := fun J H1 => tFor (fun _ H R => R J H) g tb D σ H1
theorem g_for {wi : TI} (q : wi σ H (forR g t D σ)) : tFor wi g t D σ H := q
def lcR (g : TG) (tt : TT) (te : TE) (vs : List Nat) (σ : L2.St) (Q : VK) : It → Hp → Prop := fun J H1 => tLc (fun _ H R => R J H) g tt te vs σ H1 Q
theorem g_lcO {wi : TI} (q : wi σ H (lcR g tt te vs σ Q)) : tLc wi g tt te vs σ H Q := q
def wL (K : PySem.W.Frag) (R : It → Hp → Prop) : VK := fun x H1 => ∃ a, x = .ref a ∧ (∃ xs, SqL K H1 a xs) ∧ R (Itl K a) H1
def wT (K : PySem.W.Frag) (R : It → Hp → Prop) : VK := fun x H1 => ∃ a, x = .ref a ∧ (∃ xs, SqT K H1 a xs) ∧ R (Itt K a) H1
def wR1 (R : It → Hp → Prop) : List V → Hp → Prop := fun vs H1 => ∃ j : Int, vs = [.int j] ∧ -(2 ^ 62) ≤ j ∧ j < 2 ^ 62 ∧ R (Itr 0 j.toNat) H1
theorem g_wL {R : It → Hp → Prop} (q : tl σ H (wL K R)) : iList K tl σ H R := q
theorem g_wT {R : It → Hp → Prop} (q : tl σ H (wT K R)) : iTup K tl σ H R := q
theorem g_wR1 {R : It → Hp → Prop} (q : ta σ H (wR1 R)) : iRng1 ta σ H R := q
theorem g_forLk (Pv : Nat → L2.St → Hp → Prop) (hx : SqL K H a xs) (h0 : Pv 0 σ H) (hl : ∀ i σ' H', i ≤ xs.length → Pv i σ' H' → SqL K H' a xs)
    (hs : ∀ i x σ' H', xs[i]? = some x → Pv i σ' H' → g x σ' H' fun σ2 H2 => t { D with nx := Pv (i + 1), ct := Pv (i + 1), bk := D.nx } σ2 H2) (hd : ∀ σ' H', Pv xs.length σ' H' → D.nx σ' H') : wL K (forR g t D σ) (.ref a) H :=
  ⟨a, rfl, ⟨xs, hx⟩, for_list Pv h0 hl hs hd⟩
theorem g_forTk (Pv : Nat → L2.St → Hp → Prop) (hx : SqT K H a xs) (h0 : Pv 0 σ H) (hl : ∀ i σ' H', i ≤ xs.length → Pv i σ' H' → SqT K H' a xs)
    (hs : ∀ i x σ' H', xs[i]? = some x → Pv i σ' H' → g x σ' H' fun σ2 H2 => t { D with nx := Pv (i + 1), ct := Pv (i + 1), bk := D.nx } σ2 H2) (hd : ∀ σ' H', Pv xs.length σ' H' → D.nx σ' H') : wT K (forR g t D σ) (.ref a) H :=
  ⟨a, rfl, ⟨xs, hx⟩, for_tup Pv h0 hl hs hd⟩
theorem g_forR1k {j : Nat} {n : Int} (Pv : Nat → L2.St → Hp → Prop) (hn : -1000000 ≤ n ∧ n ≤ 1000000) (h0 : Pv 0 σ H)
    (hs : ∀ (i : Nat) σ' H', (i : Int) < n → Pv i σ' H' → t { D with nx := Pv (i + 1), ct := Pv (i + 1), bk := D.nx } (σ'.set j (some (.int (i : Int)))) H') (hd : ∀ σ' H', Pv n.toNat σ' H' → D.nx σ' H') : wR1 (forR (gName j) t D σ) [.int n] H :=
  g_forR1 (ta := fun _ H R => R [.int n] H) Pv (fun R r => r) hn h0 hs hd
theorem g_lcR1k {j : Nat} {n : Int} (Rel : Nat → V → Hp → Prop) (hn : -40000 ≤ n ∧ n ≤ 40000)
    (hw : ∀ x, wipe ((wipe σ vs).set j (some x)) vs = wipe σ vs) (hst : ∀ i y H1 H2, Still H1 H2 → Rel i y H1 → Rel i y H2)
    (he : ∀ (i : Nat) (H1 : Hp) (QE : VK), (i : Int) < n → Same H H1 → (∀ y H2, Same H1 H2 → Rel i y H2 → QE y H2) → te ((wipe σ vs).set j (some (.int (i : Int)))) H1 QE)
    (q : ∀ p ys H1, H p = none → Same H H1 → H1 p = some (.lst ys) → ys.length = n.toNat → (∀ i y, ys[i]? = some y → Rel i y H1) → Q (.ref p) H1) :
    wR1 (lcR (gName j) tYes te vs σ Q) [.int n] H :=
  g_lcR1 (ta := fun _ H R => R [.int n] H) Rel (fun R r => r) hn hw hst he q
theorem g_lcLk {j : Nat} (Rel : Nat → V → Hp → Prop) (hx : SqL K H a xs) (hn : xs.length ≤ 40000)
    (hw : ∀ x, wipe ((wipe σ vs).set j (some x)) vs = wipe σ vs) (hst : ∀ i y H1 H2, Still H1 H2 → Rel i y H1 → Rel i y H2)
    (he : ∀ (i : Nat) (x : V) (H1 : Hp) (QE : VK), xs[i]? = some x → Same H H1 → (∀ y H2, Same H1 H2 → Rel i y H2 → QE y H2) → te ((wipe σ vs).set j (some x)) H1 QE)
    (q : ∀ p ys H1, H p = none → Same H H1 → H1 p = some (.lst ys) → ys.length = xs.length → (∀ i y, ys[i]? = some y → Rel i y H1) → Q (.ref p) H1) :
    wL K (lcR (gName j) tYes te vs σ Q) (.ref a) H :=
  g_lcL (tl := fun _ H R => R (.ref a) H) Rel (fun R r => r) hx hn hw hst he q
theorem g_lcTk {j : Nat} (Rel : Nat → V → Hp → Prop) (hx : SqT K H a xs) (hn : xs.length ≤ 40000)
    (hw : ∀ x, wipe ((wipe σ vs).set j (some x)) vs = wipe σ vs) (hst : ∀ i y H1 H2, Still H1 H2 → Rel i y H1 → Rel i y H2)
    (he : ∀ (i : Nat) (x : V) (H1 : Hp) (QE : VK), xs[i]? = some x → Same H H1 → (∀ y H2, Same H1 H2 → Rel i y H2 → QE y H2) → te ((wipe σ vs).set j (some x)) H1 QE)
    (q : ∀ p ys H1, H p = none → Same H H1 → H1 p = some (.lst ys) → ys.length = xs.length → (∀ i y, ys[i]? = some y → Rel i y H1) → Q (.ref p) H1) :
    wT K (lcR (gName j) tYes te vs σ Q) (.ref a) H :=
  g_lcT (tl := fun _ H R => R (.ref a) H) Rel (fun R r => r) hx hn hw hst he q
end
end My

set_option Elab.async false
set_option linter.all false
set_option maxRecDepth 100000
set_option maxHeartbeats 1000000
/-! logs -/
namespace My
open PySem L2
abbrev BT := List (Int × PyData)
/-- an entry: a block (or none) for a number, or the mark -/
abbrev Ent := Option (Int × PyData)
def entD : Ent → PyData
  | some p => .tuple [.str blockW, .int p.1, p.2]
  | none => .tuple [.str keptW]
def layAll (m : BT) (g : BT) : BT := g.foldl (fun m p => layA m p.1 p.2) m
def stepR (s : BT × BT) : Ent → BT × BT
  | some p => (s.1, s.2 ++ [p])
  | none => (layAll s.1 s.2, [])
def redoS (m : BT) (E : List Ent) : BT × BT := E.foldl stepR (m, [])
def redoA (m : BT) (E : List Ent) : BT := (redoS m E).1
def okE (E : List Ent) : Prop := ∀ p, some p ∈ E → okD p.2
theorem okD_tup {ds : List PyData} (h : ∀ d ∈ ds, strictD d = true ∧ PyData.depth d ≤ 19) : okD (.tuple ds) := by
  refine ⟨by simp only [strictD]; exact strictAll_iff.mpr fun d hd => (h d hd).1, ?_⟩
  simp only [PyData.depth]
  have := depthAll_le (n := 19) fun d hd => (h d hd).2
  omega
theorem strok_block : PyData.strOk blockW = true := by decide +kernel
theorem strok_kept : PyData.strOk keptW = true := by decide +kernel
theorem entD_strict {e : Ent} (h : ∀ p, e = some p → okD p.2) : strictD (entD e) = true := by
  cases e with
  | none => simp [entD, strictD, strictAll, strok_kept]
  | some p => simp [entD, strictD, strictAll, strok_block, (h p rfl).1]
theorem entD_fit {e : Ent} (h : ∀ p, e = some p → okD p.2) : PyData.canLay0 (entD e) = true ∧ PyData.depth (entD e) ≤ 21 := by
  refine ⟨strict_lay (entD_strict h), ?_⟩
  cases e with
  | none => simp [entD, PyData.depth, PyData.depthAll]
  | some p =>
    have := (h p rfl).2
    simp [entD, PyData.depth, PyData.depthAll]
    omega
theorem okE.fit {E : List Ent} (h : okE E) : ∀ d ∈ E.map entD, PyData.canLay0 d = true ∧ PyData.depth d ≤ 21 := fun d hd => by
  obtain ⟨e, he, rfl⟩ := List.mem_map.mp hd
  exact entD_fit fun p ep => h p (ep ▸ he)
theorem okE.strict {E : List Ent} (h : okE E) : strictAll (E.map entD) = true := strictAll_iff.mpr fun d hd => by
  obtain ⟨e, he, rfl⟩ := List.mem_map.mp hd
  exact entD_strict fun p ep => h p (ep ▸ he)
theorem layAll_blk : ∀ {g m : BT}, Blk m → (∀ p ∈ g, okD p.2) → Blk (layAll m g)
  | [], m, h, _ => h
  | p :: g, m, h, hg => layAll_blk (g := g) (h.lay (hg p List.mem_cons_self)) fun q hq => hg q (List.mem_cons_of_mem _ hq)
theorem layAll_len : ∀ {g m : BT}, (layAll m g).length ≤ m.length + g.length
  | [], m => Nat.le_refl _
  | p :: g, m => by
    have h1 := layAll_len (g := g) (m := layA m p.1 p.2)
    have h2 := length_lay (m := m) (n := p.1) (b := p.2)
    show (layAll (layA m p.1 p.2) g).length ≤ _
    rw [List.length_cons]
    omega
theorem layAll_app {m g h : BT} : layAll m (g ++ h) = layAll (layAll m g) h := List.foldl_append ..
theorem redoS_snoc {m : BT} {E : List Ent} {e : Ent} : redoS m (E ++ [e]) = stepR (redoS m E) e := List.foldl_append ..
/-- what stands while it is redone -/
theorem redoS_ok {m : BT} (bm : Blk m) : ∀ {E : List Ent}, okE E → Blk (redoS m E).1 ∧ (∀ p ∈ (redoS m E).2, okD p.2) ∧ (redoS m E).1.length + (redoS m E).2.length ≤ m.length + E.length := by
  intro E hE
  have go : ∀ (E : List Ent) (s : BT × BT), okE E → Blk s.1 → (∀ p ∈ s.2, okD p.2) → Blk (E.foldl stepR s).1 ∧ (∀ p ∈ (E.foldl stepR s).2, okD p.2) ∧ (E.foldl stepR s).1.length + (E.foldl stepR s).2.length ≤ s.1.length + s.2.length + E.length := by
    intro E
    induction E with
    | nil => intro s _ h1 h2; exact ⟨h1, h2, Nat.le_refl _⟩
    | cons e E ih =>
      intro s hE h1 h2
      rw [List.foldl_cons]
      have hE' : okE E := fun p hp => hE p (List.mem_cons_of_mem _ hp)
      cases e with
      | none =>
        obtain ⟨a, b, c⟩ := ih (stepR s none) hE' (layAll_blk h1 h2) (fun p hp => nomatch hp)
        refine ⟨a, b, Nat.le_trans c ?_⟩
        have := layAll_len (g := s.2) (m := s.1)
        show (layAll s.1 s.2).length + 0 + _ ≤ _
        rw [List.length_cons]
        omega
      | some p =>
        obtain ⟨a, b, c⟩ := ih (stepR s (some p)) hE' h1 (fun q hq => by
          rcases List.mem_append.mp hq with hq | hq
          · exact h2 q hq
          · rw [List.mem_singleton.mp hq]; exact hE p List.mem_cons_self)
        refine ⟨a, b, Nat.le_trans c ?_⟩
        show s.1.length + (s.2 ++ [p]).length + _ ≤ _
        rw [List.length_append, List.length_singleton, List.length_cons]
        omega
  obtain ⟨a, b, c⟩ := go E (m, []) hE bm (fun p h => nomatch h)
  refine ⟨a, b, Nat.le_trans c ?_⟩
  show m.length + 0 + E.length ≤ _
  omega
theorem redoA_blk {m : BT} {E : List Ent} (bm : Blk m) (h : okE E) : Blk (redoA m E) := (redoS_ok bm h).1
theorem redoA_len {m : BT} {E : List Ent} (bm : Blk m) (h : okE E) : (redoA m E).length ≤ m.length + E.length := by
  have := (redoS_ok bm h).2.2
  unfold redoA
  omega
def sp_redone (K : PySem.W.Frag) : Sp := fun vs H Q _ => ∃ (a l : Addr) (m : BT) (xs : List V) (E : List Ent), vs = [.ref a, .ref l] ∧ Dd K H a m ∧ SqL K H l xs ∧ DpAll K H xs (E.map entD) ∧ okE E ∧ Blk m ∧ m.length + E.length ≤ 90000 ∧
  ∀ da H', H da = none → Same H H' → Dd K H' da (redoA m E) → Q (.ref da) H'
theorem dpAll_one {K : PySem.W.Frag} {H : Hp} {xs : List V} {d : PyData} (h : DpAll K H xs [d]) : ∃ x, xs = [x] ∧ Dp K H x d := by
  cases h with
  | cons h1 r =>
    cases r
    exact ⟨_, rfl, h1⟩
theorem dpAll_three {K : PySem.W.Frag} {H : Hp} {xs : List V} {d e f : PyData} (h : DpAll K H xs [d, e, f]) : ∃ x y z, xs = [x, y, z] ∧ Dp K H x d ∧ Dp K H y e ∧ Dp K H z f := by
  cases h with
  | cons h1 r =>
    obtain ⟨y, z, rfl, h2, h3⟩ := dpAll_two r
    exact ⟨_, y, z, rfl, h1, h2, h3⟩
theorem dp_block {K : PySem.W.Frag} {H : Hp} {x : V} {p : Int × PyData} (h : Dp K H x (entD (some p))) : ∃ a y, x = .ref a ∧ SqT K H a [.str blockW, .int p.1, y] ∧ Dp K H y p.2 := by
  obtain ⟨a, ys, rfl, ht, hy⟩ := dp_tuple h
  obtain ⟨y1, y2, y3, rfl, h1, h2, h3⟩ := dpAll_three hy
  cases dp_str h1
  cases dp_i h2
  exact ⟨a, y3, rfl, ht, h3⟩
theorem dp_kept {K : PySem.W.Frag} {H : Hp} {x : V} (h : Dp K H x (entD none)) : ∃ a, x = .ref a ∧ SqT K H a [.str keptW] := by
  obtain ⟨a, ys, rfl, ht, hy⟩ := dp_tuple h
  obtain ⟨y1, rfl, h1⟩ := dpAll_one hy
  cases dp_str h1
  exact ⟨a, rfl, ht⟩
theorem w_kb : keptW ≠ blockW := by decide +kernel
theorem dpAll_at' {K : PySem.W.Frag} {H : Hp} {α : Type} {f : α → PyData} {xs : List V} {E : List α} (h : DpAll K H xs (E.map f)) {i : Nat} {x : V} (hx : xs[i]? = some x) : ∃ e, E[i]? = some e ∧ Dp K H x (f e) := by
  obtain ⟨d, hd, hp⟩ := dpAll_get h i x hx
  rw [List.getElem?_map] at hd
  obtain ⟨e, he, rfl⟩ := Option.map_eq_some_iff.mp hd
  exact ⟨e, he, hp⟩
theorem Oth.seqL {K : PySem.W.Frag} {H H' : Hp} {a b : Addr} {kvs : List (Key × V)} {xs : List V} (h : H a = some (.dK kvs)) (e : Oth a H H') (hl : SqL K H b xs) : SqL K H' b xs :=
  keep_seqL (P := notD) (fun _ => trivial) (fun _ _ => trivial) (e.keep fun o p z => by rw [h] at z; cases z; exact p) hl
section
variable {K : PySem.W.Frag} {σ : L2.St} {H : Hp} {Q : VK} {D : Ends} {t u : TS} {te tl : TE} {tt : TT} {g : TG} {vs : List Nat} {a : Addr} {xs : List V} {ta : TA}
variable {J : It} {n : Nat} {G : Hp → Prop} {Y : Nat → Hp → V → Hp → Prop}
/-- a comprehension without a test over any walk -/
theorem g_lcW (w : Walk J n G Y) (Rel : Nat → V → Hp → Prop) (hn : n ≤ 40000) (hG : ∀ H', Same H H' → G H') (hst : ∀ i y H1 H2, Still H1 H2 → Rel i y H1 → Rel i y H2)
    (he : ∀ (i : Nat) (x : V) (H1 H2 : Hp) (QE : VK), i < n → Same H H1 → Y i H1 x H2 → (∀ y H3, Same H1 H3 → Rel i y H3 → QE y H3) → g x (wipe σ vs) H2 fun σ2 H3 => wipe σ2 vs = wipe σ vs ∧ te σ2 H3 QE)
    (q : ∀ p ys H1, H p = none → Same H H1 → H1 p = some (.lst ys) → ys.length = n → (∀ i y, ys[i]? = some y → Rel i y H1) → Q (.ref p) H1) : lcR g tYes te vs σ Q J H := by
  intro Dl hD
  refine lc_it w (fun i H' => Same H H' ∧ ∃ ys, H' Dl = some (.lst ys) ∧ ys.length = i ∧ ∀ k y, ys[k]? = some y → Rel k y H')
    ⟨Same.new hD _, [], upd_same, rfl, fun k y h => nomatch h⟩ (fun i H' _ p => hG H' p.1) (fun i x H1 H2 hi p y => ?_) (fun H' p => ?_)
  · obtain ⟨s, ys, e, hl, hr⟩ := p
    refine he i x H1 H2 _ hi s y fun y H3 s3 r => ⟨ys, s3 _ _ e, Evl.sz_lt (by omega), ?_⟩
    have st : Still H3 (upd H3 Dl (.lst (ys ++ [y]))) := Still.upd (s3 _ _ e)
    refine ⟨fun b o h => ?_, ys ++ [y], upd_same, by rw [List.length_append, hl]; rfl, fun k z hk => ?_⟩
    · rw [upd_ne (ne_of_none h hD)]
      exact s3 _ _ (s _ _ h)
    · by_cases c : k < ys.length
      · rw [List.getElem?_append_left c] at hk
        exact hst k z _ _ st (hst k z _ _ (Still.of s3) (hr k z hk))
      · rw [List.getElem?_append_right (by omega)] at hk
        by_cases c2 : k - ys.length = 0
        · rw [c2] at hk
          have ez : y = z := Option.some.inj hk
          have ek : k = i := by omega
          subst ez ek
          exact hst _ _ _ _ st r
        · rw [List.getElem?_eq_none (by rw [List.length_singleton]; omega)] at hk
          cases hk
  · obtain ⟨s, ys, e, hl, hr⟩ := p
    exact q Dl ys H' hD s e hl hr
theorem g_forW (w : Walk J n G Y) (Pv : Nat → L2.St → Hp → Prop) (h0 : Pv 0 σ H) (hG : ∀ i σ H, i ≤ n → Pv i σ H → G H)
    (hs : ∀ i x σ H H', i < n → Pv i σ H → Y i H x H' → g x σ H' fun σ2 H2 => t { D with nx := Pv (i + 1), ct := Pv (i + 1), bk := D.nx } σ2 H2) (hd : ∀ σ H, Pv n σ H → D.nx σ H) : forR g t D σ J H := for_it w Pv h0 hG hs hd
def wE (K : PySem.W.Frag) (R : It → Hp → Prop) : List V → Hp → Prop := fun vs H1 => ∃ a xs, vs = [.ref a] ∧ SqL K H1 a xs ∧ R (Ite K a) H1
theorem g_wE {R : It → Hp → Prop} (q : ta σ H (wE K R)) : iEnum K ta σ H R := q
theorem g_forEk (Pv : Nat → L2.St → Hp → Prop) (hx : SqL K H a xs) (h0 : Pv 0 σ H) (hl : ∀ i σ' H', i ≤ xs.length → Pv i σ' H' → SqL K H' a xs)
    (hs : ∀ i x σ' H' T H2, xs[i]? = some x → Pv i σ' H' → H' T = none → Same H' H2 → H2 T = some (.tup [.int (i : Int), x]) → g (.ref T) σ' H2 fun σ2 H2 => t { D with nx := Pv (i + 1), ct := Pv (i + 1), bk := D.nx } σ2 H2)
    (hd : ∀ σ' H', Pv xs.length σ' H' → D.nx σ' H') : wE K (forR g t D σ) [.ref a] H :=
  ⟨a, xs, rfl, hx, g_forW walk_enum Pv h0 hl (fun i v σ' H' H2 hi hp hy => by
    obtain ⟨T, x, y, rfl, hT, rfl, e1, e2⟩ := hy
    cases Option.some.inj e1
    exact hs i y σ' H' T _ e2 hp hT (Same.new hT _) upd_same) hd⟩
theorem g_lcEk (Rel : Nat → V → Hp → Prop) (hx : SqL K H a xs) (hn : xs.length ≤ 40000) (hst : ∀ i y H1 H2, Still H1 H2 → Rel i y H1 → Rel i y H2)
    (he : ∀ (i : Nat) (x : V) (T : Addr) (H1 : Hp) (QE : VK), xs[i]? = some x → Same H H1 → H1 T = some (.tup [.int (i : Int), x]) → (∀ y H3, Same H1 H3 → Rel i y H3 → QE y H3) → g (.ref T) (wipe σ vs) H1 fun σ2 H3 => wipe σ2 vs = wipe σ vs ∧ te σ2 H3 QE)
    (q : ∀ p ys H1, H p = none → Same H H1 → H1 p = some (.lst ys) → ys.length = xs.length → (∀ i y, ys[i]? = some y → Rel i y H1) → Q (.ref p) H1) : wE K (lcR g tYes te vs σ Q) [.ref a] H :=
  ⟨a, xs, rfl, hx, g_lcW walk_enum Rel hn (fun H' s => L2.Same.seq s hx) hst (fun i v H1 H2 QE hi s hy k => by
    obtain ⟨T, x, y, rfl, hT, rfl, e1, e2⟩ := hy
    cases Option.some.inj e1
    exact he i y T _ QE e2 (s.trans (Same.new hT _)) upd_same fun z H3 s3 r => k z H3 ((Same.new hT _).trans s3) r) q⟩
end
end My

set_option Elab.async false
set_option linter.all false
set_option maxRecDepth 100000
set_option maxHeartbeats 1000000
/-! sound trees, told of data -/
namespace My
open PySem L2
structure TB where
  lf : Bool
  ps : List (Int × PyData)
def wordT (lf : Bool) : Str := if lf then leafW else branchW
def pairD (p : Int × PyData) : PyData := .tuple [.int p.1, p.2]
def TB.D (b : TB) : PyData := .tuple [.str (wordT b.lf), .tuple (b.ps.map pairD)]
def numD : PyData → Int
  | .int n => n
  | _ => 0
def heldOf : PyData → PyData
  | .tuple [_, h] => h
  | _ => .none
def toTB : PyData → TB
  | .tuple [.str w, .tuple ps] => ⟨decide (w = leafW), ps.map fun p => (keyD p, heldOf p)⟩
  | _ => ⟨true, []⟩
theorem word_lf : ∀ {lf : Bool}, decide (wordT lf = leafW) = lf := by
  intro lf
  cases lf <;> decide +kernel
theorem word_or {lf : Bool} : (decide (wordT lf = leafW) || decide (wordT lf = branchW)) = true := by cases lf <;> decide +kernel
theorem keyD_pair {p : Int × PyData} : keyD (pairD p) = p.1 := rfl
theorem heldOf_pair {p : Int × PyData} : heldOf (pairD p) = p.2 := rfl
theorem toTB_D {b : TB} : toTB b.D = b := by
  obtain ⟨lf, ps⟩ := b
  show (⟨decide (wordT lf = leafW), (ps.map pairD).map fun p => (keyD p, heldOf p)⟩ : TB) = _
  rw [word_lf, List.map_map]
  congr 1
  exact (List.map_congr_left fun p _ => rfl).trans (List.map_id ps)
theorem D_inj {b c : TB} (h : b.D = c.D) : b = c := by rw [← toTB_D (b := b), h, toTB_D]
def keysT (ps : List (Int × PyData)) : List Int := ps.map (·.1)
def okT (l u : Int) (b : TB) : Prop := l ≤ (b.ps.length : Int) ∧ (b.ps.length : Int) ≤ u ∧ (∀ p ∈ b.ps, isKeyD (.int p.1) = true ∧ heldD (wordT b.lf) p.2 = true) ∧ (keysT b.ps).Pairwise (· < ·)
theorem isPairD_pair {w : Str} {p : Int × PyData} : isPairD w (pairD p) = (isKeyD (.int p.1) && heldD w p.2) := rfl
theorem isBlockD_D {l u : Int} {b : TB} : isBlockD l u b.D = true ↔ okT l u b := by
  show ((decide (wordT b.lf = leafW) || decide (wordT b.lf = branchW)) && (decide (l ≤ ((b.ps.map pairD).length : Int)) && decide (((b.ps.map pairD).length : Int) ≤ u)) && ((b.ps.map pairD).all (isPairD (wordT b.lf)) && risesI ((b.ps.map pairD).map keyD))) = true ↔ _
  rw [word_or, Bool.true_and, List.length_map]
  have e : (b.ps.map pairD).map keyD = keysT b.ps := by rw [List.map_map]; rfl
  rw [e]
  simp only [Bool.and_eq_true, decide_eq_true_eq, rises_iff, List.all_eq_true, List.mem_map]
  unfold okT
  constructor
  · rintro ⟨⟨h1, h2⟩, h3, h4⟩
    refine ⟨h1, h2, fun p hp => ?_, h4⟩
    have := h3 (pairD p) ⟨p, hp, rfl⟩
    rw [isPairD_pair, Bool.and_eq_true] at this
    exact this
  · rintro ⟨h1, h2, h3, h4⟩
    refine ⟨⟨h1, h2⟩, ?_, h4⟩
    rintro _ ⟨p, hp, rfl⟩
    rw [isPairD_pair, Bool.and_eq_true]
    exact h3 p hp
theorem pairs_back : ∀ {ps : List PyData}, (∀ p ∈ ps, ∃ k x, p = .tuple [.int k, x]) → (ps.map fun p => (keyD p, heldOf p)).map pairD = ps
  | [], _ => rfl
  | p :: ps, h => by
    obtain ⟨k, x, rfl⟩ := h p List.mem_cons_self
    rw [List.map_cons, List.map_cons, pairs_back fun q hq => h q (List.mem_cons_of_mem _ hq)]
    rfl
theorem isBlockD_form {l u : Int} {d : PyData} (h : isBlockD l u d = true) : d = (toTB d).D := by
  cases e2 : isTwoD d with
  | false => rw [isBlockD_not2 e2] at h; cases h
  | true =>
    obtain ⟨k, x, rfl⟩ := isTwoD_two e2
    cases ek : decide (tyD k = "str") with
    | false => rw [isBlockD_word (of_decide_eq_false ek)] at h; cases h
    | true =>
      obtain ⟨w, rfl⟩ := tyD_str (of_decide_eq_true ek)
      cases ex : decide (tyD x = "tuple") with
      | false => rw [isBlockD_pairs (of_decide_eq_false ex)] at h; cases h
      | true =>
        obtain ⟨ps, rfl⟩ := tyD_tuple (of_decide_eq_true ex)
        have h' : ((decide (w = leafW) || decide (w = branchW)) && (decide (l ≤ (ps.length : Int)) && decide ((ps.length : Int) ≤ u)) && (ps.all (isPairD w) && risesI (ps.map keyD))) = true := h
        rw [Bool.and_eq_true, Bool.and_eq_true, Bool.and_eq_true] at h'
        have hw : w = wordT (decide (w = leafW)) := by
          by_cases c : w = leafW
          · rw [decide_eq_true c]; exact c
          · rw [decide_eq_false c]
            have := h'.1.1
            rw [decide_eq_false c, Bool.false_or] at this
            exact of_decide_eq_true this
        have hp : ∀ p ∈ ps, ∃ k x, p = .tuple [.int k, x] := fun p hp => isPairD_key (List.all_eq_true.mp (Bool.and_eq_true_iff.mp h'.2).1 p hp)
        show PyData.tuple [.str w, .tuple ps] = .tuple [.str (wordT (decide (w = leafW))), .tuple ((ps.map fun p => (keyD p, heldOf p)).map pairD)]
        rw [← hw, pairs_back hp]
theorem isBlockD_iff {l u : Int} {d : PyData} : isBlockD l u d = true ↔ d = (toTB d).D ∧ okT l u (toTB d) := by
  constructor
  · intro h
    have e := isBlockD_form h
    exact ⟨e, isBlockD_D.mp (e ▸ h)⟩
  · rintro ⟨e, h⟩
    rw [e]
    exact isBlockD_D.mpr h
/-! ### the walk -/
def halfI (w : Int) : Int := (w + 1) / 2
def firstK (b : TB) : Int := match b.ps with
  | p :: _ => p.1
  | [] => 0
def fitsD (w key : Int) (d : PyData) : Bool := isBlockD (halfI w) w d && decide (firstK (toTB d) = key)
def rootD (w : Int) (d : PyData) : Bool := isBlockD 0 w d && ((toTB d).lf || decide (2 ≤ (toTB d).ps.length))
def rowT (L : List TB) : List (Int × PyData) := L.flatMap (·.ps)
def numsT (row : List (Int × PyData)) : List Int := row.map fun p => numD p.2
def blockAt (m : BT) (n : Int) : PyData := optD (getA m n)
def checkRow (m : BT) (w : Int) : List Int → List (Int × PyData) → Option (List Int)
  | r, [] => some r
  | r, p :: row => if decide (numD p.2 ∈ r) || !fitsD w p.1 (blockAt m (numD p.2)) then none else checkRow m w (r ++ [numD p.2]) row
def nextL (m : BT) (row : List (Int × PyData)) : List TB := row.map fun p => toTB (blockAt m (numD p.2))
def soundL (m : BT) (w : Int) : Nat → List Int → List TB → Bool
  | 0, _, _ => false
  | f + 1, r, L => if L.all (fun b => !b.lf) then (match checkRow m w r (rowT L) with
    | none => false
    | some r' => soundL m w f r' (nextL m (rowT L))) else L.all (·.lf) && (risesI (keysT (rowT L)) && decide (r.length = m.length))
def soundD (m : BT) (w : Int) : Bool := rootD w (blockAt m 0) && soundL m w (m.length + 1) [0] [toTB (blockAt m 0)]
section
variable {m m' : BT} {w w' : Int} {r r' rf : List Int} {L Lf : List TB} {row : List (Int × PyData)} {f : Nat}
theorem checkRow_some : ∀ {row : List (Int × PyData)} {r r' : List Int}, checkRow m w r row = some r' → r' = r ++ numsT row ∧ (∀ p ∈ row, fitsD w p.1 (blockAt m (numD p.2)) = true) ∧ (∀ n ∈ numsT row, n ∉ r) ∧ (numsT row).Nodup
  | [], r, r', h => by
    cases h
    exact ⟨by unfold numsT; simp, (fun p h => nomatch h), (fun n h => nomatch h), by unfold numsT; exact List.nodup_nil⟩
  | p :: row, r, r', h => by
    unfold checkRow at h
    split at h
    · cases h
    · rename_i c
      rw [Bool.or_eq_true, not_or, decide_eq_true_eq] at c
      obtain ⟨c1, c2⟩ := c
      obtain ⟨h1, h2, h3, h4⟩ := checkRow_some h
      refine ⟨by rw [h1, List.append_assoc]; rfl, fun q hq => ?_, fun n hn => ?_, ?_⟩
      · rcases List.mem_cons.mp hq with e | e
        · rw [e]; simpa using c2
        · exact h2 q e
      · have hn' : n ∈ numD p.2 :: numsT row := hn
        rcases List.mem_cons.mp hn' with e | e
        · rw [e]; exact c1
        · intro z
          exact h3 n e (List.mem_append_left _ z)
      · unfold numsT
        rw [List.map_cons, List.nodup_cons]
        exact ⟨fun z => h3 _ z (List.mem_append_right _ (List.mem_singleton.mpr rfl)), h4⟩
theorem checkRow_of : ∀ {row : List (Int × PyData)} {r : List Int}, (∀ p ∈ row, fitsD w p.1 (blockAt m (numD p.2)) = true) → (∀ n ∈ numsT row, n ∉ r) → (numsT row).Nodup → checkRow m w r row = some (r ++ numsT row)
  | [], r, _, _, _ => by unfold checkRow numsT; simp
  | p :: row, r, h2, h3, h4 => by
    unfold checkRow
    unfold numsT at h4
    rw [List.map_cons, List.nodup_cons] at h4
    have n1 : numD p.2 ∉ r := h3 _ (List.mem_map.mpr ⟨p, List.mem_cons_self, rfl⟩)
    rw [decide_eq_false n1, h2 p List.mem_cons_self]
    rw [if_neg (by decide), checkRow_of (fun q hq => h2 q (List.mem_cons_of_mem _ hq)) (fun n hn z => ?_) h4.2]
    · rw [List.append_assoc]
      rfl
    · rcases List.mem_append.mp z with z | z
      · exact h3 n (List.mem_cons_of_mem _ hn) z
      · rw [List.mem_singleton.mp z] at hn
        exact h4.1 hn
/-- a walk down the levels, from what is reached and a level to all that is reached and the leaves -/
inductive Run (m : BT) (w : Int) : List Int → List TB → List Int → List TB → Prop
  | stop {r : List Int} {L : List TB} : L ≠ [] → (∀ b ∈ L, b.lf = true) → Run m w r L r L
  | next {r r' rf : List Int} {L Lf : List TB} : L ≠ [] → (∀ b ∈ L, b.lf = false) → 2 ≤ (rowT L).length → checkRow m w r (rowT L) = some r' → Run m w r' (nextL m (rowT L)) rf Lf → Run m w r L rf Lf
theorem all_br (h : ∀ b ∈ L, b.lf = false) : L.all (fun b => !b.lf) = true := List.all_eq_true.mpr fun b hb => by rw [h b hb]; rfl
theorem all_lf (h : ∀ b ∈ L, b.lf = true) : L.all (·.lf) = true := List.all_eq_true.mpr fun b hb => h b hb
theorem not_br (h0 : L ≠ []) (h : ∀ b ∈ L, b.lf = true) : L.all (fun b => !b.lf) = false := by
  obtain ⟨b, hb⟩ := List.exists_mem_of_ne_nil L h0
  exact List.all_eq_false.mpr ⟨b, hb, by rw [h b hb]; decide⟩
theorem Run.pre (h : Run m w r L rf Lf) : ∃ s, rf = r ++ s ∧ s.Nodup ∧ ∀ n ∈ s, n ∉ r := by
  induction h with
  | stop _ _ => exact ⟨[], by simp, List.nodup_nil, fun n h => nomatch h⟩
  | next _ _ _ hc _ ih =>
    obtain ⟨s, e, nd, hs⟩ := ih
    obtain ⟨h1, _, h3, h4⟩ := checkRow_some hc
    refine ⟨numsT (rowT _) ++ s, by rw [e, h1, List.append_assoc], ?_, fun n hn => ?_⟩
    · rw [List.nodup_append]
      refine ⟨h4, nd, fun a ha b hb e => ?_⟩
      subst e
      exact hs a hb (by rw [h1]; exact List.mem_append_right _ ha)
    · rcases List.mem_append.mp hn with hn | hn
      · exact h3 n hn
      · intro z
        exact hs n hn (by rw [h1]; exact List.mem_append_left _ z)
theorem Run.sub (h : Run m w r L rf Lf) {n : Int} (hn : n ∈ r) : n ∈ rf := by
  obtain ⟨s, e, _⟩ := h.pre
  rw [e]
  exact List.mem_append_left _ hn
theorem soundL_run (h : Run m w r L rf Lf) : ∀ f, rf.length < f + r.length → soundL m w f r L = (risesI (keysT (rowT Lf)) && decide (rf.length = m.length)) := by
  induction h with
  | stop h0 h =>
    intro f hf
    cases f with
    | zero => omega
    | succ f =>
      unfold soundL
      rw [not_br h0 h, if_neg (by decide), all_lf h, Bool.true_and]
  | @next r r' rf L Lf h0 hb h2 hc hr ih =>
    intro f hf
    obtain ⟨s, es, _⟩ := hr.pre
    obtain ⟨h1, _⟩ := checkRow_some hc
    have hl : (numsT (rowT L)).length = (rowT L).length := List.length_map ..
    have e1 := congrArg List.length h1
    have e2 := congrArg List.length es
    rw [List.length_append] at e1 e2
    cases f with
    | zero => omega
    | succ f =>
      unfold soundL
      rw [all_br hb, if_pos rfl, hc]
      exact ih f (by omega)
theorem checkRow_agree {row : List (Int × PyData)} {r : List Int} (h : ∀ n ∈ numsT row, getA m' n = getA m n) : checkRow m' w r row = checkRow m w r row := by
  induction row generalizing r with
  | nil => rfl
  | cons p row ih =>
    unfold checkRow
    have e : blockAt m' (numD p.2) = blockAt m (numD p.2) := by
      unfold blockAt
      rw [h _ (List.mem_map.mpr ⟨p, List.mem_cons_self, rfl⟩)]
    rw [e, ih fun n hn => h n (List.mem_cons_of_mem _ hn)]
theorem nextL_agree {row : List (Int × PyData)} (h : ∀ n ∈ numsT row, getA m' n = getA m n) : nextL m' row = nextL m row :=
  List.map_congr_left fun p hp => by
    unfold blockAt
    rw [h _ (List.mem_map.mpr ⟨p, hp, rfl⟩)]
theorem Run.mono (h : Run m w r L rf Lf) (ha : ∀ n ∈ rf, n ∉ r → getA m' n = getA m n) : Run m' w r L rf Lf := by
  induction h with
  | stop h0 h => exact .stop h0 h
  | next h0 hb h2 hc hr ih =>
    obtain ⟨h1, _, h3, _⟩ := checkRow_some hc
    have hrow : ∀ n ∈ numsT (rowT _), getA m' n = getA m n := fun n hn => ha n (hr.sub (by rw [h1]; exact List.mem_append_right _ hn)) (h3 n hn)
    refine .next h0 hb h2 ((checkRow_agree hrow).trans hc) ?_
    rw [nextL_agree hrow]
    exact ih fun n hn hnr => ha n hn fun z => hnr (by rw [h1]; exact List.mem_append_left _ z)
/-- down to the level in which a number is named -/
theorem Run.to (h : Run m w r L rf Lf) {n : Int} (hn : n ∈ rf) (hr : n ∉ r) (ha : ∀ k, k ≠ n → getA m' k = getA m k)
    (X : ∀ r r' L, L ≠ [] → (∀ b ∈ L, b.lf = false) → 2 ≤ (rowT L).length → checkRow m w r (rowT L) = some r' → n ∈ numsT (rowT L) → Run m w r' (nextL m (rowT L)) rf Lf → ∀ f, soundL m' w f r L = false) : ∀ f, soundL m' w f r L = false := by
  induction h with
  | stop h0 h => exact absurd hn hr
  | @next r r' rf L Lf h0 hb h2 hc hR ih =>
    by_cases c : n ∈ numsT (rowT L)
    · exact X r r' L h0 hb h2 hc c hR
    · intro f
      cases f with
      | zero => rfl
      | succ f =>
        obtain ⟨h1, _, h3, _⟩ := checkRow_some hc
        have hrow : ∀ k ∈ numsT (rowT L), getA m' k = getA m k := fun k hk => ha k fun e => c (e ▸ hk)
        unfold soundL
        rw [all_br hb, if_pos rfl, checkRow_agree hrow, hc, nextL_agree hrow]
        refine ih hn (fun z => ?_) X f
        rw [h1] at z
        rcases List.mem_append.mp z with z | z
        · exact hr z
        · exact c z
/-- the width other: all that is reached is as wide -/
theorem Run.wide (h : Run m w r L rf Lf) : ∀ f, soundL m w' f r L = true → ∀ n ∈ rf, n ∉ r → isBlockD (halfI w') w' (blockAt m n) = true := by
  induction h with
  | stop h0 h => intro f _ n hn hr; exact absurd hn hr
  | @next r r' rf L Lf h0 hb h2 hc hR ih =>
    intro f hs n hn hr
    cases f with
    | zero => cases hs
    | succ f =>
      unfold soundL at hs
      rw [all_br hb, if_pos rfl] at hs
      obtain ⟨h1, _, _, _⟩ := checkRow_some hc
      cases e : checkRow m w' r (rowT L) with
      | none => rw [e] at hs; cases hs
      | some r2 =>
        rw [e] at hs
        obtain ⟨g1, g2, _, _⟩ := checkRow_some e
        have er : r2 = r' := by rw [g1, h1]
        subst er
        by_cases c : n ∈ numsT (rowT L)
        · obtain ⟨p, hp, rfl⟩ := List.mem_map.mp c
          have := g2 p hp
          unfold fitsD at this
          rw [Bool.and_eq_true] at this
          exact this.1
        · refine ih f hs n hn fun z => ?_
          rw [h1] at z
          rcases List.mem_append.mp z with z | z
          · exact hr z
          · exact c z
theorem Run.widen (h : Run m w r L rf Lf) (hw : ∀ n ∈ rf, n ∉ r → isBlockD (halfI w') w' (blockAt m n) = true) : Run m w' r L rf Lf := by
  induction h with
  | stop h0 h => exact .stop h0 h
  | @next r r' rf L Lf h0 hb h2 hc hR ih =>
    obtain ⟨h1, g2, h3, h4⟩ := checkRow_some hc
    refine .next h0 hb h2 ?_ (ih fun n hn hr => hw n hn fun z => hr (by rw [h1]; exact List.mem_append_left _ z))
    rw [h1]
    refine checkRow_of (fun p hp => ?_) h3 h4
    have := g2 p hp
    unfold fitsD at this ⊢
    rw [Bool.and_eq_true] at this ⊢
    have hm : numD p.2 ∈ numsT (rowT L) := List.mem_map.mpr ⟨p, hp, rfl⟩
    exact ⟨hw _ (hR.sub (by rw [h1]; exact List.mem_append_right _ hm)) (h3 _ hm), this.2⟩
end
end My

set_option Elab.async false
set_option linter.all false
set_option maxRecDepth 100000
set_option maxHeartbeats 1000000
/-! trees that are built from the leaves up -/
namespace My
open PySem L2
abbrev PL := List (Int × PyData)
/-- pairs of a word: keys in range, held good, rising -/
def okP (lf : Bool) (P : PL) : Prop := (∀ p ∈ P, isKeyD (.int p.1) = true ∧ heldD (wordT lf) p.2 = true) ∧ (keysT P).Pairwise (· < ·)
/-- held data as small as can be compared -/
def smP (P : PL) : Prop := ∀ p ∈ P, strictD p.2 = true ∧ PyData.depth p.2 ≤ 5
theorem strok_word {lf : Bool} : PyData.strOk (wordT lf) = true := by cases lf <;> decide +kernel
theorem okD_D {b : TB} (h : smP b.ps) : okD b.D := by
  have hp : ∀ d ∈ b.ps.map pairD, strictD d = true ∧ PyData.depth d ≤ 6 := fun d hd => by
    obtain ⟨p, hp, rfl⟩ := List.mem_map.mp hd
    obtain ⟨h1, h2⟩ := h p hp
    refine ⟨by simp [pairD, strictD, strictAll, h1], ?_⟩
    simp only [pairD, PyData.depth, PyData.depthAll]
    omega
  refine okD_tup fun d hd => ?_
  rcases List.mem_cons.mp hd with e | e
  · subst e
    exact ⟨by simp [strictD, strok_word], by simp [PyData.depth]⟩
  · rw [List.mem_singleton.mp e]
    refine ⟨by simp only [strictD]; exact strictAll_iff.mpr fun d hd => (hp d hd).1, ?_⟩
    simp only [PyData.depth]
    have := depthAll_le (n := 6) fun d hd => (hp d hd).2
    omega
theorem okT_of {l u : Int} {lf : Bool} {P : PL} (h : okP lf P) (h1 : l ≤ (P.length : Int)) (h2 : (P.length : Int) ≤ u) : okT l u ⟨lf, P⟩ := ⟨h1, h2, h.1, h.2⟩
theorem okT.okP {l u : Int} {b : TB} (h : okT l u b) : okP b.lf b.ps := ⟨h.2.2.1, h.2.2.2⟩
structure Lvl (w : Int) (P0 : PL) (m : BT) (lf : Bool) (P : PL) (num : Int) : Prop where
  nd : (keysA m).Nodup
  rng : ∀ k ∈ keysA m, 1 ≤ k ∧ k < num
  low : 1 ≤ num
  ok : ∀ p ∈ m, okD p.2
  ps : okP lf P
  sm : smP P
  two : lf = false → 2 ≤ P.length
  walk : ∀ (r : List Int) (L : List TB), L ≠ [] → (∀ b ∈ L, b.lf = lf) → rowT L = P → (∀ k ∈ r, k ∉ keysA m) → ∃ rf Lf, Run m w r L rf Lf ∧ rf.length = r.length + m.length ∧ rowT Lf = P0 ∧ ∀ n ∈ rf, n ∉ r → n ∈ keysA m
theorem Lvl.base {w : Int} {P : PL} {num : Int} (h : okP true P) (s : smP P) (hn : 1 ≤ num) : Lvl w P [] true P num :=
  ⟨Blk.nil.1, (fun k h => nomatch h), hn, (fun p h => nomatch h), h, s, (fun h => nomatch h), fun r L h0 hl hr _ => ⟨r, L, .stop h0 hl, by simp, hr, fun n h1 h2 => absurd h1 h2⟩⟩
structure Adding (w : Int) (m0 : BT) (lf : Bool) (num0 : Int) (rows : List PL) (m : BT) (ab : PL) (num : Int) : Prop where
  keys : keysA m = keysA m0 ++ numsT ab
  low : num0 ≤ num
  nums : ∀ n ∈ numsT ab, num0 ≤ n ∧ n < num
  nd : (numsT ab).Nodup
  old : ∀ k, k < num0 → getA m k = getA m0 k
  next : nextL m ab = rows.map (TB.mk lf)
  fit : ∀ p ∈ ab, fitsD w p.1 (blockAt m (numD p.2)) = true
  kk : keysT ab = rows.map fun r => firstK ⟨lf, r⟩
  held : ∀ p ∈ ab, p.2 = .int (numD p.2)
  ok : ∀ p ∈ m, okD p.2
theorem Adding.base {w : Int} {m0 : BT} {lf : Bool} {num0 : Int} (ok : ∀ p ∈ m0, okD p.2) : Adding w m0 lf num0 [] m0 [] num0 :=
  ⟨by unfold numsT; simp, Int.le_refl _, (fun n h => nomatch h), by unfold numsT; exact List.nodup_nil, fun _ _ => rfl, rfl, (fun p h => nomatch h), rfl, (fun p h => nomatch h), ok⟩
theorem numsT_app {a b : PL} : numsT (a ++ b) = numsT a ++ numsT b := List.map_append ..
theorem keysT_app {a b : PL} : keysT (a ++ b) = keysT a ++ keysT b := List.map_append ..
theorem Adding.step {w : Int} {m0 m : BT} {lf : Bool} {num0 num st : Int} {rows : List PL} {ab row : PL} (A : Adding w m0 lf num0 rows m ab num) (rng : ∀ k ∈ keysA m0, k < num0) (hr : okT (halfI w) w ⟨lf, row⟩) (sr : smP row) (hst : 1 ≤ st) :
    Adding w m0 lf num0 (rows ++ [row]) (putA m num (TB.D ⟨lf, row⟩)) (ab ++ [(firstK ⟨lf, row⟩, .int num)]) (num + st) := by
  have hlow := A.low
  have nin : getA m num = none := by
    cases e : getA m num with
    | none => rfl
    | some x =>
      have : num ∈ keysA m := mem_keysA.mpr (by rw [e]; rfl)
      rw [A.keys] at this
      rcases List.mem_append.mp this with h | h
      · have := rng _ h; omega
      · have := (A.nums _ h).2; omega
  have old : ∀ n ∈ numsT ab, getA (putA m num (TB.D ⟨lf, row⟩)) n = getA m n := fun n hn => by
    rw [getA_put, if_neg (by have := (A.nums n hn).2; omega)]
  have oldB : ∀ p ∈ ab, blockAt (putA m num (TB.D ⟨lf, row⟩)) (numD p.2) = blockAt m (numD p.2) := fun p hp => by
    unfold blockAt
    rw [old _ (List.mem_map.mpr ⟨p, hp, rfl⟩)]
  have newB : blockAt (putA m num (TB.D ⟨lf, row⟩)) num = TB.D ⟨lf, row⟩ := by
    unfold blockAt
    rw [getA_put, if_pos rfl]
    rfl
  refine ⟨?_, by omega, fun n hn => ?_, ?_, fun k hk => ?_, ?_, fun p hp => ?_, ?_, fun p hp => ?_, all_put A.ok (okD_D sr)⟩
  · rw [keysA_put, nin, if_neg (by decide), A.keys, numsT_app, List.append_assoc]
    rfl
  · rw [numsT_app] at hn
    rcases List.mem_append.mp hn with hn | hn
    · have := A.nums n hn; omega
    · have e : n = num := List.mem_singleton.mp hn
      omega
  · rw [numsT_app]
    exact nodup_snoc A.nd fun z => by have e := (A.nums _ z).2; exact absurd e (Int.lt_irrefl _)
  · rw [getA_put, if_neg (by omega), A.old k hk]
  · unfold nextL
    rw [List.map_append, List.map_append]
    congr 1
    · rw [← A.next]
      exact List.map_congr_left fun p hp => by rw [oldB p hp]
    · show [toTB (blockAt _ num)] = [TB.mk lf row]
      rw [newB, toTB_D]
  · rcases List.mem_append.mp hp with hp | hp
    · rw [oldB p hp]
      exact A.fit p hp
    · rw [List.mem_singleton.mp hp]
      show fitsD w (firstK ⟨lf, row⟩) (blockAt _ num) = true
      rw [newB]
      unfold fitsD
      rw [toTB_D, decide_eq_true rfl, Bool.and_true]
      exact isBlockD_D.mpr hr
  · rw [keysT_app, A.kk, List.map_append]
    rfl
  · rcases List.mem_append.mp hp with hp | hp
    · exact A.held p hp
    · rw [List.mem_singleton.mp hp]
      rfl
/-- the first keys of rows that rise together -/
theorem firsts_rise : ∀ {rows : List PL}, (∀ r ∈ rows, r ≠ []) → (keysT rows.flatten).Pairwise (· < ·) → (rows.map fun r => firstK ⟨true, r⟩).Pairwise (· < ·)
  | [], _, _ => .nil
  | r :: rows, h0, h => by
    rw [List.flatten_cons, keysT_app, List.pairwise_append] at h
    rw [List.map_cons, List.pairwise_cons]
    refine ⟨fun k hk => ?_, firsts_rise (fun x hx => h0 x (List.mem_cons_of_mem _ hx)) h.2.1⟩
    obtain ⟨s, hs, rfl⟩ := List.mem_map.mp hk
    have n1 := h0 r List.mem_cons_self
    have n2 := h0 s (List.mem_cons_of_mem _ hs)
    cases r with
    | nil => exact absurd rfl n1
    | cons p r =>
      cases s with
      | nil => exact absurd rfl n2
      | cons q s =>
        refine h.2.2 p.1 List.mem_cons_self q.1 ?_
        exact List.mem_map.mpr ⟨q, List.mem_flatten.mpr ⟨_, hs, List.mem_cons_self⟩, rfl⟩
theorem firstK_mem {lf : Bool} {r : PL} (h : r ≠ []) : ∃ p ∈ r, firstK ⟨lf, r⟩ = p.1 := by
  cases r with
  | nil => exact absurd rfl h
  | cons p r => exact ⟨p, List.mem_cons_self, rfl⟩
theorem rowT_map {lf : Bool} {rows : List PL} : rowT (rows.map (TB.mk lf)) = rows.flatten := by
  unfold rowT
  rw [List.flatMap_map, List.flatMap_id']
theorem Adding.done {w : Int} {P0 P : PL} {m0 m : BT} {lf : Bool} {num0 num : Int} {rows : List PL} {ab : PL} (V : Lvl w P0 m0 lf P num0) (A : Adding w m0 lf num0 rows m ab num) (hP : rows.flatten = P) (h2 : 2 ≤ rows.length) (h0 : ∀ r ∈ rows, r ≠ []) :
    Lvl w P0 m false ab num := by
  have hlow := A.low
  have hV := V.low
  have lab : ab.length = rows.length := by
    have := congrArg List.length A.kk
    unfold keysT at this
    rwa [List.length_map, List.length_map] at this
  have hf : ∀ lf' r, firstK ⟨lf', r⟩ = firstK ⟨true, r⟩ := fun lf' r => rfl
  refine ⟨?_, fun k hk => ?_, by omega, A.ok, ⟨fun p hp => ?_, ?_⟩, fun p hp => ?_, fun _ => by omega, fun r L hL hbr hrow hdis => ?_⟩
  · rw [A.keys, List.nodup_append]
    refine ⟨V.nd, A.nd, fun a ha b hb e => ?_⟩
    have h1 := (V.rng a ha).2
    have h2 := (A.nums b hb).1
    omega
  · rw [A.keys] at hk
    rcases List.mem_append.mp hk with hk | hk
    · have := V.rng k hk; omega
    · have := A.nums k hk; omega
  · refine ⟨?_, ?_⟩
    · have hk : p.1 ∈ keysT ab := List.mem_map.mpr ⟨p, hp, rfl⟩
      rw [A.kk] at hk
      obtain ⟨r, hr, e⟩ := List.mem_map.mp hk
      obtain ⟨q, hq, e2⟩ := firstK_mem (lf := lf) (h0 r hr)
      rw [← e, e2]
      exact (V.ps.1 q (by rw [← hP]; exact List.mem_flatten.mpr ⟨r, hr, hq⟩)).1
    · have hn := (A.nums (numD p.2) (List.mem_map.mpr ⟨p, hp, rfl⟩)).1
      rw [A.held p hp]
      show (if wordT false = leafW then _ else _) = true
      rw [if_neg (by decide +kernel)]
      exact decide_eq_true (by omega)
  · rw [A.kk]
    simp only [hf]
    exact firsts_rise h0 (by rw [hP]; exact V.ps.2)
  · rw [A.held p hp]
    exact ⟨rfl, by simp [PyData.depth]⟩
  · have hnr : ∀ n ∈ numsT ab, n ∉ r := fun n hn z => hdis n z (by rw [A.keys]; exact List.mem_append_right _ hn)
    have hc : checkRow m w r ab = some (r ++ numsT ab) := checkRow_of A.fit hnr A.nd
    obtain ⟨rf, Lf, hR, hl, hrf, hsub⟩ := V.walk (r ++ numsT ab) (rows.map (TB.mk lf)) (by
      intro z
      have := congrArg List.length z
      rw [List.length_map, List.length_nil] at this
      omega) (fun b hb => by
        obtain ⟨x, _, rfl⟩ := List.mem_map.mp hb
        rfl) (by rw [rowT_map, hP]) (fun k hk z => by
        rcases List.mem_append.mp hk with hk | hk
        · exact hdis k hk (by rw [A.keys]; exact List.mem_append_left _ z)
        · have h1 := (A.nums k hk).1
          have h2 := (V.rng k z).2
          omega)
    have hR' : Run m w (r ++ numsT ab) (nextL m (rowT L)) rf Lf := by
      rw [hrow, A.next]
      exact hR.mono fun n hn hnr => A.old n (V.rng n (hsub n hn hnr)).2
    refine ⟨rf, Lf, .next hL hbr (by rw [hrow]; omega) (by rw [hrow]; exact hc) hR', ?_, hrf, fun n hn hnr2 => ?_⟩
    · have e1 := congrArg List.length A.keys
      unfold keysA at e1
      rw [List.length_append, List.length_map, List.length_map] at e1
      rw [hl, List.length_append]
      omega
    · rw [A.keys]
      by_cases c : n ∈ numsT ab
      · exact List.mem_append_right _ c
      · refine List.mem_append_left _ (hsub n hn fun z => ?_)
        rcases List.mem_append.mp z with z | z
        · exact hnr2 z
        · exact c z
/-- a sound tree of a width that holds just P -/
structure Tree (w : Int) (P : PL) (m : BT) : Prop where
  blk : Blk m
  root : ∃ b : TB, getA m 0 = some b.D ∧ okT 0 w b ∧ smP b.ps ∧ (b.lf = true ∨ 2 ≤ b.ps.length) ∧ ∃ rf Lf, Run m w [0] [b] rf Lf ∧ rf.length = m.length ∧ rowT Lf = P
  rise : (keysT P).Pairwise (· < ·)
  zero : ∀ k ∈ keysA m, 0 ≤ k
theorem rowT_one {b : TB} : rowT [b] = b.ps := by unfold rowT; simp
theorem Lvl.done {w : Int} {P0 P : PL} {m : BT} {lf : Bool} {num : Int} (V : Lvl w P0 m lf P num) (hw : (P.length : Int) ≤ w) (hP : (keysT P0).Pairwise (· < ·)) : Tree w P0 (putA m 0 (TB.D ⟨lf, P⟩)) := by
  have n0 : (0 : Int) ∉ keysA m := fun z => by have := (V.rng 0 z).1; omega
  obtain ⟨rf, Lf, hR, hl, hrf, hsub⟩ := V.walk [0] [⟨lf, P⟩] (by simp) (fun b hb => by rw [List.mem_singleton.mp hb]) rowT_one fun k hk => by rw [List.mem_singleton.mp hk]; exact n0
  have g0 : getA m 0 = none := by
    cases e : getA m 0 with
    | none => rfl
    | some x => exact absurd (mem_keysA.mpr (by rw [e]; rfl)) n0
  refine ⟨⟨nodup_put V.nd, all_put V.ok (okD_D V.sm)⟩, ⟨⟨lf, P⟩, by rw [getA_put, if_pos rfl], okT_of V.ps (by omega) hw, V.sm, ?_, rf, Lf, hR.mono fun n hn hnr => ?_, ?_, hrf⟩, hP, fun k hk => ?_⟩
  · cases lf with
    | true => exact .inl rfl
    | false => exact .inr (V.two rfl)
  · rw [getA_put, if_neg fun e => hnr (by rw [e]; exact List.mem_singleton.mpr rfl)]
  · have e := congrArg List.length (keysA_put (m := m) (k := 0) (v := TB.D ⟨lf, P⟩))
    rw [g0, if_neg (by decide)] at e
    unfold keysA at e
    rw [List.length_append, List.length_map, List.length_map, List.length_singleton] at e
    rw [hl, List.length_singleton]
    omega
  · rw [keysA_put, g0, if_neg (by decide)] at hk
    rcases List.mem_append.mp hk with hk | hk
    · have := V.rng k hk; omega
    · rw [List.mem_singleton.mp hk]
      omega
theorem Tree.sound {w : Int} {P : PL} {m : BT} (T : Tree w P m) : soundD m w = true := by
  obtain ⟨b, h0, hok, _, h2, rf, Lf, hR, hl, hP⟩ := T.root
  unfold soundD
  have e : blockAt m 0 = b.D := by unfold blockAt; rw [h0]; rfl
  rw [e, toTB_D, soundL_run hR _ (by simp; omega), hP, (rises_iff _).mpr T.rise, decide_eq_true hl]
  unfold rootD
  rw [isBlockD_D.mpr hok, toTB_D]
  rcases h2 with h2 | h2
  · rw [h2]; rfl
  · rw [decide_eq_true h2, Bool.or_true]; rfl
end My

set_option Elab.async false
set_option linter.all false
set_option maxRecDepth 100000
set_option maxHeartbeats 1000000
/-! two fors, tuples cut and put together, least and greatest, sorted -/
namespace My
open PySem L2
section
variable {X : Cx}
/-- walks a list or a tuple -/
def iSeq (K : PySem.W.Frag) (tl : TE) : TI := fun σ H R => iList K tl σ H R ∨ iTup K tl σ H R
theorem pi_seq {tg l : Expr} {tl : TE} (hl : PE X l tl) : PI X tg l (iSeq X.K tl) := ⟨fun pins s σ H R I h => h.elim (fun h => (pi_list hl).run pins s σ H R I h) fun h => (pi_tup hl).run pins s σ H R I h⟩
def rMin2 : List V → Hp → VK → Prop := fun us H Q => ∃ i j, us = [.int i, .int j] ∧ Q (.int (if j < i then j else i)) H
theorem my_min2 (hc : X.calm = true) : CallR X (.builtin "min") rMin2 := call_min2 hc
end
section
variable {K : PySem.W.Frag} {σ σ2 : L2.St} {H : Hp} {Q : VK} {D : Addr} {te tl : TE} {tt tt1 : TT} {g g1 : TG} {vs vs1 : List Nat} {a : Addr} {xs : List V} {wi1 : TI}
variable {J : It} {n : Nat} {G : Hp → Prop} {Y : Nat → Hp → V → Hp → Prop}
theorem g_min2 {i j : Int} (q : Q (.int (if j < i then j else i)) H) : rMin2 [.int i, .int j] H Q := ⟨i, j, rfl, q⟩
/-- the inner walk of two: what is to stand behind it is N, the list in the making at D -/
def inR (g1 : TG) (tt1 : TT) (te : TE) (vs1 : List Nat) (D : Addr) (σ2 : L2.St) (N : Hp → Prop) : It → Hp → Prop := fun J1 Hs =>
  ∃ U : Nat → Nat → Hp → Prop, (∃ m, U 0 m Hs) ∧ ∀ j k Ht, U j k Ht → (J1.stop j Ht ∧ N Ht) ∨
    (J1.go j Ht ∧ ∃ Nn : Hp → Prop, (∀ Hn, Nn Hn → ∃ k', k' < k ∧ U (j + 1) k' Hn) ∧
      ∀ z Hn, J1.yld j Ht z Hn → g1 z (wipe σ2 vs1) Hn fun σ3 Hm => wipe σ3 vs1 = wipe σ2 vs1 ∧ tt1 σ3 Hm fun kp He =>
        if kp = true then te σ3 He fun u Hu => ∃ acc, Hu D = some (.lst acc) ∧ acc.length < sizeLine ∧ Nn (upd Hu D (.lst (acc ++ [u]))) else Nn He)
def lc2R (g : TG) (tt : TT) (wi1 : TI) (g1 : TG) (tt1 : TT) (te : TE) (vs vs1 : List Nat) (σ : L2.St) (Q : VK) : It → Hp → Prop := fun J H1 => tLc2 (fun _ H R => R J H) g tt wi1 g1 tt1 te vs vs1 σ H1 Q
theorem g_lc2O {wi : TI} (q : wi σ H (lc2R g tt wi1 g1 tt1 te vs vs1 σ Q)) : tLc2 wi g tt wi1 g1 tt1 te vs vs1 σ H Q := q
theorem g_lc2W (w : Walk J n G Y) (Pv : Addr → Nat → Hp → Prop) (h0 : ∀ D, H D = none → Pv D 0 (upd H D (.lst []))) (hG : ∀ D i H', i ≤ n → Pv D i H' → G H')
    (hs : ∀ D i x H1 H2, H D = none → i < n → Pv D i H1 → Y i H1 x H2 → g x (wipe σ vs) H2 fun σ2 H3 => wipe σ2 vs = wipe σ vs ∧ wi1 σ2 H3 (inR g1 tt1 te vs1 D σ2 (Pv D (i + 1)))) (hd : ∀ D H', H D = none → Pv D n H' → Q (.ref D) H') :
    lc2R g tYes wi1 g1 tt1 te vs vs1 σ Q J H := by
  intro D hD
  refine ⟨fun i m H => m = n - i ∧ i ≤ n ∧ Pv D i H, ⟨n, by simp, Nat.zero_le _, h0 D hD⟩, ?_⟩
  rintro i m H' ⟨rfl, hi, p⟩
  have q := hG D i H' hi p
  by_cases hlt : i < n
  · exact .inr ⟨w.goes i H' hlt q, Pv D (i + 1), fun H' p' => ⟨n - (i + 1), by omega, rfl, hlt, p'⟩, fun x H2 y => hs D i x H' H2 hD hlt p (w.yields i H' x H2 hlt q y)⟩
  · have e : i = n := by omega
    subst e
    exact .inl ⟨w.stops H' q, hd D H' hD p⟩
theorem g_inW (w : Walk J n G Y) {N : Hp → Prop} (Pv : Nat → Hp → Prop) (h0 : Pv 0 H) (hG : ∀ i H', i ≤ n → Pv i H' → G H')
    (hs : ∀ j x H1 H2, j < n → Pv j H1 → Y j H1 x H2 → g1 x (wipe σ2 vs1) H2 fun σ3 H5 => wipe σ3 vs1 = wipe σ2 vs1 ∧ te σ3 H5 fun y H7 => ∃ acc, H7 D = some (.lst acc) ∧ acc.length < sizeLine ∧ Pv (j + 1) (upd H7 D (.lst (acc ++ [y]))))
    (hd : ∀ H', Pv n H' → N H') : inR g1 tYes te vs1 D σ2 N J H := by
  refine ⟨fun i m H => m = n - i ∧ i ≤ n ∧ Pv i H, ⟨n, by simp, Nat.zero_le _, h0⟩, ?_⟩
  rintro i m H' ⟨rfl, hi, p⟩
  have q := hG i H' hi p
  by_cases hlt : i < n
  · exact .inr ⟨w.goes i H' hlt q, Pv (i + 1), fun H' p' => ⟨n - (i + 1), by omega, rfl, hlt, p'⟩, fun x H2 y => hs i x H' H2 hlt p (w.yields i H' x H2 hlt q y)⟩
  · have e : i = n := by omega
    subst e
    exact .inl ⟨w.stops H' q, hd H' p⟩
theorem g_wTk {R : It → Hp → Prop} (hx : SqT K H a xs) (q : R (Itt K a) H) : wT K R (.ref a) H := ⟨a, rfl, ⟨xs, hx⟩, q⟩
theorem g_wLk {R : It → Hp → Prop} (hx : SqL K H a xs) (q : R (Itl K a) H) : wL K R (.ref a) H := ⟨a, rfl, ⟨xs, hx⟩, q⟩
/-- over a list or a tuple, whichever it is -/
theorem g_seqW {R : It → Hp → Prop} (hx : SqL K H a xs ∨ SqT K H a xs) (hl : ∀ S : VK, S (.ref a) H → tl σ H S) (q : ∀ {J : It} {G : Hp → Prop}, Walk J xs.length G (YAt xs) → (∀ H', Same H H' → G H') → R J H) : iSeq K tl σ H R :=
  hx.elim (fun h => .inl (hl _ ⟨a, rfl, ⟨xs, h⟩, q walk_list fun H' s => s.seq h⟩)) fun h => .inr (hl _ ⟨a, rfl, ⟨xs, h⟩, q walk_tup fun H' s => Same.seqT s h⟩)
end
/-! what trees are read by -/
def lsD (L : List TB) : List PyData := L.map TB.D
def rowD (P : PL) : List PyData := P.map pairD
def sp_row_of (K : PySem.W.Frag) : Sp := fun vs H Q _ => ∃ (l : Addr) (xs : List V) (L : List TB), vs = [.ref l] ∧ SqL K H l xs ∧ DpAll K H xs (lsD L) ∧ (rowT L).length ≤ 90000 ∧
  ∀ p ys H', H p = none → Same H H' → H' p = some (.lst ys) → DpAll K H' ys (rowD (rowT L)) → Q (.ref p) H'
def sp_named (K : PySem.W.Frag) : Sp := fun vs H Q _ => ∃ (b p : Addr) (m : BT) (xs : List V) (P : PL), vs = [.ref b, .ref p] ∧ Dd K H b m ∧ (SqL K H p xs ∨ SqT K H p xs) ∧ DpAll K H xs (rowD P) ∧ (∀ q ∈ P, ∃ n, q.2 = .int n ∧ (getA m n).isSome = true) ∧ P.length ≤ 30000 ∧
  ∀ p ys H', H p = none → Same H H' → H' p = some (.lst ys) → DpAll K H' ys (P.map fun q => blockAt m (numD q.2)) → Q (.ref p) H'
def sp_all_are (K : PySem.W.Frag) : Sp := fun vs H Q _ => ∃ (w : Str) (l : Addr) (xs : List V) (L : List TB), vs = [.str w, .ref l] ∧ SqL K H l xs ∧ DpAll K H xs (lsD L) ∧ L.length ≤ 30000 ∧
  ∀ H', Same H H' → Q (.bl (L.all fun b => decide (wordT b.lf = w))) H'
def sp_half : Sp := fun vs H Q _ => ∃ w : Int, vs = [.int w] ∧ Q (.int (halfI w)) H
def sp_is_root (K : PySem.W.Frag) : Sp := fun vs H Q _ => ∃ (x : V) (d : PyData) (w : Int), vs = [x, .int w] ∧ Dp K H x d ∧ FitB d ∧ ∀ H', Same H H' → Q (.bl (rootD w d)) H'
def sp_fits (K : PySem.W.Frag) : Sp := fun vs H Q _ => ∃ (x : V) (d : PyData) (w key : Int), vs = [x, .int w, .int key] ∧ Dp K H x d ∧ FitB d ∧ 3 ≤ w ∧ ∀ H', Same H H' → Q (.bl (fitsD w key d)) H'
/-- what sound can be asked: any dict by whole numbers -/
def fitM (m : BT) : Prop := ∀ p ∈ m, FitB p.2
def sp_sound (K : PySem.W.Frag) : Sp := fun vs H Q _ => ∃ (b : Addr) (m : BT) (w : Int), vs = [.ref b, .int w] ∧ Dd K H b m ∧ (keysA m).Nodup ∧ fitM m ∧ m.length * w.toNat ≤ 25000 ∧ 3 ≤ w ∧ w ≤ 64 ∧ ∀ H', Same H H' → Q (.bl (soundD m w)) H'
def sp_risesO (K : PySem.W.Frag) : Sp := fun vs H Q _ => ∃ (a : Addr) (xs : List V) (ds : List PyData), vs = [.ref a] ∧ (SqL K H a xs ∨ SqT K H a xs) ∧ DpAll K H xs ds ∧ ds.length ≤ 30000 ∧ (∀ d ∈ ds, ∃ k x, d = .tuple [.int k, x]) ∧
  ∀ H', Same H H' → Q (.bl (risesI (ds.map keyD))) H'
theorem dp_blk {K : PySem.W.Frag} {H : Hp} {x : V} {b : TB} (h : Dp K H x b.D) : ∃ a p ys, x = .ref a ∧ SqT K H a [.str (wordT b.lf), .ref p] ∧ SqT K H p ys ∧ DpAll K H ys (rowD b.ps) := by
  obtain ⟨a, xs, rfl, ht, hd⟩ := dp_tuple h
  obtain ⟨x1, x2, rfl, h1, h2⟩ := dpAll_two hd
  cases dp_str h1
  obtain ⟨p, ys, rfl, hp, hy⟩ := dp_tuple h2
  exact ⟨a, p, ys, rfl, ht, hp, hy⟩
theorem dp_pair {K : PySem.W.Frag} {H : Hp} {x : V} {p : Int × PyData} (h : Dp K H x (pairD p)) : ∃ a y, x = .ref a ∧ SqT K H a [.int p.1, y] ∧ Dp K H y p.2 := by
  obtain ⟨a, xs, rfl, ht, hd⟩ := dp_tuple h
  obtain ⟨x1, x2, rfl, h1, h2⟩ := dpAll_two hd
  cases dp_i h1
  exact ⟨a, x2, rfl, ht, h2⟩
section
variable {σ : L2.St} {H : Hp} {D : Ends} {t : TS} {c : TT} {m : Nat} {W : Nat → L2.St → Hp → Prop}
/-- what a while's test is followed by: a turn that comes to a smaller one, or the end -/
def whK (t : TS) (D : Ends) (W : Nat → L2.St → Hp → Prop) (m : Nat) (σ : L2.St) : Bool → Hp → Prop := fun go He =>
  if go = true then ∃ N : L2.St → Hp → Prop, (∀ σn Hn, N σn Hn → ∃ k, k < m ∧ W k σn Hn) ∧ t { D with nx := N, ct := N, bk := D.nx } σ He else D.nx σ He
theorem g_while (W : Nat → L2.St → Hp → Prop) (m0 : Nat) (h0 : W m0 σ H) (hs : ∀ m σ H, W m σ H → c σ H (whK t D W m σ)) : tWhile c t D σ H := ⟨W, ⟨m0, h0⟩, hs⟩
theorem g_whT (q : t { D with nx := fun σ' H' => ∃ m', m' < m ∧ W m' σ' H', ct := fun σ' H' => ∃ m', m' < m ∧ W m' σ' H', bk := D.nx } σ H) : whK t D W m σ true H := ⟨_, fun _ _ h => h, q⟩
theorem g_whF (q : D.nx σ H) : whK t D W m σ false H := q
end
theorem nodup_sub_len : ∀ {l1 l2 : List Int}, l1.Nodup → (∀ x ∈ l1, x ∈ l2) → l1.length ≤ l2.length
  | [], _, _, _ => Nat.zero_le _
  | x :: l1, l2, nd, h => by
    rw [List.nodup_cons] at nd
    have hx := h x List.mem_cons_self
    have := nodup_sub_len (l2 := l2.erase x) nd.2 fun y hy => (List.mem_erase_of_ne (fun e => nd.1 (by rw [← e]; exact hy))).mpr (h y (List.mem_cons_of_mem _ hy))
    rw [List.length_erase_of_mem hx] at this
    have h1 : 0 < l2.length := List.length_pos_of_mem hx
    rw [List.length_cons]
    omega
theorem rowT_len {k : Nat} : ∀ {L : List TB}, (∀ b ∈ L, b.ps.length ≤ k) → (rowT L).length ≤ L.length * k
  | [], _ => by simp [rowT]
  | b :: L, h => by
    have h1 := h b List.mem_cons_self
    have h2 := rowT_len (L := L) fun c hc => h c (List.mem_cons_of_mem _ hc)
    have e : rowT (b :: L) = b.ps ++ rowT L := by unfold rowT; rw [List.flatMap_cons]
    rw [e, List.length_append, List.length_cons, Nat.add_mul, Nat.one_mul]
    omega
theorem checkRow_cons {m : BT} {w : Int} {p : Int × PyData} {row : PL} {r : List Int} : checkRow m w r (p :: row) = if decide (numD p.2 ∈ r) || !fitsD w p.1 (blockAt m (numD p.2)) then none else checkRow m w (r ++ [numD p.2]) row := rfl
theorem checkRow_app {m : BT} {w : Int} : ∀ {a b : PL} {r r' : List Int}, checkRow m w r a = some r' → checkRow m w r (a ++ b) = checkRow m w r' b
  | [], b, r, r', h => by cases h; rfl
  | p :: a, b, r, r', h => by
    rw [List.cons_append]
    rw [checkRow_cons] at h ⊢
    split at h
    · cases h
    · rename_i c
      rw [if_neg c]
      exact checkRow_app h
theorem word_br {lf : Bool} : decide (wordT lf = branchW) = !lf := by cases lf <;> decide +kernel
theorem all_br_eq {L : List TB} : (L.all fun b => decide (wordT b.lf = branchW)) = L.all fun b => !b.lf := by
  congr 1
  funext b
  exact word_br
theorem all_lf_eq {L : List TB} : (L.all fun b => decide (wordT b.lf = leafW)) = L.all (·.lf) := by
  congr 1
  funext b
  exact word_lf
/-- what is reached, as a dict -/
def seenD (r : List Int) : BT := r.map fun n => (n, .bool true)
theorem seen_keys {r : List Int} : keysA (seenD r) = r := by
  unfold keysA seenD
  rw [List.map_map]
  exact List.map_id r
theorem seen_get {r : List Int} {n : Int} : (getA (seenD r) n).isSome = decide (n ∈ r) := by
  cases e : (getA (seenD r) n).isSome with
  | true =>
    have := mem_keysA.mpr e
    rw [seen_keys] at this
    exact (decide_eq_true this).symm
  | false =>
    refine (decide_eq_false fun z => ?_).symm
    rw [← seen_keys (r := r)] at z
    rw [mem_keysA.mp z] at e
    cases e
theorem seen_put {r : List Int} {n : Int} (h : n ∉ r) : putA (seenD r) n (.bool true) = seenD (r ++ [n]) := by
  unfold putA
  rw [any_getA, seen_get, decide_eq_false h, if_neg (by decide)]
  unfold seenD
  rw [List.map_append]
  rfl
theorem blockAt_some {m : BT} {n : Int} {l u : Int} (h : isBlockD l u (blockAt m n) = true) : getA m n = some (blockAt m n) := by
  unfold blockAt at h ⊢
  cases e : getA m n with
  | some d => rfl
  | none =>
    rw [e] at h
    cases h
end My

set_option Elab.async false
set_option linter.all false
set_option maxRecDepth 100000
set_option maxHeartbeats 1000000
/-! rows cut from a list, and how they are counted -/
namespace My
open PySem L2
theorem cut_both (xs : List V) (a b : Nat) : cutV xs (some (a : Int)) (some (b : Int)) = (xs.drop a).take (b - a) := by
  unfold cutV
  rw [HT.sIx_nat, HT.sIx_nat]
  by_cases h : a ≤ xs.length
  · rw [Nat.min_eq_left h]
    by_cases h2 : b ≤ xs.length
    · rw [Nat.min_eq_left h2]
    · rw [Nat.min_eq_right (by omega), List.take_of_length_le (by rw [List.length_drop]; omega), List.take_of_length_le (by rw [List.length_drop]; omega)]
  · have e : min a xs.length = xs.length := Nat.min_eq_right (by omega)
    rw [e, List.drop_eq_nil_of_le (Nat.le_refl _), List.drop_eq_nil_of_le (show xs.length ≤ a by omega), List.take_nil, List.take_nil]
section
variable {K : PySem.W.Frag} {H H' H2 : Hp} {a b : Addr} {xs : List V} {v : V} {d : PyData}
/-- tuples stand -/
def Fx (H H' : Hp) : Prop := Keep fixO H H'
theorem Fx.of (s : Same H H') : Fx H H' := Keep.of s
theorem Fx.refl (H : Hp) : Fx H H := Keep.refl H
theorem Fx.trans (f : Fx H H') (g : Fx H' H2) : Fx H H2 := Keep.trans f g
theorem Fx.lst {ys : List V} (h : H a = some (.lst ys)) (o : Oth a H H') : Fx H H' := o.keep fun u p z => by rw [h] at z; cases z; exact p
theorem Fx.dict {m : BT} (h : Dd K H a m) (o : Oth a H H') : Fx H H' := by
  obtain ⟨kvs, h, _⟩ := h
  exact o.keep fun u p z => by rw [h] at z; cases z; exact p
theorem Dp.fx (f : Fx H H') (s : strictD d = true) (h : Dp K H v d) : Dp K H' v d := Dp.keep (P := fixO) (fun _ => trivial) (fun _ _ => trivial) f h s
theorem DpAll.fx {vs : List V} {ds : List PyData} (f : Fx H H') (s : strictAll ds = true) (h : DpAll K H vs ds) : DpAll K H' vs ds := DpAll.keep (P := fixO) (fun _ => trivial) (fun _ _ => trivial) f h s
theorem SqT.fx (f : Fx H H') (h : SqT K H a xs) : SqT K H' a xs := keep_seqT (P := fixO) (fun _ => trivial) (fun _ _ => trivial) f h
theorem Oth.seqLne (o : Oth a H H') (n : b ≠ a) (h : SqL K H b xs) : SqL K H' b xs := by
  rcases h with (h | ⟨u, h⟩) | h
  · exact .inl (.inl (o _ _ n h))
  · exact .inl (.inr ⟨u, o _ _ n h⟩)
  · exact .inr h
theorem Dd.fx {m : BT} {kvs : List (Key × V)} (f : Fx H H') (s : ∀ p ∈ m, strictD p.2 = true) (h : DdAll K H kvs m) : DdAll K H' kvs m := h.map fun h ⟨k, hk⟩ => Dp.fx f (s _ hk) h
theorem Dd.othLne {m : BT} (o : Oth a H H') (n : b ≠ a) (f : Fx H H') (s : ∀ p ∈ m, strictD p.2 = true) (h : Dd K H b m) : Dd K H' b m := by
  obtain ⟨kvs, h1, h2⟩ := h
  exact ⟨kvs, o _ _ n h1, Dd.fx f s h2⟩
end
theorem pairD_strict {p : Int × PyData} (h : strictD p.2 = true) : strictD (pairD p) = true := by simp [pairD, strictD, strictAll, h]
theorem smP.strict {P : PL} (h : smP P) : strictAll (rowD P) = true := strictAll_iff.mpr fun d hd => by
  obtain ⟨p, hp, rfl⟩ := List.mem_map.mp hd
  exact pairD_strict (h p hp).1
def rowsD (rows : List PL) : List PyData := rows.map fun r => .tuple (rowD r)
theorem rowsD_strict {rows : List PL} (h : ∀ r ∈ rows, smP r) : strictAll (rowsD rows) = true := strictAll_iff.mpr fun d hd => by
  obtain ⟨r, hr, rfl⟩ := List.mem_map.mp hd
  simp only [strictD]
  exact (h r hr).strict
theorem D_strict {b : TB} (h : smP b.ps) : strictD b.D = true := (okD_D h).1
/-! the counts -/
def offN (q rem i : Nat) : Nat := i * q + min i rem
theorem offN_succ (q rem i : Nat) : offN q rem (i + 1) = offN q rem i + (q + if i < rem then 1 else 0) := by
  unfold offN
  rw [Nat.add_mul, Nat.one_mul]
  split <;> omega
def cutRows (P : PL) (q rem n : Nat) : List PL := (List.range n).map fun i => (P.drop (offN q rem i)).take (offN q rem (i + 1) - offN q rem i)
theorem cutRows_succ (P : PL) (q rem n : Nat) : cutRows P q rem (n + 1) = cutRows P q rem n ++ [(P.drop (offN q rem n)).take (offN q rem (n + 1) - offN q rem n)] := by
  unfold cutRows
  rw [List.range_succ, List.map_append]
  rfl
theorem cutRows_flat (P : PL) (q rem : Nat) : ∀ n, (cutRows P q rem n).flatten = P.take (offN q rem n)
  | 0 => by
    have : offN q rem 0 = 0 := by unfold offN; simp
    rw [this]
    rfl
  | n + 1 => by
    rw [cutRows_succ, List.flatten_append, cutRows_flat P q rem n, List.flatten_singleton]
    have h : offN q rem (n + 1) = offN q rem n + (offN q rem (n + 1) - offN q rem n) := by
      have := offN_succ q rem n
      omega
    conv => rhs; rw [h, List.take_add]
theorem cutRows_len {P : PL} {q rem n : Nat} (h : offN q rem n ≤ P.length) : ∀ r ∈ cutRows P q rem n, q ≤ r.length ∧ r.length ≤ q + (if rem = 0 then 0 else 1) := by
  intro r hr
  obtain ⟨i, hi, rfl⟩ := List.mem_map.mp hr
  rw [List.mem_range] at hi
  have h1 := offN_succ q rem i
  have mono : ∀ d, offN q rem (i + 1) ≤ offN q rem (i + 1 + d) := fun d => by
    induction d with
    | zero => exact Nat.le_refl _
    | succ d ih => have := offN_succ q rem (i + 1 + d); rw [← Nat.add_assoc]; omega
  have h2 := mono (n - (i + 1))
  rw [show i + 1 + (n - (i + 1)) = n by omega] at h2
  rw [List.length_take, List.length_drop]
  by_cases c : i < rem
  · rw [if_pos c] at h1
    rw [if_neg (show ¬ rem = 0 by omega)]
    omega
  · rw [if_neg c] at h1
    split <;> omega
theorem cutRows_num {P : PL} {q rem n : Nat} : (cutRows P q rem n).length = n := by
  unfold cutRows
  rw [List.length_map, List.length_range]
/-- how many rows there may be -/
theorem rows_count {N w c : Int} (hw : 3 ≤ w) (hN : w < N) :
    2 ≤ -((-N) / w) ∧ 0 < (if N / ((w + 1) / 2) > 1 then N / ((w + 1) / 2) else 1) - -((-N) / w) + 1 ∧
    ∀ many, many = -((-N) / w) + c % ((if N / ((w + 1) / 2) > 1 then N / ((w + 1) / 2) else 1) - -((-N) / w) + 1) →
      2 ≤ many ∧ (w + 1) / 2 ≤ N / many ∧ N / many + (if N % many = 0 then 0 else 1) ≤ w ∧ many * 2 ≤ N := by
  obtain ⟨h, hh⟩ : ∃ h, h = (w + 1) / 2 := ⟨_, rfl⟩
  rw [← hh]
  have h2 : 2 ≤ h := by omega
  have hw2 : w ≤ 2 * h := by omega
  have hw3 : 2 * h - 1 ≤ w := by omega
  obtain ⟨l, hl⟩ : ∃ l, l = -((-N) / w) := ⟨_, rfl⟩
  rw [← hl]
  have e1 := Int.mul_ediv_add_emod (-N) w
  have e2 := Int.emod_nonneg (-N) (show w ≠ 0 by omega)
  have e3 := Int.emod_lt_of_pos (-N) (show 0 < w by omega)
  have e4 : -N / w = -l := by omega
  rw [e4] at e1
  have e5 : w * -l = -(w * l) := Int.mul_neg w l
  rw [e5] at e1
  have l2 : 2 ≤ l := by
    by_cases c : 2 ≤ l
    · exact c
    · have : w * l ≤ w * 1 := Int.mul_le_mul_of_nonneg_left (by omega) (by omega)
      omega
  have hlN : h * l ≤ N := by
    have p := Int.mul_nonneg (show 0 ≤ h - 1 by omega) (show 0 ≤ l - 2 by omega)
    have p2 : (h - 1) * (l - 2) = h * l - 2 * h - l + 2 := by rw [Int.sub_mul, Int.mul_sub, Int.one_mul]; omega
    have p3 : (2 * h - 1) * (l - 1) ≤ w * (l - 1) := Int.mul_le_mul_of_nonneg_right hw3 (by omega)
    have p4 : (2 * h - 1) * (l - 1) = 2 * (h * l) - l - 2 * h + 1 := by rw [Int.sub_mul, Int.mul_sub, Int.one_mul, Int.mul_assoc]; omega
    have p5 : w * (l - 1) = w * l - w := by rw [Int.mul_sub, Int.mul_one]
    omega
  have hm : l ≤ N / h := (Int.le_ediv_iff_mul_le (by omega)).mpr (by rw [Int.mul_comm]; exact hlN)
  rw [if_pos (show N / h > 1 by omega)]
  refine ⟨l2, by omega, fun many e => ?_⟩
  have c1 := Int.emod_nonneg c (show N / h - l + 1 ≠ 0 by omega)
  have c2 := Int.emod_lt_of_pos c (show 0 < N / h - l + 1 by omega)
  generalize c % (N / h - l + 1) = c' at *
  have m1 : many ≤ N / h := by omega
  have m2 : h * many ≤ N := by
    have := (Int.le_ediv_iff_mul_le (show 0 < h by omega)).mp m1
    rw [Int.mul_comm] at this
    exact this
  have m3 : h ≤ N / many := (Int.le_ediv_iff_mul_le (show 0 < many by omega)).mpr m2
  have m4 : w * l ≤ w * many := Int.mul_le_mul_of_nonneg_left (by omega) (by omega)
  have f1 := Int.mul_ediv_add_emod N many
  have f2 := Int.emod_nonneg N (show many ≠ 0 by omega)
  have f3 := Int.emod_lt_of_pos N (show 0 < many by omega)
  have f4 : N ≤ w * many := by omega
  have m5 : 2 * many ≤ h * many := Int.mul_le_mul_of_nonneg_right h2 (by omega)
  refine ⟨by omega, m3, ?_, by omega⟩
  generalize N / many = q at *
  rw [Int.mul_comm] at f4
  by_cases c0 : N % many = 0
  · rw [if_pos c0, Int.add_zero]
    rw [c0, Int.add_zero] at f1
    refine Int.le_of_mul_le_mul_left (a := many) ?_ (by omega)
    omega
  · rw [if_neg c0]
    have : many * q < many * w := by omega
    have := Int.lt_of_mul_lt_mul_left this (by omega)
    omega
end My

set_option Elab.async false
set_option linter.all false
set_option maxRecDepth 100000
set_option maxHeartbeats 1000000
/-! trees with something wrong -/
namespace My
open PySem L2
section
variable {m m' : BT} {w w' : Int} {r r' rf : List Int} {L Lf : List TB} {P : PL} {n : Int}
theorem Run.blocks (h : Run m w r L rf Lf) : ∀ n ∈ rf, n ∉ r → isBlockD (halfI w) w (blockAt m n) = true := by
  induction h with
  | stop h0 h => intro n hn hr; exact absurd hn hr
  | @next r r' rf L Lf h0 hb h2 hc hR ih =>
    intro n hn hr
    obtain ⟨h1, g2, _, _⟩ := checkRow_some hc
    by_cases c : n ∈ numsT (rowT L)
    · obtain ⟨p, hp, rfl⟩ := List.mem_map.mp c
      have := g2 p hp
      unfold fitsD at this
      rw [Bool.and_eq_true] at this
      exact this.1
    · refine ih n hn fun z => ?_
      rw [h1] at z
      rcases List.mem_append.mp z with z | z
      · exact hr z
      · exact c z
theorem Run.to' (h : Run m w r L rf Lf) {n : Int} (hn : n ∈ rf) (hr : n ∉ r) (ha : ∀ k ∈ rf, k ≠ n → getA m' k = getA m k)
    (X : ∀ r r' L, L ≠ [] → (∀ b ∈ L, b.lf = false) → 2 ≤ (rowT L).length → checkRow m w r (rowT L) = some r' → n ∈ numsT (rowT L) → Run m w r' (nextL m (rowT L)) rf Lf → (∀ k ∈ numsT (rowT L), k ∈ rf) → ∀ f, soundL m' w f r L = false) : ∀ f, soundL m' w f r L = false := by
  induction h with
  | stop h0 h => exact absurd hn hr
  | @next r r' rf L Lf h0 hb h2 hc hR ih =>
    obtain ⟨h1, _, h3, _⟩ := checkRow_some hc
    have hrf : ∀ k ∈ numsT (rowT L), k ∈ rf := fun k hk => hR.sub (by rw [h1]; exact List.mem_append_right _ hk)
    by_cases c : n ∈ numsT (rowT L)
    · exact X r r' L h0 hb h2 hc c hR hrf
    · intro f
      cases f with
      | zero => rfl
      | succ f =>
        have hrow : ∀ k ∈ numsT (rowT L), getA m' k = getA m k := fun k hk => ha k (hrf k hk) fun e => c (e ▸ hk)
        unfold soundL
        rw [all_br hb, if_pos rfl, checkRow_agree hrow, hc, nextL_agree hrow]
        refine ih hn (fun z => ?_) ha X f
        rw [h1] at z
        rcases List.mem_append.mp z with z | z
        · exact hr z
        · exact c z
/-- what stands behind a tree -/
structure TF (w : Int) (P : PL) (m : BT) (b : TB) (rf : List Int) (Lf : List TB) : Prop where
  root : getA m 0 = some b.D
  ok : okT 0 w b
  two : b.lf = true ∨ 2 ≤ b.ps.length
  run : Run m w [0] [b] rf Lf
  row : rowT Lf = P
  len : rf.length = m.length
  all : ∀ n ∈ keysA m, n ∈ rf
  only : ∀ n ∈ rf, n ∈ keysA m
theorem Tree.tf (T : Tree w P m) : ∃ b rf Lf, TF w P m b rf Lf := by
  obtain ⟨b, h0, hok, _, h2, rf, Lf, hR, hl, hP⟩ := T.root
  have only : ∀ n ∈ rf, n ∈ keysA m := fun n hn => by
    by_cases c : n = 0
    · subst c
      exact mem_keysA.mpr (by rw [h0]; rfl)
    · exact mem_keysA.mpr (by rw [blockAt_some (hR.blocks n hn (fun z => c (List.mem_singleton.mp z)))]; rfl)
  have nd : rf.Nodup := by
    obtain ⟨s, e, nds, hs⟩ := hR.pre
    rw [e, List.nodup_append]
    refine ⟨by simp, nds, fun a ha c hc e => ?_⟩
    subst e
    exact hs a hc ha
  refine ⟨b, rf, Lf, h0, hok, h2, hR, hP, hl, fun n hn => ?_, only⟩
  by_cases c : n ∈ rf
  · exact c
  · have h := nodup_sub_len (l1 := n :: rf) (l2 := keysA m) (List.nodup_cons.mpr ⟨c, nd⟩) fun x hx => by
      rcases List.mem_cons.mp hx with e | e
      · rw [e]; exact hn
      · exact only x e
    unfold keysA at h
    rw [List.length_map, List.length_cons] at h
    omega
theorem Tree.block (T : Tree w P m) (hn : n ∈ keysA m) (h0 : n ≠ 0) : ∃ b : TB, getA m n = some b.D ∧ okT (halfI w) w b := by
  obtain ⟨b, rf, Lf, F⟩ := T.tf
  have h := F.run.blocks n (F.all n hn) fun z => h0 (List.mem_singleton.mp z)
  obtain ⟨e, hok⟩ := isBlockD_iff.mp h
  exact ⟨toTB (blockAt m n), by rw [← e]; exact blockAt_some h, hok⟩
theorem blockAt_of {d : PyData} (h : getA m n = some d) : blockAt m n = d := by unfold blockAt; rw [h]; rfl
/-- one block other, not the root: where the walk comes to it -/
theorem Tree.false_at (T : Tree w P m) (hn : n ∈ keysA m) (h0 : n ≠ 0) (ha : ∀ k ∈ keysA m, k ≠ n → getA m' k = getA m k)
    (X : ∀ r R1 p R2 rf Lf, numD p.2 = n → p.1 = firstK (toTB (blockAt m n)) → fitsD w p.1 (blockAt m' n) = true → 2 ≤ (R1 ++ p :: R2).length → rowT Lf = P → Run m w r (nextL m R1 ++ toTB (blockAt m n) :: nextL m R2) rf Lf →
      ∀ f r2, soundL m' w f r2 (nextL m R1 ++ toTB (blockAt m' n) :: nextL m R2) = false) : soundD m' w = false := by
  obtain ⟨b, rf, Lf, F⟩ := T.tf
  have e0 : blockAt m' 0 = b.D := blockAt_of ((ha 0 (mem_keysA.mpr (by rw [F.root]; rfl)) fun e => h0 e.symm).trans F.root)
  unfold soundD
  rw [e0, toTB_D]
  rw [F.run.to' (F.all n hn) (fun z => h0 (List.mem_singleton.mp z)) (fun k hk hkn => ha k (F.only k hk) hkn) ?_ _, Bool.and_false]
  intro r r' L hL hbr h2 hc hnL hR hrf f
  cases f with
  | zero => rfl
  | succ f =>
    obtain ⟨h1, g2, h3, h4⟩ := checkRow_some hc
    obtain ⟨p, hp, hpn⟩ := List.mem_map.mp hnL
    obtain ⟨R1, R2, hrow⟩ := List.append_of_mem hp
    unfold soundL
    rw [all_br hbr, if_pos rfl]
    cases hc' : checkRow m' w r (rowT L) with
    | none => rfl
    | some r2 =>
      obtain ⟨_, g2', _, _⟩ := checkRow_some hc'
      have hk := g2 p hp
      have hk' := g2' p hp
      rw [hpn] at hk hk'
      unfold fitsD at hk
      rw [Bool.and_eq_true, decide_eq_true_eq] at hk
      rw [hrow] at hR h4 hrf
      have h4' : (numsT R1 ++ n :: numsT R2).Nodup := by
        have : numsT (R1 ++ p :: R2) = numsT R1 ++ n :: numsT R2 := by rw [numsT_app]; show _ ++ (numD p.2 :: numsT R2) = _; rw [hpn]
        rw [← this]
        exact h4
      rw [List.nodup_append, List.nodup_cons] at h4'
      have a1 : ∀ k ∈ numsT R1, getA m' k = getA m k := fun k hk => ha k (F.only k (hrf k (by rw [numsT_app]; exact List.mem_append_left _ hk))) fun e => h4'.2.2 k hk n List.mem_cons_self e
      have a2 : ∀ k ∈ numsT R2, getA m' k = getA m k := fun k hk => ha k (F.only k (hrf k (by rw [numsT_app]; exact List.mem_append_right _ (List.mem_cons_of_mem _ hk)))) fun e => h4'.2.1.1 (e ▸ hk)
      have eN : nextL m' (rowT L) = nextL m R1 ++ toTB (blockAt m' n) :: nextL m R2 := by
        rw [hrow]
        unfold nextL
        rw [List.map_append, List.map_cons, hpn]
        show nextL m' R1 ++ _ :: nextL m' R2 = nextL m R1 ++ _ :: nextL m R2
        rw [nextL_agree a1, nextL_agree a2]
      have eM : nextL m (R1 ++ p :: R2) = nextL m R1 ++ toTB (blockAt m n) :: nextL m R2 := by
        unfold nextL
        rw [List.map_append, List.map_cons, hpn]
      rw [eM] at hR
      show soundL m' w f r2 (nextL m' (rowT L)) = false
      rw [eN]
      exact X r' R1 p R2 rf Lf hpn hk.2.symm hk' (by rw [← hrow]; exact h2) F.row hR f r2
/-- a block that does not fit below its key -/
theorem Tree.bad_at (T : Tree w P m) (hn : n ∈ keysA m) (h0 : n ≠ 0) (ha : ∀ k ∈ keysA m, k ≠ n → getA m' k = getA m k)
    (hb : fitsD w (firstK (toTB (blockAt m n))) (blockAt m' n) = false) : soundD m' w = false :=
  T.false_at hn h0 ha fun r R1 p R2 rf Lf h1 h2 h3 _ _ _ _ _ => by
    rw [h2, hb] at h3
    cases h3
theorem Tree.bad_root (hb : rootD w (blockAt m' 0) = false) : soundD m' w = false := by
  unfold soundD
  rw [hb, Bool.false_and]
theorem rowT_app {A B : List TB} : rowT (A ++ B) = rowT A ++ rowT B := by unfold rowT; rw [List.flatMap_append]
theorem rowT_cons {b : TB} {B : List TB} : rowT (b :: B) = b.ps ++ rowT B := by unfold rowT; rw [List.flatMap_cons]
/-- all of a level are of one kind -/
theorem Run.kind (h : Run m w r L rf Lf) {b : TB} (hb : b ∈ L) : (b.lf = true → (∀ c ∈ L, c.lf = true) ∧ Lf = L) ∧ (b.lf = false → ∀ c ∈ L, c.lf = false) := by
  cases h with
  | stop h0 h => exact ⟨fun _ => ⟨h, rfl⟩, fun e => (by rw [h b hb] at e; cases e)⟩
  | next h0 h _ _ _ => exact ⟨fun e => (by rw [h b hb] at e; cases e), fun _ => h⟩
/-- a branch that names one block twice -/
theorem Tree.twice (T : Tree w P m) (hn : n ∈ keysA m) (h0 : n ≠ 0) (ha : ∀ k ∈ keysA m, k ≠ n → getA m' k = getA m k) (hlf : (toTB (blockAt m n)).lf = false) (hlf' : (toTB (blockAt m' n)).lf = false)
    (hd : ¬ (numsT (toTB (blockAt m' n)).ps).Nodup) : soundD m' w = false :=
  T.false_at hn h0 ha fun r R1 p R2 rf Lf h1 h2 h3 h4 h5 hR f r2 => by
    have hk := (hR.kind (b := toTB (blockAt m n)) (by simp)).2 hlf
    have hall : ∀ c ∈ nextL m R1 ++ toTB (blockAt m' n) :: nextL m R2, c.lf = false := fun c hc => by
      rcases List.mem_append.mp hc with hc | hc
      · exact hk c (List.mem_append_left _ hc)
      · rcases List.mem_cons.mp hc with e | e
        · rw [e]; exact hlf'
        · exact hk c (List.mem_append_right _ (List.mem_cons_of_mem _ e))
    cases f with
    | zero => rfl
    | succ f =>
      unfold soundL
      rw [all_br hall, if_pos rfl]
      cases hc' : checkRow m' w r2 (rowT (nextL m R1 ++ toTB (blockAt m' n) :: nextL m R2)) with
      | none => rfl
      | some r3 =>
        obtain ⟨_, _, _, h4⟩ := checkRow_some hc'
        rw [rowT_app, rowT_cons, numsT_app, numsT_app] at h4
        exact absurd (List.nodup_append.mp (List.nodup_append.mp h4).2.1).1 hd
theorem root_twice {b' : TB} (e : blockAt m' 0 = b'.D) (hlf : b'.lf = false) (hd : ¬ (numsT b'.ps).Nodup) : soundD m' w = false := by
  unfold soundD
  rw [e, toTB_D]
  have : soundL m' w (m'.length + 1) [0] [b'] = false := by
    unfold soundL
    rw [all_br (L := [b']) (fun c hc => by rw [List.mem_singleton.mp hc]; exact hlf), if_pos rfl, rowT_one]
    cases hc : checkRow m' w [0] b'.ps with
    | none => rfl
    | some r3 =>
      obtain ⟨_, _, _, h4⟩ := checkRow_some hc
      exact absurd h4 hd
  rw [this, Bool.and_false]
/-- a leaf that is a branch -/
theorem Tree.deeper (T : Tree w P m) (hn : n ∈ keysA m) (h0 : n ≠ 0) (ha : ∀ k ∈ keysA m, k ≠ n → getA m' k = getA m k) (hlf : (toTB (blockAt m n)).lf = true) (hlf' : (toTB (blockAt m' n)).lf = false) : soundD m' w = false :=
  T.false_at hn h0 ha fun r R1 p R2 rf Lf h1 h2 h3 h4 h5 hR f r2 => by
    have hk := ((hR.kind (b := toTB (blockAt m n)) (by simp)).1 hlf).1
    have hx : ∃ c, c ∈ nextL m R1 ++ toTB (blockAt m' n) :: nextL m R2 ∧ c.lf = true := by
      rw [List.length_append, List.length_cons] at h4
      cases e1 : R1 with
      | cons q R =>
        refine ⟨toTB (blockAt m (numD q.2)), by unfold nextL; simp, hk _ ?_⟩
        rw [e1]; unfold nextL; simp
      | nil =>
        cases e2 : R2 with
        | cons q R =>
          refine ⟨toTB (blockAt m (numD q.2)), by unfold nextL; simp, hk _ ?_⟩
          rw [e2]; unfold nextL; simp
        | nil => rw [e1, e2] at h4; simp at h4
    obtain ⟨c, hc, hclf⟩ := hx
    cases f with
    | zero => rfl
    | succ f =>
      unfold soundL
      have n1 : (nextL m R1 ++ toTB (blockAt m' n) :: nextL m R2).all (fun b => !b.lf) = false := List.all_eq_false.mpr ⟨c, hc, by rw [hclf]; decide⟩
      have n2 : (nextL m R1 ++ toTB (blockAt m' n) :: nextL m R2).all (·.lf) = false := List.all_eq_false.mpr ⟨_, List.mem_append_right _ List.mem_cons_self, by rw [hlf']; decide⟩
      rw [n1, if_neg (by decide), n2, Bool.false_and]
/-- a leaf whose last key is no less than the next one -/
theorem Tree.falls (T : Tree w P m) (hw : 3 ≤ w) (hn : n ∈ keysA m) (h0 : n ≠ 0) (ha : ∀ k ∈ keysA m, k ≠ n → getA m' k = getA m k) (hlf : (toTB (blockAt m n)).lf = true)
    {init : PL} {kl k' : Int} {hl hl' : PyData} (e1 : (toTB (blockAt m n)).ps = init ++ [(kl, hl)]) (e2 : toTB (blockAt m' n) = ⟨true, init ++ [(k', hl')]⟩)
    (hk : ∀ A kc C, keysT P = A ++ kl :: kc :: C → kc ≤ k') (hlast : ∀ A, keysT P ≠ A ++ [kl]) : soundD m' w = false :=
  T.false_at hn h0 ha fun r R1 p R2 rf Lf h1 h2 h3 h4 h5 hR f r2 => by
    obtain ⟨hk1, hLf⟩ := (hR.kind (b := toTB (blockAt m n)) (by simp)).1 hlf
    rw [hLf, rowT_app, rowT_cons, e1] at h5
    have hP : keysT P = (keysT (rowT (nextL m R1)) ++ keysT init) ++ kl :: keysT (rowT (nextL m R2)) := by
      rw [← h5, keysT_app, keysT_app, keysT_app, List.append_assoc, List.append_assoc]
      rfl
    cases ec : keysT (rowT (nextL m R2)) with
    | nil => rw [ec] at hP; exact absurd hP (hlast _)
    | cons kc C =>
      rw [ec] at hP
      have hle := hk _ _ _ hP
      cases f with
      | zero => rfl
      | succ f =>
        unfold soundL
        have n1 : (nextL m R1 ++ toTB (blockAt m' n) :: nextL m R2).all (fun b => !b.lf) = false := List.all_eq_false.mpr ⟨_, List.mem_append_right _ List.mem_cons_self, by rw [e2]; simp⟩
        have n3 : risesI (keysT (rowT (nextL m R1 ++ toTB (blockAt m' n) :: nextL m R2))) = false := by
          have : keysT (rowT (nextL m R1 ++ toTB (blockAt m' n) :: nextL m R2)) = (keysT (rowT (nextL m R1)) ++ keysT init) ++ k' :: kc :: C := by
            rw [rowT_app, rowT_cons, e2, keysT_app, keysT_app, keysT_app, ec, List.append_assoc, List.append_assoc]
            rfl
          rw [this]
          exact rises_not (by omega)
        rw [n1, if_neg (by decide), n3, Bool.false_and, Bool.and_false]
/-- blocks more than are named -/
theorem Tree.more (T : Tree w P m) (ha : ∀ k ∈ keysA m, getA m' k = getA m k) (hl : m.length < m'.length) : soundD m' w = false := by
  obtain ⟨b, rf, Lf, F⟩ := T.tf
  have e0 : blockAt m' 0 = b.D := blockAt_of ((ha 0 (mem_keysA.mpr (by rw [F.root]; rfl))).trans F.root)
  have hR := F.run.mono (m' := m') fun n hn _ => ha n (F.only n hn)
  unfold soundD
  rw [e0, toTB_D]
  rw [soundL_run hR _ (by have := F.len; simp; omega), decide_eq_false (by have := F.len; omega), Bool.and_false, Bool.and_false]
/-- of another width -/
theorem Tree.wide (T : Tree w P m) (hw : w ≤ w') : soundD m w' = true ↔ ∀ n ∈ keysA m, n ≠ 0 → halfI w' ≤ ((toTB (blockAt m n)).ps.length : Int) := by
  obtain ⟨b, rf, Lf, F⟩ := T.tf
  have e0 : blockAt m 0 = b.D := blockAt_of F.root
  have hroot : rootD w' (blockAt m 0) = true := by
    unfold rootD
    rw [e0, isBlockD_D.mpr ⟨F.ok.1, by have := F.ok.2.1; omega, F.ok.2.2.1, F.ok.2.2.2⟩, toTB_D]
    rcases F.two with h | h
    · rw [h]; rfl
    · rw [decide_eq_true h, Bool.or_true]; rfl
  unfold soundD
  rw [hroot, Bool.true_and, e0, toTB_D]
  constructor
  · intro h n hn hn0
    have := F.run.wide _ h n (F.all n hn) fun z => hn0 (List.mem_singleton.mp z)
    exact (isBlockD_iff.mp this).2.1
  · intro h
    have hR := F.run.widen (w' := w') fun n hn hr => by
      have hn0 : n ≠ 0 := fun e => hr (by rw [e]; exact List.mem_singleton.mpr rfl)
      obtain ⟨c, hc, hok⟩ := T.block (F.only n hn) hn0
      have h1 := h n (F.only n hn) hn0
      rw [blockAt_of hc, toTB_D] at h1
      rw [blockAt_of hc]
      exact isBlockD_D.mpr ⟨h1, by have := hok.2.1; omega, hok.2.2.1, hok.2.2.2⟩
    rw [soundL_run hR _ (by have := F.len; simp; omega), F.row, (rises_iff _).mpr T.rise, decide_eq_true F.len]
    rfl
end
end My

set_option Elab.async false
set_option linter.all false
set_option maxRecDepth 100000
set_option maxHeartbeats 1000000
/-! tuples cut, joined and turned, told of data -/
namespace My
open PySem PySem.Spec PyProof.Rows HT L2
theorem fm_congr {α β : Type} {f g : α → Option β} : ∀ {l : List α}, (∀ x ∈ l, f x = g x) → l.filterMap f = l.filterMap g
  | [], _ => rfl
  | x :: l, h => by rw [List.filterMap_cons, List.filterMap_cons, h x List.mem_cons_self, fm_congr fun y hy => h y (List.mem_cons_of_mem _ hy)]
section
variable {prog : Program} {w : World} {A : Around} {E : Value → Shared → Prop} {s : Shared}
theorem back_places (n : Nat) : Builtin.Slice.sliceAdjust none none (-1) (n : Int) = ((n : Int) - 1, -1) ∧ Builtin.Slice.slicePlaces ((n : Int) - 1) (-1) (-1) = n := by
  refine ⟨rfl, ?_⟩
  unfold Builtin.Slice.slicePlaces
  rw [if_neg (by decide)]
  by_cases c : (n : Int) - 1 > -1
  · rw [if_pos c, show -(-1 : Int) = 1 by decide, Int.ediv_one]; omega
  · rw [if_neg c]; omega
theorem back_pick (xs : Array Value) : ((List.range xs.size).filterMap fun (k : Nat) => xs[((xs.size : Int) - 1 + (k : Int) * (-1)).toNat]?).toArray = xs.toList.reverse.toArray := by
  have e : ((List.range xs.size).filterMap fun (k : Nat) => xs[((xs.size : Int) - 1 + (k : Int) * (-1)).toNat]?) = ((List.range xs.size).map fun k => xs.size - 1 - k).filterMap (xs[·]?) := by
    rw [List.filterMap_map]
    refine fm_congr fun k hk => ?_
    rw [List.mem_range] at hk
    show xs[_]? = xs[xs.size - 1 - k]?
    congr 1
    omega
  rw [e, PySem.W.krv_range, List.filterMap_reverse, PySem.W.krv_all]
theorem back_parts {sl : Addr} {vs : Value} {n : Nat} {Q : Int × Int × Nat → Shared → Prop} (hs : s.heap.IsSliceOf sl .none .none vs) (ps : IsPart vs (some (-1))) (h : Q ((n : Int) - 1, -1, n) s) :
    wpAny (model prog w) A (Builtin.Slice.sliceApplied (.ref sl) (pure (n : Int))) Q E s := by
  obtain ⟨o, ho, _, hf⟩ := id hs
  unfold Builtin.Slice.sliceApplied Builtin.Slice.sliceFields
  refine wpAny_bind (wpAny_bind (wpAny_field ho hf (x := .none) rfl ?_)); refine wpAny_bind (wpAny_field ho hf (x := .none) rfl ?_)
  refine wpAny_bind (wpAny_field ho hf (x := vs) rfl (wpAny_pure ?_)); refine wpAny_bind (slicePart_ ps ?_)
  show wpAny _ _ (if ((-1 : Int) == 0) = true then _ else _) _ _ s
  rw [if_neg (by decide)]; refine wpAny_bind (slicePart_none (wpAny_bind (slicePart_none (wpAny_bind (wpAny_pure ?_)))))
  show wpAny _ _ (match Builtin.Slice.sliceAdjust none none (-1) (n : Int) with | (lo, hi) => pure (lo, (-1 : Int), Builtin.Slice.slicePlaces lo hi (-1))) _ _ s
  rw [(back_places n).1]; show wpAny _ _ (pure ((n : Int) - 1, (-1 : Int), Builtin.Slice.slicePlaces ((n : Int) - 1) (-1) (-1))) _ _ s
  rw [(back_places n).2]; exact wpAny_pure h
theorem back_item {t sl : Addr} {items : Array Value} {vs : Value} {Q : Value → Shared → Prop} (ht : IsTup s.heap t items) (hs : s.heap.IsSliceOf sl .none .none vs) (ps : IsPart vs (some (-1)))
    (h : Q (.ref s.heap.objs.size) { s with heap := s.heap.push { cls := .type "tuple", data := .seq items.toList.reverse.toArray } }) (hz : items.size ≤ sizeLine) : wpAny (model prog w) A (getItem (.ref t) (.ref sl)) Q E s := by
  have fit : sizeOk (.seq items.toList.reverse.toArray) := by
    show items.toList.reverse.toArray.size ≤ sizeLine
    rw [List.size_toArray, List.length_reverse, Array.length_toList]
    exact hz
  obtain ⟨o, ho, hcl, hf⟩ := id hs
  have ty : s.TypeIs (.ref sl) "slice" := ⟨o, ho, hcl⟩
  unfold getItem
  refine wpAny_holding ?_; refine wpAny_bind (wpAny_sequenceKey ht.typeIs (by decide) ?_)
  refine wpAny_bind (wpAny_callSpecial?_slot (name := Str.ofString "__getitem__") ht.typeIs PyProof.Rows.slot_tuple_getitem (wpAny_call_entry PyProof.Rows.slot_tuple_getitem ht.typeIs entry_tuple_getitem ?_ (args_tuple_getitem _ _)))
  show wpAny _ _ (Builtin.Tuple.tupleItemsOf (.ref t) >>= _) _ _ s; refine wpAny_bind (tupleItemsOf_ ht (wpAny_bind (wpAny_typeOf ty ?_)))
  rw [if_pos (by decide)]; refine wpAny_bind (back_parts hs ps ?_)
  show wpAny _ _ (if (((items.size : Int) - 1 == 0) && ((-1 : Int) == 1) && (items.size == items.size)) = true then _ else _) _ _ s
  rw [if_neg (by rw [Bool.and_eq_true, Bool.and_eq_true]; rintro ⟨⟨_, z⟩, _⟩; cases z), back_pick]
  first
    | exact wpAny_bind (m := Builtin.Tuple.tupleExact _) (wpAny_newObj_type (wpAny_pure ⟨_, rfl, wpAny_pure h⟩) fit)
    | exact wpAny_bind (wpAny_bind (m := Builtin.Tuple.tupleExact _) (wpAny_newObj_type (wpAny_pure (wpAny_pure ⟨_, rfl, wpAny_pure h⟩)) fit))
    | exact wpAny_bind (wpAny_bind (m := Builtin.Tuple.tupleExact _) (wpAny_newObj_type (wpAny_pure ⟨_, rfl, wpAny_pure h⟩) fit))
end
end My
namespace My
open PySem PySem.Spec PyProof.Rows L2
section
variable {X : Cx}
/-- t[::-1] of a tuple -/
def tRevT (K : PySem.W.Frag) (te : TE) : TE := fun σ H Q => te σ H fun x Ha => ∃ t zs, x = .ref t ∧ SqT K Ha t zs ∧ ∀ p, Ha p = none → Q (.ref p) (upd Ha p (.tup zs.reverse))
theorem pe_revT {e : Expr} {te : TE} {k : Nat} {pa pb pc pos : Pos} (he : PE X e te) : PE X (.Subscript e (.Slice none none (some (.UnaryOp .USub (.Constant (.int 1) k pa) pb)) pc) pos) (tRevT X.K te) := by
  refine ⟨fun pins s σ H Q I h => Subscript_ (thn (he.run pins s σ H _ I h) fun v sa ⟨x, Ha, Ia, ra, t, zs, ex, hx, q⟩ => ?_)⟩
  subst ex; cases ra
  have step : PO X (some (.UnaryOp .USub (.Constant (.int 1) k pa) pb)) (tPart (tUn (rU fun i => .int (-i)) (tC (.int 1)))) := po_some (pe_un un_neg pe_int)
  refine wpAny_Slice (thn (po_none.run pins sa σ Ha (fun o Hb => o = none ∧ Hb = Ha) Ia ⟨rfl, rfl⟩) fun vl sb ⟨ol, Hb, Ib, pl, zl, zb⟩ => ?_); subst zl zb
  refine thn (po_none.run pins sb σ Hb (fun o Hc => o = none ∧ Hc = Hb) Ib ⟨rfl, rfl⟩) fun vu sc ⟨ou, Hc, Ic, pu, zu, zc⟩ => ?_; subst zu zc
  refine thn (step.run pins sc σ Hc (fun o Hd => o = some (-1) ∧ Hd = Hc) Ic ⟨1, rfl, -1, rfl, rfl, rfl⟩) fun vs sd ⟨os, Hd, Id, ps, zs', zd⟩ => ?_; subst zs' zd
  cases pl; cases pu
  have Ie : Inv X pins σ Hd { sd with heap := sd.heap.push { cls := .type "slice", data := .fields #[.none, .none, vs] } } := Id.kept (t' := sd.toks) fun b ob z => Heap.get?_push_of_some _ z
  obtain ⟨its, r, ht, hz⟩ := Ie.tuple hx
  have len : its.toArray.size ≤ sizeLine := by rw [List.size_toArray, ← r.length]; exact hz
  refine tail_any (ops := [.ref t, .ref sd.heap.objs.size]) ht.typeIs (PyProof.Rows.slot_tuple_getitem.lookup) ?_ (by with_unfolding_all rfl)
  refine back_item ht (Heap.IsSliceOf.new _ .none .none vs) ps ?_ len
  refine ⟨.ref _, _, Ie.laid (t' := sd.toks) (o := .tup zs.reverse) (fun b ob z => Heap.get?_push_of_some _ z) (Nat.le_refl _) ?_, rfl, q _ (Ie.hok.fresh (Nat.le_refl _))⟩
  exact ⟨by rw [List.length_reverse]; exact hz, _, r.reverse, IsTup.new _ _⟩
end
end My

set_option Elab.async false
set_option linter.all false
set_option maxRecDepth 100000
set_option maxHeartbeats 1000000
/-! expressions over tuples of data -/
namespace My
open PySem L2
/-- the part of a list by its ends -/
def cutL {α : Type} (xs : List α) (lo hi : Option Int) : List α := (xs.drop (HT.sIx xs.length 0 lo)).take (HT.sIx xs.length xs.length hi - HT.sIx xs.length 0 lo)
theorem cutL_to {α : Type} (xs : List α) (n : Nat) : cutL xs none (some (n : Int)) = xs.take n := by
  unfold cutL
  rw [HT.sIx_none, HT.sIx_nat, List.drop_zero, Nat.sub_zero]
  by_cases h : n ≤ xs.length
  · rw [Nat.min_eq_left h]
  · rw [Nat.min_eq_right (by omega), List.take_length, List.take_of_length_le (by omega)]
theorem cutL_from {α : Type} (xs : List α) (n : Nat) : cutL xs (some (n : Int)) none = xs.drop n := by
  unfold cutL
  rw [HT.sIx_none, HT.sIx_nat]
  by_cases h : n ≤ xs.length
  · rw [Nat.min_eq_left h, List.take_of_length_le (by rw [List.length_drop]; omega)]
  · have e : min n xs.length = xs.length := Nat.min_eq_right (by omega)
    rw [e, Nat.sub_self, List.take_zero, List.drop_eq_nil_of_le (by omega)]
theorem cutL_init {α : Type} (xs : List α) (x : α) : cutL (xs ++ [x]) none (some (-1)) = xs := by
  unfold cutL
  have e : HT.sIx (xs ++ [x]).length (xs ++ [x]).length (some (-1)) = xs.length := by
    unfold HT.sIx
    simp only
    rw [if_pos (by decide), List.length_append, List.length_singleton]
    omega
  rw [HT.sIx_none, e, List.drop_zero, Nat.sub_zero, List.take_left]
section
variable {K : PySem.W.Frag} {σ : L2.St} {H : Hp} {ta tb te : TE} {d : PyData} {ds es : List PyData} {i : Int} {lo hi : Option Int} {tl th : TO} {Q : VK}
theorem evd_slA (h : EvD K te σ H (.tuple ds)) (h1 : EvO K tl σ H lo) (h2 : EvO K th σ H hi) : EvD K (tSl (rSlA K) te tl th) σ H (.tuple (cutL ds lo hi)) := fun H1 s1 Q q =>
  h H1 s1 _ fun x H2 s2 hx => h1 H2 (s1.trans s2) _ fun H3 s3 => h2 H3 (s1.trans (s2.trans s3)) _ fun H4 s4 => by
    obtain ⟨a, xs, rfl, hs, hxs⟩ := dp_tuple (Dp.go (s3.trans s4) hx)
    have hl := dpAll_len hxs
    refine ⟨a, xs, rfl, hs, fun e => ?_, fun _ p np => ?_⟩
    · have : cutL ds lo hi = ds := by
        unfold cutL
        rw [← hl, e.1, e.2, List.drop_zero, Nat.sub_zero, hl, List.take_length]
      rw [this] at q
      exact q _ H4 (s2.trans (s3.trans s4)) (.tup hs hxs)
    · refine q _ _ ((s2.trans (s3.trans s4)).trans (Same.new np _)) (.tup (SqT.of upd_same) (DpAll.go (Same.new np _) ?_))
      unfold cutL cutV
      rw [← hl]
      exact dpAll_take _ (dpAll_drop _ hxs)
theorem evd_catA (ha : EvD K ta σ H (.tuple ds)) (hb : EvD K tb σ H (.tuple es)) (hl : ds.length + es.length ≤ 100000) : EvD K (tOp (rCatA K) ta tb) σ H (.tuple (ds ++ es)) := fun H1 s1 Q q =>
  ha H1 s1 _ fun x H2 s2 hx => hb H2 (s1.trans s2) _ fun y H3 s3 hy => by
    obtain ⟨a, xs, rfl, hs, hxs⟩ := dp_tuple (Dp.go s3 hx)
    obtain ⟨b, ys, rfl, ht, hys⟩ := dp_tuple hy
    have l1 := dpAll_len hxs
    have l2 := dpAll_len hys
    refine ⟨a, b, xs, ys, rfl, rfl, hs, ht, sz (by omega), fun e => ?_, fun _ e => ?_, fun _ _ p np => ?_⟩
    · subst e
      cases hxs
      exact q _ H3 (s2.trans s3) (.tup ht hys)
    · subst e
      cases hys
      rw [List.append_nil] at q
      exact q _ H3 (s2.trans s3) (.tup hs hxs)
    · exact q _ _ ((s2.trans s3).trans (Same.new np _)) (.tup (SqT.of upd_same) (DpAll.go (Same.new np _) (dpAll_app hxs hys)))
theorem dpAll_atI {xs : List V} (h : DpAll K H xs ds) (hd : atI ds i = some d) : ∃ x, atI xs i = some x ∧ Dp K H x d := by
  unfold atI at hd ⊢
  rw [dpAll_len h]
  cases e : ixN ds.length i with
  | none => rw [e] at hd; cases hd
  | some j =>
    rw [e] at hd
    exact dpAll_at h hd
theorem evd_ixTg (h : EvD K ta σ H (.tuple ds)) (hi : EvD K tb σ H (.int i)) (hd : atI ds i = some d) : EvD K (tOp (rIxT K) ta tb) σ H d := fun H1 s1 Q q =>
  h H1 s1 _ fun x H2 s2 hx => hi H2 (s1.trans s2) _ fun y H3 s3 hy => by
    cases dp_i hy
    obtain ⟨a, xs, rfl, hs, hxs⟩ := dp_tuple (Dp.go s3 hx)
    obtain ⟨x, e1, e2⟩ := dpAll_atI hxs hd
    exact ⟨a, xs, i, x, rfl, rfl, hs, e1, q x H3 (s2.trans s3) e2⟩
theorem evd_mulS {z : Str} (h1 : EvD K ta σ H (.str z)) (h2 : EvD K tb σ H (.int i)) (h0 : 0 ≤ i) (h3 : i ≤ 1000) (hz : z.length ≤ 1000) : EvD K (tOp rMulS ta tb) σ H (.str (repS z i.toNat)) := fun H1 s1 Q q =>
  h1 H1 s1 _ fun x H2 s2 hx => h2 H2 (s1.trans s2) _ fun y H3 s3 hy => by
    cases dp_str hx
    cases dp_i hy
    exact ⟨z, i, rfl, rfl, h0, h3, hz, q _ H3 (s2.trans s3) (.str _)⟩
theorem evd_cell {n : Nat} {a : Addr} {ns : List Int} {k : Int} {E : XK} (h : σ[n]? = some (some (.ref a))) (hS : SqL K H a (ns.map V.int)) (h0 : 0 ≤ k) :
    EvD K (tCall (sp_cell K) [] E (tCons (tVar n) (tCons (tC (.int k)) tNil))) σ H (.int (cell ns k)) := fun H1 s1 Q q =>
  g_call (g_cons (g_var h (g_cons (g_c (g_nil (use_cell (L2.Same.seq s1 hS) h0 (q _ H1 (L2.Same.refl H1) (.int _)))))))) 
theorem evd_lenT (h : EvD K te σ H (.tuple ds)) : EvD K (tCB (rLen K) (tCons te tNil)) σ H (.int ds.length) := fun H1 s1 Q q =>
  h H1 s1 _ fun x H2 s2 hx => by
    obtain ⟨a, xs, rfl, hs, hxs⟩ := dp_tuple hx
    exact g_len (.inr hs) (q _ H2 s2 (by rw [dpAll_len hxs]; exact .int _))
theorem dpAll_rev : ∀ {xs : List V} {ds : List PyData}, DpAll K H xs ds → DpAll K H xs.reverse ds.reverse
  | _, _, .nil => .nil
  | _, _, .cons h r => by
    rw [List.reverse_cons, List.reverse_cons]
    exact dpAll_app (dpAll_rev r) (.cons h .nil)
theorem evd_revT (h : EvD K te σ H (.tuple ds)) : EvD K (tRevT K te) σ H (.tuple ds.reverse) := fun H1 s1 Q q =>
  h H1 s1 _ fun x H2 s2 hx => by
    obtain ⟨a, xs, rfl, hs, hxs⟩ := dp_tuple hx
    refine ⟨a, xs, rfl, hs, fun p np => q _ _ (s2.trans (Same.new np _)) (.tup (SqT.of upd_same) (DpAll.go (Same.new np _) ?_))⟩
    exact dpAll_rev hxs
theorem g_tyDd {R : Prop} {a : Addr} {m : BT} (h : Dd K H a m) (q : R) : IsD H a ∧ R := by
  obtain ⟨kvs, h1, _⟩ := h
  exact ⟨.inl ⟨kvs, .inl h1⟩, q⟩
/-- d.pop(k), there -/
def rDPop1 (x : V) (ty : TE) (σ : L2.St) (H : Hp) (Q : VK) : Prop := tDPop1 (fun _ H R => R x H) ty σ H Q
theorem g_dpop1 {td ty : TE} (q : td σ H fun x H1 => rDPop1 x ty σ H1 Q) : tDPop1 td ty σ H Q := q
theorem g_rDPop1 {a : Addr} {m : BT} {k : Int} {ty : TE} (h : Dd K H a m) (hy : ∀ R : VK, R (.int k) H → ty σ H R) (hk : (getA m k).isSome = true) (q : ∀ u H1, Oth a H H1 → Dd K H1 a (dropA m k) → Q u H1) : rDPop1 (.ref a) ty σ H Q := by
  obtain ⟨kvs, h1, h2⟩ := h
  refine ⟨a, rfl, .inl ⟨kvs, .inl h1⟩, hy _ ?_⟩
  have e := h2.isSome k
  rw [hk] at e
  obtain ⟨v, hv⟩ := Option.isSome_iff_exists.mp e
  exact ⟨kvs, .inl k, v, h1, rfl, hv, q v _ Oth.upd ⟨_, upd_same, h2.drop.map fun h _ => Dp.oth h1 Oth.upd h⟩⟩
theorem g_maxL {a : Addr} {ns : List Int} (h : SqL K H a (ns.map V.int)) (h0 : 0 < ns.length) (q : ∀ m, m ∈ ns → (∀ y, y ∈ ns → y ≤ m) → Q (.int m) H) : rMax K [.ref a] H Q := ⟨a, ns, rfl, h, h0, q⟩
theorem g_sortedI {a : Addr} {ns : List Int} (h : SqL K H a (ns.map V.int)) (q : ∀ (ns' : List Int) p H1, ns'.Perm ns → ns'.Pairwise (· ≤ ·) → H p = none → Same H H1 → H1 p = some (.lst (ns'.map V.int)) → Q (.ref p) H1) : rSortedI K [.ref a] H Q :=
  ⟨a, ns, rfl, h, fun ns' p hp hs np => q ns' p _ hp hs np (Same.new np _) upd_same⟩
end
section
variable {K : PySem.W.Frag} {σ : L2.St} {H : Hp} {Q : VK} {D : Ends} {t : TS} {te : TE} {tt : TT} {g : TG} {vs : List Nat} {ta : TA}
def wR2 (R : It → Hp → Prop) : List V → Hp → Prop := fun us He => iRng2 (fun _ H S => S us H) [] He R
theorem g_wR2 {R : It → Hp → Prop} (q : ta σ H (wR2 R)) : iRng2 ta σ H R := q
theorem g_lcR2k {j : Nat} {lo hi : Int} (Rel : Nat → V → Hp → Prop) (h1 : -100000 ≤ lo) (h2 : lo ≤ 100000) (h3 : -40000 ≤ hi) (h4 : hi ≤ 100000) (hn : (hi - lo).toNat ≤ 40000) (hw : ∀ x, wipe ((wipe σ vs).set j (some x)) vs = wipe σ vs) (hst : ∀ i y H1 H2, Still H1 H2 → Rel i y H1 → Rel i y H2)
    (he : ∀ (i : Nat) (H1 : Hp) (QE : VK), lo + (i : Int) < hi → Same H H1 → (∀ y H2, Same H1 H2 → Rel i y H2 → QE y H2) → te ((wipe σ vs).set j (some (.int (lo + (i : Int))))) H1 QE)
    (q : ∀ p ys H1, H p = none → Same H H1 → H1 p = some (.lst ys) → ys.length = (hi - lo).toNat → (∀ i y, ys[i]? = some y → Rel i y H1) → Q (.ref p) H1) :
    wR2 (lcR (gName j) tYes te vs σ Q) [.int lo, .int hi] H := by
  refine ⟨lo, hi, rfl, ⟨by omega, by omega, by omega, by omega⟩, g_lcW (walk_range (lo := lo) (n := (hi - lo).toNat)) Rel hn (fun _ _ => trivial) hst (fun i x H1 H2 QE hi' s y k => ?_) q⟩
  obtain ⟨rfl, rfl⟩ := y
  refine g_name ⟨hw _, he i H2 QE (by omega) s k⟩
end
end My

set_option Elab.async false
set_option linter.all false
set_option maxRecDepth 100000
set_option maxHeartbeats 1000000
/-! more of trees with something wrong -/
namespace My
open PySem L2
section
variable {m m' : BT} {w w' : Int} {P : PL} {n : Int}
theorem put_new_len {m : BT} {k : Int} {v : PyData} (h : getA m k = none) : (putA m k v).length = m.length + 1 := by
  unfold putA
  rw [any_getA, h, if_neg (by decide), List.length_append]
  rfl
theorem get_none {m : BT} {k : Int} (h : k ∉ keysA m) : getA m k = none := by
  cases e : getA m k with
  | none => rfl
  | some x => exact absurd (mem_keysA.mpr (by rw [e]; rfl)) h
theorem drop_len {m : BT} {k : Int} (nd : (keysA m).Nodup) (h : k ∈ keysA m) : (dropA m k).length < m.length := by
  unfold dropA
  obtain ⟨p, hp, rfl⟩ := List.mem_map.mp h
  exact List.length_filter_lt_length_iff_exists.mpr ⟨p, hp, by simp⟩
theorem Tree.form (T : Tree w P m) {p : Int × PyData} (hp : p ∈ m) : ∃ b : TB, p.2 = b.D ∧ okT 0 w b := by
  have hg := getA_of_mem T.blk.1 hp
  by_cases c : p.1 = 0
  · obtain ⟨b, h0, hok, _⟩ := T.root
    rw [c, h0] at hg
    exact ⟨b, (Option.some.inj hg).symm, hok⟩
  · obtain ⟨b, hb, hok⟩ := T.block (List.mem_map.mpr ⟨p, hp, rfl⟩) c
    rw [hb] at hg
    refine ⟨b, (Option.some.inj hg).symm, ?_, hok.2⟩
    have := hok.1
    omega
theorem root_low (T : Tree w P m) {k : Int} {h : PyData} {r : PL} {b : TB} (hb : getA m 0 = some b.D) (hlf : b.lf = false) (hps : b.ps = (k, h) :: r) (e : blockAt m' 0 = TB.D ⟨false, (k - 1, h) :: r⟩) (ha : ∀ k ∈ keysA m, k ≠ 0 → getA m' k = getA m k) : soundD m' w = false := by
  obtain ⟨b', rf, Lf, F⟩ := T.tf
  have eb : b' = b := D_inj (Option.some.inj (F.root.symm.trans hb))
  subst eb
  unfold soundD
  rw [e, toTB_D]
  have : soundL m' w (m'.length + 1) [0] [⟨false, (k - 1, h) :: r⟩] = false := by
    unfold soundL
    rw [all_br (L := [⟨false, (k - 1, h) :: r⟩]) (fun c hc => by rw [List.mem_singleton.mp hc]), if_pos rfl, rowT_one]
    cases hc : checkRow m' w [0] ((k - 1, h) :: r) with
    | none => rfl
    | some r3 =>
      obtain ⟨_, g2, _, _⟩ := checkRow_some hc
      have h1 := g2 (k - 1, h) List.mem_cons_self
      have hR := F.run
      cases hR with
      | stop h0 hall => rw [hall b' (List.mem_singleton.mpr rfl)] at hlf; cases hlf
      | next h0 hbr h2 hc' hR' =>
        obtain ⟨e1, g2', g3', _⟩ := checkRow_some hc'
        rw [rowT_one, hps] at g2' g3' e1
        have h2 := g2' (k, h) List.mem_cons_self
        have hn0 : numD h ≠ 0 := fun z => g3' (numD h) List.mem_cons_self (by rw [z]; exact List.mem_singleton.mpr rfl)
        have hin : numD h ∈ keysA m := F.only _ (hR'.sub (by rw [e1]; exact List.mem_append_right _ List.mem_cons_self))
        have eb : blockAt m' (numD h) = blockAt m (numD h) := by unfold blockAt; rw [ha _ hin hn0]
        dsimp only at h1 h2
        rw [eb] at h1
        unfold fitsD at h1 h2
        rw [Bool.and_eq_true, decide_eq_true_eq] at h1 h2
        have := h1.2.symm.trans h2.2
        omega
  rw [this, Bool.and_false]
/-- each block but the root as wide as a width asks -/
def asW (m : BT) (w : Int) : Bool := (keysA m).all fun n => !(decide (0 < n) && decide (((toTB (blockAt m n)).ps.length : Int) < halfI w))
theorem Tree.asW (T : Tree w P m) (hw : w ≤ w') : soundD m w' = asW m w' := by
  rw [Bool.eq_iff_iff, T.wide hw]
  unfold My.asW
  rw [List.all_eq_true]
  constructor
  · intro h n hn
    by_cases c : 0 < n
    · have := h n hn (by omega)
      rw [decide_eq_true c, decide_eq_false (by omega)]
      rfl
    · rw [decide_eq_false c]
      rfl
  · intro h n hn h0
    have h1 := h n hn
    have h2 := T.zero n hn
    rw [decide_eq_true (show 0 < n by omega), Bool.true_and, Bool.not_eq_true', decide_eq_false_iff_not] at h1
    omega
theorem not_nodup_ends {k0 kl : Int} {h0 : PyData} {mid : PL} : ¬ (numsT ((k0, h0) :: (mid ++ [(kl, h0)]))).Nodup := by
  show ¬ (numD h0 :: numsT (mid ++ [(kl, h0)])).Nodup
  rw [List.nodup_cons, numsT_app]
  intro z
  exact z.1 (List.mem_append_right _ (List.mem_singleton.mpr rfl))
/-- keys three apart -/
def threeK (first : Int) (n : Nat) : List Int := (List.range n).map fun k : Nat => first + 3 * (k : Int)
theorem three_next {first : Int} {n : Nat} {A C : List Int} {kl kc : Int} (h : threeK first n = A ++ kl :: kc :: C) : kc = kl + 3 ∧ kc ≤ first + 3 * (n : Int) - 3 := by
  have g : ∀ (i : Nat) (x : Int), (threeK first n)[i]? = some x → x = first + 3 * (i : Int) ∧ i < n := fun i x hx => by
    unfold threeK at hx
    rw [List.getElem?_map] at hx
    obtain ⟨j, hj, rfl⟩ := Option.map_eq_some_iff.mp hx
    have hj' := (List.getElem?_eq_some_iff.mp hj).1
    rw [List.length_range] at hj'
    rw [List.getElem?_range hj'] at hj
    cases Option.some.inj hj
    exact ⟨rfl, hj'⟩
  obtain ⟨e1, _⟩ := g A.length kl (by rw [h, List.getElem?_append_right (Nat.le_refl _), Nat.sub_self]; rfl)
  obtain ⟨e2, l2⟩ := g (A.length + 1) kc (by rw [h, List.getElem?_append_right (by omega), show A.length + 1 - A.length = 1 by omega]; rfl)
  omega
theorem three_last {first : Int} {n : Nat} {A : List Int} {kl : Int} (h : threeK first n = A ++ [kl]) : kl = first + 3 * (n : Int) - 3 := by
  have hl := congrArg List.length h
  unfold threeK at hl h
  rw [List.length_map, List.length_range, List.length_append, List.length_singleton] at hl
  have hx : ((List.range n).map fun k : Nat => first + 3 * (k : Int))[A.length]? = some kl := by rw [h, List.getElem?_append_right (Nat.le_refl _), Nat.sub_self]; rfl
  rw [List.getElem?_map, List.getElem?_range (by omega)] at hx
  have h9 : first + 3 * (A.length : Int) = kl := Option.some.inj hx
  omega
end
end My

set_option Elab.async false
set_option linter.all false
set_option maxRecDepth 100000
set_option maxHeartbeats 1000000
namespace My
open PySem L2
def top (i : Nat) : Stmt := PySem.Challenge.pw_btreelog_k07_sound.main.body.getD i (.Pass ⟨0, 0, 0, 0⟩)
abbrev s_is_whole : Stmt := top 3
abbrev N_is_whole : List Str := ["thing"]
theorem sc_is_whole : FnScope N_is_whole ["thing"] (defScope s_is_whole) := ⟨rfl, rfl, rfl, by decide +kernel, rfl, by decide +kernel, by decide +kernel⟩
abbrev s_is_key : Stmt := top 4
abbrev N_is_key : List Str := ["thing"]
theorem sc_is_key : FnScope N_is_key ["thing"] (defScope s_is_key) := ⟨rfl, rfl, rfl, by decide +kernel, rfl, by decide +kernel, by decide +kernel⟩
abbrev s_is_value : Stmt := top 5
abbrev N_is_value : List Str := ["thing", "sign"]
theorem sc_is_value : FnScope N_is_value ["thing"] (defScope s_is_value) := ⟨rfl, rfl, rfl, by decide +kernel, rfl, by decide +kernel, by decide +kernel⟩
abbrev s_is_number : Stmt := top 6
abbrev N_is_number : List Str := ["thing"]
theorem sc_is_number : FnScope N_is_number ["thing"] (defScope s_is_number) := ⟨rfl, rfl, rfl, by decide +kernel, rfl, by decide +kernel, by decide +kernel⟩
abbrev s_half : Stmt := top 7
abbrev N_half : List Str := ["width"]
theorem sc_half : FnScope N_half ["width"] (defScope s_half) := ⟨rfl, rfl, rfl, by decide +kernel, rfl, by decide +kernel, by decide +kernel⟩
abbrev s_is_two : Stmt := top 8
abbrev N_is_two : List Str := ["thing"]
theorem sc_is_two : FnScope N_is_two ["thing"] (defScope s_is_two) := ⟨rfl, rfl, rfl, by decide +kernel, rfl, by decide +kernel, by decide +kernel⟩
abbrev s_is_pair : Stmt := top 9
abbrev N_is_pair : List Str := ["thing", "word", "key", "held"]
theorem sc_is_pair : FnScope N_is_pair ["thing", "word"] (defScope s_is_pair) := ⟨rfl, rfl, rfl, by decide +kernel, rfl, by decide +kernel, by decide +kernel⟩
abbrev s_rises : Stmt := top 10
abbrev N_rises : List Str := ["pairs", "at"]
theorem sc_rises : FnScope N_rises ["pairs"] (defScope s_rises) := ⟨rfl, rfl, rfl, by decide +kernel, rfl, by decide +kernel, by decide +kernel⟩
abbrev s_is_block : Stmt := top 11
abbrev N_is_block : List Str := ["thing", "least", "most", "word", "pairs", "pair"]
theorem sc_is_block : FnScope N_is_block ["thing", "least", "most"] (defScope s_is_block) := ⟨rfl, rfl, rfl, by decide +kernel, rfl, by decide +kernel, by decide +kernel⟩
abbrev s_row_of : Stmt := top 13
abbrev N_row_of : List Str := ["level", "word", "pairs", "pair"]
theorem sc_row_of : FnScope N_row_of ["level"] (defScope s_row_of) := ⟨rfl, rfl, rfl, by decide +kernel, rfl, by decide +kernel, by decide +kernel⟩
abbrev s_named : Stmt := top 14
abbrev N_named : List Str := ["blocks", "pairs", "key", "number"]
theorem sc_named : FnScope N_named ["blocks", "pairs"] (defScope s_named) := ⟨rfl, rfl, rfl, by decide +kernel, rfl, by decide +kernel, by decide +kernel⟩
abbrev s_all_are : Stmt := top 15
abbrev N_all_are : List Str := ["word", "level", "block"]
theorem sc_all_are : FnScope N_all_are ["word", "level"] (defScope s_all_are) := ⟨rfl, rfl, rfl, by decide +kernel, rfl, by decide +kernel, by decide +kernel⟩
abbrev s_is_root : Stmt := top 16
abbrev N_is_root : List Str := ["thing", "width", "word", "pairs"]
theorem sc_is_root : FnScope N_is_root ["thing", "width"] (defScope s_is_root) := ⟨rfl, rfl, rfl, by decide +kernel, rfl, by decide +kernel, by decide +kernel⟩
abbrev s_fits : Stmt := top 17
abbrev N_fits : List Str := ["thing", "width", "key", "word", "pairs"]
theorem sc_fits : FnScope N_fits ["thing", "width", "key"] (defScope s_fits) := ⟨rfl, rfl, rfl, by decide +kernel, rfl, by decide +kernel, by decide +kernel⟩
abbrev s_sound : Stmt := top 18
abbrev N_sound : List Str := ["blocks", "width", "level", "reached", "row", "key", "number"]
theorem sc_sound : FnScope N_sound ["blocks", "width"] (defScope s_sound) := ⟨rfl, rfl, rfl, by decide +kernel, rfl, by decide +kernel, by decide +kernel⟩
abbrev s_l_cell_at : Stmt := top 20
abbrev N_l_cell_at : List Str := ["_law_script", "_law_k"]
theorem sc_l_cell_at : FnScope N_l_cell_at ["_law_script", "_law_k"] (defScope s_l_cell_at) := ⟨rfl, rfl, rfl, by decide +kernel, rfl, by decide +kernel, by decide +kernel⟩
abbrev s_l_width_by : Stmt := top 21
abbrev N_l_width_by : List Str := ["_law_cell"]
theorem sc_l_width_by : FnScope N_l_width_by ["_law_cell"] (defScope s_l_width_by) := ⟨rfl, rfl, rfl, by decide +kernel, rfl, by decide +kernel, by decide +kernel⟩
abbrev s_l_level : Stmt := top 22
abbrev N_l_level : List Str := ["_law_pairs", "_law_width", "_law_cell", "_law_least", "_law_most", "_law_many", "_law_rows", "_law_at", "_law_k", "_law_size"]
theorem sc_l_level : FnScope N_l_level ["_law_pairs", "_law_width", "_law_cell"] (defScope s_l_level) := ⟨rfl, rfl, rfl, by decide +kernel, rfl, by decide +kernel, by decide +kernel⟩
abbrev s_l_tree_by : Stmt := top 23
abbrev N_l_tree_by : List Str := ["_law_pairs", "_law_width", "_law_cell", "_law_blocks", "_law_kind", "_law_number", "_law_above", "_law_row"]
theorem sc_l_tree_by : FnScope N_l_tree_by ["_law_pairs", "_law_width", "_law_cell"] (defScope s_l_tree_by) := ⟨rfl, rfl, rfl, by decide +kernel, rfl, by decide +kernel, by decide +kernel⟩
abbrev s_l_pair_spoilt : Stmt := top 24
abbrev N_l_pair_spoilt : List Str := ["_law_kind", "_law_pair", "_law_cell"]
theorem sc_l_pair_spoilt : FnScope N_l_pair_spoilt ["_law_kind", "_law_pair", "_law_cell"] (defScope s_l_pair_spoilt) := ⟨rfl, rfl, rfl, by decide +kernel, rfl, by decide +kernel, by decide +kernel⟩
abbrev s_l_block_spoilt : Stmt := top 25
abbrev N_l_block_spoilt : List Str := ["_law_block", "_law_root", "_law_way", "_law_width", "_law_more", "_law_kind", "_law_pairs", "_law_k", "_law_at"]
theorem sc_l_block_spoilt : FnScope N_l_block_spoilt ["_law_block", "_law_root", "_law_way", "_law_width", "_law_more"] (defScope s_l_block_spoilt) := ⟨rfl, rfl, rfl, by decide +kernel, rfl, by decide +kernel, by decide +kernel⟩
abbrev s_l_deeper : Stmt := top 26
abbrev N_l_deeper : List Str := ["_law_found", "_law_number", "_law_first", "_law_more", "_law_width", "_law_size", "_law_above", "_law_k", "_law_at", "_law_n"]
theorem sc_l_deeper : FnScope N_l_deeper ["_law_found", "_law_number", "_law_first", "_law_more", "_law_width"] (defScope s_l_deeper) := ⟨rfl, rfl, rfl, by decide +kernel, rfl, by decide +kernel, by decide +kernel⟩
abbrev s_l_ringed : Stmt := top 27
abbrev N_l_ringed : List Str := ["_law_found", "_law_top", "_law_more"]
theorem sc_l_ringed : FnScope N_l_ringed ["_law_found", "_law_top", "_law_more"] (defScope s_l_ringed) := ⟨rfl, rfl, rfl, by decide +kernel, rfl, by decide +kernel, by decide +kernel⟩
abbrev s_l_tree_spoilt : Stmt := top 28
abbrev N_l_tree_spoilt : List Str := ["_law_blocks", "_law_number", "_law_way", "_law_top", "_law_width", "_law_cell", "_law_found", "_law_kind", "_law_pairs", "_law_more", "_law_leaf"]
theorem sc_l_tree_spoilt : FnScope N_l_tree_spoilt ["_law_blocks", "_law_number", "_law_way", "_law_top", "_law_width", "_law_cell"] (defScope s_l_tree_spoilt) := ⟨rfl, rfl, rfl, by decide +kernel, rfl, by decide +kernel, by decide +kernel⟩
abbrev s_l_says : Stmt := top 29
abbrev N_l_says : List Str := ["_law_found", "_law_due"]
theorem sc_l_says : FnScope N_l_says ["_law_found", "_law_due"] (defScope s_l_says) := ⟨rfl, rfl, rfl, by decide +kernel, rfl, by decide +kernel, by decide +kernel⟩
abbrev s_l_as_wide : Stmt := top 30
abbrev N_l_as_wide : List Str := ["_law_blocks", "_law_width", "_law_number"]
theorem sc_l_as_wide : FnScope N_l_as_wide ["_law_blocks", "_law_width"] (defScope s_l_as_wide) := ⟨rfl, rfl, rfl, by decide +kernel, rfl, by decide +kernel, by decide +kernel⟩
abbrev s_l_spoilt : Stmt := top 31
abbrev N_l_spoilt : List Str := ["_law_blocks", "_law_number", "_law_way", "_law_width", "_law_top", "_law_more", "_law_block", "_law_found"]
theorem sc_l_spoilt : FnScope N_l_spoilt ["_law_blocks", "_law_number", "_law_way", "_law_width", "_law_top", "_law_more"] (defScope s_l_spoilt) := ⟨rfl, rfl, rfl, by decide +kernel, rfl, by decide +kernel, by decide +kernel⟩
abbrev s_law : Stmt := top 32
abbrev N_law : List Str := ["_law_script", "_law_width", "_law_size", "_law_first", "_law_row", "_law_k", "_law_blocks", "_law_handed", "_law_numbers", "_law_number", "_law_more", "_law_other"]
theorem sc_law : FnScope N_law ["_law_script"] (defScope s_law) := ⟨rfl, rfl, rfl, by decide +kernel, rfl, by decide +kernel, by decide +kernel⟩
abbrev sp_l_cell_at := sp_cell
def sp_l_width_by : Sp := fun vs H Q _ => ∃ c : Int, vs = [.int c] ∧ ∀ w : Int, 3 ≤ w → w ≤ 64 → Q (.int w) H
def sp_l_level (K : PySem.W.Frag) : Sp := fun vs H Q _ => ∃ (p : Addr) (w c : Int) (xs : List V) (P : PL), vs = [.ref p, .int w, .int c] ∧ SqL K H p xs ∧ DpAll K H xs (rowD P) ∧ smP P ∧ 3 ≤ w ∧ w ≤ 64 ∧ w < (P.length : Int) ∧ P.length ≤ 5000 ∧
  ∀ q ys rows H', H q = none → Same H H' → H' q = some (.lst ys) → DpAll K H' ys (rowsD rows) → rows.flatten = P → (∀ r ∈ rows, halfI w ≤ (r.length : Int) ∧ (r.length : Int) ≤ w) → 2 ≤ rows.length → rows.length * 2 ≤ P.length → Q (.ref q) H'
def sp_l_tree_by (K : PySem.W.Frag) : Sp := fun vs H Q _ => ∃ (p : Addr) (w c : Int) (xs : List V) (P : PL), vs = [.ref p, .int w, .int c] ∧ SqL K H p xs ∧ DpAll K H xs (rowD P) ∧ okP true P ∧ smP P ∧ 3 ≤ w ∧ w ≤ 64 ∧ P.length ≤ 5000 ∧
  ∀ b m H', H b = none → Same H H' → Dd K H' b m → Tree w P m → m.length ≤ P.length + 1 → Q (.ref b) H'
def sp_l_pair_spoilt (K : PySem.W.Frag) : Sp := fun vs H Q _ => ∃ (lf : Bool) (x : V) (c k : Int) (h : PyData), vs = [.str (wordT lf), x, .int c] ∧ Dp K H x (.tuple [.int k, h]) ∧ (∀ z, h = .str z → z.length ≤ 60) ∧ -(2 ^ 250) < k ∧ k < 2 ^ 250 ∧
  ∀ y d H', Same H H' → Dp K H' y d → isPairD (wordT lf) d = false → FitP d → Q y H'
/-- a block with something wrong -/
inductive SpB (root : Bool) (w : Int) (b : TB) : PyData → Prop
  | bad {d : PyData} : (root = true → rootD w d = false) → (root = false → isBlockD (halfI w) w d = false) → SpB root w b d
  | low {k : Int} {h : PyData} {r : PL} : b.ps = (k, h) :: r → (root = true → b.lf = false) → SpB root w b (TB.D ⟨b.lf, (k - 1, h) :: r⟩)
  | twice {k0 kl : Int} {h0 hl : PyData} {mid : PL} : b.lf = false → b.ps = (k0, h0) :: (mid ++ [(kl, hl)]) → SpB root w b (TB.D ⟨false, (k0, h0) :: (mid ++ [(kl, h0)])⟩)
def sp_l_block_spoilt (K : PySem.W.Frag) : Sp := fun vs H Q _ => ∃ (x : V) (b : TB) (root : Bool) (way w more : Int), vs = [x, .bl root, .int way, .int w, .int more] ∧ Dp K H x b.D ∧ okT (if root then 0 else halfI w) w b ∧ (root = true → b.lf = true ∨ 2 ≤ b.ps.length) ∧
  3 ≤ w ∧ w ≤ 64 ∧ 0 ≤ way ∧ way ≤ 8 ∧ 0 ≤ more ∧
  ∀ y d H', Same H H' → Dp K H' y d → (d = .none ∨ (SpB root w b d ∧ FitB d ∧ d ≠ .none)) → Q y H'
def sp_l_deeper (K : PySem.W.Frag) : Sp := fun vs H Q _ => ∃ (f : Addr) (n first more w : Int) (m : BT), vs = [.ref f, .int n, .int first, .int more, .int w] ∧ Dd K H f m ∧ Blk m ∧ fitM m ∧ m.length ≤ 5000 ∧ 3 ≤ w ∧ w ≤ 64 ∧
  ∀ m' H', Oth f H H' → Dd K H' f m' → (∀ k, k < more → k ≠ n → getA m' k = getA m k) → (∃ c : TB, getA m' n = some c.D ∧ c.lf = false) → (keysA m').Nodup → fitM m' → m'.length ≤ m.length + 4 → Q (.ref f) H'
def sp_l_ringed (K : PySem.W.Frag) : Sp := fun vs H Q _ => ∃ (f : Addr) (top more : Int) (m : BT), vs = [.ref f, .int top, .int more] ∧ Dd K H f m ∧ (keysA m).Nodup ∧ fitM m ∧ m.length ≤ 5000 ∧ (∀ k ∈ keysA m, k < more) ∧
  ∀ m' H', Oth f H H' → Dd K H' f m' → (∀ k, k < more → getA m' k = getA m k) → (keysA m').Nodup → fitM m' → m'.length = m.length + 4 → Q (.ref f) H'
def Spoilt (w : Int) (m : BT) : Prop := (keysA m).Nodup ∧ fitM m ∧ m.length ≤ 210 ∧ soundD m w = false
/-- what the keys of the leaves are asked -/
def Keyed (P : PL) (top : Int) : Prop := (∀ A kl kc C, keysT P = A ++ kl :: kc :: C → kc = kl + 3 ∧ kc ≤ top) ∧ ∀ A kl, keysT P = A ++ [kl] → kl = top
def sp_l_tree_spoilt (K : PySem.W.Frag) : Sp := fun vs H Q _ => ∃ (b : Addr) (n way top w c : Int) (m : BT) (P : PL), vs = [.ref b, .int n, .int way, .int top, .int w, .int c] ∧ Dd K H b m ∧ Tree w P m ∧ n ∈ keysA m ∧ 9 ≤ way ∧ way ≤ 14 ∧ 3 ≤ w ∧ w ≤ 64 ∧ 0 ≤ c ∧ m.length ≤ 205 ∧ Keyed P top ∧
  (∀ H', Same H H' → Q .non H') ∧ ∀ o m' H', Same H H' → Dd K H' o m' → Spoilt w m' → Q (.ref o) H'
def sp_l_spoilt (K : PySem.W.Frag) : Sp := fun vs H Q _ => ∃ (b : Addr) (n way w top c : Int) (m : BT) (P : PL), vs = [.ref b, .int n, .int way, .int w, .int top, .int c] ∧ Dd K H b m ∧ Tree w P m ∧ n ∈ keysA m ∧ 0 ≤ way ∧ way ≤ 14 ∧ 3 ≤ w ∧ w ≤ 64 ∧ 0 ≤ c ∧ m.length ≤ 205 ∧ Keyed P top ∧
  (∀ H', Same H H' → Q .non H') ∧ ∀ o m' H', Same H H' → Dd K H' o m' → Spoilt w m' → Q (.ref o) H'
def sp_l_as_wide (K : PySem.W.Frag) : Sp := fun vs H Q _ => ∃ (b : Addr) (w : Int) (m : BT), vs = [.ref b, .int w] ∧ Dd K H b m ∧ (∀ p ∈ m, ∃ c : TB, p.2 = c.D) ∧ (keysA m).Nodup ∧ ∀ H', Same H H' → Q (.bl (asW m w)) H'
structure Tx (K : PySem.W.Frag) (mg : Str → Option Value) where
  a_is_whole : Addr
  d_is_whole : FuncData
  F_is_whole : Fun K "is_whole" "is_whole" s_is_whole a_is_whole d_is_whole
  b_is_whole : Binds K d_is_whole ["thing"] []
  g_is_whole : mg "is_whole" = some (.ref a_is_whole)
  a_is_key : Addr
  d_is_key : FuncData
  F_is_key : Fun K "is_key" "is_key" s_is_key a_is_key d_is_key
  b_is_key : Binds K d_is_key ["thing"] []
  g_is_key : mg "is_key" = some (.ref a_is_key)
  a_is_value : Addr
  d_is_value : FuncData
  F_is_value : Fun K "is_value" "is_value" s_is_value a_is_value d_is_value
  b_is_value : Binds K d_is_value ["thing"] []
  g_is_value : mg "is_value" = some (.ref a_is_value)
  a_is_number : Addr
  d_is_number : FuncData
  F_is_number : Fun K "is_number" "is_number" s_is_number a_is_number d_is_number
  b_is_number : Binds K d_is_number ["thing"] []
  g_is_number : mg "is_number" = some (.ref a_is_number)
  a_half : Addr
  d_half : FuncData
  F_half : Fun K "half" "half" s_half a_half d_half
  b_half : Binds K d_half ["width"] []
  g_half : mg "half" = some (.ref a_half)
  a_is_two : Addr
  d_is_two : FuncData
  F_is_two : Fun K "is_two" "is_two" s_is_two a_is_two d_is_two
  b_is_two : Binds K d_is_two ["thing"] []
  g_is_two : mg "is_two" = some (.ref a_is_two)
  a_is_pair : Addr
  d_is_pair : FuncData
  F_is_pair : Fun K "is_pair" "is_pair" s_is_pair a_is_pair d_is_pair
  b_is_pair : Binds K d_is_pair ["thing", "word"] []
  g_is_pair : mg "is_pair" = some (.ref a_is_pair)
  a_rises : Addr
  d_rises : FuncData
  F_rises : Fun K "rises" "rises" s_rises a_rises d_rises
  b_rises : Binds K d_rises ["pairs"] []
  g_rises : mg "rises" = some (.ref a_rises)
  a_is_block : Addr
  d_is_block : FuncData
  F_is_block : Fun K "is_block" "is_block" s_is_block a_is_block d_is_block
  b_is_block : Binds K d_is_block ["thing", "least", "most"] []
  g_is_block : mg "is_block" = some (.ref a_is_block)
  a_row_of : Addr
  d_row_of : FuncData
  F_row_of : Fun K "row_of" "row_of" s_row_of a_row_of d_row_of
  b_row_of : Binds K d_row_of ["level"] []
  g_row_of : mg "row_of" = some (.ref a_row_of)
  a_named : Addr
  d_named : FuncData
  F_named : Fun K "named" "named" s_named a_named d_named
  b_named : Binds K d_named ["blocks", "pairs"] []
  g_named : mg "named" = some (.ref a_named)
  a_all_are : Addr
  d_all_are : FuncData
  F_all_are : Fun K "all_are" "all_are" s_all_are a_all_are d_all_are
  b_all_are : Binds K d_all_are ["word", "level"] []
  g_all_are : mg "all_are" = some (.ref a_all_are)
  a_is_root : Addr
  d_is_root : FuncData
  F_is_root : Fun K "is_root" "is_root" s_is_root a_is_root d_is_root
  b_is_root : Binds K d_is_root ["thing", "width"] []
  g_is_root : mg "is_root" = some (.ref a_is_root)
  a_fits : Addr
  d_fits : FuncData
  F_fits : Fun K "fits" "fits" s_fits a_fits d_fits
  b_fits : Binds K d_fits ["thing", "width", "key"] []
  g_fits : mg "fits" = some (.ref a_fits)
  a_sound : Addr
  d_sound : FuncData
  F_sound : Fun K "sound" "sound" s_sound a_sound d_sound
  b_sound : Binds K d_sound ["blocks", "width"] []
  g_sound : mg "sound" = some (.ref a_sound)
  a_l_cell_at : Addr
  d_l_cell_at : FuncData
  F_l_cell_at : Fun K "_law_cell_at" "_law_cell_at" s_l_cell_at a_l_cell_at d_l_cell_at
  b_l_cell_at : Binds K d_l_cell_at ["_law_script", "_law_k"] []
  g_l_cell_at : mg "_law_cell_at" = some (.ref a_l_cell_at)
  a_l_width_by : Addr
  d_l_width_by : FuncData
  F_l_width_by : Fun K "_law_width_by" "_law_width_by" s_l_width_by a_l_width_by d_l_width_by
  b_l_width_by : Binds K d_l_width_by ["_law_cell"] []
  g_l_width_by : mg "_law_width_by" = some (.ref a_l_width_by)
  a_l_level : Addr
  d_l_level : FuncData
  F_l_level : Fun K "_law_level" "_law_level" s_l_level a_l_level d_l_level
  b_l_level : Binds K d_l_level ["_law_pairs", "_law_width", "_law_cell"] []
  g_l_level : mg "_law_level" = some (.ref a_l_level)
  a_l_tree_by : Addr
  d_l_tree_by : FuncData
  F_l_tree_by : Fun K "_law_tree_by" "_law_tree_by" s_l_tree_by a_l_tree_by d_l_tree_by
  b_l_tree_by : Binds K d_l_tree_by ["_law_pairs", "_law_width", "_law_cell"] []
  g_l_tree_by : mg "_law_tree_by" = some (.ref a_l_tree_by)
  a_l_pair_spoilt : Addr
  d_l_pair_spoilt : FuncData
  F_l_pair_spoilt : Fun K "_law_pair_spoilt" "_law_pair_spoilt" s_l_pair_spoilt a_l_pair_spoilt d_l_pair_spoilt
  b_l_pair_spoilt : Binds K d_l_pair_spoilt ["_law_kind", "_law_pair", "_law_cell"] []
  g_l_pair_spoilt : mg "_law_pair_spoilt" = some (.ref a_l_pair_spoilt)
  a_l_block_spoilt : Addr
  d_l_block_spoilt : FuncData
  F_l_block_spoilt : Fun K "_law_block_spoilt" "_law_block_spoilt" s_l_block_spoilt a_l_block_spoilt d_l_block_spoilt
  b_l_block_spoilt : Binds K d_l_block_spoilt ["_law_block", "_law_root", "_law_way", "_law_width", "_law_more"] []
  g_l_block_spoilt : mg "_law_block_spoilt" = some (.ref a_l_block_spoilt)
  a_l_deeper : Addr
  d_l_deeper : FuncData
  F_l_deeper : Fun K "_law_deeper" "_law_deeper" s_l_deeper a_l_deeper d_l_deeper
  b_l_deeper : Binds K d_l_deeper ["_law_found", "_law_number", "_law_first", "_law_more", "_law_width"] []
  g_l_deeper : mg "_law_deeper" = some (.ref a_l_deeper)
  a_l_ringed : Addr
  d_l_ringed : FuncData
  F_l_ringed : Fun K "_law_ringed" "_law_ringed" s_l_ringed a_l_ringed d_l_ringed
  b_l_ringed : Binds K d_l_ringed ["_law_found", "_law_top", "_law_more"] []
  g_l_ringed : mg "_law_ringed" = some (.ref a_l_ringed)
  a_l_tree_spoilt : Addr
  d_l_tree_spoilt : FuncData
  F_l_tree_spoilt : Fun K "_law_tree_spoilt" "_law_tree_spoilt" s_l_tree_spoilt a_l_tree_spoilt d_l_tree_spoilt
  b_l_tree_spoilt : Binds K d_l_tree_spoilt ["_law_blocks", "_law_number", "_law_way", "_law_top", "_law_width", "_law_cell"] []
  g_l_tree_spoilt : mg "_law_tree_spoilt" = some (.ref a_l_tree_spoilt)
  a_l_says : Addr
  d_l_says : FuncData
  F_l_says : Fun K "_law_says" "_law_says" s_l_says a_l_says d_l_says
  b_l_says : Binds K d_l_says ["_law_found", "_law_due"] []
  g_l_says : mg "_law_says" = some (.ref a_l_says)
  a_l_as_wide : Addr
  d_l_as_wide : FuncData
  F_l_as_wide : Fun K "_law_as_wide" "_law_as_wide" s_l_as_wide a_l_as_wide d_l_as_wide
  b_l_as_wide : Binds K d_l_as_wide ["_law_blocks", "_law_width"] []
  g_l_as_wide : mg "_law_as_wide" = some (.ref a_l_as_wide)
  a_l_spoilt : Addr
  d_l_spoilt : FuncData
  F_l_spoilt : Fun K "_law_spoilt" "_law_spoilt" s_l_spoilt a_l_spoilt d_l_spoilt
  b_l_spoilt : Binds K d_l_spoilt ["_law_blocks", "_law_number", "_law_way", "_law_width", "_law_top", "_law_more"] []
  g_l_spoilt : mg "_law_spoilt" = some (.ref a_l_spoilt)
  t_KEY_BOUND : Tok
  c_KEY_BOUND : mg "KEY_BOUND" = some (.int (KB) t_KEY_BOUND)
  t_MOST_SIGNS : Tok
  c_MOST_SIGNS : mg "MOST_SIGNS" = some (.int (60) t_MOST_SIGNS)
  z_all : mg "all" = none
  z_dict : mg "dict" = none
  z_int : mg "int" = none
  z_len : mg "len" = none
  z_list : mg "list" = none
  z_max : mg "max" = none
  z_min : mg "min" = none
  z_range : mg "range" = none
  z_sorted : mg "sorted" = none
  z_str : mg "str" = none
  z_tuple : mg "tuple" = none
  z_type : mg "type" = none
local macro_rules | `(tactic| wtm_at "at") => `(tactic| first | assumption | (refine Same.at (by assumption) ?_; wtm_at "at"))
local macro_rules | `(tactic| wtm_at "sq") => `(tactic| first | assumption | exact SqL.of (by wtm_at "at") | (refine L2.Same.seq (by assumption) ?_; wtm_at "sq"))
local macro_rules | `(tactic| wtm_at "st") => `(tactic| first | assumption | exact SqT.of (by wtm_at "at") | (refine Same.seqT (by assumption) ?_; wtm_at "st"))
local macro_rules | `(tactic| wtm_at "so") => `(tactic| first | assumption | exact seq_l (by wtm_at "sq") | exact seq_t (by wtm_at "st") | (refine Same.seqO (by assumption) ?_; wtm_at "so"))
local macro_rules | `(tactic| wtm_at "sd") => `(tactic| first
  | exact CMul.ok (Or.inl ⟨by omega, by omega⟩) | exact CMul.ok (Or.inr ⟨by omega, by omega⟩)
  | omega | (dsimp only <;> omega) | (show (0 : Int) < _; omega) | exact ⟨by omega, by omega⟩ | exact Or.inl ⟨by omega, by omega⟩ | exact Or.inr ⟨by omega, by omega⟩ | exact ⟨by decide, by decide, by decide⟩)
local macro_rules | `(tactic| wtm_at "wk") => `(tactic| fail "no walk")
local macro_rules | `(tactic| wtm_at "call") => `(tactic| fail "no call")
local macro_rules | `(tactic| wtm_at "ones") => `(tactic| first
  | with_reducible refine g_asg ?_
  | with_reducible refine g_name ?_
  | with_reducible refine g_op ?_
  | with_reducible refine g_var rfl ?_
  | with_reducible refine g_c ?_
  | with_reducible refine g_rI0 ?_
  | ((with_reducible refine' g_rI ?cc ?_); (case cc => wtm_at "sd"))
  | with_reducible refine g_un ?_
  | with_reducible refine g_rU ?_
  | with_reducible refine g_call ?_
  | with_reducible refine g_cons ?_
  | with_reducible refine g_nil ?_
  | with_reducible refine g_cb ?_
  | with_reducible refine g_test ?_
  | with_reducible refine g_tB ?_
  | with_reducible refine g_isB ?_
  | with_reducible refine g_if ?_
  | with_reducible refine g_ret ?_
  | with_reducible refine g_retN ?_
  | with_reducible refine g_drop ?_
  | with_reducible refine g_next ?_
  | ((with_reducible refine' g_rEq ?cc ?_); (case cc => exact rfl))
  | ((with_reducible refine' g_rNe ?cc ?_); (case cc => exact rfl))
  | with_reducible refine g_chain ?_
  | with_reducible refine g_and ?_
  | with_reducible refine g_or ?_
  | with_reducible refine g_not ?_
  | with_reducible refine g_notK ?_
  | with_reducible refine g_andT ?_
  | with_reducible refine g_orT ?_
  | with_reducible refine g_notT ?_
  | with_reducible refine g_notV ?_
  | with_reducible refine g_ifE ?_
  | with_reducible refine g_tup ?_
  | with_reducible refine g_lst ?_
  | with_reducible refine g_sl ?_
  | with_reducible refine g_noPart ?_
  | with_reducible refine g_part ?_
  | with_reducible refine g_partK ?_
  | with_reducible refine g_brT ?_
  | with_reducible refine g_brF ?_
  | with_reducible refine g_gcons ?_
  | with_reducible refine g_gnil ?_
  | ((with_reducible refine' g_len ?cc ?_); (case cc => wtm_at "so"))
  | with_reducible refine g_intB ?_
  | with_reducible refine g_intI ?_
  | with_reducible refine g_isN ?_
  | with_reducible refine g_notN ?_
  | with_reducible refine g_isTy ?_
  | with_reducible refine g_notTy ?_
  | with_reducible refine g_isBl ?_
  | with_reducible refine g_notBl ?_
  | with_reducible refine g_max2 ?_
  | ((with_reducible refine' g_gtup ?cc ?cd ?_); (case cc => wtm_at "st"); (case cd => exact rfl))
  | with_reducible refine My.g_leS ?_
  | ((with_reducible refine' g_typ ?cc ?_); (case cc => assumption))
  | with_reducible refine g_dget ?_
  | with_reducible refine g_din ?_
  | with_reducible refine g_dnin ?_
  | with_reducible refine g_dput ?_
  | with_reducible refine g_dget1 ?_
  | with_reducible refine g_dpop2 ?_
  | with_reducible refine g_bm ?_
  | with_reducible refine g_bm0 ?_
  | wtm_at "wk"
  | wtm_at "call")
local macro_rules | `(tactic| wtm_at "one") => `(tactic| first | with_reducible refine g_seq ?_ | wtm_at "ones")
local macro_rules | `(tactic| wtm_at "red") => `(tactic| try dsimp only [cxOf, List.cons_append, List.nil_append, List.set_cons_zero, List.set_cons_succ])
local macro_rules | `(tactic| wtm_at "go") => `(tactic| (wtm_at "red"; repeat (wtm_at "one"; wtm_at "red")))
local macro_rules | `(tactic| wtm_at "ln") => `(tactic| (refine sz ?_; simp only [List.length_cons, List.length_nil, List.length_map, List.length_append]; omega))
local macro_rules | `(tactic| wtm_at "go0") => `(tactic| ((with_reducible refine g_name ?_); wtm_at "red"))
local macro_rules | `(tactic| wtm_at "gs") => `(tactic| (wtm_at "red"; (try with_reducible refine g_seq ?_); repeat (wtm_at "ones"; wtm_at "red")))

local macro_rules | `(tactic| wtm_at "dp") => `(tactic| first | assumption | exact .int _ | exact .str _ | exact .bl _ | exact .non | (refine Dp.go (by assumption) ?_; wtm_at "dp"))
local macro_rules | `(tactic| wtm_at "dpa") => `(tactic| first | assumption | (refine DpAll.go (by assumption) ?_; wtm_at "dpa"))
local macro_rules | `(tactic| wtm_at "ev") => `(tactic| first
  | with_reducible exact evd_i
  | with_reducible exact evd_b
  | with_reducible exact evd_n
  | with_reducible exact evd_s
  | with_reducible exact evds_nil
  | ((with_reducible refine' evd_v rfl ?cc); (case cc => wtm_at "dp"))
  | ((with_reducible refine' evds_cons ?ca ?cb); (case ca => wtm_at "ev"); (case cb => wtm_at "ev"))
  | ((with_reducible refine' evd_tup ?ca ?cb); (case ca => wtm_at "ev"); (case cb => (simp only [List.length_cons, List.length_nil]; omega)))
  | ((with_reducible refine' evn_lst ?ca ?cb); (case ca => wtm_at "ev"); (case cb => (simp only [List.length_cons, List.length_nil]; omega)))
  | ((with_reducible refine' evd_op0 ?ca ?cb ?cc); (case ca => wtm_at "ev"); (case cb => wtm_at "ev"); (case cc => exact rfl))
  | ((with_reducible refine' evd_op ?ca ?cb ?cc ?cd); (case ca => wtm_at "ev"); (case cb => wtm_at "ev"); (case cc => wtm_at "sd"); (case cd => exact rfl))
  | ((with_reducible refine' evd_neg ?ca); (case ca => wtm_at "ev"))
  | ((with_reducible refine' evd_ixT ?ca ?cb ?cc ?cd); (case ca => wtm_at "ev"); (case cb => wtm_at "ev"); (case cc => omega); (case cd => exact rfl))
  | ((with_reducible refine' evn_listL ?ca); (case ca => wtm_at "ev"))
  | ((with_reducible refine' evn_listT ?ca); (case ca => wtm_at "ev"))
  | ((with_reducible refine' evd_tupleL ?ca); (case ca => wtm_at "ev"))
  | ((with_reducible refine' evd_tupleT ?ca); (case ca => wtm_at "ev"))
  | ((with_reducible refine' evd_strI ?ca ?cb); (case ca => wtm_at "ev"); (case cb => assumption))
  | ((with_reducible refine' evn_v rfl ?ca ?cb ?cc ?cd); (case ca => wtm_at "at"); (case cb => wtm_at "dpa"); (case cc => wtm_at "ev"); (case cd => (simp only [List.length_cons, List.length_nil, List.length_append]; omega)))
  | ((with_reducible refine' evn_cat ?ca ?cb ?cc); (case ca => wtm_at "ev"); (case cb => wtm_at "ev"); (case cc => (simp only [List.length_cons, List.length_nil, List.length_append, List.length_take, List.length_drop]; omega)))
  | ((with_reducible refine' evn_slTo ?ca ?cb ?cc); (case ca => wtm_at "ev"); (case cb => wtm_at "ev"); (case cc => omega))
  | ((with_reducible refine' evn_slFrom ?ca ?cb ?cc); (case ca => wtm_at "ev"); (case cb => wtm_at "ev"); (case cc => omega))
  | ((with_reducible refine' evo_some ?ca); (case ca => wtm_at "ev"))
  | ((with_reducible refine' evd_ixL ?ca ?cb ?cc ?cd); (case ca => wtm_at "ev"); (case cb => wtm_at "ev"); (case cc => omega); (case cd => assumption))
  | ((with_reducible refine' evd_addS ?ca ?cb ?cc); (case ca => wtm_at "ev"); (case cb => wtm_at "ev"); (case cc => assumption))
  | ((with_reducible refine' EvN.toD ?ca); (case ca => wtm_at "ev")))

local macro_rules | `(tactic| wtm_at "eo") => `(tactic| first | exact evo_none | ((with_reducible refine' evo_some ?ca); (case ca => wtm_at "ev")))
local macro_rules | `(tactic| wtm_at "cl") => `(tactic| first | assumption | omega | (simp only [cutL, List.length_cons, List.length_nil, List.length_append, List.length_take, List.length_drop, List.length_reverse, List.length_map]; omega))
local macro_rules | `(tactic| wtm_at "ev") => `(tactic| first
  | ((with_reducible refine' evd_slA ?ca ?cb ?cc); (case ca => wtm_at "ev"); (case cb => wtm_at "eo"); (case cc => wtm_at "eo"))
  | ((with_reducible refine' evd_catA ?ca ?cb ?cc); (case ca => wtm_at "ev"); (case cb => wtm_at "ev"); (case cc => wtm_at "cl"))
  | ((with_reducible refine' evd_ixTg ?ca ?cb ?cc); (case ca => wtm_at "ev"); (case cb => wtm_at "ev"); (case cc => assumption))
  | ((with_reducible refine' evd_mulS ?ca ?cb ?cc ?cd ?ce); (case ca => wtm_at "ev"); (case cb => wtm_at "ev"); (case cc => omega); (case cd => omega); (case ce => decide +kernel))
  | ((with_reducible refine' evd_cell rfl ?ca ?cb); (case ca => wtm_at "sq"); (case cb => omega))
  | ((with_reducible refine' evd_lenT ?ca); (case ca => wtm_at "ev"))
  | ((with_reducible refine' evd_revT ?ca); (case ca => wtm_at "ev")))

local macro_rules | `(tactic| wtm_at "call") => `(tactic| ((with_reducible refine' use_cell ?cc ?cd ?_); (case cc => wtm_at "sq"); (case cd => omega)))
section
variable {P : Program} {w : World} {K : PySem.W.Frag} {mg : Str → Option Value} {base : Heap}
theorem ok_is_whole (T : Tx K mg) : FnOk P w K mg base CX0 1 T.a_is_whole T.d_is_whole ["thing"] (sp_is_whole K) := by
  refine T.F_is_whole.ok sc_is_whole (fun vs H Q E h => ?_) (fun cdv A outer s H vs Q E hr h => ?_)
  · obtain ⟨x, rfl, _⟩ := h
    rfl
  obtain ⟨x, rfl, ⟨ty, ht⟩, q⟩ := h
  refine ⟨_, (pss_one (ps_ret (pe_cmpR my_isTy (pe_callTy call_type1 (by rfl) T.z_type (by decide +kernel) (pa_cons (pv 0) pa_nil)) (pe_bltn (v := .ty "int") (by rfl) T.z_int (by decide +kernel) rfl) (nomark _)))), ?_⟩
  wtm_at "go"
  rw [tyb_int ht]
  exact q
theorem ok_is_key (T : Tx K mg) : FnOk P w K mg base CX0 2 T.a_is_key T.d_is_key ["thing"] (sp_is_key K) := by
  refine T.F_is_key.ok sc_is_key (fun vs H Q E h => ?_) (fun cdv A outer s H vs Q E hr h => ?_)
  · obtain ⟨x, rfl, _⟩ := h
    rfl
  obtain ⟨x, rfl, ht, q⟩ := h
  refine ⟨_, (pss_one (ps_ret (pe_and (pe_call (ok_is_whole T) hr (by rfl) T.g_is_whole T.F_is_whole.kp T.b_is_whole .nil pass0 (pa_cons (pv 0) pa_nil)) (pe_one (pe_chain op_lt op_lt (pe_un un_neg (pe_gI (by rfl) T.c_KEY_BOUND)) (pv 0) (pe_gI (by rfl) T.c_KEY_BOUND)))))), ?_⟩
  wtm_at "go"
  refine ⟨x, rfl, ht, ?_⟩
  refine g_andV (fun c => ?_) (fun c => ?_)
  · cases x with
    | int i =>
      wtm_at "go"
      have e : isKeyV (.int i) = (decide (-KB < i) && decide (i < KB)) := rfl
      rw [e] at q
      refine g_chK (fun c => ?_) (fun c => ?_)
      · wtm_at "go"
        rw [show decide (-KB < i) = true from c, Bool.true_and] at q
        exact q
      · rw [show decide (-KB < i) = false from c, Bool.false_and] at q
        exact q
    | _ => cases c
  · rw [isKeyV_no c] at q
    exact q
theorem ok_is_value (T : Tx K mg) : FnOk P w K mg base CX0 1 T.a_is_value T.d_is_value ["thing"] (sp_is_value K) := by
  refine T.F_is_value.ok sc_is_value (fun vs H Q E h => ?_) (fun cdv A outer s H vs Q E hr h => ?_)
  · obtain ⟨x, rfl, _⟩ := h
    rfl
  obtain ⟨x, rfl, ⟨ty, ht, hz⟩, q⟩ := h
  refine ⟨_, (pss_cons (ps_if (pw_or (pt_cmpR op_notTyB (pe_callTy call_type1 (by rfl) T.z_type (by decide +kernel) (pa_cons (pv 0) pa_nil)) (pe_bltn (v := .ty "str") (by rfl) T.z_str (by decide +kernel) rfl) (nomark _)) (pw_or1 (pt_cmpR op_gt (pe_callB my_lenS (by rfl) T.z_len PySem.boot_len (pa_cons (pv 0) pa_nil)) (pe_gI (by rfl) T.c_MOST_SIGNS) (nomark _)))).pt
      (pss_one (ps_ret pe_bl))
      pss_nil)
    (pss_one (ps_ret (pe_callB (cr_all rfl) (by rfl) T.z_all (by decide +kernel) (pa_cons (pe_lc (own := [("sign", 1)]) (g := gName 1) (tt := tYes) rfl sc_is_value.nd (pi_str (pv 0)) (blkOk_by (own := [("sign", 1)]) (N := N_is_value) (sc := defScope s_is_value) (by decide +kernel)) (fun _ _ _ _ _ => (pg_name (i := 1) sc_is_value.nd rfl (Or.inl rfl))) (fun _ _ _ _ _ => pts_nil) (fun _ _ _ _ _ => (pe_chain my_leS my_leS pe_str (pv 1) pe_str))) pa_nil))))), ?_⟩
  wtm_at "go"
  rw [tyb_str ht]
  cases hx : isStr x with
  | false =>
    refine g_orK (fun _ => ?_) (fun c => nomatch c)
    wtm_at "go"
    rw [isValV_no hx] at q
    exact q H (L2.Same.refl H)
  | true =>
    refine g_orK (fun c => nomatch c) (fun _ => ?_)
    cases x with
    | str z =>
      have hl := hz z rfl
      have e : isValV (.str z) = (decide (z.length ≤ 60) && z.cps.toList.all signOk) := rfl
      rw [e] at q
      wtm_at "go"
      refine g_lenS hl ?_
      wtm_at "go"
      refine g_br (fun c => ?_) (fun c => ?_)
      · have c' : (60 : Int) < (z.length : Int) := of_decide_eq_true c
        rw [decide_eq_false (show ¬ z.length ≤ 60 by omega), Bool.false_and] at q
        wtm_at "go"
        exact q H (L2.Same.refl H)
      · have c' : ¬ (60 : Int) < (z.length : Int) := of_decide_eq_false c
        rw [decide_eq_true (show z.length ≤ 60 by omega), Bool.true_and] at q
        wtm_at "go"
        refine g_lcS (z := z) (fun c => .bl (signOk c)) (fun R r => by wtm_at "go"; exact r) (by have : z.cps.size = z.length := rfl; omega) (fun x => rfl) (fun c H1 QE hc s1 k => ?_) (fun p H1 n1 s1 e1 => ?_)
        · have es : signOk c = (decide (32 ≤ c) && decide (c ≤ 126)) := rfl
          rw [es] at k
          wtm_at "go"
          rw [sign_lo]
          refine g_chK (fun c1 => ?_) (fun c1 => ?_)
          · wtm_at "go"
            rw [sign_hi]
            rw [c1, Bool.true_and] at k
            exact k
          · rw [c1, Bool.false_and] at k
            exact k
        · wtm_at "go"
          refine g_all (bs := z.cps.toList.map signOk) (SqL.of (by rw [e1, List.map_map]; rfl)) ?_
          rw [List.all_map]
          exact q H1 s1
    | _ => cases hx
theorem ok_is_number (T : Tx K mg) : FnOk P w K mg base CX0 2 T.a_is_number T.d_is_number ["thing"] (sp_is_number K) := by
  refine T.F_is_number.ok sc_is_number (fun vs H Q E h => ?_) (fun cdv A outer s H vs Q E hr h => ?_)
  · obtain ⟨x, d, rfl, _⟩ := h
    rfl
  obtain ⟨x, d, rfl, ht, q⟩ := h
  refine ⟨_, (pss_one (ps_ret (pe_and (pe_call (ok_is_whole T) hr (by rfl) T.g_is_whole T.F_is_whole.kp T.b_is_whole .nil pass0 (pa_cons (pv 0) pa_nil)) (pe_one (pe_cmpR op_ge (pv 0) pe_int (nomark _)))))), ?_⟩
  wtm_at "go"
  refine ⟨x, rfl, ⟨_, dp_tyb ht⟩, ?_⟩
  rw [dp_int ht]
  refine g_andV (fun c => ?_) (fun c => ?_)
  · obtain ⟨i, rfl⟩ := tyD_int (of_decide_eq_true c)
    cases dp_i ht
    wtm_at "go"
    exact q
  · have e : isNumD d = false := by
      cases d <;> first | rfl | exact absurd rfl (of_decide_eq_false c)
    rw [e] at q
    exact q
theorem ok_is_two (T : Tx K mg) : FnOk P w K mg base CX0 1 T.a_is_two T.d_is_two ["thing"] (sp_is_two K) := by
  refine T.F_is_two.ok sc_is_two (fun vs H Q E h => ?_) (fun cdv A outer s H vs Q E hr h => ?_)
  · obtain ⟨x, d, rfl, _⟩ := h
    rfl
  obtain ⟨x, d, rfl, ht, q⟩ := h
  refine ⟨_, (pss_one (ps_ret (pe_and (pe_cmpR my_isTy (pe_callTy call_type1 (by rfl) T.z_type (by decide +kernel) (pa_cons (pv 0) pa_nil)) (pe_bltn (v := .ty "tuple") (by rfl) T.z_tuple (by decide +kernel) rfl) (nomark _)) (pe_one (pe_cmpR op_eq (pe_callB my_len (by rfl) T.z_len PySem.boot_len (pa_cons (pv 0) pa_nil)) pe_int (nomark _)))))), ?_⟩
  have hty := dp_tyb ht
  wtm_at "go"
  refine g_andV (fun c => ?_) (fun c => ?_)
  · obtain ⟨ds, rfl⟩ := tyD_tuple (of_decide_eq_true c)
    obtain ⟨a, xs, rfl, hs, hd⟩ := dp_tuple ht
    wtm_at "go"
    have e : isTwoD (.tuple ds) = decide (V.int (xs.length : Int) = V.int 2) := by
      show decide (ds.length = 2) = _
      rw [dpAll_len hd]
      by_cases h2 : ds.length = 2
      · rw [h2]; rfl
      · rw [decide_eq_false h2, decide_eq_false]
        intro z
        have := V.int.inj z
        omega
    rw [e] at q
    exact q
  · have e : isTwoD d = false := by
      cases d <;> first | rfl | exact absurd rfl (of_decide_eq_false c)
    rw [e] at q
    exact q
theorem ok_is_pair (T : Tx K mg) : FnOk P w K mg base CX0 3 T.a_is_pair T.d_is_pair ["thing", "word"] (sp_is_pair K) := by
  refine T.F_is_pair.ok sc_is_pair (fun vs H Q E h => ?_) (fun cdv A outer s H vs Q E hr h => ?_)
  · obtain ⟨x, d, wd, rfl, _⟩ := h
    rfl
  obtain ⟨x, d, wd, rfl, ht, hf, q⟩ := h
  refine ⟨_, (pss_cons (ps_if (pt_not (pt_val (pe_call (ok_is_two T) (hr.mono (by decide)) (by rfl) T.g_is_two T.F_is_two.kp T.b_is_two .nil pass0 (pa_cons (pv 0) pa_nil))))
      (pss_one (ps_ret pe_bl))
      pss_nil)
    (pss_cons (ps_asg (pv 0) (pg_tup rfl (pgs_cons (pg_name (i := 2) sc_is_pair.nd rfl (Or.inl rfl)) (pgs_cons (pg_name (i := 3) sc_is_pair.nd rfl (Or.inl rfl)) pgs_nil))))
    (pss_cons (ps_if (pt_cmpR op_eq (pv 1) pe_str (nomark _))
      (pss_one (ps_ret (pe_and (pe_call (ok_is_key T) hr (by rfl) T.g_is_key T.F_is_key.kp T.b_is_key .nil pass0 (pa_cons (pv 2) pa_nil)) (pe_one (pe_call (ok_is_value T) (hr.mono (by decide)) (by rfl) T.g_is_value T.F_is_value.kp T.b_is_value .nil pass0 (pa_cons (pv 3) pa_nil))))))
      pss_nil)
    (pss_one (ps_ret (pe_and (pe_call (ok_is_key T) hr (by rfl) T.g_is_key T.F_is_key.kp T.b_is_key .nil pass0 (pa_cons (pv 2) pa_nil)) (pe_one (pe_call (ok_is_number T) hr (by rfl) T.g_is_number T.F_is_number.kp T.b_is_number .nil pass0 (pa_cons (pv 3) pa_nil))))))))), ?_⟩
  wtm_at "go"
  refine ⟨x, d, rfl, ht, ?_⟩
  cases h2 : isTwoD d with
  | false =>
    wtm_at "go"
    refine g_br (fun _ => ?_) (fun c => nomatch c)
    wtm_at "go"
    rw [isPairD_not2 h2] at q
    exact q H (L2.Same.refl H)
  | true =>
    wtm_at "go"
    refine g_br (fun c => nomatch c) (fun _ => ?_)
    obtain ⟨kd, hd, rfl⟩ := isTwoD_two h2
    obtain ⟨a, xs, rfl, hs, ha⟩ := dp_tuple ht
    obtain ⟨k, h, rfl, hk, hh⟩ := dpAll_two ha
    have ep : isPairD wd (.tuple [kd, hd]) = (isKeyD kd && heldD wd hd) := rfl
    rw [ep] at q
    wtm_at "go"
    have thk : Thing0 K H k := ⟨_, dp_tyb hk⟩
    have thh : Thing K H h := ⟨_, dp_tyb hh, fun z e => by
      subst e
      cases hh
      exact hf _ _ rfl⟩
    refine g_br (fun c => ?_) (fun c => ?_)
    · have ew : wd = leafW := by
        have := of_decide_eq_true c
        exact V.str.inj this
      wtm_at "go"
      refine ⟨k, rfl, thk, ?_⟩
      rw [dp_key hk]
      refine g_andV (fun c2 => ?_) (fun c2 => ?_)
      · wtm_at "go"
        refine ⟨h, rfl, thh, fun H1 s1 => ?_⟩
        rw [c2, Bool.true_and, show heldD wd hd = isValD hd from if_pos ew] at q
        rw [dp_val hh]
        exact q H1 s1
      · rw [c2, Bool.false_and] at q
        exact q H (L2.Same.refl H)
    · have ew : ¬ wd = leafW := fun e => of_decide_eq_false c (congrArg V.str e)
      wtm_at "go"
      refine ⟨k, rfl, thk, ?_⟩
      rw [dp_key hk]
      refine g_andV (fun c2 => ?_) (fun c2 => ?_)
      · wtm_at "go"
        refine ⟨h, hd, rfl, hh, ?_⟩
        rw [c2, Bool.true_and, show heldD wd hd = isNumD hd from if_neg ew] at q
        exact q H (L2.Same.refl H)
      · rw [c2, Bool.false_and] at q
        exact q H (L2.Same.refl H)
theorem ok_rises (T : Tx K mg) : FnOk P w K mg base CX0 1 T.a_rises T.d_rises ["pairs"] (sp_risesO K) := by
  refine T.F_rises.ok sc_rises (fun vs H Q E h => ?_) (fun cdv A outer s H vs Q E hr h => ?_)
  · obtain ⟨a, xs, ds, rfl, _⟩ := h
    rfl
  obtain ⟨a, xs, ds, rfl, hs, hd, hl, hk, q⟩ := h
  refine ⟨_, (pss_one (ps_ret (pe_callB (cr_all rfl) (by rfl) T.z_all (by decide +kernel) (pa_cons (pe_lc (own := [("at", 1)]) (g := gName 1) (tt := tYes) rfl sc_rises.nd (pi_range1 (by rfl) T.z_range (pa_cons (pe_op op_sub (pe_callB my_len (by rfl) T.z_len PySem.boot_len (pa_cons (pv 0) pa_nil)) pe_int) pa_nil)) (blkOk_by (own := [("at", 1)]) (N := N_rises) (sc := defScope s_rises) (by decide +kernel)) (fun _ _ _ _ _ => (pg_name (i := 1) sc_rises.nd rfl (Or.inl rfl))) (fun _ _ _ _ _ => pts_nil) (fun _ _ _ _ _ => (pe_cmpR op_lt (pe_ix (ixTK (K := K) rfl) (pe_ix (ixOK (K := K) rfl) (pv 0) (pv 1) (fun _ _ => rfl)) pe_int (fun _ _ => rfl)) (pe_ix (ixTK (K := K) rfl) (pe_ix (ixOK (K := K) rfl) (pv 0) (pe_op op_add (pv 1) pe_int) (fun _ _ => rfl)) pe_int (fun _ _ => rfl)) (nomark _)))) pa_nil)))), ?_⟩
  have lx := dpAll_len hd
  have get : ∀ i : Nat, i < xs.length → ∃ p r, xs[i]? = some (.ref p) ∧ SqT K H p (.int ((ds.map keyD).getD i 0) :: r) := fun i hi => by
    obtain ⟨d, e, hx⟩ := dpAll_get hd i xs[i] (List.getElem?_eq_getElem hi)
    obtain ⟨k, y, rfl⟩ := hk d (List.mem_of_getElem? e)
    obtain ⟨p, zs, ep, hp, hz⟩ := dp_tuple hx
    obtain ⟨k', y', rfl, hk', _⟩ := dpAll_two hz
    cases dp_i hk'
    refine ⟨p, [y'], by rw [List.getElem?_eq_getElem hi, ep], ?_⟩
    rw [List.getD_eq_getElem?_getD, List.getElem?_map, e]
    exact hp
  wtm_at "go"
  refine g_lcR1 (n := (xs.length : Int) - 1) (fun i y H => y = .bl (decide ((ds.map keyD).getD i 0 < (ds.map keyD).getD (i + 1) 0))) (fun R r => by wtm_at "go"; exact r) (by omega) (fun x => rfl)
    (fun i y H1 H2 st e => e) (fun i H1 QE hi s1 k => ?_) (fun p ys H1 n1 s1 e1 hyl hys => ?_)
  · obtain ⟨p1, r1, x1, h1⟩ := get i (by omega)
    obtain ⟨p2, r2, x2, h2⟩ := get (i + 1) (by omega)
    wtm_at "go"
    refine g_ixO (Same.seqO s1 hs) (atI_nat x1) ?_
    wtm_at "go"
    refine g_ixT (Same.seqT s1 h1) (atI_nat (j := 0) rfl) ?_
    wtm_at "go"
    refine g_ixO (Same.seqO s1 hs) (atI_nat (j := i + 1) x2) ?_
    wtm_at "go"
    refine g_ixT (Same.seqT s1 h2) (atI_nat (j := 0) rfl) ?_
    wtm_at "go"
    exact k _ H1 (L2.Same.refl _) rfl
  · wtm_at "go"
    have ey : ys = ((List.range (ds.length - 1)).map fun i => decide ((ds.map keyD).getD i 0 < (ds.map keyD).getD (i + 1) 0)).map V.bl := by
      refine list_eq (by rw [hyl, List.length_map, List.length_map, List.length_range]; omega) fun i y hy => ?_
      have hi := (List.getElem?_eq_some_iff.mp hy).1
      rw [hys i y hy, List.map_map, List.getElem?_map, List.getElem?_range (by omega)]
      rfl
    subst ey
    refine g_all (SqL.of e1) ?_
    rw [List.all_map]
    have e2 : risesI (ds.map keyD) = (List.range (ds.length - 1)).all (id ∘ fun i => decide ((ds.map keyD).getD i 0 < (ds.map keyD).getD (i + 1) 0)) := by
      unfold risesI
      rw [List.length_map]
      rfl
    rw [← e2]
    exact q H1 s1
theorem ok_is_block (T : Tx K mg) : FnOk P w K mg base CX0 4 T.a_is_block T.d_is_block ["thing", "least", "most"] (sp_is_block K) := by
  refine T.F_is_block.ok sc_is_block (fun vs H Q E h => ?_) (fun cdv A outer s H vs Q E hr h => ?_)
  · obtain ⟨x, d, l, m, rfl, _⟩ := h
    rfl
  obtain ⟨x, d, l, m, rfl, ht, hf, q⟩ := h
  refine ⟨_, (pss_cons (ps_if (pt_not (pt_val (pe_call (ok_is_two T) (hr.mono (by decide)) (by rfl) T.g_is_two T.F_is_two.kp T.b_is_two .nil pass0 (pa_cons (pv 0) pa_nil))))
      (pss_one (ps_ret pe_bl))
      pss_nil)
    (pss_cons (ps_asg (pv 0) (pg_tup rfl (pgs_cons (pg_name (i := 3) sc_is_block.nd rfl (Or.inr rfl)) (pgs_cons (pg_name (i := 4) sc_is_block.nd rfl (Or.inl rfl)) pgs_nil))))
    (pss_cons (ps_if (pw_or (pt_cmpR op_notTyB (pe_callTy call_type1 (by rfl) T.z_type (by decide +kernel) (pa_cons (pv 3) pa_nil)) (pe_bltn (v := .ty "str") (by rfl) T.z_str (by decide +kernel) rfl) (nomark _)) (pw_or1 (pt_cmpR op_notIn_seq (pv 3) (pe_tup (pa_cons pe_str (pa_cons pe_str pa_nil))) (by with_unfolding_all rfl)))).pt
      (pss_one (ps_ret pe_bl))
      pss_nil)
    (pss_cons (ps_if (pw_or (pt_cmpR op_notTyB (pe_callTy call_type1 (by rfl) T.z_type (by decide +kernel) (pa_cons (pv 4) pa_nil)) (pe_bltn (v := .ty "tuple") (by rfl) T.z_tuple (by decide +kernel) rfl) (nomark _)) (pw_or1 (pt_not (pt_chain op_le op_le (pv 1) (pe_callB my_len (by rfl) T.z_len PySem.boot_len (pa_cons (pv 4) pa_nil)) (pv 2))))).pt
      (pss_one (ps_ret pe_bl))
      pss_nil)
    (pss_one (ps_ret (pe_and (pe_callB (cr_all rfl) (by rfl) T.z_all (by decide +kernel) (pa_cons (pe_lc (own := [("pair", 5)]) (g := gName 5) (tt := tYes) rfl sc_is_block.nd (pi_tup (pv 4)) (blkOk_by (own := [("pair", 5)]) (N := N_is_block) (sc := defScope s_is_block) (by decide +kernel)) (fun _ _ _ _ _ => (pg_name (i := 5) sc_is_block.nd rfl (Or.inl rfl))) (fun _ _ _ _ _ => pts_nil) (fun _ _ _ _ _ => (pe_call (ok_is_pair T) hr (by rfl) T.g_is_pair T.F_is_pair.kp T.b_is_pair .nil pass0 (pa_cons (pv 5) (pa_cons (pv 3) pa_nil))))) pa_nil)) (pe_one (pe_call (ok_rises T) (hr.mono (by decide)) (by rfl) T.g_rises T.F_rises.kp T.b_rises .nil pass0 (pa_cons (pv 4) pa_nil)))))))))), ?_⟩
  wtm_at "go"
  refine ⟨x, d, rfl, ht, ?_⟩
  cases h2 : isTwoD d with
  | false =>
    wtm_at "go"
    refine g_br (fun _ => ?_) (fun c => nomatch c)
    wtm_at "go"
    rw [isBlockD_not2 h2] at q
    exact q H (L2.Same.refl H)
  | true =>
    wtm_at "go"
    refine g_br (fun c => nomatch c) (fun _ => ?_)
    obtain ⟨wd, pd, rfl⟩ := isTwoD_two h2
    obtain ⟨a, xs, rfl, hs, ha⟩ := dp_tuple ht
    obtain ⟨wv, pv', rfl, hw, hp⟩ := dpAll_two ha
    have tw := dp_tyb hw
    have tp := dp_tyb hp
    wtm_at "go"
    cases cw : decide (tyD wd = "str") with
    | false =>
      refine g_orK (fun _ => ?_) (fun c => nomatch c)
      wtm_at "go"
      rw [isBlockD_word (of_decide_eq_false cw)] at q
      exact q H (L2.Same.refl H)
    | true =>
      refine g_orK (fun c => nomatch c) (fun _ => ?_)
      obtain ⟨ws, rfl⟩ := tyD_str (of_decide_eq_true cw)
      cases dp_str hw
      wtm_at "go"
      refine g_tupK (by wtm_at "ln") fun p1 H1 n1 s1 e1 => ?_
      refine g_in (.inr (SqT.of e1)) rfl rfl ?_
      have ew : (if true = true then !inV (.str ws) [V.str (Str.ofString "leaf"), V.str (Str.ofString "branch")] else inV (.str ws) [V.str (Str.ofString "leaf"), V.str (Str.ofString "branch")]) = !(decide (ws = leafW) || decide (ws = branchW)) := by
        rw [if_pos rfl]
        unfold inV
        rw [List.any_cons, List.any_cons, List.any_nil, Bool.or_false]
        show (!(decide (leafW = ws) || decide (branchW = ws))) = _
        rw [show decide (leafW = ws) = decide (ws = leafW) from decide_eq_decide.mpr eq_comm, show decide (branchW = ws) = decide (ws = branchW) from decide_eq_decide.mpr eq_comm]
      rw [ew]
      wtm_at "go"
      cases cb : (decide (ws = leafW) || decide (ws = branchW)) with
      | false =>
        refine g_br (fun _ => ?_) (fun c => nomatch c)
        wtm_at "go"
        have e : isBlockD l m (.tuple [.str ws, pd]) = false := by
          cases pd <;> first | rfl | (show ((decide (ws = leafW) || decide (ws = branchW)) && _ && _) = false; rw [cb]; rfl)
        rw [e] at q
        exact q H1 s1
      | true =>
        refine g_br (fun c => nomatch c) (fun _ => ?_)
        have tp1 := dp_tyb (Dp.go s1 hp)
        wtm_at "go"
        cases cp : decide (tyD pd = "tuple") with
        | false =>
          refine g_orK (fun _ => ?_) (fun c => nomatch c)
          wtm_at "go"
          rw [isBlockD_pairs (of_decide_eq_false cp)] at q
          exact q H1 s1
        | true =>
          refine g_orK (fun c => nomatch c) (fun _ => ?_)
          obtain ⟨ps, rfl⟩ := tyD_tuple (of_decide_eq_true cp)
          obtain ⟨b, ys, rfl, hb, hd⟩ := dp_tuple (Dp.go s1 hp)
          obtain ⟨hlen, hfit⟩ := hf _ _ rfl
          have ly := dpAll_len hd
          have ebl : isBlockD l m (.tuple [.str ws, .tuple ps]) = ((decide (l ≤ (ps.length : Int)) && decide ((ps.length : Int) ≤ m)) && (ps.all (isPairD ws) && risesI (ps.map keyD))) := by
            show ((decide (ws = leafW) || decide (ws = branchW)) && _ && _) = _
            rw [cb, Bool.true_and]
          rw [ebl, ← ly] at q
          wtm_at "go"
          have fin : ∀ H2, Same H1 H2 → (decide (l ≤ (ys.length : Int)) && decide ((ys.length : Int) ≤ m)) = false → Q (.bl false) H2 := fun H2 s2 c => by
            rw [c, Bool.false_and] at q
            exact q H2 (s1.trans s2)
          refine g_chK (fun c1 => ?_) (fun c1 => ?_)
          · wtm_at "go"
            refine g_br (fun c2 => ?_) (fun c2 => ?_)
            · wtm_at "go"
              refine fin H1 (L2.Same.refl H1) ?_
              rw [c1, Bool.true_and]
              simpa using c2
            · have c3 : decide ((ys.length : Int) ≤ m) = true := by simpa using c2
              rw [c1, c3, Bool.true_and, Bool.true_and] at q
              wtm_at "go"
              refine g_lcT (xs := ys) (fun i y H => ∃ d, ps[i]? = some d ∧ y = .bl (isPairD ws d)) (fun R r => by wtm_at "go"; exact r) hb (by omega) (fun x => rfl)
                (fun i y H1 H2 st e => e) (fun i x H2 QE hx s2 k => ?_) (fun p2 zs H2 n2 s2 e2 hzl hzs => ?_)
              · obtain ⟨d, hd1, hd2⟩ := dpAll_get hd i x hx
                wtm_at "go"
                refine ⟨x, d, ws, rfl, Dp.go s2 hd2, hfit d (List.mem_of_getElem? hd1), fun H3 s3 => ?_⟩
                exact k _ H3 s3 ⟨d, hd1, rfl⟩
              · have ez : zs = (ps.map (isPairD ws)).map V.bl := bools_of (by rw [hzl, ly]) hzs
                subst ez
                wtm_at "go"
                refine g_all (SqL.of e2) ?_
                have ea : (ps.map (isPairD ws)).all id = ps.all (isPairD ws) := by rw [List.all_map]; rfl
                rw [ea]
                refine g_andV (fun c4 => ?_) (fun c4 => ?_)
                · wtm_at "go"
                  refine ⟨b, ys, ps, rfl, .inr (Same.seqT s2 hb), DpAll.go s2 hd, by omega, fun d hd5 => isPairD_key (List.all_eq_true.mp c4 d hd5), fun H3 s3 => ?_⟩
                  rw [c4, Bool.true_and] at q
                  exact q H3 (s1.trans (s2.trans s3))
                · rw [c4, Bool.false_and] at q
                  exact q H2 (s1.trans s2)
          · wtm_at "go"
            refine g_br (fun c2 => ?_) (fun c2 => nomatch c2)
            wtm_at "go"
            refine fin H1 (L2.Same.refl H1) ?_
            rw [c1, Bool.false_and]
local macro_rules | `(tactic| wtm_at "wk") => `(tactic| first
  | with_reducible refine g_for ?_
  | with_reducible refine g_lcO ?_
  | with_reducible refine g_wL ?_
  | with_reducible refine g_wT ?_
  | with_reducible refine g_wR1 ?_
  | with_reducible refine g_wR2 ?_
  | with_reducible refine g_wE ?_
  | with_reducible refine g_lc2O ?_)

theorem ok_row_of (T : Tx K mg) : FnOk P w K mg base CX0 1 T.a_row_of T.d_row_of ["level"] (sp_row_of K) := by
  refine T.F_row_of.ok sc_row_of (fun vs H Q E h => ?_) (fun cdv A outer s H vs Q E hr h => ?_)
  · obtain ⟨l, xs, L, rfl, _⟩ := h
    rfl
  obtain ⟨l, xs, L, rfl, hl, hd, hlen, q⟩ := h
  refine ⟨_, (pss_one (ps_ret (pe_lc2 (own := [("word", 1), ("pairs", 2), ("pair", 3)]) (vs1 := [3]) (g := gTup K 2 (gCons (gName 1) (gCons (gName 2) gNil))) (tt := tYes) (wi1 := iTup K (tVar 2)) (g1 := gName 3) (tt1 := tYes) rfl sc_row_of.nd (pi_list (pv 0)) (blkOk_by (own := [("word", 1), ("pairs", 2), ("pair", 3)]) (N := N_row_of) (sc := defScope s_row_of) (by decide +kernel)) (by decide) (fun _ _ _ _ _ => (pg_tup rfl (pgs_cons (pg_name (i := 1) sc_row_of.nd rfl (Or.inl rfl)) (pgs_cons (pg_name (i := 2) sc_row_of.nd rfl (Or.inl rfl)) pgs_nil)))) (fun _ _ _ _ _ => pts_nil) (fun _ _ _ _ _ => (pi_tup (pv 2))) (fun _ _ _ _ _ => (pg_name (i := 3) sc_row_of.nd rfl (Or.inl rfl))) (fun _ _ _ _ _ => pts_nil) (fun _ _ _ _ _ => (pv 3))))), ?_⟩
  have lx := dpAll_len hd
  unfold lsD at lx
  rw [List.length_map] at lx
  refine g_ret ?_
  wtm_at "red"
  refine g_lc2O (g_wL (g_var rfl (g_wLk hl ?_)))
  refine g_lc2W (walk_list (xs := xs)) (fun D i H' => Same H H' ∧ ∃ ys, H' D = some (.lst ys) ∧ DpAll K H ys (rowD (rowT (L.take i)))) (fun D hD => ⟨Same.new hD _, [], upd_same, .nil⟩) (fun D i H' _ h => L2.Same.seq h.1 hl) (fun D i x H1 H2 hD hi hp hy => ?_) (fun D H' hD hp => ?_)
  · obtain ⟨s1, ys, e1, d1⟩ := hp
    obtain ⟨rfl, hx⟩ := hy
    obtain ⟨b, hb, hbx⟩ := dpAll_at' (f := TB.D) hd hx
    have et : L.take (i + 1) = L.take i ++ [b] := by rw [List.take_add_one, hb]; rfl
    have er : rowT (L.take (i + 1)) = rowT (L.take i) ++ b.ps := by rw [et]; unfold rowT; rw [List.flatMap_append]; simp
    have hle : (rowT (L.take (i + 1))).length ≤ (rowT L).length := by
      have e : rowT L = rowT (L.take (i + 1)) ++ rowT (L.drop (i + 1)) := by
        unfold rowT
        rw [← List.flatMap_append, List.take_append_drop]
      rw [e, List.length_append]
      omega
    rw [er, List.length_append] at hle
    obtain ⟨ta, tp, zs, rfl, h1, h2, h3⟩ := dp_blk hbx
    have lz := dpAll_len h3
    unfold rowD at lz
    rw [List.length_map] at lz
    refine g_gtup (Same.seqT s1 h1) rfl ?_
    refine g_gcons (g_name (g_gcons (g_name (g_gnil ⟨rfl, ?_⟩))))
    refine g_wT (g_var rfl (g_wTk (Same.seqT s1 h2) ?_))
    refine g_inW (walk_tup (xs := zs)) (fun j H' => Same H H' ∧ ∃ ys, H' D = some (.lst ys) ∧ DpAll K H ys (rowD (rowT (L.take i) ++ b.ps.take j))) ⟨s1, ys, e1, by rw [List.take_zero, List.append_nil]; exact d1⟩ (fun j H' _ h => Same.seqT h.1 h2) (fun j y H3 H4 hj hp hy => ?_) (fun H' hp => ?_)
    · obtain ⟨s3, ys3, e3, d3⟩ := hp
      obtain ⟨rfl, hy⟩ := hy
      obtain ⟨p, hp, hpy⟩ := dpAll_at' (f := pairD) h3 hy
      have et2 : b.ps.take (j + 1) = b.ps.take j ++ [p] := by rw [List.take_add_one, hp]; rfl
      have ly := dpAll_len d3
      unfold rowD at ly
      rw [List.length_map, List.length_append, List.length_take] at ly
      refine g_name ⟨rfl, ?_⟩
      refine g_var rfl ⟨ys3, e3, Evl.sz_lt (by omega), fun o ob h => ?_, ys3 ++ [y], upd_same, ?_⟩
      · rw [upd_ne (ne_of_none h hD)]
        exact s3 _ _ h
      · rw [et2, ← List.append_assoc]
        show DpAll K H _ (List.map pairD _)
        rw [List.map_append]
        exact dpAll_app d3 (.cons hpy .nil)
    · obtain ⟨s3, ys3, e3, d3⟩ := hp
      rw [lz, List.take_length, ← er] at d3
      exact ⟨s3, ys3, e3, d3⟩
  · obtain ⟨s1, ys, e1, d1⟩ := hp
    rw [lx, List.take_length] at d1
    exact q D ys H' hD s1 e1 (DpAll.go s1 d1)
theorem ok_named (T : Tx K mg) : FnOk P w K mg base CX0 1 T.a_named T.d_named ["blocks", "pairs"] (sp_named K) := by
  refine T.F_named.ok sc_named (fun vs H Q E h => ?_) (fun cdv A outer s H vs Q E hr h => ?_)
  · obtain ⟨b, p, m, xs, P, rfl, _⟩ := h
    rfl
  obtain ⟨b, p, m, xs, P, rfl, hb, hx, hd, hP, hlen, q⟩ := h
  refine ⟨_, (pss_one (ps_ret (pe_lc (own := [("key", 2), ("number", 3)]) (g := gTup K 2 (gCons (gName 2) (gCons (gName 3) gNil))) (tt := tYes) rfl sc_named.nd (pi_seq (pv 1)) (blkOk_by (own := [("key", 2), ("number", 3)]) (N := N_named) (sc := defScope s_named) (by decide +kernel)) (fun _ _ _ _ _ => (pg_tup rfl (pgs_cons (pg_name (i := 2) sc_named.nd rfl (Or.inl rfl)) (pgs_cons (pg_name (i := 3) sc_named.nd rfl (Or.inl rfl)) pgs_nil)))) (fun _ _ _ _ _ => pts_nil) (fun _ _ _ _ _ => (pe_dget (hu_of hr) (pv 0) (pv 3) (fun _ _ => rfl)))))), ?_⟩
  have lx := dpAll_len hd
  unfold rowD at lx
  rw [List.length_map] at lx
  refine g_ret ?_
  wtm_at "red"
  refine g_lcO (g_seqW hx (fun S h => g_var rfl h) fun {J G} W hG => ?_)
  intro D hD
  refine lc_it W (fun i H' => Same H H' ∧ ∃ ys, H' D = some (.lst ys) ∧ DpAll K H ys ((P.take i).map fun q => blockAt m (numD q.2))) ⟨Same.new hD _, [], upd_same, .nil⟩ (fun i H' _ h => hG H' h.1) (fun i x H1 H2 hi hp hy => ?_) (fun H' hp => ?_)
  · obtain ⟨s1, ys, e1, d1⟩ := hp
    obtain ⟨rfl, hx'⟩ := hy
    obtain ⟨pr, hpr, hpx⟩ := dpAll_at' (f := pairD) hd hx'
    have et : P.take (i + 1) = P.take i ++ [pr] := by rw [List.take_add_one, hpr]; rfl
    obtain ⟨n, en, hn⟩ := hP pr (List.mem_of_getElem? hpr)
    obtain ⟨ta, y, rfl, ht, hy⟩ := dp_pair hpx
    rw [en] at hy
    cases dp_i hy
    have ly := dpAll_len d1
    rw [List.length_map, List.length_take] at ly
    have eb : getA m n = some (blockAt m n) := by
      unfold blockAt
      cases e : getA m n with
      | some d => rfl
      | none => rw [e] at hn; cases hn
    refine g_gtup (Same.seqT s1 ht) rfl ?_
    refine g_gcons (g_name (g_gcons (g_name (g_gnil ⟨rfl, ?_⟩))))
    refine g_dget (g_var rfl (g_var rfl ?_))
    obtain ⟨kvs, hk1, hk2⟩ := id hb
    rcases hk2.val n with ⟨e2, _⟩ | ⟨v, d', e2, e3, hv⟩
    · rw [eb] at e2
      cases e2
    · rw [eb] at e2
      cases Option.some.inj e2
      refine ⟨b, v, rfl, by rw [← e3]; exact DdAll.dget (s1 _ _ hk1) n, ys, e1, Evl.sz_lt (by omega), fun o ob h => ?_, ys ++ [v], upd_same, ?_⟩
      · rw [upd_ne (ne_of_none h hD)]
        exact s1 _ _ h
      · rw [et, List.map_append]
        refine dpAll_app d1 (.cons ?_ .nil)
        show Dp K H v (blockAt m (numD pr.2))
        rw [en]
        exact hv
  · obtain ⟨s1, ys, e1, d1⟩ := hp
    rw [lx, List.take_length] at d1
    exact q D ys H' hD s1 e1 (DpAll.go s1 d1)
theorem ok_all_are (T : Tx K mg) : FnOk P w K mg base CX0 1 T.a_all_are T.d_all_are ["word", "level"] (sp_all_are K) := by
  refine T.F_all_are.ok sc_all_are (fun vs H Q E h => ?_) (fun cdv A outer s H vs Q E hr h => ?_)
  · obtain ⟨wd, l, xs, L, rfl, _⟩ := h
    rfl
  obtain ⟨wd, l, xs, L, rfl, hl, hd, hlen, q⟩ := h
  refine ⟨_, (pss_one (ps_ret (pe_callB (cr_all rfl) (by rfl) T.z_all (by decide +kernel) (pa_cons (pe_lc (own := [("block", 2)]) (g := gName 2) (tt := tYes) rfl sc_all_are.nd (pi_list (pv 1)) (blkOk_by (own := [("block", 2)]) (N := N_all_are) (sc := defScope s_all_are) (by decide +kernel)) (fun _ _ _ _ _ => (pg_name (i := 2) sc_all_are.nd rfl (Or.inl rfl))) (fun _ _ _ _ _ => pts_nil) (fun _ _ _ _ _ => (pe_cmpR op_eq (pe_ix (ixTK (K := K) rfl) (pv 2) pe_int (fun _ _ => rfl)) (pv 0) (nomark _)))) pa_nil)))), ?_⟩
  have lx := dpAll_len hd
  unfold lsD at lx
  rw [List.length_map] at lx
  wtm_at "go"
  refine g_lcLk (fun i y H => ∃ b, L[i]? = some b ∧ y = .bl (decide (wordT b.lf = wd))) hl (by omega) (fun x => rfl) (fun i y H1 H2 st e => e) (fun i x H1 QE hx s1 k => ?_) (fun p ys H1 n1 s1 e1 hyl hys => ?_)
  · obtain ⟨b, hb, hbx⟩ := dpAll_at' (f := TB.D) hd hx
    obtain ⟨ta, tp, zs, rfl, h1, h2, h3⟩ := dp_blk hbx
    wtm_at "go"
    refine g_ixT (Same.seqT s1 h1) (atI_nat (j := 0) rfl) ?_
    wtm_at "go"
    refine k _ H1 (L2.Same.refl _) ⟨b, hb, ?_⟩
    congr 1
    exact decide_eq_decide.mpr ⟨V.str.inj, congrArg V.str⟩
  · have ey : ys = (L.map fun b => decide (wordT b.lf = wd)).map V.bl := by
      refine list_eq (by rw [hyl, List.length_map, List.length_map, lx]) fun i y hy => ?_
      obtain ⟨b, hb, rfl⟩ := hys i y hy
      rw [List.getElem?_map, List.getElem?_map, hb]
      rfl
    subst ey
    wtm_at "go"
    refine g_all (SqL.of e1) ?_
    rw [List.all_map]
    exact q H1 s1
theorem ok_half (T : Tx K mg) : FnOk P w K mg base CX0 1 T.a_half T.d_half ["width"] sp_half := by
  refine T.F_half.ok sc_half (fun vs H Q E h => ?_) (fun cdv A outer s H vs Q E hr h => ?_)
  · obtain ⟨w, rfl, _⟩ := h
    rfl
  obtain ⟨w, rfl, q⟩ := h
  refine ⟨_, (pss_one (ps_ret (pe_op op_fdiv (pe_op op_add (pv 0) pe_int) pe_int))), ?_⟩
  wtm_at "go"
  exact q
theorem ok_is_root (T : Tx K mg) : FnOk P w K mg base CX0 5 T.a_is_root T.d_is_root ["thing", "width"] (sp_is_root K) := by
  refine T.F_is_root.ok sc_is_root (fun vs H Q E h => ?_) (fun cdv A outer s H vs Q E hr h => ?_)
  · obtain ⟨x, d, w, rfl, _⟩ := h
    rfl
  obtain ⟨x, d, w, rfl, hx, hf, q⟩ := h
  refine ⟨_, (pss_cons (ps_if (pt_not (pt_val (pe_call (ok_is_block T) hr (by rfl) T.g_is_block T.F_is_block.kp T.b_is_block .nil pass0 (pa_cons (pv 0) (pa_cons pe_int (pa_cons (pv 1) pa_nil))))))
      (pss_one (ps_ret pe_bl))
      pss_nil)
    (pss_cons (ps_asg (pv 0) (pg_tup rfl (pgs_cons (pg_name (i := 2) sc_is_root.nd rfl (Or.inl rfl)) (pgs_cons (pg_name (i := 3) sc_is_root.nd rfl (Or.inl rfl)) pgs_nil))))
    (pss_one (ps_ret (pe_or (pe_cmpR op_eq (pv 2) pe_str (nomark _)) (pe_one (pe_cmpR op_ge (pe_callB my_len (by rfl) T.z_len PySem.boot_len (pa_cons (pv 3) pa_nil)) pe_int (nomark _)))))))), ?_⟩
  wtm_at "go"
  refine ⟨x, d, 0, w, rfl, hx, hf, fun H1 s1 => ?_⟩
  cases e : isBlockD 0 w d with
  | false =>
    wtm_at "go"
    refine g_br (fun _ => ?_) (fun c => nomatch c)
    wtm_at "go"
    have := q H1 s1
    unfold rootD at this
    rw [e, Bool.false_and] at this
    exact this
  | true =>
    have hform := isBlockD_form e
    wtm_at "go"
    refine g_br (fun c => nomatch c) (fun _ => ?_)
    rw [hform] at hx
    have hq := q H1 s1
    unfold rootD at hq
    rw [e, Bool.true_and] at hq
    generalize toTB d = b at hx hq
    obtain ⟨ta, tp, ys, rfl, h1, h2, h3⟩ := dp_blk (Dp.go s1 hx)
    have ly := dpAll_len h3
    unfold rowD at ly
    rw [List.length_map] at ly
    wtm_at "go"
    have ew : decide (V.str (wordT b.lf) = V.str (Str.ofString "leaf")) = b.lf := (decide_eq_decide.mpr ⟨V.str.inj, congrArg V.str⟩).trans word_lf
    rw [ew]
    refine g_orV (fun c => ?_) (fun c => ?_)
    · rw [c, Bool.true_or] at hq
      exact hq
    · rw [c, Bool.false_or, ← ly] at hq
      wtm_at "go"
      have e2 : decide ((ys.length : Int) ≥ 2) = decide (2 ≤ ys.length) := decide_eq_decide.mpr ⟨fun h => by omega, fun h => by omega⟩
      rw [e2]
      exact hq
theorem ok_fits (T : Tx K mg) : FnOk P w K mg base CX0 5 T.a_fits T.d_fits ["thing", "width", "key"] (sp_fits K) := by
  refine T.F_fits.ok sc_fits (fun vs H Q E h => ?_) (fun cdv A outer s H vs Q E hr h => ?_)
  · obtain ⟨x, d, w, key, rfl, _⟩ := h
    rfl
  obtain ⟨x, d, w, key, rfl, hx, hf, hw, q⟩ := h
  refine ⟨_, (pss_cons (ps_if (pt_not (pt_val (pe_call (ok_is_block T) hr (by rfl) T.g_is_block T.F_is_block.kp T.b_is_block .nil pass0 (pa_cons (pv 0) (pa_cons (pe_call (ok_half T) (hr.mono (by decide)) (by rfl) T.g_half T.F_half.kp T.b_half .nil pass0 (pa_cons (pv 1) pa_nil)) (pa_cons (pv 1) pa_nil))))))
      (pss_one (ps_ret pe_bl))
      pss_nil)
    (pss_cons (ps_asg (pv 0) (pg_tup rfl (pgs_cons (pg_name (i := 3) sc_fits.nd rfl (Or.inl rfl)) (pgs_cons (pg_name (i := 4) sc_fits.nd rfl (Or.inl rfl)) pgs_nil))))
    (pss_one (ps_ret (pe_cmpR op_eq (pe_ix ix_tup (pe_ix ix_tup (pv 4) pe_int (fun _ _ => rfl)) pe_int (fun _ _ => rfl)) (pv 2) (nomark _)))))), ?_⟩
  wtm_at "go"
  refine ⟨w, rfl, ?_⟩
  wtm_at "go"
  refine ⟨x, d, halfI w, w, rfl, hx, hf, fun H1 s1 => ?_⟩
  have hq := q H1 s1
  unfold fitsD at hq
  cases e : isBlockD (halfI w) w d with
  | false =>
    rw [e, Bool.false_and] at hq
    wtm_at "go"
    refine g_br (fun _ => ?_) (fun c => nomatch c)
    wtm_at "go"
    exact hq
  | true =>
    obtain ⟨hform, hok⟩ := isBlockD_iff.mp e
    rw [e, Bool.true_and] at hq
    wtm_at "go"
    refine g_br (fun c => nomatch c) (fun _ => ?_)
    rw [hform] at hx
    generalize toTB d = b at hx hq hok
    obtain ⟨ta, tp, ys, rfl, h1, h2, h3⟩ := dp_blk (Dp.go s1 hx)
    have hne : b.ps ≠ [] := fun z => by
      have := hok.1
      unfold halfI at this
      rw [z, List.length_nil] at this
      omega
    obtain ⟨lf, ps⟩ := b
    cases ps with
    | nil => exact absurd rfl hne
    | cons p ps =>
      cases h3 with
      | cons hp hr3 =>
        obtain ⟨tb, y, rfl, ht, hy⟩ := dp_pair hp
        wtm_at "go"
        refine g_ixT h2 (atI_nat (j := 0) rfl) ?_
        wtm_at "go"
        refine g_ixT ht (atI_nat (j := 0) rfl) ?_
        wtm_at "go"
        have e2 : decide (V.int p.1 = V.int key) = decide (firstK ⟨lf, p :: ps⟩ = key) := decide_eq_decide.mpr ⟨V.int.inj, congrArg V.int⟩
        rw [e2]
        exact hq
theorem ok_sound (T : Tx K mg) : FnOk P w K mg base CX0 6 T.a_sound T.d_sound ["blocks", "width"] (sp_sound K) := by
  refine T.F_sound.ok sc_sound (fun vs H Q E h => ?_) (fun cdv A outer s H vs Q E hr h => ?_)
  · obtain ⟨b, m, w, rfl, _⟩ := h
    rfl
  obtain ⟨b, m, w, rfl, hb, nd, hfit, hsz, hw, hw2, q⟩ := h
  refine ⟨_, (pss_cons (ps_if (pt_not (pt_val (pe_call (ok_is_root T) hr (by rfl) T.g_is_root T.F_is_root.kp T.b_is_root .nil pass0 (pa_cons (pe_dget1 (hu_of hr) (pv 0) pe_int ⟨rfl, rfl, rfl, rfl⟩) (pa_cons (pv 1) pa_nil)))))
      (pss_one (ps_ret pe_bl))
      pss_nil)
    (pss_cons (ps_set (i := 2) sc_sound.nd rfl (Or.inl rfl) (pe_lst (pa_cons (pe_dget (hu_of hr) (pv 0) pe_int (fun _ _ => rfl)) pa_nil)))
    (pss_cons (ps_set (i := 3) sc_sound.nd rfl (Or.inl rfl) (pe_disp (pps_cons pe_int pe_bl pps_nil) (by rfl) (by rfl) (fun z => by cases z) (by decide)))
    (pss_cons (ps_while PassesOwn.never (pt_val (pe_call (ok_all_are T) (hr.mono (by decide)) (by rfl) T.g_all_are T.F_all_are.kp T.b_all_are .nil pass0 (pa_cons pe_str (pa_cons (pv 2) pa_nil))))
      (pss_cons (ps_set (i := 4) sc_sound.nd rfl (Or.inl rfl) (pe_call (ok_row_of T) (hr.mono (by decide)) (by rfl) T.g_row_of T.F_row_of.kp T.b_row_of .nil pass0 (pa_cons (pv 2) pa_nil)))
      (pss_cons (ps_for PassesOwn.never rfl (pi_list (pv 4)) (pg_tup rfl (pgs_cons (pg_name (i := 5) sc_sound.nd rfl (Or.inl rfl)) (pgs_cons (pg_name (i := 6) sc_sound.nd rfl (Or.inl rfl)) pgs_nil)))
        (pss_cons (ps_if (pw_or (pt_cmp (pc_din (hu_of hr) (pv 6) (pv 3))) (pw_or1 (pt_not (pt_val (pe_call (ok_fits T) hr (by rfl) T.g_fits T.F_fits.kp T.b_fits .nil pass0 (pa_cons (pe_dget1 (hu_of hr) (pv 0) (pv 6) ⟨rfl, rfl, rfl, rfl⟩) (pa_cons (pv 1) (pa_cons (pv 5) pa_nil)))))))).pt
          (pss_one (ps_ret pe_bl))
          pss_nil)
        (pss_one (ps_dput (hu_of hr) (pv 3) (pv 6) pe_bl rfl))))
      (pss_one (ps_set (i := 2) sc_sound.nd rfl (Or.inl rfl) (pe_call (ok_named T) (hr.mono (by decide)) (by rfl) T.g_named T.F_named.kp T.b_named .nil pass0 (pa_cons (pv 0) (pa_cons (pv 4) pa_nil))))))))
    (pss_one (ps_ret (pe_and (pe_call (ok_all_are T) (hr.mono (by decide)) (by rfl) T.g_all_are T.F_all_are.kp T.b_all_are .nil pass0 (pa_cons pe_str (pa_cons (pv 2) pa_nil))) (pe_and (pe_call (ok_rises T) (hr.mono (by decide)) (by rfl) T.g_rises T.F_rises.kp T.b_rises .nil pass0 (pa_cons (pe_call (ok_row_of T) (hr.mono (by decide)) (by rfl) T.g_row_of T.F_row_of.kp T.b_row_of .nil pass0 (pa_cons (pv 2) pa_nil)) pa_nil)) (pe_one (pe_cmpR op_eq (pe_callB my_lenD (by rfl) T.z_len PySem.boot_len (pa_cons (pv 3) pa_nil)) (pe_callB my_lenD (by rfl) T.z_len PySem.boot_len (pa_cons (pv 0) pa_nil)) (nomark _))))))))))), ?_⟩
  have fit : ∀ n, FitB (blockAt m n) := fun n => by
    unfold blockAt
    cases e : getA m n with
    | none => exact fun w ps e => nomatch e
    | some d => exact hfit _ (getA_mem e)
  wtm_at "go"
  refine g_rDGet1 hb (fun R r => by wtm_at "go"; exact r) fun v hv => ?_
  wtm_at "go"
  refine ⟨v, _, w, rfl, hv, fit 0, fun H1 s1 => ?_⟩
  have hq : ∀ H', Same H H' → ∀ c, c = soundD m w → Q (.bl c) H' := fun H' s c e => e ▸ q H' s
  have eD : soundD m w = (rootD w (blockAt m 0) && soundL m w (m.length + 1) [0] [toTB (blockAt m 0)]) := rfl
  show isB _ (.bl (rootD w (blockAt m 0))) H1
  cases hroot : rootD w (blockAt m 0) with
  | false =>
    rw [hroot, Bool.false_and] at eD
    wtm_at "go"
    refine g_br (fun _ => ?_) (fun c => nomatch c)
    wtm_at "go"
    exact hq H1 s1 _ eD.symm
  | true =>
    rw [hroot, Bool.true_and] at eD
    wtm_at "go"
    refine g_br (fun c => nomatch c) (fun _ => ?_)
    have hroot' := hroot
    unfold rootD at hroot'
    rw [Bool.and_eq_true] at hroot'
    obtain ⟨form0, ok0⟩ := isBlockD_iff.mp hroot'.1
    have g0 := blockAt_some hroot'.1
    wtm_at "go"
    refine g_rDGet (hb.go s1) g0 fun v0 hv0 => ?_
    wtm_at "go"
    refine g_lstK (by wtm_at "ln") fun lv H2 n2 s2 e2 => ?_
    wtm_at "go"
    intro rc nrc
    refine ⟨upd_same, [(.inl 0, .bl true)], rfl, by decide, ?_⟩
    have erc : upd (upd H2 rc (.dK [])) rc (.dK (mergeK [] [(.inl 0, .bl true)])) = upd H2 rc (.dK [(.inl 0, .bl true)]) := by rw [upd_upd]; rfl
    rw [erc]
    have s3 : Same H2 (upd H2 rc (.dK [(.inl 0, .bl true)])) := Same.new nrc _
    have e3 : upd H2 rc (.dK [(.inl 0, .bl true)]) rc = some (.dK [(.inl 0, .bl true)]) := upd_same
    generalize upd H2 rc (.dK [(.inl 0, .bl true)]) = H3 at s3 e3
    have nrcH : H rc = none := s1.free (s2.free nrc)
    have s03 : Same H H3 := s1.trans (s2.trans s3)
    have hwn : ∀ c : TB, (∃ l, okT l w c) → c.ps.length ≤ w.toNat := fun c ⟨l, h⟩ => by have := h.2.1; omega
    wtm_at "go"
    refine g_while (fun f σ' H' => ∃ (r : List Int) (L : List TB) (lv : Addr) (xs : List V) (o4 o5 o6 : Option V), σ' = [some (.ref b), some (.int w), some (.ref lv), some (.ref rc), o4, o5, o6] ∧ Same H H' ∧ SqL K H' lv xs ∧ DpAll K H' xs (lsD L) ∧ Dd K H' rc (seenD r) ∧ (∀ c ∈ L, (∃ l, okT l w c) ∧ (c.lf = true ∨ 2 ≤ c.ps.length)) ∧ L ≠ [] ∧ L.length ≤ m.length ∧ r.Nodup ∧ (∀ n ∈ r, n ∈ keysA m) ∧ m.length + 1 ≤ f + r.length ∧ soundL m w f r L = soundD m w)
      (m.length + 1) ⟨[0], [toTB (blockAt m 0)], lv, _, _, _, _, rfl, s03, SqL.of (s3 _ _ e2), ?_, ⟨_, e3, .cons (.bl true) .nil⟩, ?_, by simp, ?_, ?_, ?_, ?_, eD.symm⟩ (fun f σ' H' hp => ?_)
    · refine .cons ?_ .nil
      rw [← form0]
      exact Dp.go (s2.trans s3) hv0
    · intro c hc
      rw [List.mem_singleton.mp hc]
      refine ⟨⟨0, ok0⟩, ?_⟩
      have := hroot'.2
      rw [Bool.or_eq_true, decide_eq_true_eq] at this
      exact this
    · have : m ≠ [] := fun z => by rw [z] at g0; cases g0
      exact List.length_pos_iff.mpr this
    · simp
    · intro n hn
      rw [List.mem_singleton.mp hn]
      exact mem_keysA.mpr (by rw [g0]; rfl)
    · simp
    obtain ⟨r, L, lv, xs, o4, o5, o6, rfl, s4, hl, hd, dr, hL, hL0, lL, ndr, rsub, hf, hans⟩ := hp
    have hrow : (rowT L).length ≤ 25000 := by
      refine Nat.le_trans (rowT_len fun c hc => hwn c (hL c hc).1) (Nat.le_trans (Nat.mul_le_mul_right _ lL) hsz)
    have hmw : m.length ≤ 25000 := by
      refine Nat.le_trans (Nat.le_mul_of_pos_right _ ?_) hsz
      omega
    have rlen : r.length ≤ m.length := by
      have := nodup_sub_len ndr rsub
      unfold keysA at this
      rwa [List.length_map] at this
    cases f with
    | zero => omega
    | succ f =>
    wtm_at "go"
    refine ⟨_, lv, xs, L, rfl, hl, hd, by omega, fun H5 s5 => ?_⟩
    have ebr : (L.all fun c => decide (wordT c.lf = Str.ofString "branch")) = L.all fun c => !c.lf := all_br_eq
    rw [ebr]
    wtm_at "go"
    have hl5 := L2.Same.seq s5 hl
    have hd5 := DpAll.go s5 hd
    have s05 := s4.trans s5
    have dr5 := dr.go s5
    cases hbr : L.all fun c => !c.lf with
    | true =>
      refine g_whT ?_
      have hLbr : ∀ c ∈ L, c.lf = false := fun c hc => by simpa using List.all_eq_true.mp hbr c hc
      have estep : soundL m w (f + 1) r L = match checkRow m w r (rowT L) with
        | none => false
        | some r' => soundL m w f r' (nextL m (rowT L)) := by
        show (if (L.all fun c => !c.lf) = true then _ else _) = _
        rw [hbr, if_pos rfl]
        all_goals rfl
      rw [estep] at hans
      have hheld : ∀ p ∈ rowT L, ∃ n, p.2 = .int n := fun p hp => by
        obtain ⟨c, hc, hpc⟩ := List.mem_flatMap.mp hp
        obtain ⟨l, hok⟩ := (hL c hc).1
        have h2 := (hok.2.2.1 p hpc).2
        rw [hLbr c hc] at h2
        have h3 : isNumD p.2 = true := by
          have e : heldD (wordT false) p.2 = isNumD p.2 := by
            unfold heldD
            rw [if_neg (by decide +kernel)]
          rw [← e]
          exact h2
        cases e : p.2 <;> rw [e] at h3 <;> first | exact ⟨_, rfl⟩ | cases h3
      wtm_at "go"
      refine ⟨lv, xs, L, rfl, hl5, hd5, by omega, fun rw' ys H6 n6 s6 e6 d6 => ?_⟩
      have s06 := s05.trans s6
      have dr6 := dr5.go s6
      have nrw : H rw' = none := s05.free n6
      have ly := dpAll_len d6
      unfold rowD at ly
      rw [List.length_map] at ly
      wtm_at "go"
      refine g_forLk (fun i σ' H' => ∃ (r' : List Int) (o5 o6 : Option V), σ' = [some (.ref b), some (.int w), some (.ref lv), some (.ref rc), some (.ref rw'), o5, o6] ∧ Same H H' ∧ Dd K H' rc (seenD r') ∧ SqL K H' rw' ys ∧ DpAll K H' ys (rowD (rowT L)) ∧ checkRow m w r ((rowT L).take i) = some r')
        (SqL.of e6) ⟨r, _, _, rfl, s06, dr6, SqL.of e6, d6, rfl⟩ (fun i σ' H' _ hp => by obtain ⟨_, _, _, _, _, _, h, _⟩ := hp; exact h) (fun i x σ' H' hx hp => ?_) (fun σ' H' hp => ?_)
      · obtain ⟨r', o5, o6, rfl, s7, d7, l7, dd7, hc7⟩ := hp
        obtain ⟨p, hp, hpx⟩ := dpAll_at' (f := pairD) dd7 hx
        have et : (rowT L).take (i + 1) = (rowT L).take i ++ [p] := by rw [List.take_add_one, hp]; rfl
        have esplit : rowT L = (rowT L).take i ++ (p :: (rowT L).drop (i + 1)) := by
          have hi := (List.getElem?_eq_some_iff.mp hp).1
          have e := List.getElem?_eq_getElem hi
          rw [hp] at e
          rw [Option.some.inj e, List.getElem_cons_drop, List.take_append_drop]
        obtain ⟨n, en⟩ := hheld p (List.mem_of_getElem? hp)
        have en' : numD p.2 = n := by rw [en]; rfl
        obtain ⟨ta, y, rfl, ht, hy⟩ := dp_pair hpx
        rw [en] at hy
        cases dp_i hy
        have hnone : (decide (n ∈ r') || !fitsD w p.1 (blockAt m n)) = true → soundD m w = false := fun c => by
          rw [← hans, esplit, checkRow_app hc7, checkRow_cons, en', if_pos c]
        have fin : ∀ H'', Same H H'' → soundD m w = false → Q (.bl false) H'' := fun H'' s e => hq H'' s _ e.symm
        refine g_gtup ht rfl ?_
        wtm_at "go"
        refine g_rDIn d7 ?_
        rw [seen_get]
        wtm_at "go"
        cases c1 : decide (n ∈ r') with
        | true =>
          rw [c1, Bool.true_or] at hnone
          refine g_orK (fun _ => ?_) (fun c => nomatch c)
          wtm_at "go"
          exact fin H' s7 (hnone rfl)
        | false =>
          rw [c1, Bool.false_or] at hnone
          refine g_orK (fun c => nomatch c) (fun _ => ?_)
          wtm_at "go"
          refine g_rDGet1 (hb.go s7) (fun R r => by wtm_at "go"; exact r) fun v7 hv7 => ?_
          wtm_at "go"
          refine ⟨v7, _, w, p.1, rfl, hv7, fit n, hw, fun H8 s8 => ?_⟩
          show isB _ (.bl (fitsD w p.1 (blockAt m n))) H8
          cases c2 : fitsD w p.1 (blockAt m n) with
          | false =>
            rw [c2] at hnone
            wtm_at "go"
            refine g_br (fun _ => ?_) (fun c => nomatch c)
            wtm_at "go"
            exact fin H8 (s7.trans s8) (hnone rfl)
          | true =>
            wtm_at "go"
            refine g_br (fun c => nomatch c) (fun _ => ?_)
            wtm_at "go"
            have hr8 : r'.length ≤ 60000 := by
              have := checkRow_some hc7
              have e1 := congrArg List.length this.1
              rw [List.length_append] at e1
              have e2 : (numsT ((rowT L).take i)).length = ((rowT L).take i).length := List.length_map ..
              rw [List.length_take] at e2
              omega
            refine g_rDPut (d := .bool true) (d7.go s8) (.bl true) (by unfold seenD; rw [List.length_map]; omega) fun H9 o9 d9 => ?_
            have nn : n ∉ r' := of_decide_eq_false c1
            rw [seen_put nn] at d9
            obtain ⟨kv8, ekv8, _⟩ := d7.go s8
            refine ⟨r' ++ [n], _, _, rfl, o9.same (s7.trans s8) nrcH, d9, o9.seqL ekv8 (L2.Same.seq s8 l7), DpAll.oth ekv8 o9 (DpAll.go s8 dd7), ?_⟩
            rw [et, checkRow_app hc7, checkRow_cons, en', c1, c2]
            rfl
      · obtain ⟨r', o5, o6, rfl, s7, d7, l7, dd7, hc7⟩ := hp
        rw [ly, List.take_length] at hc7
        rw [hc7] at hans
        obtain ⟨h1, h2, h3, h4⟩ := checkRow_some hc7
        have hblk : ∀ p ∈ rowT L, isBlockD (halfI w) w (blockAt m (numD p.2)) = true := fun p hp => by
          have := h2 p hp
          unfold fitsD at this
          rw [Bool.and_eq_true] at this
          exact this.1
        have hkeys : ∀ n ∈ numsT (rowT L), n ∈ keysA m := fun n hn => by
          obtain ⟨p, hp, rfl⟩ := List.mem_map.mp hn
          exact mem_keysA.mpr (by rw [blockAt_some (hblk p hp)]; rfl)
        have ndr' : r'.Nodup := by
          rw [h1, List.nodup_append]
          refine ⟨ndr, h4, fun a ha c hc e => ?_⟩
          subst e
          exact h3 a hc ha
        have rsub' : ∀ n ∈ r', n ∈ keysA m := fun n hn => by
          rw [h1] at hn
          rcases List.mem_append.mp hn with hn | hn
          · exact rsub n hn
          · exact hkeys n hn
        have rlen' : r'.length ≤ m.length := by
          have := nodup_sub_len ndr' rsub'
          unfold keysA at this
          rwa [List.length_map] at this
        have lr' : r'.length = r.length + (rowT L).length := by
          rw [h1, List.length_append]
          have : (numsT (rowT L)).length = (rowT L).length := List.length_map ..
          omega
        wtm_at "go"
        refine ⟨b, rw', m, ys, rowT L, rfl, hb.go s7, .inl l7, dd7, fun p hp => ?_, by omega, fun lw zs H8 n8 s8 e8 d8 => ?_⟩
        · obtain ⟨n, en⟩ := hheld p hp
          refine ⟨n, en, ?_⟩
          have := mem_keysA.mp (hkeys (numD p.2) (List.mem_map.mpr ⟨p, hp, rfl⟩))
          rw [en] at this
          exact this
        · have eL : (rowT L).map (fun p => blockAt m (numD p.2)) = lsD (nextL m (rowT L)) := by
            unfold lsD nextL
            rw [List.map_map]
            exact List.map_congr_left fun p hp => isBlockD_form (hblk p hp)
          rw [eL] at d8
          have hpos : 0 < (rowT L).length := by
            obtain ⟨c, hc⟩ := List.exists_mem_of_ne_nil L hL0
            have h2c : 2 ≤ c.ps.length := (hL c hc).2.elim (fun h => by rw [hLbr c hc] at h; cases h) id
            have hsub : ∃ p, p ∈ rowT L := by
              obtain ⟨p, hp⟩ := List.exists_mem_of_ne_nil c.ps (fun z => by rw [z] at h2c; simp at h2c)
              exact ⟨p, List.mem_flatMap.mpr ⟨c, hc, hp⟩⟩
            obtain ⟨p, hp⟩ := hsub
            exact List.length_pos_of_mem hp
          wtm_at "go"
          refine ⟨f, Nat.lt_succ_self f, r', nextL m (rowT L), lw, zs, _, _, _, rfl, s7.trans s8, SqL.of e8, d8, d7.go s8, fun c hc => ?_, ?_, ?_, ndr', rsub', by omega, hans⟩
          · obtain ⟨p, hp, rfl⟩ := List.mem_map.mp hc
            have hok := (isBlockD_iff.mp (hblk p hp)).2
            refine ⟨⟨halfI w, hok⟩, .inr ?_⟩
            have := hok.1
            unfold halfI at this
            omega
          · intro z
            have := congrArg List.length z
            unfold nextL at this
            rw [List.length_map, List.length_nil] at this
            omega
          · unfold nextL
            rw [List.length_map]
            omega
    | false =>
      refine g_whF ?_
      have eend : soundL m w (f + 1) r L = (L.all (·.lf) && (risesI (keysT (rowT L)) && decide (r.length = m.length))) := by
        show (if (L.all fun c => !c.lf) = true then _ else _) = _
        rw [hbr, if_neg (by decide)]
      rw [eend] at hans
      wtm_at "go"
      refine ⟨_, lv, xs, L, rfl, hl5, hd5, by omega, fun H6 s6 => ?_⟩
      have elf : (L.all fun c => decide (wordT c.lf = Str.ofString "leaf")) = L.all (·.lf) := all_lf_eq
      rw [elf]
      have s06 := s05.trans s6
      cases c1 : L.all (·.lf) with
      | false =>
        rw [c1, Bool.false_and] at hans
        refine g_andV (fun c => nomatch c) (fun _ => ?_)
        exact hq H6 s06 _ hans
      | true =>
        rw [c1, Bool.true_and] at hans
        refine g_andV (fun _ => ?_) (fun c => nomatch c)
        wtm_at "go"
        refine ⟨lv, xs, L, rfl, L2.Same.seq s6 hl5, DpAll.go s6 hd5, by omega, fun rw' ys H7 n7 s7 e7 d7 => ?_⟩
        wtm_at "go"
        refine ⟨rw', ys, rowD (rowT L), rfl, .inl (SqL.of e7), d7, by unfold rowD; rw [List.length_map]; omega, fun d hd => ?_, fun H8 s8 => ?_⟩
        · obtain ⟨p, _, rfl⟩ := List.mem_map.mp hd
          exact ⟨_, _, rfl⟩
        have ek : (rowD (rowT L)).map keyD = keysT (rowT L) := by
          unfold rowD keysT
          rw [List.map_map]
          rfl
        rw [ek]
        cases c2 : risesI (keysT (rowT L)) with
        | false =>
          rw [c2, Bool.false_and] at hans
          refine g_andV (fun c => nomatch c) (fun _ => ?_)
          exact hq H8 (s06.trans (s7.trans s8)) _ hans
        | true =>
          rw [c2, Bool.true_and] at hans
          refine g_andV (fun _ => ?_) (fun c => nomatch c)
          wtm_at "go"
          refine g_lenDd (dr5.go (s6.trans (s7.trans s8))) ?_
          wtm_at "go"
          refine g_lenDd (hb.go (s06.trans (s7.trans s8))) ?_
          wtm_at "go"
          have e9 : decide (V.int ((seenD r).length : Int) = V.int (m.length : Int)) = decide (r.length = m.length) := by
            unfold seenD
            rw [List.length_map]
            exact decide_eq_decide.mpr ⟨fun h => Int.ofNat.inj (V.int.inj h), fun h => by rw [h]⟩
          rw [e9]
          exact hq H8 (s06.trans (s7.trans s8)) _ hans
theorem ok_l_cell_at (T : Tx K mg) : FnOk P w K mg base CX0 1 T.a_l_cell_at T.d_l_cell_at ["_law_script", "_law_k"] (sp_cell K) := by
  refine T.F_l_cell_at.ok sc_l_cell_at (fun vs H Q E h => ?_) (fun cdv A outer s H vs Q E hr h => ?_)
  · obtain ⟨a, ns, k, rfl, _⟩ := h
    rfl
  obtain ⟨a, ns, k, rfl, hS, h0, q⟩ := h
  refine ⟨_, (pss_cons (ps_if (pt_cmpR op_lt (pv 1) (pe_callB my_len (by rfl) T.z_len PySem.boot_len (pa_cons (pv 0) pa_nil)) (nomark _))
      (pss_one (ps_ret (pe_ix ix_list (pv 0) (pv 1) (fun _ _ => rfl))))
      pss_nil)
    (pss_one (ps_ret pe_int))), ?_⟩
  wtm_at "go"
  refine g_br (fun c => ?_) (fun c => ?_)
  · have c' : k < ((ns.map V.int).length : Int) := of_decide_eq_true c
    rw [List.length_map] at c'
    wtm_at "go"
    exact g_ixL hS (atI_cell h0 c') q
  · have c' : ¬ k < ((ns.map V.int).length : Int) := of_decide_eq_false c
    rw [List.length_map] at c'
    rw [cell_out c'] at q
    wtm_at "go"
    exact q
theorem ok_l_width_by (T : Tx K mg) : FnOk P w K mg base CX0 1 T.a_l_width_by T.d_l_width_by ["_law_cell"] sp_l_width_by := by
  refine T.F_l_width_by.ok sc_l_width_by (fun vs H Q E h => ?_) (fun cdv A outer s H vs Q E hr h => ?_)
  · obtain ⟨c, rfl, _⟩ := h
    rfl
  obtain ⟨c, rfl, q⟩ := h
  refine ⟨_, (pss_cons (ps_if (pt_cmpR op_eq (pe_op op_mod (pv 0) pe_int) pe_int (nomark _))
      (pss_one (ps_ret (pe_op op_add pe_int (pe_op op_mod (pe_op op_fdiv (pv 0) pe_int) pe_int))))
      pss_nil)
    (pss_one (ps_ret (pe_op op_add pe_int (pe_op op_mod (pe_op op_fdiv (pv 0) pe_int) pe_int))))), ?_⟩
  wtm_at "go"
  refine g_br (fun _ => ?_) (fun _ => ?_)
  · wtm_at "go"
    exact q _ (by omega) (by omega)
  · wtm_at "go"
    exact q _ (by omega) (by omega)
theorem ok_l_level (T : Tx K mg) : FnOk P w K mg base CX0 1 T.a_l_level T.d_l_level ["_law_pairs", "_law_width", "_law_cell"] (sp_l_level K) := by
  refine T.F_l_level.ok sc_l_level (fun vs H Q E h => ?_) (fun cdv A outer s H vs Q E hr h => ?_)
  · obtain ⟨p, w, c, xs, P, rfl, _⟩ := h
    rfl
  obtain ⟨p, w, c, xs, P, rfl, hp, hd, sm, hw, hw2, hN, hN2, q⟩ := h
  refine ⟨_, (pss_cons (ps_set (i := 3) sc_l_level.nd rfl (Or.inl rfl) (pe_un un_neg (pe_op op_fdiv (pe_un un_neg (pe_callB my_len (by rfl) T.z_len PySem.boot_len (pa_cons (pv 0) pa_nil))) (pv 1))))
    (pss_cons (ps_set (i := 4) sc_l_level.nd rfl (Or.inl rfl) (pe_callB (my_max2 rfl) (by rfl) T.z_max (by decide +kernel) (pa_cons pe_int (pa_cons (pe_op op_fdiv (pe_callB my_len (by rfl) T.z_len PySem.boot_len (pa_cons (pv 0) pa_nil)) (pe_op op_fdiv (pe_op op_add (pv 1) pe_int) pe_int)) pa_nil))))
    (pss_cons (ps_set (i := 5) sc_l_level.nd rfl (Or.inl rfl) (pe_op op_add (pv 3) (pe_op op_mod (pv 2) (pe_op op_add (pe_op op_sub (pv 4) (pv 3)) pe_int))))
    (pss_cons (ps_set (i := 6) sc_l_level.nd rfl (Or.inl rfl) (pe_lst pa_nil))
    (pss_cons (ps_set (i := 7) sc_l_level.nd rfl (Or.inl rfl) pe_int)
    (pss_cons (ps_for PassesOwn.never rfl (pi_range1 (by rfl) T.z_range (pa_cons (pv 5) pa_nil)) (pg_name (i := 8) sc_l_level.nd rfl (Or.inl rfl))
      (pss_cons (ps_set (i := 9) sc_l_level.nd rfl (Or.inl rfl) (pe_op op_add (pe_op op_fdiv (pe_callB my_len (by rfl) T.z_len PySem.boot_len (pa_cons (pv 0) pa_nil)) (pv 5)) (pe_callTy my_int (by rfl) T.z_int (by decide +kernel) (pa_cons (pe_cmpR op_lt (pv 8) (pe_op op_mod (pe_callB my_len (by rfl) T.z_len PySem.boot_len (pa_cons (pv 0) pa_nil)) (pv 5)) (nomark _)) pa_nil))))
      (pss_cons (ps_expr (pe_bm PySem.F.plainAttrs_list PySem.F.slot_list_append PySem.F.type_list_append mt_append (pv 6) (pa_cons (pe_callTy my_tuple (by rfl) T.z_tuple (by decide +kernel) (pa_cons (pe_slice sl_list (pv 0) (po_some (pv 7)) (po_some (pe_op op_add (pv 7) (pv 9)))) pa_nil)) pa_nil)))
      (pss_one (ps_set (i := 7) sc_l_level.nd rfl (Or.inl rfl) (pe_op op_add (pv 7) (pv 9)))))))
    (pss_one (ps_ret (pv 6))))))))), ?_⟩
  have lx := dpAll_len hd
  unfold rowD at lx
  rw [List.length_map] at lx
  have hN' : w < (xs.length : Int) := by omega
  obtain ⟨r1, r2, r3⟩ := rows_count (c := c) hw hN'
  have r3' := r3 _ rfl
  wtm_at "go"
  generalize hmany : -(-(xs.length : Int) / w) + c % ((if (xs.length : Int) / ((w + 1) / 2) > 1 then (xs.length : Int) / ((w + 1) / 2) else 1) - -(-(xs.length : Int) / w) + 1) = many at r3' ⊢
  obtain ⟨m1, m2, m3, m4⟩ := r3'
  obtain ⟨mn, rfl⟩ : ∃ mn : Nat, many = (mn : Int) := ⟨many.toNat, by omega⟩
  rw [← Int.natCast_ediv, ← Int.natCast_emod] at m3
  rw [← Int.natCast_ediv] at m2
  have hmod := Nat.mod_lt xs.length (show mn > 0 by omega)
  have hdm := Nat.div_add_mod xs.length mn
  obtain ⟨qn, hqn⟩ : ∃ qn, qn = xs.length / mn := ⟨_, rfl⟩
  obtain ⟨rem, hrem⟩ : ∃ rem, rem = xs.length % mn := ⟨_, rfl⟩
  rw [← hqn, ← hrem] at hdm m3
  rw [← hqn] at m2
  rw [← hrem] at hmod
  have hoff : offN qn rem mn = xs.length := by
    unfold offN
    rw [Nat.min_eq_right (by omega)]
    exact hdm
  refine g_lstK (by wtm_at "ln") fun rw0 H1 n1 s1 e1 => ?_
  wtm_at "go"
  refine g_forR1k (fun i σ' H' => (∃ o8 o9, σ' = [some (.ref p), some (.int w), some (.int c), some (.int (-(-(xs.length : Int) / w))), some (.int (if (xs.length : Int) / ((w + 1) / 2) > 1 then (xs.length : Int) / ((w + 1) / 2) else 1)), some (.int (mn : Int)), some (.ref rw0), some (.int (offN qn rem i : Nat)), o8, o9]) ∧ Same H H' ∧ ∃ ys, H' rw0 = some (.lst ys) ∧ DpAll K H' ys (rowsD (cutRows P qn rem i)))
    (by omega) ⟨⟨_, _, by unfold offN; simp; rfl⟩, s1, [], e1, .nil⟩ (fun i σ' H' hi hp => ?_) (fun σ' H' hp => ?_)
  · obtain ⟨⟨o8, o9, rfl⟩, s2, ys, e2, d2⟩ := hp
    have hp2 := L2.Same.seq s2 hp
    have hoff2 := offN_succ qn rem i
    have ly := dpAll_len d2
    unfold rowsD at ly
    rw [List.length_map, cutRows_num] at ly
    have smc : ∀ r ∈ cutRows P qn rem i, smP r := fun r hr => by
      obtain ⟨j, _, rfl⟩ := List.mem_map.mp hr
      exact fun q hq => sm q (List.mem_of_mem_drop (List.mem_of_mem_take hq))
    wtm_at "go"
    rw [← Int.natCast_ediv, ← Int.natCast_emod, ← hqn, ← hrem]
    have esz : (qn : Int) + (if decide ((i : Int) < (rem : Int)) = true then 1 else 0) = ((qn + (if i < rem then 1 else 0) : Nat) : Int) := by
      by_cases c : i < rem
      · rw [if_pos c, if_pos (decide_eq_true (by omega))]
        omega
      · rw [if_neg c, if_neg (by rw [decide_eq_false (by omega)]; decide)]
        omega
    rw [esz]
    refine g_tyL e2 ?_
    wtm_at "go"
    have eat : (offN qn rem i : Int) + ((qn + (if i < rem then 1 else 0) : Nat) : Int) = (offN qn rem (i + 1) : Int) := by omega
    rw [eat]
    refine g_slL hp2 fun sl H3 n3 s3 e3 => ?_
    rw [cut_both] at e3
    wtm_at "go"
    refine g_tupleL (SqL.of e3) fun tp H4 n4 s4 e4 => ?_
    wtm_at "go"
    have s24 := s3.trans s4
    have hdc : DpAll K H ((xs.drop (offN qn rem i)).take (offN qn rem (i + 1) - offN qn rem i)) (rowD ((P.drop (offN qn rem i)).take (offN qn rem (i + 1) - offN qn rem i))) := by
      unfold rowD
      rw [List.map_take, List.map_drop]
      exact dpAll_take _ (dpAll_drop _ hd)
    refine g_appendO (s24 _ _ e2) (by omega) fun H5 o5 e5 => ?_
    have s5 := o5.same (s2.trans s24) n1
    wtm_at "go"
    rw [eat]
    refine ⟨⟨_, _, rfl⟩, s5, _, e5, ?_⟩
    rw [cutRows_succ]
    unfold rowsD
    rw [List.map_append]
    refine dpAll_app (DpAll.fx ((Fx.of s24).trans (Fx.lst (s24 _ _ e2) o5)) (rowsD_strict smc) d2) (.cons (.tup (SqT.fx (Fx.lst (s24 _ _ e2) o5) (SqT.of e4)) (DpAll.go s5 hdc)) .nil)
  · obtain ⟨⟨o8, o9, rfl⟩, s2, ys, e2, d2⟩ := hp
    rw [Int.toNat_natCast] at d2
    wtm_at "go"
    refine q rw0 ys _ H' n1 s2 e2 d2 ?_ (fun r hr => ?_) (by rw [cutRows_num]; omega) (by rw [cutRows_num]; omega)
    · rw [cutRows_flat, hoff, lx, List.take_length]
    · obtain ⟨c1, c2⟩ := cutRows_len (by rw [hoff]; omega) r hr
      unfold halfI
      refine ⟨by omega, ?_⟩
      by_cases c : rem = 0
      · rw [if_pos c] at c2
        rw [if_pos (by omega)] at m3
        omega
      · rw [if_neg c] at c2
        rw [if_neg (by omega)] at m3
        omega
theorem ok_l_tree_by (T : Tx K mg) : FnOk P w K mg base CX0 2 T.a_l_tree_by T.d_l_tree_by ["_law_pairs", "_law_width", "_law_cell"] (sp_l_tree_by K) := by
  refine T.F_l_tree_by.ok sc_l_tree_by (fun vs H Q E h => ?_) (fun cdv A outer s H vs Q E hr h => ?_)
  · obtain ⟨p, w, c, xs, P, rfl, _⟩ := h
    rfl
  obtain ⟨p0, w, c, xs0, P0, rfl, hp0, hd0, ok0, sm0, hw, hw2, hN0, q⟩ := h
  refine ⟨_, (pss_cons (ps_set (i := 3) sc_l_tree_by.nd rfl (Or.inl rfl) pe_dnewK)
    (pss_cons (ps_set (i := 4) sc_l_tree_by.nd rfl (Or.inl rfl) pe_str)
    (pss_cons (ps_set (i := 5) sc_l_tree_by.nd rfl (Or.inl rfl) (pe_op op_add pe_int (pe_op op_mod (pv 2) pe_int)))
    (pss_cons (ps_while PassesOwn.never (pt_cmpR op_gt (pe_callB my_len (by rfl) T.z_len PySem.boot_len (pa_cons (pv 0) pa_nil)) (pv 1) (nomark _))
      (pss_cons (ps_set (i := 6) sc_l_tree_by.nd rfl (Or.inl rfl) (pe_lst pa_nil))
      (pss_cons (ps_for PassesOwn.never rfl (pi_list (pe_call (ok_l_level T) hr (by rfl) T.g_l_level T.F_l_level.kp T.b_l_level .nil pass0 (pa_cons (pv 0) (pa_cons (pv 1) (pa_cons (pe_op op_fdiv (pv 2) pe_int) pa_nil))))) (pg_name (i := 7) sc_l_tree_by.nd rfl (Or.inl rfl))
        (pss_cons (ps_dput (hu_of hr) (pv 3) (pv 5) (pe_tup (pa_cons (pv 4) (pa_cons (pv 7) pa_nil))) rfl)
        (pss_cons (ps_expr (pe_bm PySem.F.plainAttrs_list PySem.F.slot_list_append PySem.F.type_list_append mt_append (pv 6) (pa_cons (pe_tup (pa_cons (pe_ix ix_tup (pe_ix ix_tup (pv 7) pe_int (fun _ _ => rfl)) pe_int (fun _ _ => rfl)) (pa_cons (pv 5) pa_nil))) pa_nil)))
        (pss_one (ps_set (i := 5) sc_l_tree_by.nd rfl (Or.inl rfl) (pe_op op_add (pe_op op_add (pv 5) pe_int) (pe_op op_mod (pe_op op_fdiv (pv 2) pe_int) pe_int)))))))
      (pss_cons (ps_set (i := 0) sc_l_tree_by.nd rfl (Or.inl rfl) (pv 6))
      (pss_one (ps_set (i := 4) sc_l_tree_by.nd rfl (Or.inl rfl) pe_str))))))
    (pss_cons (ps_dput (hu_of hr) (pv 3) pe_int (pe_tup (pa_cons (pv 4) (pa_cons (pe_callTy my_tuple (by rfl) T.z_tuple (by decide +kernel) (pa_cons (pv 0) pa_nil)) pa_nil))) rfl)
    (pss_one (ps_ret (pv 3)))))))), ?_⟩
  wtm_at "go"
  refine g_dnewDd (K := K) fun b H1 n1 s1 d1 => ?_
  wtm_at "go"
  refine g_while (fun f σ' H' => ∃ (m : BT) (lf : Bool) (P : PL) (num : Int) (p : Addr) (xs : List V) (o6 o7 : Option V), σ' = [some (.ref p), some (.int w), some (.int c), some (.ref b), some (.str (wordT lf)), some (.int num), o6, o7] ∧ Same H H' ∧ Dd K H' b m ∧ SqL K H' p xs ∧ DpAll K H' xs (rowD P) ∧ Lvl w P0 m lf P num ∧ m.length + P.length ≤ P0.length ∧ f = P.length)
    P0.length ⟨[], true, P0, _, p0, xs0, _, _, rfl, s1, d1, L2.Same.seq s1 hp0, DpAll.go s1 hd0, Lvl.base ok0 sm0 (by omega), by simp, rfl⟩ (fun f σ' H' hp => ?_)
  obtain ⟨m, lf, P, num, p, xs, o6, o7, rfl, s2, dm, hp2, hd2, Vl, hlen, rfl⟩ := hp
  have lx := dpAll_len hd2
  unfold rowD at lx
  rw [List.length_map] at lx
  wtm_at "go"
  cases hc : decide ((xs.length : Int) > w) with
  | true =>
    have hc' : w < (P.length : Int) := by
      have := of_decide_eq_true hc
      omega
    refine g_whT ?_
    wtm_at "go"
    refine g_lstK (by wtm_at "ln") fun ab H3 n3 s3 e3 => ?_
    wtm_at "go"
    refine ⟨p, w, _, xs, P, rfl, L2.Same.seq s3 hp2, DpAll.go s3 hd2, Vl.sm, hw, hw2, hc', by omega, fun lv ys rows H4 n4 s4 e4 d4 hflat hrows h2r hrl => ?_⟩
    have s34 := s3.trans s4
    have smr : ∀ r ∈ rows, smP r := fun r hr q hq => Vl.sm q (by rw [← hflat]; exact List.mem_flatten.mpr ⟨r, hr, hq⟩)
    have okr : ∀ r ∈ rows, okT (halfI w) w ⟨lf, r⟩ := fun r hr => by
      obtain ⟨h1, h2⟩ := hrows r hr
      refine ⟨h1, h2, fun q hq => Vl.ps.1 q (by rw [← hflat]; exact List.mem_flatten.mpr ⟨r, hr, hq⟩), ?_⟩
      have hpw := Vl.ps.2
      rw [← hflat] at hpw
      refine hpw.sublist ?_
      unfold keysT
      exact List.Sublist.map _ (List.sublist_flatten_of_mem hr)
    have ner : ∀ r ∈ rows, r ≠ [] := fun r hr z => by
      have := (hrows r hr).1
      unfold halfI at this
      rw [z, List.length_nil] at this
      omega
    have ly := dpAll_len d4
    unfold rowsD at ly
    rw [List.length_map] at ly
    have nbH : H b = none := n1
    have nabH : H ab = none := s2.free n3
    have hblv : lv ≠ ab := fun e => by rw [← e] at e3; rw [e3] at n4; cases n4
    have hbab : ab ≠ b := fun e => by
      obtain ⟨kv, ek, _⟩ := id dm
      rw [← e, n3] at ek
      cases ek
    refine g_forLk (fun i σ' H' => (∃ o7, ∃ (mi : BT) (abi : PL) (ni : Int) (zs : List V), σ' = [some (.ref p), some (.int w), some (.int c), some (.ref b), some (.str (wordT lf)), some (.int ni), some (.ref ab), o7] ∧ Adding w m lf num (rows.take i) mi abi ni ∧ Dd K H' b mi ∧ H' ab = some (.lst zs) ∧ DpAll K H' zs (rowD abi)) ∧ Same H H' ∧ SqL K H' lv ys ∧ DpAll K H' ys (rowsD rows))
      (SqL.of e4) ⟨⟨_, m, [], num, [], rfl, Adding.base Vl.ok, dm.go s34, s4 _ _ e3, .nil⟩, s2.trans s34, SqL.of e4, d4⟩ (fun i σ' H' _ hp => hp.2.2.1) (fun i x σ' H' hx hp => ?_) (fun σ' H' hp => ?_)
    · obtain ⟨⟨o7, mi, abi, ni, zs, rfl, A, di, ei, zi⟩, si, li, yi⟩ := hp
      obtain ⟨row, hrow, hrx⟩ := dpAll_at' (f := fun r => PyData.tuple (rowD r)) yi hx
      have et : rows.take (i + 1) = rows.take i ++ [row] := by rw [List.take_add_one, hrow]; rfl
      have hmem := List.mem_of_getElem? hrow
      obtain ⟨tr, rs, rfl, htr, hrs⟩ := dp_tuple hrx
      have step := A.step (st := 1 + c / 5 % 2) (fun k hk => (Vl.rng k hk).2) (okr row hmem) (smr row hmem) (by omega)
      have hi := (List.getElem?_eq_some_iff.mp hrow).1
      have lab : abi.length = i := by
        have := congrArg List.length A.kk
        unfold keysT at this
        rw [List.length_map, List.length_map, List.length_take] at this
        omega
      have lmi : mi.length = m.length + abi.length := by
        have := congrArg List.length A.keys
        unfold keysA numsT at this
        rwa [List.length_map, List.length_append, List.length_map, List.length_map] at this
      have lzs := dpAll_len zi
      unfold rowD at lzs
      rw [List.length_map] at lzs
      wtm_at "go"
      refine g_tupK (by wtm_at "ln") fun tp H5 n5 s5 e5 => ?_
      wtm_at "go"
      have hblk : Dp K H5 (.ref tp) (TB.D ⟨lf, row⟩) := .tup (SqT.of e5) (.cons (.str _) (.cons (.tup (Same.seqT s5 htr) (DpAll.go s5 hrs)) .nil))
      refine g_rDPut (di.go s5) hblk (by omega) fun H6 o6 d6 => ?_
      have f56 : Fx H5 H6 := Fx.dict (di.go s5) o6
      have s6 := o6.same (si.trans s5) nbH
      have e6 : H6 ab = some (.lst zs) := o6 _ _ hbab (s5 _ _ ei)
      obtain ⟨r0, rrest, hr0⟩ : ∃ r0 rr, row = r0 :: rr := by
        cases row with
        | nil => exact absurd rfl (ner _ hmem)
        | cons a b => exact ⟨a, b, rfl⟩
      have htr6 : SqT K H6 tr rs := SqT.fx f56 (Same.seqT s5 htr)
      have hrs6 : DpAll K H6 rs (rowD row) := DpAll.fx f56 (smr row hmem).strict (DpAll.go s5 hrs)
      subst hr0
      cases hrs6 with
      | cons hq0 hrest =>
        obtain ⟨tq, yq, rfl, htq, hyq⟩ := dp_pair hq0
        wtm_at "go"
        refine g_tyL e6 ?_
        wtm_at "go"
        refine g_ixT htr6 (atI_nat (j := 0) rfl) ?_
        wtm_at "go"
        refine g_ixT htq (atI_nat (j := 0) rfl) ?_
        wtm_at "go"
        refine g_tupK (by wtm_at "ln") fun tw H7 n7 s7 e7 => ?_
        wtm_at "go"
        refine g_appendO (s7 _ _ e6) (by omega) fun H8 o8 e8 => ?_
        have f78 : Fx H7 H8 := Fx.lst (s7 _ _ e6) o8
        have f68 : Fx H6 H8 := (Fx.of s7).trans f78
        have s8 := o8.same (s6.trans s7) nabH
        obtain ⟨kv6, ekv6, _⟩ := di.go s5
        wtm_at "go"
        refine ⟨⟨_, putA mi ni (TB.D ⟨lf, r0 :: rrest⟩), abi ++ [(firstK ⟨lf, r0 :: rrest⟩, PyData.int ni)], _, _, rfl, ?_, ?_, e8, ?_⟩, s8, ?_, ?_⟩
        · rw [et]
          have e9 : ni + 1 + c / 5 % 2 = ni + (1 + c / 5 % 2) := by omega
          rw [e9]
          exact step
        · exact Dd.othL (s7 _ _ e6) o8 (fun p hp => (step.ok p hp).1) (d6.go s7)
        · show DpAll K H8 _ ((abi ++ [(firstK ⟨lf, r0 :: rrest⟩, PyData.int ni)]).map pairD)
          rw [List.map_append]
          refine dpAll_app (DpAll.fx (((Fx.of s5).trans f56).trans f68) ?_ zi) (.cons (.tup (SqT.fx f78 (SqT.of e7)) (.cons (.int _) (.cons (.int _) .nil))) .nil)
          refine strictAll_iff.mpr fun d hd => ?_
          obtain ⟨p, hp, rfl⟩ := List.mem_map.mp hd
          refine pairD_strict ?_
          rw [A.held p hp]
          rfl
        · refine o8.seqLne hblv (L2.Same.seq s7 ?_)
          exact o6.seqL ekv6 (L2.Same.seq s5 li)
        · exact DpAll.fx (((Fx.of s5).trans f56).trans f68) (rowsD_strict smr) yi
    · obtain ⟨⟨o7, mi, abi, ni, zs, rfl, A, di, ei, zi⟩, si, li, yi⟩ := hp
      rw [ly, List.take_length] at A
      have V' := A.done Vl hflat h2r ner
      have lab : abi.length = rows.length := by
        have := congrArg List.length A.kk
        unfold keysT at this
        rwa [List.length_map, List.length_map] at this
      have lmi : mi.length = m.length + abi.length := by
        have := congrArg List.length A.keys
        unfold keysA numsT at this
        rwa [List.length_map, List.length_append, List.length_map, List.length_map] at this
      wtm_at "go"
      exact ⟨abi.length, by omega, mi, false, abi, ni, ab, zs, _, _, rfl, si, di, SqL.of ei, zi, V', by omega, rfl⟩
  | false =>
    have hc' : (P.length : Int) ≤ w := by
      have := of_decide_eq_false hc
      omega
    refine g_whF ?_
    wtm_at "go"
    refine g_tupleL hp2 fun tp H3 n3 s3 e3 => ?_
    wtm_at "go"
    refine g_tupK (by wtm_at "ln") fun tb H4 n4 s4 e4 => ?_
    wtm_at "go"
    have hblk : Dp K H4 (.ref tb) (TB.D ⟨lf, P⟩) := .tup (SqT.of e4) (.cons (.str _) (.cons (.tup (SqT.of (s4 _ _ e3)) (DpAll.go (s3.trans s4) hd2)) .nil))
    refine g_rDPut (dm.go (s3.trans s4)) hblk (by omega) fun H5 o5 d5 => ?_
    wtm_at "go"
    exact q b _ H5 n1 (o5.same (s2.trans (s3.trans s4)) n1) d5 (Vl.done hc' ok0.2) (Nat.le_trans length_put (by omega))
theorem four (c : Int) : (c / 3 % 4).toNat = 0 ∨ (c / 3 % 4).toNat = 1 ∨ (c / 3 % 4).toNat = 2 ∨ (c / 3 % 4).toNat = 3 := by omega
theorem ok_l_pair_spoilt (T : Tx K mg) : FnOk P w K mg base CX0 1 T.a_l_pair_spoilt T.d_l_pair_spoilt ["_law_kind", "_law_pair", "_law_cell"] (sp_l_pair_spoilt K) := by
  refine T.F_l_pair_spoilt.ok sc_l_pair_spoilt (fun vs H Q E h => ?_) (fun cdv A outer s H vs Q E hr h => ?_)
  · obtain ⟨lf, x, c, k, h, rfl, _⟩ := h
    rfl
  obtain ⟨lf, x, c, k, h, rfl, hx, hz, hk1, hk2, q⟩ := h
  refine ⟨_, (pss_cons (ps_if (pt_cmpR op_eq (pe_op op_mod (pv 2) pe_int) pe_int (nomark _))
      (pss_one (ps_ret (pe_tup (pa_cons (pe_ix ix_list (pe_lst (pa_cons pe_bl (pa_cons (pe_op op_pow pe_int pe_int) (pa_cons (pe_callTy my_strI (by rfl) T.z_str (by decide +kernel) (pa_cons (pe_ix ix_tup (pv 1) pe_int (fun _ _ => rfl)) pa_nil)) (pa_cons pe_non pa_nil))))) (pe_op op_mod (pe_op op_fdiv (pv 2) pe_int) pe_int) (fun _ _ => rfl)) (pa_cons (pe_ix ix_tup (pv 1) pe_int (fun _ _ => rfl)) pa_nil)))))
      pss_nil)
    (pss_cons (ps_if (pt_cmpR op_eq (pv 0) pe_str (nomark _))
      (pss_one (ps_ret (pe_tup (pa_cons (pe_ix ix_tup (pv 1) pe_int (fun _ _ => rfl)) (pa_cons (pe_ix ix_list (pe_lst (pa_cons (pe_op op_mulS pe_str pe_int) (pa_cons pe_str (pa_cons pe_non (pa_cons pe_int pa_nil))))) (pe_op op_mod (pe_op op_fdiv (pv 2) pe_int) pe_int) (fun _ _ => rfl)) pa_nil)))))
      pss_nil)
    (pss_one (ps_ret (pe_tup (pa_cons (pe_ix ix_tup (pv 1) pe_int (fun _ _ => rfl)) (pa_cons (pe_ix ix_list (pe_lst (pa_cons pe_bl (pa_cons pe_int (pa_cons (pe_un un_neg pe_int) (pa_cons pe_str pa_nil))))) (pe_op op_mod (pe_op op_fdiv (pv 2) pe_int) pe_int) (fun _ _ => rfl)) pa_nil))))))), ?_⟩
  have hlog : k.natAbs.log2 < 1920 := log_small (by omega) (by omega)
  have fit2 : ∀ a b : PyData, (∀ z, b = .str z → z.length ≤ 100) → FitP (.tuple [a, b]) := fun a b hb k z e => by
    cases e
    exact sz (by have := hb z rfl; omega)
  wtm_at "go"
  refine g_br (fun _ => ?_) (fun _ => ?_)
  · have hb : ∃ b, [PyData.bool true, .int (10 ^ Int.toNat 60), .str (toString k), .none][(c / 3 % 4).toNat]? = some b ∧ isKeyD b = false := by
      rcases four c with e | e | e | e <;> rw [e]
      · exact ⟨_, rfl, rfl⟩
      · exact ⟨_, rfl, by decide +kernel⟩
      · exact ⟨_, rfl, rfl⟩
      · exact ⟨_, rfl, rfl⟩
    obtain ⟨b, hb1, hb2⟩ := hb
    refine evd_ret (K := K) (by wtm_at "ev") fun y H1 s1 hy => ?_
    refine q y _ H1 s1 hy ?_ (fit2 _ _ fun z e => by have := hz z e; omega)
    show (isKeyD b && heldD (wordT lf) h) = false
    rw [hb2, Bool.false_and]
  refine g_next ?_
  wtm_at "go"
  have ew : decide (V.str (wordT lf) = V.str (Str.ofString "leaf")) = lf := (decide_eq_decide.mpr ⟨V.str.inj, congrArg V.str⟩).trans word_lf
  rw [ew]
  refine g_br (fun e => ?_) (fun e => ?_)
  · subst e
    have hb : ∃ b, [PyData.str (repS "v" (Int.toNat 61)), .str "a\tb", .none, .int 7][(c / 3 % 4).toNat]? = some b ∧ isValD b = false ∧ (∀ z, b = .str z → z.length ≤ 100) := by
      rcases four c with e | e | e | e <;> rw [e]
      · exact ⟨_, rfl, by decide +kernel, fun z e => by cases e; decide +kernel⟩
      · exact ⟨_, rfl, by decide +kernel, fun z e => by cases e; decide +kernel⟩
      · exact ⟨_, rfl, rfl, fun z e => nomatch e⟩
      · exact ⟨_, rfl, rfl, fun z e => nomatch e⟩
    obtain ⟨b, hb1, hb2, hb3⟩ := hb
    refine evd_ret (K := K) (by wtm_at "ev") fun y H1 s1 hy => ?_
    refine q y _ H1 s1 hy ?_ (fit2 _ _ hb3)
    show (isKeyD (.int k) && heldD (wordT true) b) = false
    have : heldD (wordT true) b = isValD b := by unfold heldD; rw [if_pos (by decide +kernel)]
    rw [this, hb2, Bool.and_false]
  · subst e
    refine g_next ?_
    wtm_at "red"
    have hb : ∃ b, [PyData.bool true, .int 0, .int (-1), .str "1"][(c / 3 % 4).toNat]? = some b ∧ isNumD b = false ∧ (∀ z, b = .str z → z.length ≤ 100) := by
      rcases four c with e | e | e | e <;> rw [e]
      · exact ⟨_, rfl, rfl, fun z e => nomatch e⟩
      · exact ⟨_, rfl, rfl, fun z e => nomatch e⟩
      · exact ⟨_, rfl, rfl, fun z e => nomatch e⟩
      · exact ⟨_, rfl, rfl, fun z e => by cases e; decide +kernel⟩
    obtain ⟨b, hb1, hb2, hb3⟩ := hb
    refine evd_ret (K := K) (by wtm_at "ev") fun y H1 s1 hy => ?_
    refine q y _ H1 s1 hy ?_ (fit2 _ _ hb3)
    show (isKeyD (.int k) && heldD (wordT false) b) = false
    have : heldD (wordT false) b = isNumD b := by unfold heldD; rw [if_neg (by decide +kernel)]
    rw [this, hb2, Bool.and_false]
theorem fitB_tup {w : PyData} {ps : List PyData} (h : ps.length ≤ 30000) (hf : ∀ p ∈ ps, FitP p) : FitB (.tuple [w, .tuple ps]) := fun w' ps' e => by
  cases e
  exact ⟨h, hf⟩
theorem fitB_no {d : PyData} (h : ∀ w ps, d ≠ .tuple [w, .tuple ps]) : FitB d := fun w ps e => absurd e (h w ps)
theorem held_len {lf : Bool} {d : PyData} (h : heldD (wordT lf) d = true) : ∀ z, d = .str z → z.length ≤ 60 := fun z e => by
  subst e
  unfold heldD at h
  split at h
  · have : (decide (z.length ≤ 60) && _) = true := h
    rw [Bool.and_eq_true, decide_eq_true_eq] at this
    exact this.1
  · cases h
theorem fitP_pair {k : Int} {h : PyData} (hz : ∀ z, h = .str z → z.length ≤ 60) : FitP (.tuple [.int k, h]) := fun k' z e => by
  cases e
  exact sz (by have := hz z rfl; omega)
theorem strok_val {z : Str} (h : isValD (.str z) = true) : PyData.strOk z = true := by
  have h' : (decide (z.length ≤ 60) && z.cps.toList.all signOk) = true := h
  rw [Bool.and_eq_true] at h'
  unfold PyData.strOk
  rw [← Array.all_toList, List.all_eq_true]
  intro c hc
  have := List.all_eq_true.mp h'.2 c hc
  unfold signOk at this
  rw [Bool.and_eq_true, decide_eq_true_eq, decide_eq_true_eq] at this
  exact decide_eq_true (by omega)
theorem held_strict {lf : Bool} {d : PyData} (h : heldD (wordT lf) d = true) : strictD d = true := by
  unfold heldD at h
  split at h
  · cases d <;> first | (simp only [strictD]; exact strok_val h) | cases h
  · cases d <;> first | rfl | cases h
theorem okT_fit {l u : Int} {b : TB} (h : okT l u b) : ∀ p ∈ rowD b.ps, FitP p := fun p hp => by
  obtain ⟨q, hq, rfl⟩ := List.mem_map.mp hp
  exact fitP_pair (held_len (h.2.2.1 q hq).2)
theorem spb_of {root : Bool} {w : Int} {b : TB} {d : PyData} (h : ∀ l, isBlockD l w d = false) : SpB root w b d :=
  .bad (fun _ => by unfold rootD; rw [h 0, Bool.false_and]) fun _ => h _
theorem rowD_rev {P : PL} : (rowD P).reverse = rowD P.reverse := by unfold rowD; rw [List.map_reverse]
theorem rev_not {ps : PL} (hp : 1 < ps.length) (h : (keysT ps).Pairwise (· < ·)) : ¬ (keysT ps.reverse).Pairwise (· < ·) := by
  intro h1
  have e : keysT ps.reverse = (keysT ps).reverse := by unfold keysT; rw [List.map_reverse]
  rw [e, List.pairwise_reverse] at h1
  cases ps with
  | nil => simp at hp
  | cons a r =>
    cases r with
    | nil => simp at hp
    | cons b r =>
      have g1 : b.1 < a.1 := (List.pairwise_cons.mp h1).1 b.1 List.mem_cons_self
      have g2 : a.1 < b.1 := (List.pairwise_cons.mp h).1 b.1 List.mem_cons_self
      omega
theorem key_small {k : Int} (h : isKeyD (.int k) = true) : -(2 ^ 250) < k ∧ k < 2 ^ 250 := by
  have h' : (decide (-KB < k) && decide (k < KB)) = true := h
  rw [Bool.and_eq_true, decide_eq_true_eq, decide_eq_true_eq] at h'
  have hKB : KB < 2 ^ 250 := by decide +kernel
  omega
theorem g_catA {H : Hp} {Q : VK} {x y : V} {ds es : List PyData} (hx : Dp K H x (.tuple ds)) (hy : Dp K H y (.tuple es)) (hl : ds.length + es.length ≤ 100000) (q : ∀ z H', Same H H' → Dp K H' z (.tuple (ds ++ es)) → Q z H') : rCatA K x y H Q :=
  evd_catA (σ := []) (ta := fun _ H R => R x H) (tb := fun _ H R => R y H) (fun H1 s1 R r => r x H1 (L2.Same.refl _) (Dp.go s1 hx)) (fun H1 s1 R r => r y H1 (L2.Same.refl _) (Dp.go s1 hy)) hl H (L2.Same.refl _) Q q
theorem g_slA {H : Hp} {Q : VK} {x : V} {ds : List PyData} {lo hi : Option Int} (hx : Dp K H x (.tuple ds)) (q : ∀ z H', Same H H' → Dp K H' z (.tuple (cutL ds lo hi)) → Q z H') : rSlA K x lo hi H Q :=
  evd_slA (σ := []) (te := fun _ H R => R x H) (tl := fun _ H R => R lo H) (th := fun _ H R => R hi H) (fun H1 s1 R r => r x H1 (L2.Same.refl _) (Dp.go s1 hx)) (fun H1 s1 R r => r H1 (L2.Same.refl _)) (fun H1 s1 R r => r H1 (L2.Same.refl _)) H (L2.Same.refl _) Q q
theorem ok_l_block_spoilt (T : Tx K mg) : FnOk P w K mg base CX0 2 T.a_l_block_spoilt T.d_l_block_spoilt ["_law_block", "_law_root", "_law_way", "_law_width", "_law_more"] (sp_l_block_spoilt K) := by
  refine T.F_l_block_spoilt.ok sc_l_block_spoilt (fun vs H Q E h => ?_) (fun cdv A outer s H vs Q E hr h => ?_)
  · obtain ⟨x, b, root, way, w, more, rfl, _⟩ := h
    rfl
  obtain ⟨x, b, root, way, w, more, rfl, hx, hok, h2, hw, hw2, hy0, hy8, hm, q⟩ := h
  refine ⟨_, (pss_cons (ps_set (i := 5) sc_l_block_spoilt.nd rfl (Or.inl rfl) (pe_ix ix_tup (pv 0) pe_int (fun _ _ => rfl)))
    (pss_cons (ps_set (i := 6) sc_l_block_spoilt.nd rfl (Or.inr rfl) (pe_ix ix_tup (pv 0) pe_int (fun _ _ => rfl)))
    (pss_cons (ps_if (pw_and (pt_cmpR op_eq (pv 2) pe_int (nomark _)) (pw_and1 (pt_cmpR op_gt (pe_callB my_len (by rfl) T.z_len PySem.boot_len (pa_cons (pv 6) pa_nil)) pe_int (nomark _)))).pt
      (pss_one (ps_ret (pe_tup (pa_cons (pv 5) (pa_cons (pe_revT (pv 6)) pa_nil)))))
      pss_nil)
    (pss_cons (ps_if (pw_and (pt_cmpR op_eq (pv 2) pe_int (nomark _)) (pw_and (pt_val (pv 1)) (pw_and1 (pt_cmpR op_eq (pv 5) pe_str (nomark _))))).pt
      (pss_one (ps_ret (pe_tup (pa_cons (pv 5) (pa_cons (pe_slice sl_tupA (pv 6) po_none (po_some pe_int)) pa_nil)))))
      pss_nil)
    (pss_cons (ps_if (pw_and (pt_cmpR op_eq (pv 2) pe_int (nomark _)) (pw_and1 (pt_not (pt_val (pv 1))))).pt
      (pss_one (ps_ret (pe_tup (pa_cons (pv 5) (pa_cons (pe_slice sl_tupA (pv 6) po_none (po_some (pe_op op_sub (pe_op op_fdiv (pe_op op_add (pv 3) pe_int) pe_int) pe_int))) pa_nil)))))
      pss_nil)
    (pss_cons (ps_if (pw_and (pt_cmpR op_eq (pv 2) pe_int (nomark _)) (pw_and1 (pw_or (pt_not (pt_val (pv 1))) (pw_or1 (pt_cmpR op_eq (pv 5) pe_str (nomark _)))).pt)).pt
      (pss_one (ps_ret (pe_tup (pa_cons (pv 5) (pa_cons (pe_op op_catA (pe_tup (pa_cons (pe_tup (pa_cons (pe_op op_sub (pe_ix ix_tup (pe_ix ix_tup (pv 6) pe_int (fun _ _ => rfl)) pe_int (fun _ _ => rfl)) pe_int) (pa_cons (pe_ix ix_tup (pe_ix ix_tup (pv 6) pe_int (fun _ _ => rfl)) pe_int (fun _ _ => rfl)) pa_nil))) pa_nil)) (pe_slice sl_tupA (pv 6) (po_some pe_int) po_none)) pa_nil)))))
      pss_nil)
    (pss_cons (ps_if (pw_and (pt_cmpR op_eq (pv 2) pe_int (nomark _)) (pw_and1 (pt_cmpR op_eq (pv 5) pe_str (nomark _)))).pt
      (pss_one (ps_ret (pe_tup (pa_cons (pv 5) (pa_cons (pe_op op_catA (pe_slice sl_tupA (pv 6) po_none (po_some (pe_un un_neg pe_int))) (pe_tup (pa_cons (pe_tup (pa_cons (pe_ix ix_tup (pe_ix ix_tup (pv 6) (pe_un un_neg pe_int) (fun _ _ => rfl)) pe_int (fun _ _ => rfl)) (pa_cons (pe_ix ix_tup (pe_ix ix_tup (pv 6) pe_int (fun _ _ => rfl)) pe_int (fun _ _ => rfl)) pa_nil))) pa_nil))) pa_nil)))))
      pss_nil)
    (pss_cons (ps_if (pw_and (pt_cmpR op_eq (pv 2) pe_int (nomark _)) (pw_and1 (pt_cmpR op_gt (pe_callB my_len (by rfl) T.z_len PySem.boot_len (pa_cons (pv 6) pa_nil)) pe_int (nomark _)))).pt
      (pss_one (ps_ret (pe_tup (pa_cons (pv 5) (pa_cons (pe_op op_catA (pv 6) (pe_callTy my_tuple (by rfl) T.z_tuple (by decide +kernel) (pa_cons (pe_lc (own := [("_law_k", 7)]) (g := gName 7) (tt := tYes) rfl sc_l_block_spoilt.nd (pi_range2 (by rfl) T.z_range (pa_cons pe_int (pa_cons (pe_op op_sub (pe_op op_add (pv 3) pe_int) (pe_callB my_len (by rfl) T.z_len PySem.boot_len (pa_cons (pv 6) pa_nil))) pa_nil))) (blkOk_by (own := [("_law_k", 7)]) (N := N_l_block_spoilt) (sc := defScope s_l_block_spoilt) (by decide +kernel)) (fun _ _ _ _ _ => (pg_name (i := 7) sc_l_block_spoilt.nd rfl (Or.inl rfl))) (fun _ _ _ _ _ => pts_nil) (fun _ _ _ _ _ => (pe_tup (pa_cons (pe_op op_add (pe_ix (ixTK (K := K) rfl) (pe_ix (ixTK (K := K) rfl) (pv 6) (pe_un un_neg pe_int) (fun _ _ => rfl)) pe_int (fun _ _ => rfl)) (pv 7)) (pa_cons (pe_ix (ixTK (K := K) rfl) (pe_ix (ixTK (K := K) rfl) (pv 6) (pe_un un_neg pe_int) (fun _ _ => rfl)) pe_int (fun _ _ => rfl)) pa_nil))))) pa_nil))) pa_nil)))))
      pss_nil)
    (pss_cons (ps_if (pw_and (pt_cmpR op_eq (pv 2) pe_int (nomark _)) (pw_and1 (pt_cmpR op_gt (pe_callB my_len (by rfl) T.z_len PySem.boot_len (pa_cons (pv 6) pa_nil)) pe_int (nomark _)))).pt
      (pss_cons (ps_set (i := 8) sc_l_block_spoilt.nd rfl (Or.inl rfl) (pe_op op_mod (pv 4) (pe_callB my_len (by rfl) T.z_len PySem.boot_len (pa_cons (pv 6) pa_nil))))
      (pss_one (ps_ret (pe_tup (pa_cons (pv 5) (pa_cons (pe_op op_catA (pe_op op_catA (pe_slice sl_tupA (pv 6) po_none (po_some (pv 8))) (pe_tup (pa_cons (pe_call (ok_l_pair_spoilt T) hr (by rfl) T.g_l_pair_spoilt T.F_l_pair_spoilt.kp T.b_l_pair_spoilt .nil pass0 (pa_cons (pv 5) (pa_cons (pe_ix ix_tup (pv 6) (pv 8) (fun _ _ => rfl)) (pa_cons (pe_op op_fdiv (pv 4) pe_int) pa_nil)))) pa_nil))) (pe_slice sl_tupA (pv 6) (po_some (pe_op op_add (pv 8) pe_int)) po_none)) pa_nil))))))
      pss_nil)
    (pss_one (ps_ret (pe_ix ix_list (pe_lst (pa_cons pe_non (pa_cons pe_non (pa_cons pe_non (pa_cons pe_non (pa_cons pe_non (pa_cons pe_non (pa_cons (pe_tup (pa_cons (pv 5) (pa_cons (pe_callTy my_list (by rfl) T.z_list (by decide +kernel) (pa_cons (pv 6) pa_nil)) pa_nil))) (pa_cons (pe_tup (pa_cons (pe_op my_addS (pv 5) pe_str) (pa_cons (pv 6) pa_nil))) (pa_cons pe_int pa_nil)))))))))) (pv 2) (fun _ _ => rfl))))))))))))), ?_⟩
  obtain ⟨lf, ps⟩ := b
  dsimp only at h2
  obtain ⟨ta, tp, ys, rfl, ht, htp, hys⟩ := dp_blk hx
  have ly := dpAll_len hys
  unfold rowD at ly
  rw [List.length_map] at ly
  dsimp only at ly
  have hP : Dp K H (.ref tp) (.tuple (rowD ps)) := .tup htp hys
  have hlen : (ps.length : Int) ≤ w := hok.2.1
  have hlow : root = false → halfI w ≤ (ps.length : Int) := fun e => by
    have := hok.1
    rw [e] at this
    exact this
  have hfit := okT_fit hok
  have lrow : (rowD ps).length = ps.length := by unfold rowD; rw [List.length_map]
  have hwl : (wordT lf).length ≤ 10 := by cases lf <;> decide +kernel
  have h2b : lf = false → 2 ≤ ps.length := fun e => by
    cases root with
    | true => exact (h2 rfl).elim (fun h => by rw [e] at h; cases h) id
    | false =>
      have := hlow rfl
      unfold halfI at this
      omega
  have ewl : decide (V.str (wordT lf) = V.str (Str.ofString "branch")) = !lf := (decide_eq_decide.mpr ⟨V.str.inj, congrArg V.str⟩).trans word_br
  wtm_at "gs"
  refine g_ixT ht (atI_nat (j := 0) rfl) ?_
  wtm_at "gs"
  wtm_at "gs"
  refine g_ixT ht (atI_nat (j := 1) rfl) ?_
  wtm_at "gs"
  -- way 0
  refine g_seq ?_
  refine g_ifP (1 < ps.length) True (fun QB k1 k2 => ?_) (fun hp => ?_) (fun _ => ?_)
  · wtm_at "gs"
    refine g_andK (fun c => ?_) (fun _ => k2 trivial)
    wtm_at "gs"
    cases c2 : decide ((ys.length : Int) > 1) with
    | true => exact k1 (by have := of_decide_eq_true c2; omega)
    | false => exact k2 trivial
  · refine evd_ret (K := K) (by wtm_at "ev") fun y H1 s1 hy => ?_
    rw [rowD_rev] at hy
    refine q y _ H1 s1 hy (.inr ⟨spb_of fun l => ?_, fitB_tup (by unfold rowD; rw [List.length_map, List.length_reverse]; omega) (fun p hp => hfit p ?_), fun z => nomatch z⟩)
    · show isBlockD l w (TB.D ⟨lf, ps.reverse⟩) = false
      rw [Bool.eq_false_iff]
      intro z
      exact rev_not hp hok.2.2.2 (isBlockD_D.mp z).2.2.2
    · rw [← rowD_rev] at hp
      exact List.mem_reverse.mp hp
  refine g_next ?_
  -- way 1, the root
  wtm_at "red"
  refine g_seq ?_
  refine g_ifP (root = true ∧ lf = false) True (fun QB k1 k2 => ?_) (fun hp => ?_) (fun _ => ?_)
  · wtm_at "gs"
    refine g_andK (fun c => ?_) (fun _ => k2 trivial)
    wtm_at "gs"
    refine g_andK (fun c1 => ?_) (fun _ => k2 trivial)
    wtm_at "gs"
    rw [ewl]
    cases lf with
    | true => exact k2 trivial
    | false => exact k1 ⟨c1, rfl⟩
  · obtain ⟨e1, e2⟩ := hp
    subst e1 e2
    refine evd_ret (K := K) (by wtm_at "ev") fun y H1 s1 hy => ?_
    rw [show (1 : Int) = ((1 : Nat) : Int) from rfl, cutL_to] at hy
    refine q y _ H1 s1 hy (.inr ⟨.bad (fun _ => ?_) (fun e => nomatch e), fitB_tup (by rw [List.length_take]; omega) (fun p hp => hfit p (List.mem_of_mem_take hp)), fun z => nomatch z⟩)
    have e3 : (PyData.tuple [.str (wordT false), .tuple ((rowD ps).take 1)]) = TB.D ⟨false, ps.take 1⟩ := by
      unfold rowD
      rw [← List.map_take]
      rfl
    rw [e3]
    unfold rootD
    rw [toTB_D, decide_eq_false (by show ¬ 2 ≤ (ps.take 1).length; rw [List.length_take]; omega)]
    exact Bool.and_false _
  refine g_next ?_
  -- way 1, another
  wtm_at "red"
  refine g_seq ?_
  refine g_ifP (root = false) True (fun QB k1 k2 => ?_) (fun hp => ?_) (fun _ => ?_)
  · wtm_at "gs"
    refine g_andK (fun c => ?_) (fun _ => k2 trivial)
    wtm_at "gs"
    cases root with
    | true => exact k2 trivial
    | false => exact k1 rfl
  · subst hp
    have hl := hlow rfl
    unfold halfI at hl
    refine evd_ret (K := K) (by wtm_at "ev") fun y H1 s1 hy => ?_
    obtain ⟨n, hn⟩ : ∃ n : Nat, (w + 1) / 2 - 1 = (n : Int) := ⟨((w + 1) / 2 - 1).toNat, by omega⟩
    rw [hn, cutL_to] at hy
    refine q y _ H1 s1 hy (.inr ⟨.bad (fun e => nomatch e) (fun _ => ?_), fitB_tup (by rw [List.length_take]; omega) (fun p hp => hfit p (List.mem_of_mem_take hp)), fun z => nomatch z⟩)
    have e3 : (PyData.tuple [.str (wordT lf), .tuple ((rowD ps).take n)]) = TB.D ⟨lf, ps.take n⟩ := by
      unfold rowD
      rw [← List.map_take]
      rfl
    rw [e3, Bool.eq_false_iff]
    intro z
    have h1 : halfI w ≤ (((ps.take n).length : Nat) : Int) := (isBlockD_D.mp z).1
    unfold halfI at h1
    rw [List.length_take] at h1
    omega
  refine g_next ?_
  -- way 2
  wtm_at "red"
  refine g_seq ?_
  refine g_ifP (root = true → lf = false) True (fun QB k1 k2 => ?_) (fun hp => ?_) (fun _ => ?_)
  · wtm_at "gs"
    refine g_andK (fun c => ?_) (fun _ => k2 trivial)
    wtm_at "gs"
    refine g_orK (fun c1 => k1 fun e => ?_) (fun _ => ?_)
    · rw [e] at c1; cases c1
    · wtm_at "gs"
      rw [ewl]
      cases lf with
      | true => exact k2 trivial
      | false => exact k1 fun _ => rfl
  · have hne : ∃ k h r, ps = (k, h) :: r := by
      have : 0 < ps.length := by
        cases root with
        | true => have := h2b (hp rfl); omega
        | false => have := hlow rfl; unfold halfI at this; omega
      cases ps with
      | nil => simp at this
      | cons p r => exact ⟨p.1, p.2, r, rfl⟩
    obtain ⟨k, h, r, rfl⟩ := hne
    have hP' : Dp K H (.ref tp) (.tuple (.tuple [.int k, h] :: rowD r)) := hP
    have hrl : (rowD r).length ≤ 100 := by unfold rowD; rw [List.length_map]; rw [List.length_cons] at hlen; omega
    clear hP hx hys
    refine evd_ret (K := K) (by wtm_at "ev") fun y H1 s1 hy => ?_
    rw [show (1 : Int) = ((1 : Nat) : Int) from rfl, cutL_from] at hy
    have hkh : ∀ z, h = .str z → z.length ≤ 60 := held_len (lf := lf) (hok.2.2.1 (k, h) List.mem_cons_self).2
    refine q y (TB.D ⟨lf, (k - 1, h) :: r⟩) H1 s1 hy (.inr ⟨.low rfl hp, ?_, fun z => nomatch z⟩)
    refine fitB_tup ?_ fun p hp => ?_
    · show (List.map pairD ((k - 1, h) :: r)).length ≤ _
      rw [List.length_map]
      rw [List.length_cons] at hlen ⊢
      omega
    · rcases List.mem_cons.mp hp with e | e
      · rw [e]; exact fitP_pair hkh
      · exact hfit p (List.mem_cons_of_mem _ e)
  refine g_next ?_
  -- way 3
  wtm_at "red"
  refine g_seq ?_
  refine g_ifP (lf = false) True (fun QB k1 k2 => ?_) (fun hp => ?_) (fun _ => ?_)
  · wtm_at "gs"
    refine g_andK (fun c => ?_) (fun _ => k2 trivial)
    wtm_at "gs"
    rw [ewl]
    cases lf with
    | true => exact k2 trivial
    | false => exact k1 rfl
  · have hl2 := h2b hp
    subst hp
    obtain ⟨k0, h0, mid, kl, hl, rfl⟩ : ∃ k0 h0 mid kl hl, ps = (k0, h0) :: (mid ++ [(kl, hl)]) := by
      cases ps with
      | nil => simp at hl2
      | cons p r =>
        cases e : r.reverse with
        | nil =>
          have : r = [] := by simpa using e
          rw [this] at hl2
          simp at hl2
        | cons l m =>
          refine ⟨p.1, p.2, m.reverse, l.1, l.2, ?_⟩
          have : r = m.reverse ++ [l] := by rw [← List.reverse_reverse r, e, List.reverse_cons]
          rw [this]
    have er : rowD ((k0, h0) :: (mid ++ [(kl, hl)])) = (.tuple [.int k0, h0] :: rowD mid) ++ [.tuple [.int kl, hl]] := by
      unfold rowD
      rw [List.map_cons, List.map_append]
      rfl
    have ea0 : atI (rowD ((k0, h0) :: (mid ++ [(kl, hl)]))) 0 = some (.tuple [.int k0, h0]) := atI_nat (j := 0) rfl
    have eal : atI (rowD ((k0, h0) :: (mid ++ [(kl, hl)]))) (-1) = some (.tuple [.int kl, hl]) := by
      rw [er]
      exact atI_last _ _
    have hlen' : (mid.length : Int) + 2 ≤ w := by
      have : ((((k0, h0) :: (mid ++ [(kl, hl)])).length : Nat) : Int) ≤ w := hlen
      rw [List.length_cons, List.length_append, List.length_singleton] at this
      omega
    have hc : (cutL (rowD ((k0, h0) :: (mid ++ [(kl, hl)]))) none (some (-1))).length + [PyData.tuple [.int kl, h0]].length ≤ 100000 := by
      rw [er, cutL_init]
      unfold rowD
      simp only [List.length_cons, List.length_map, List.length_nil]
      omega
    clear hx hys
    refine evd_ret (K := K) (by wtm_at "ev") fun y H1 s1 hy => ?_
    rw [er, cutL_init] at hy
    have e9 : PyData.tuple [.str (wordT false), .tuple ((.tuple [.int k0, h0] :: rowD mid) ++ [.tuple [.int kl, h0]])] = TB.D ⟨false, (k0, h0) :: (mid ++ [(kl, h0)])⟩ := by
      unfold TB.D rowD
      rw [List.map_cons, List.map_append]
      rfl
    rw [e9] at hy
    have hkh : ∀ z, h0 = .str z → z.length ≤ 60 := held_len (lf := false) (hok.2.2.1 (k0, h0) List.mem_cons_self).2
    refine q y _ H1 s1 hy (.inr ⟨.twice rfl rfl, ?_, fun z => nomatch z⟩)
    rw [← e9]
    refine fitB_tup ?_ fun p hp => ?_
    · unfold rowD
      simp only [List.length_append, List.length_cons, List.length_map, List.length_nil]
      omega
    · rcases List.mem_append.mp hp with e | e
      · exact hfit p (by rw [er]; exact List.mem_append_left _ e)
      · rw [List.mem_singleton.mp e]; exact fitP_pair hkh
  refine g_next ?_
  -- way 4
  wtm_at "red"
  refine g_seq ?_
  refine g_ifP (0 < ps.length) True (fun QB k1 k2 => ?_) (fun hp => ?_) (fun _ => ?_)
  · wtm_at "gs"
    refine g_andK (fun c => ?_) (fun _ => k2 trivial)
    wtm_at "gs"
    cases c2 : decide ((ys.length : Int) > 0) with
    | true => exact k1 (by have := of_decide_eq_true c2; omega)
    | false => exact k2 trivial
  · obtain ⟨init, kl, hl, rfl⟩ : ∃ init kl hl, ps = init ++ [(kl, hl)] := by
      cases e : ps.reverse with
      | nil =>
        have : ps = [] := by simpa using e
        rw [this] at hp
        simp at hp
      | cons l m =>
        refine ⟨m.reverse, l.1, l.2, ?_⟩
        rw [← List.reverse_reverse ps, e, List.reverse_cons]
    have er : rowD (init ++ [(kl, hl)]) = rowD init ++ [.tuple [.int kl, hl]] := by
      unfold rowD
      rw [List.map_append]
      rfl
    have eal : atI (rowD (init ++ [(kl, hl)])) (-1) = some (.tuple [.int kl, hl]) := by
      rw [er]
      exact atI_last _ _
    have hheld := (hok.2.2.1 (kl, hl) (List.mem_append_right _ (List.mem_singleton.mpr rfl))).2
    have hst := held_strict hheld
    clear hx
    refine g_ret (g_tup (g_cons (g_var rfl (g_cons (g_op (g_var rfl ?_))))))
    wtm_at "go"
    refine g_lcR2k (fun i y H => ∃ k, Dp K H y (.tuple [.int k, hl])) (by decide) (by decide) (by omega) (by omega) (by omega) (fun x => rfl) (fun i y H1 H2 st ⟨k, hk⟩ => ⟨k, Dp.still st (by simp [strictD, strictAll, hst]) hk⟩)
      (fun i H1 QE hi s1 kq => ?_) (fun p zs H1 n1 s1 e1 hzl hzs => ?_)
    · refine evd_to (K := K) (by wtm_at "ev") fun y H2 s2 hy => ?_
      exact kq y H2 s2 ⟨_, hy⟩
    · obtain ⟨es, hel, hes⟩ := exists_data (ys := zs) (R := fun i y d => Dp K H1 y d ∧ ∃ k, d = .tuple [.int k, hl]) fun i y hy => by
        obtain ⟨k, hk⟩ := hzs i y hy
        exact ⟨_, hk, k, rfl⟩
      have dz : DpAll K H1 zs es := dpAll_of hel.symm fun i v d hv hd => (hes i v d hv hd).1
      have hform : ∀ d ∈ es, ∃ k, d = .tuple [.int k, hl] := fun d hd => by
        obtain ⟨i, hi⟩ := List.getElem?_of_mem hd
        have hi2 := (List.getElem?_eq_some_iff.mp hi).1
        exact (hes i zs[i] d (List.getElem?_eq_getElem (by omega)) hi).2
      have lall : (rowD (init ++ [(kl, hl)]) ++ es).length = w.toNat + 1 := by
        rw [List.length_append, lrow, hel, hzl]
        omega
      wtm_at "go"
      refine g_tupleL (SqL.of e1) fun p2 H2 n2 s2 e2 => ?_
      refine g_catA (ds := rowD (init ++ [(kl, hl)])) (es := es) (Dp.go (s1.trans s2) hP) (.tup (SqT.of e2) (DpAll.go s2 dz)) (by rw [List.length_append] at lall; omega) fun z H3 s3 hz => ?_
      wtm_at "go"
      refine g_tupK (by wtm_at "ln") fun p4 H4 n4 s4 e4 => ?_
      refine q _ (.tuple [.str (wordT lf), .tuple (rowD (init ++ [(kl, hl)]) ++ es)]) H4 (s1.trans (s2.trans (s3.trans s4))) (.tup (SqT.of e4) (.cons (.str _) (.cons (Dp.go s4 hz) .nil))) (.inr ⟨spb_of fun l => ?_, fitB_tup (by omega) (fun p hp => ?_), fun z => nomatch z⟩)
      · rw [Bool.eq_false_iff]
        intro z
        have := (isBlockD_iff.mp z).2.2.1
        have e : (toTB (.tuple [.str (wordT lf), .tuple (rowD (init ++ [(kl, hl)]) ++ es)])).ps.length = (rowD (init ++ [(kl, hl)]) ++ es).length := List.length_map ..
        rw [e, lall] at this
        omega
      · rcases List.mem_append.mp hp with hp | hp
        · exact hfit p hp
        · obtain ⟨k, rfl⟩ := hform p hp
          exact fitP_pair (held_len hheld)
  refine g_next ?_
  -- way 5
  wtm_at "red"
  refine g_seq ?_
  refine g_ifP (0 < ps.length) True (fun QB k1 k2 => ?_) (fun hp => ?_) (fun _ => ?_)
  · wtm_at "gs"
    refine g_andK (fun c => ?_) (fun _ => k2 trivial)
    wtm_at "gs"
    cases c2 : decide ((ys.length : Int) > 0) with
    | true => exact k1 (by have := of_decide_eq_true c2; omega)
    | false => exact k2 trivial
  · wtm_at "gs"
    rw [ly]
    have a0 := Int.emod_nonneg more (show (ps.length : Int) ≠ 0 by omega)
    have a1 := Int.emod_lt_of_pos more (show (0 : Int) < (ps.length : Int) by omega)
    generalize more % (ps.length : Int) = at_ at a0 a1
    obtain ⟨n, rfl⟩ : ∃ n : Nat, at_ = (n : Int) := ⟨at_.toNat, by omega⟩
    have hn : n < ps.length := by omega
    have hn' : n < ys.length := by omega
    obtain ⟨pr, hpr, hpx⟩ := dpAll_at' (f := pairD) hys (List.getElem?_eq_getElem hn')
    have hmem := List.mem_of_getElem? hpr
    obtain ⟨g1, g2⟩ := hok.2.2.1 pr hmem
    obtain ⟨b1, b2⟩ := key_small g1
    clear hx
    refine g_slA hP fun x1 H1 s1 hx1 => ?_
    rw [cutL_to] at hx1
    wtm_at "go"
    refine g_ixT (Same.seqT s1 htp) (atI_nat (List.getElem?_eq_getElem hn')) ?_
    wtm_at "go"
    refine ⟨lf, ys[n], _, pr.1, pr.2, rfl, Dp.go s1 hpx, held_len g2, b1, b2, fun y2 d2 H2 s2 hy2 hbad hfit2 => ?_⟩
    wtm_at "go"
    refine g_tupK (by wtm_at "ln") fun p3 H3 n3 s3 e3 => ?_
    have hP3 : Dp K H3 (.ref tp) (.tuple (rowD ps)) := Dp.go (s1.trans (s2.trans s3)) hP
    refine g_catA (ds := (rowD ps).take n) (es := [d2]) (Dp.go (s2.trans s3) hx1) (.tup (SqT.of e3) (.cons (Dp.go s3 hy2) .nil)) (by rw [List.length_take]; simp only [List.length_cons, List.length_nil]; omega) fun z4 H4 s4 hz4 => ?_
    have hP4 := Dp.go s4 hP3
    refine evd_to (K := K) (by wtm_at "ev") fun x5 H5 s5 hx5 => ?_
    rw [show (n : Int) + 1 = ((n + 1 : Nat) : Int) from rfl, cutL_from] at hx5
    refine g_catA (Dp.go s5 hz4) hx5 (by simp only [List.length_append, List.length_take, List.length_drop, List.length_cons, List.length_nil]; omega) fun z6 H6 s6 hz6 => ?_
    wtm_at "go"
    refine g_tupK (by wtm_at "ln") fun p7 H7 n7 s7 e7 => ?_
    refine q _ (.tuple [.str (wordT lf), .tuple (((rowD ps).take n ++ [d2]) ++ (rowD ps).drop (n + 1))]) H7 (s1.trans (s2.trans (s3.trans (s4.trans (s5.trans (s6.trans s7)))))) (.tup (SqT.of e7) (.cons (.str _) (.cons (Dp.go s7 hz6) .nil))) (.inr ⟨spb_of fun l => ?_, fitB_tup ?_ (fun p hp => ?_), fun z => nomatch z⟩)
    · show ((decide (wordT lf = leafW) || decide (wordT lf = branchW)) && _ && ((((rowD ps).take n ++ [d2]) ++ (rowD ps).drop (n + 1)).all (isPairD (wordT lf)) && _)) = false
      rw [all_mid hbad, Bool.false_and, Bool.and_false]
    · simp only [List.length_append, List.length_take, List.length_drop, List.length_cons, List.length_nil]
      omega
    · rcases List.mem_append.mp hp with hp | hp
      · rcases List.mem_append.mp hp with hp | hp
        · exact hfit p (List.mem_of_mem_take hp)
        · rw [List.mem_singleton.mp hp]; exact hfit2
      · exact hfit p (List.mem_of_mem_drop hp)
  refine g_next ?_
  -- the others
  wtm_at "red"
  have hws : (wordT lf).length + (Str.ofString "es").length ≤ 100000 := by cases lf <;> decide +kernel
  have hb : ∃ d, [PyData.none, .none, .none, .none, .none, .none, .tuple [.str (wordT lf), .list (rowD ps)], .tuple [.str (wordT lf ++ Str.ofString "es"), .tuple (rowD ps)], .int 7][way.toNat]? = some d ∧ (d = .none ∨ (SpB root w ⟨lf, ps⟩ d ∧ FitB d ∧ d ≠ .none)) := by
    have h9 : way.toNat = 0 ∨ way.toNat = 1 ∨ way.toNat = 2 ∨ way.toNat = 3 ∨ way.toNat = 4 ∨ way.toNat = 5 ∨ way.toNat = 6 ∨ way.toNat = 7 ∨ way.toNat = 8 := by omega
    rcases h9 with e | e | e | e | e | e | e | e | e <;> rw [e]
    · exact ⟨_, rfl, .inl rfl⟩
    · exact ⟨_, rfl, .inl rfl⟩
    · exact ⟨_, rfl, .inl rfl⟩
    · exact ⟨_, rfl, .inl rfl⟩
    · exact ⟨_, rfl, .inl rfl⟩
    · exact ⟨_, rfl, .inl rfl⟩
    · exact ⟨_, rfl, .inr ⟨spb_of fun l => isBlockD_pairs (by simp [tyD]), fitB_no (fun w ps e => nomatch e), fun z => nomatch z⟩⟩
    · refine ⟨_, rfl, .inr ⟨spb_of fun l => ?_, fitB_tup (by omega) hfit, fun z => nomatch z⟩⟩
      have n1 : wordT lf ++ Str.ofString "es" ≠ leafW := by cases lf <;> decide +kernel
      have n2 : wordT lf ++ Str.ofString "es" ≠ branchW := by cases lf <;> decide +kernel
      show ((decide (wordT lf ++ Str.ofString "es" = leafW) || decide (wordT lf ++ Str.ofString "es" = branchW)) && _ && _) = false
      rw [decide_eq_false n1, decide_eq_false n2]
      rfl
    · exact ⟨_, rfl, .inr ⟨spb_of fun l => rfl, fitB_no (fun w ps e => nomatch e), fun z => nomatch z⟩⟩
  obtain ⟨d, hd1, hd2⟩ := hb
  refine evd_ret (K := K) (by wtm_at "ev") fun y H1 s1 hy => ?_
  exact q y d H1 s1 hy hd2
theorem fitM_put {m : BT} {k : Int} {d : PyData} (h : fitM m) (hd : FitB d) : fitM (putA m k d) := all_put h hd
theorem fitM_drop {m : BT} {k : Int} (h : fitM m) : fitM (dropA m k) := all_drop h
theorem smP_of {P : PL} (h : ∀ p ∈ P, (∃ i, p.2 = .int i) ∨ p.2 = .str "v") : smP P := fun p hp => by
  rcases h p hp with ⟨i, e⟩ | e <;> rw [e]
  · exact ⟨rfl, by simp [PyData.depth]⟩
  · exact ⟨by simp only [strictD]; decide +kernel, by simp [PyData.depth]⟩
theorem fit_small {b : TB} (h : ∀ p ∈ b.ps, (∃ i, p.2 = .int i) ∨ p.2 = .str "v") (hl : b.ps.length ≤ 1000) : FitB b.D := fitB_tup (by rw [List.length_map]; omega) fun p hp => by
  obtain ⟨q, hq, rfl⟩ := List.mem_map.mp hp
  refine fitP_pair fun z e => ?_
  rcases h q hq with ⟨i, e2⟩ | e2
  · rw [e] at e2; cases e2
  · rw [e] at e2; cases e2; decide +kernel
theorem ok_l_deeper (T : Tx K mg) : FnOk P w K mg base CX0 1 T.a_l_deeper T.d_l_deeper ["_law_found", "_law_number", "_law_first", "_law_more", "_law_width"] (sp_l_deeper K) := by
  refine T.F_l_deeper.ok sc_l_deeper (fun vs H Q E h => ?_) (fun cdv A outer s H vs Q E hr h => ?_)
  · obtain ⟨f, n, first, more, w, m, rfl, _⟩ := h
    rfl
  obtain ⟨f, n, first, more, w, m, rfl, hf, bm, fm, lm, hw, hw2, q⟩ := h
  refine ⟨_, (pss_cons (ps_set (i := 5) sc_l_deeper.nd rfl (Or.inl rfl) (pe_op op_fdiv (pe_op op_add (pv 4) pe_int) pe_int))
    (pss_cons (ps_set (i := 6) sc_l_deeper.nd rfl (Or.inl rfl) (pe_lst pa_nil))
    (pss_cons (ps_for PassesOwn.never rfl (pi_range1 (by rfl) T.z_range (pa_cons (pe_callB (my_min2 rfl) (by rfl) T.z_min (by decide +kernel) (pa_cons pe_int (pa_cons (pv 5) pa_nil))) pa_nil)) (pg_name (i := 7) sc_l_deeper.nd rfl (Or.inl rfl))
      (pss_cons (ps_set (i := 8) sc_l_deeper.nd rfl (Or.inr rfl) (pe_op op_add (pv 2) (pe_op op_mulX (pv 7) (pv 5))))
      (pss_cons (ps_dput (hu_of hr) (pv 0) (pe_op op_add (pv 3) (pv 7)) (pe_tup (pa_cons pe_str (pa_cons (pe_callTy my_tuple (by rfl) T.z_tuple (by decide +kernel) (pa_cons (pe_lc (own := [("_law_n", 9)]) (g := gName 9) (tt := tYes) rfl sc_l_deeper.nd (pi_range1 (by rfl) T.z_range (pa_cons (pv 5) pa_nil)) (blkOk_by (own := [("_law_n", 9)]) (N := N_l_deeper) (sc := defScope s_l_deeper) (by decide +kernel)) (fun _ _ _ _ _ => (pg_name (i := 9) sc_l_deeper.nd rfl (Or.inl rfl))) (fun _ _ _ _ _ => pts_nil) (fun _ _ _ _ _ => (pe_tup (pa_cons (pe_op op_add (pv 8) (pv 9)) (pa_cons pe_str pa_nil))))) pa_nil)) pa_nil))) rfl)
      (pss_one (ps_expr (pe_bm PySem.F.plainAttrs_list PySem.F.slot_list_append PySem.F.type_list_append mt_append (pv 6) (pa_cons (pe_tup (pa_cons (pv 8) (pa_cons (pe_op op_add (pv 3) (pv 7)) pa_nil))) pa_nil)))))))
    (pss_cons (ps_dput (hu_of hr) (pv 0) (pv 1) (pe_tup (pa_cons pe_str (pa_cons (pe_callTy my_tuple (by rfl) T.z_tuple (by decide +kernel) (pa_cons (pv 6) pa_nil)) pa_nil))) rfl)
    (pss_one (ps_ret (pv 0))))))), ?_⟩
  wtm_at "gs"
  wtm_at "gs"
  refine g_lstK (by wtm_at "ln") fun ab H1 n1 s1 e1 => ?_
  wtm_at "gs"
  obtain ⟨sn, hsn⟩ : ∃ sn : Nat, (w + 1) / 2 = (sn : Int) := ⟨((w + 1) / 2).toNat, by omega⟩
  rw [hsn]
  have habf : ab ≠ f := fun e => by
    obtain ⟨kv, ek, _⟩ := id hf
    rw [← e, n1] at ek
    cases ek
  wtm_at "gs"
  refine g_min2 ?_
  have hmin : (if (sn : Int) < 3 then (sn : Int) else 3) ≤ 3 ∧ 0 ≤ (if (sn : Int) < 3 then (sn : Int) else 3) := by split <;> omega
  generalize (if (sn : Int) < 3 then (sn : Int) else 3) = cnt at hmin
  wtm_at "gs"
  refine g_forR1k (fun i σ' H' => (∃ o7 o8, σ' = [some (.ref f), some (.int n), some (.int first), some (.int more), some (.int w), some (.int (sn : Int)), some (.ref ab), o7, o8, none]) ∧ Oth f H H' ∧ ∃ (mi : BT) (zs : List V) (as : PL), Dd K H' f mi ∧ H' ab = some (.lst zs) ∧ DpAll K H' zs (rowD as) ∧ as.length = i ∧ (∀ p ∈ as, ∃ j, p.2 = .int j) ∧ (∀ k, k < more → getA mi k = getA m k) ∧ Blk mi ∧ fitM mi ∧ mi.length ≤ m.length + i)
    (by omega) ⟨⟨_, _, rfl⟩, Oth.of s1, m, [], [], hf.go s1, e1, .nil, rfl, (fun p h => nomatch h), fun k _ => rfl, bm, fm, Nat.le_refl _⟩ (fun i σ' H' hi hp => ?_) (fun σ' H' hp => ?_)
  · obtain ⟨⟨o7, o8, rfl⟩, o2, mi, zs, as, di, ei, zi, li, hi2, gi, bi, fi, leni⟩ := hp
    wtm_at "gs"
    refine g_seq (g_dput (g_tup (g_cons (g_c (g_cons ?_)))))
    wtm_at "go"
    refine g_lcR1k (n := (sn : Int)) (fun j y H => Dp K H y (.tuple [.int (first + (i : Int) * (sn : Int) + (j : Int)), .str "v"])) (by omega) (fun x => rfl) (fun j y H1 H2 st hy => Dp.still st (by simp only [strictD, strictAll]; decide +kernel) hy) (fun j H2 QE hj s2 kq => ?_) (fun p ys H2 n2 s2 e2 hyl hys => ?_)
    · refine evd_to (K := K) (by wtm_at "ev") fun y H3 s3 hy => ?_
      exact kq y H3 s3 hy
    · obtain ⟨qs, hqs⟩ : ∃ qs : PL, qs = (List.range sn).map fun j : Nat => (first + (i : Int) * (sn : Int) + (j : Int), PyData.str "v") := ⟨_, rfl⟩
      have dq : DpAll K H2 ys (rowD qs) := by
        refine dpAll_of (by rw [hyl, hqs]; unfold rowD; simp) fun j v d hv hd => ?_
        have hj := (List.getElem?_eq_some_iff.mp hv).1
        have := hys j v hv
        rw [hqs] at hd
        unfold rowD at hd
        rw [List.getElem?_map, List.getElem?_map, List.getElem?_range (by omega)] at hd
        cases Option.some.inj hd
        exact this
      have hq : ∀ p ∈ qs, (∃ i, p.2 = .int i) ∨ p.2 = .str "v" := fun p hp => by
        rw [hqs] at hp
        obtain ⟨j, _, rfl⟩ := List.mem_map.mp hp
        exact .inr rfl
      have lq : qs.length = sn := by rw [hqs]; simp
      wtm_at "go"
      refine g_tupleL (SqL.of e2) fun tq H3 n3 s3 e3 => ?_
      wtm_at "go"
      refine g_tupK (by wtm_at "ln") fun tb H4 n4 s4 e4 => ?_
      wtm_at "go"
      have s24 := s3.trans s4
      have hblk : Dp K H4 (.ref tb) (TB.D ⟨true, qs⟩) := .tup (SqT.of e4) (.cons (.str _) (.cons (.tup (SqT.of (s4 _ _ e3)) (DpAll.go s24 dq)) .nil))
      have di4 := di.go (s2.trans s24)
      refine g_rDPut di4 hblk (by omega) fun H5 o5 d5 => ?_
      have e5 := o5 _ _ habf ((s2.trans s24) _ _ ei)
      have f5 : Fx H' H5 := (Fx.of (s2.trans s24)).trans (Fx.dict di4 o5)
      wtm_at "go"
      refine g_tyL e5 ?_
      wtm_at "go"
      refine g_tupK (by wtm_at "ln") fun tw H6 n6 s6 e6 => ?_
      wtm_at "go"
      have lz := dpAll_len zi
      unfold rowD at lz
      rw [List.length_map] at lz
      refine g_appendO (s6 _ _ e5) (by omega) fun H7 o7' e7 => ?_
      have f67 : Fx H6 H7 := Fx.lst (s6 _ _ e5) o7'
      have nab : H ab = none := n1
      have bnew := bi.put (n := more + (i : Int)) (okD_D (b := ⟨true, qs⟩) (smP_of hq))
      wtm_at "go"
      refine ⟨⟨_, _, rfl⟩, ?_, putA mi (more + (i : Int)) (TB.D ⟨true, qs⟩), _, as ++ [(first + (i : Int) * (sn : Int), .int (more + (i : Int)))], Dd.othL (s6 _ _ e5) o7' (fun p hp => (bnew.2 p hp).1) (d5.go s6), e7, ?_, by rw [List.length_append, li]; rfl, fun p hp => ?_, fun k hk => ?_, bnew, fitM_put fi (fit_small hq (by dsimp only; omega)), Nat.le_trans length_put (by omega)⟩
      · intro x o hx ho
        refine o7' x o (fun e => ?_) (s6 _ _ (o5 x o hx ((s2.trans s24) _ _ (o2 x o hx ho))))
        rw [e, nab] at ho
        cases ho
      · show DpAll K H7 _ ((as ++ [_]).map pairD)
        rw [List.map_append]
        refine dpAll_app (DpAll.fx ((f5.trans (Fx.of s6)).trans f67) (smP_of fun p hp => .inl (hi2 p hp)).strict zi) (.cons (.tup (SqT.fx f67 (SqT.of e6)) (.cons (.int _) (.cons (.int _) .nil))) .nil)
      · rcases List.mem_append.mp hp with hp | hp
        · exact hi2 p hp
        · rw [List.mem_singleton.mp hp]
          exact ⟨_, rfl⟩
      · rw [getA_put, if_neg (by omega), gi k hk]
  · obtain ⟨⟨o7, o8, rfl⟩, o2, mi, zs, as, di, ei, zi, li, hi2, gi, bi, fi, leni⟩ := hp
    have has : ∀ p ∈ as, (∃ i, p.2 = .int i) ∨ p.2 = .str "v" := fun p hp => .inl (hi2 p hp)
    wtm_at "go"
    refine g_tupleL (SqL.of ei) fun tq H3 n3 s3 e3 => ?_
    wtm_at "go"
    refine g_tupK (by wtm_at "ln") fun tb H4 n4 s4 e4 => ?_
    wtm_at "go"
    have hblk : Dp K H4 (.ref tb) (TB.D ⟨false, as⟩) := .tup (SqT.of e4) (.cons (.str _) (.cons (.tup (SqT.of (s4 _ _ e3)) (DpAll.go (s3.trans s4) zi)) .nil))
    refine g_rDPut (di.go (s3.trans s4)) hblk (by omega) fun H5 o5 d5 => ?_
    wtm_at "go"
    refine q _ H5 (o2.trans ((Oth.of (s3.trans s4)).trans o5)) d5 (fun k hk hkn => ?_) ⟨⟨false, as⟩, by rw [getA_put, if_pos rfl], rfl⟩ (nodup_put bi.1) (fitM_put fi (fit_small has (by dsimp only; omega))) (Nat.le_trans length_put (by omega))
    rw [getA_put, if_neg hkn, gi k hk]
theorem ok_l_ringed (T : Tx K mg) : FnOk P w K mg base CX0 1 T.a_l_ringed T.d_l_ringed ["_law_found", "_law_top", "_law_more"] (sp_l_ringed K) := by
  refine T.F_l_ringed.ok sc_l_ringed (fun vs H Q E h => ?_) (fun cdv A outer s H vs Q E hr h => ?_)
  · obtain ⟨f, top, more, m, rfl, _⟩ := h
    rfl
  obtain ⟨f, top, more, m, rfl, hf, nd, fm, lm, hk, q⟩ := h
  refine ⟨_, (pss_cons (ps_dput (hu_of hr) (pv 0) (pv 2) (pe_tup (pa_cons pe_str (pa_cons (pe_tup (pa_cons (pe_tup (pa_cons (pe_op op_add (pv 1) pe_int) (pa_cons (pe_op op_add (pv 2) pe_int) pa_nil))) (pa_cons (pe_tup (pa_cons (pe_op op_add (pv 1) pe_int) (pa_cons (pe_op op_add (pv 2) pe_int) pa_nil))) pa_nil))) pa_nil))) rfl)
    (pss_cons (ps_dput (hu_of hr) (pv 0) (pe_op op_add (pv 2) pe_int) (pe_tup (pa_cons pe_str (pa_cons (pe_tup (pa_cons (pe_tup (pa_cons (pe_op op_add (pv 1) pe_int) (pa_cons (pv 2) pa_nil))) (pa_cons (pe_tup (pa_cons (pe_op op_add (pv 1) pe_int) (pa_cons (pe_op op_add (pv 2) pe_int) pa_nil))) pa_nil))) pa_nil))) rfl)
    (pss_cons (ps_dput (hu_of hr) (pv 0) (pe_op op_add (pv 2) pe_int) (pe_tup (pa_cons pe_str (pa_cons (pe_tup (pa_cons (pe_tup (pa_cons (pe_op op_add (pv 1) pe_int) (pa_cons pe_str pa_nil))) (pa_cons (pe_tup (pa_cons (pe_op op_add (pv 1) pe_int) (pa_cons pe_str pa_nil))) pa_nil))) pa_nil))) rfl)
    (pss_cons (ps_dput (hu_of hr) (pv 0) (pe_op op_add (pv 2) pe_int) (pe_tup (pa_cons pe_str (pa_cons (pe_tup (pa_cons (pe_tup (pa_cons (pe_op op_add (pv 1) pe_int) (pa_cons pe_str pa_nil))) (pa_cons (pe_tup (pa_cons (pe_op op_add (pv 1) pe_int) (pa_cons pe_str pa_nil))) pa_nil))) pa_nil))) rfl)
    (pss_one (ps_ret (pv 0))))))), ?_⟩
  have fresh : ∀ {m0 : BT} {k : Int}, (∀ j ∈ keysA m0, j < k) → getA m0 k = none := fun h => get_none fun z => Int.lt_irrefl _ (h _ z)
  have keys_put : ∀ {m0 : BT} {k : Int} {d : PyData}, (∀ j ∈ keysA m0, j < k) → ∀ j ∈ keysA (putA m0 k d), j < k + 1 := fun h j hj => by
    rw [keysA_put, fresh h, if_neg (by decide)] at hj
    rcases List.mem_append.mp hj with hj | hj
    · have := h j hj; omega
    · rw [List.mem_singleton.mp hj]; omega
  have fb : ∀ (lf : Bool) (a b : Int × PyData), (∀ p ∈ [a, b], (∃ i, p.2 = .int i) ∨ p.2 = .str "v") → FitB (TB.D ⟨lf, [a, b]⟩) := fun lf a b h => fit_small h (by simp)
  have ii : ∀ (a b c d : Int), ∀ p ∈ [(a, PyData.int b), (c, PyData.int d)], (∃ i, p.2 = .int i) ∨ p.2 = .str "v" := fun a b c d p hp => by
    rcases List.mem_cons.mp hp with e | e
    · rw [e]; exact .inl ⟨_, rfl⟩
    · rw [List.mem_singleton.mp e]; exact .inl ⟨_, rfl⟩
  have ss : ∀ (a c : Int), ∀ p ∈ [(a, PyData.str "v"), (c, PyData.str "v")], (∃ i, p.2 = .int i) ∨ p.2 = .str "v" := fun a c p hp => by
    rcases List.mem_cons.mp hp with e | e
    · rw [e]; exact .inr rfl
    · rw [List.mem_singleton.mp e]; exact .inr rfl
  wtm_at "red"
  refine g_seq (g_dput ?_)
  refine evd_to (K := K) (by wtm_at "ev") fun x1 H1 s1 hx1 => ?_
  wtm_at "gs"
  have k1 := keys_put (d := TB.D ⟨false, [(top + 1, .int (more + 1)), (top + 10, .int (more + 2))]⟩) hk
  have l1 := put_new_len (v := TB.D ⟨false, [(top + 1, .int (more + 1)), (top + 10, .int (more + 2))]⟩) (fresh hk)
  refine g_rDPut (hf.go s1) hx1 (by omega) fun H2 o2 d2 => ?_
  wtm_at "red"
  refine g_seq (g_dput ?_)
  refine evd_to (K := K) (by wtm_at "ev") fun x3 H3 s3 hx3 => ?_
  wtm_at "gs"
  have k2 := keys_put (d := TB.D ⟨false, [(top + 1, .int more), (top + 20, .int (more + 3))]⟩) k1
  have l2 := put_new_len (v := TB.D ⟨false, [(top + 1, .int more), (top + 20, .int (more + 3))]⟩) (fresh k1)
  have l1' : (putA m more (PyData.tuple [.str "branch", .tuple [.tuple [.int (top + 1), .int (more + 1)], .tuple [.int (top + 10), .int (more + 2)]]])).length = m.length + 1 := l1
  refine g_rDPut (d2.go s3) hx3 (by rw [l1']; omega) fun H4 o4 d4 => ?_
  wtm_at "red"
  refine g_seq (g_dput ?_)
  refine evd_to (K := K) (by wtm_at "ev") fun x5 H5 s5 hx5 => ?_
  wtm_at "gs"
  rw [show more + 2 = more + 1 + 1 by omega]
  have k3 := keys_put (d := TB.D ⟨true, [(top + 10, .str "v"), (top + 11, .str "v")]⟩) k2
  have l3 := put_new_len (v := TB.D ⟨true, [(top + 10, .str "v"), (top + 11, .str "v")]⟩) (fresh k2)
  refine g_rDPut (d4.go s5) hx5 (Nat.le_trans length_put (Nat.le_trans (Nat.add_le_add_right length_put 1) (by omega))) fun H6 o6 d6 => ?_
  wtm_at "red"
  refine g_seq (g_dput ?_)
  refine evd_to (K := K) (by wtm_at "ev") fun x7 H7 s7 hx7 => ?_
  wtm_at "gs"
  rw [show more + 3 = more + 1 + 1 + 1 by omega]
  have l4 := put_new_len (v := TB.D ⟨true, [(top + 20, .str "v"), (top + 21, .str "v")]⟩) (fresh k3)
  refine g_rDPut (d6.go s7) hx7 (Nat.le_trans length_put (Nat.le_trans (Nat.add_le_add_right length_put 1) (Nat.le_trans (Nat.add_le_add_right (Nat.add_le_add_right length_put 1) 1) (by omega)))) fun H8 o8 d8 => ?_
  wtm_at "go"
  refine q _ H8 ((Oth.of s1).trans (o2.trans ((Oth.of s3).trans (o4.trans ((Oth.of s5).trans (o6.trans ((Oth.of s7).trans o8))))))) d8 (fun k hk => ?_) (nodup_put (nodup_put (nodup_put (nodup_put nd)))) (fitM_put (fitM_put (fitM_put (fitM_put fm (fb false _ _ (ii _ _ _ _))) (fb false _ _ (ii _ _ _ _))) (fb true _ _ (ss _ _))) (fb true _ _ (ss _ _))) ?_
  · rw [getA_put, if_neg (by omega), getA_put, if_neg (by omega), getA_put, if_neg (by omega), getA_put, if_neg (by omega)]
  · exact l4.trans (by rw [l3, l2, l1])
theorem ok_l_as_wide (T : Tx K mg) : FnOk P w K mg base CX0 1 T.a_l_as_wide T.d_l_as_wide ["_law_blocks", "_law_width"] (sp_l_as_wide K) := by
  refine T.F_l_as_wide.ok sc_l_as_wide (fun vs H Q E h => ?_) (fun cdv A outer s H vs Q E hr h => ?_)
  · obtain ⟨b, w, m, rfl, _⟩ := h
    rfl
  obtain ⟨b, w, m, rfl, hb, hform, nd, q⟩ := h
  refine ⟨_, (pss_cons (ps_for PassesOwn.never rfl (pi_list (pe_callTy (my_listD rfl) (by rfl) T.z_list (by decide +kernel) (pa_cons (pv 0) pa_nil))) (pg_name (i := 2) sc_l_as_wide.nd rfl (Or.inl rfl))
      (pss_one (ps_if (pw_and (pt_cmpR op_gt (pv 2) pe_int (nomark _)) (pw_and1 (pt_cmpR op_lt (pe_callB my_len (by rfl) T.z_len PySem.boot_len (pa_cons (pe_ix ix_tup (pe_dget (hu_of hr) (pv 0) (pv 2) (fun _ _ => rfl)) pe_int (fun _ _ => rfl)) pa_nil)) (pe_op op_fdiv (pe_op op_add (pv 1) pe_int) pe_int) (nomark _)))).pt
        (pss_one (ps_ret pe_bl))
        pss_nil)))
    (pss_one (ps_ret pe_bl))), ?_⟩
  wtm_at "go"
  refine g_listDd hb fun lk H1 n1 s1 e1 => ?_
  refine g_forLk (fun i σ' H' => (∃ o, σ' = [some (.ref b), some (.int w), o]) ∧ Same H H' ∧ SqL K H' lk ((keysA m).map V.int) ∧ ((keysA m).take i).all (fun n => !(decide (0 < n) && decide (((toTB (blockAt m n)).ps.length : Int) < halfI w))) = true)
    (SqL.of e1) ⟨⟨_, rfl⟩, s1, SqL.of e1, rfl⟩ (fun i σ' H' _ hp => hp.2.2.1) (fun i x σ' H' hx hp => ?_) (fun σ' H' hp => ?_)
  · obtain ⟨⟨o, rfl⟩, s2, l2, ha⟩ := hp
    rw [List.getElem?_map] at hx
    obtain ⟨n, hn, rfl⟩ := Option.map_eq_some_iff.mp hx
    have hmem := List.mem_of_getElem? hn
    have et : (keysA m).take (i + 1) = (keysA m).take i ++ [n] := by rw [List.take_add_one, hn]; rfl
    obtain ⟨d, hd⟩ := Option.isSome_iff_exists.mp (mem_keysA.mp hmem)
    obtain ⟨c, hc⟩ := hform _ (getA_mem hd)
    dsimp only at hc
    subst hc
    have eb := blockAt_of hd
    have fin : ∀ H'', Same H H'' → (decide (0 < n) && decide ((c.ps.length : Int) < halfI w)) = true → Q (.bl false) H'' := fun H'' s hc => by
      have : asW m w = false := by
        unfold asW
        exact List.all_eq_false.mpr ⟨n, hmem, by rw [eb, toTB_D, hc]; decide⟩
      rw [← this]
      exact q H'' s
    have go : ∀ (σ2 : L2.St) (H'' : Hp), (∃ o, σ2 = [some (.ref b), some (.int w), o]) → Same H' H'' → (decide (0 < n) && decide ((c.ps.length : Int) < halfI w)) = false → (∃ o, σ2 = [some (.ref b), some (.int w), o]) ∧ Same H H'' ∧ SqL K H'' lk ((keysA m).map V.int) ∧ ((keysA m).take (i + 1)).all (fun n => !(decide (0 < n) && decide (((toTB (blockAt m n)).ps.length : Int) < halfI w))) = true := fun σ2 H'' hs s hc => by
      refine ⟨hs, s2.trans s, L2.Same.seq s l2, ?_⟩
      rw [et, List.all_append, ha, Bool.true_and, List.all_cons, List.all_nil, Bool.and_true, eb, toTB_D, hc]
      rfl
    wtm_at "go0"
    refine g_ifP ((decide (0 < n) && decide ((c.ps.length : Int) < halfI w)) = true) ((decide (0 < n) && decide ((c.ps.length : Int) < halfI w)) = false) (fun QB k1 k2 => ?_) (fun hp => ?_) (fun hp => ?_)
    · wtm_at "gs"
      refine g_andK (fun cc => ?_) (fun cc => ?_)
      · have cc' : decide (0 < n) = true := cc
        rw [cc', Bool.true_and] at k1 k2
        wtm_at "gs"
        refine g_rDGet (hb.go s2) hd fun v hv => ?_
        obtain ⟨ta, tp, ys, rfl, h1, h2, h3⟩ := dp_blk hv
        have ly := dpAll_len h3
        unfold rowD at ly
        rw [List.length_map] at ly
        wtm_at "gs"
        refine g_ixT h1 (atI_nat (j := 1) rfl) ?_
        wtm_at "gs"
        rw [ly]
        show QB (decide ((c.ps.length : Int) < halfI w)) H'
        cases hd2 : decide ((c.ps.length : Int) < halfI w) with
        | true => exact k1 hd2
        | false => exact k2 hd2
      · have cc' : decide (0 < n) = false := cc
        exact k2 (by rw [cc', Bool.false_and])
    · wtm_at "go"
      exact fin H' s2 hp
    · wtm_at "go"
      exact go _ H' ⟨_, rfl⟩ (L2.Same.refl _) hp
  · obtain ⟨⟨o, rfl⟩, s2, l2, ha⟩ := hp
    rw [List.length_map, List.take_length] at ha
    wtm_at "go"
    have : asW m w = true := ha
    rw [← this]
    exact q H' s2
theorem Tree.fitM {w : Int} {P : PL} {m : BT} (T : Tree w P m) (hw : w ≤ 64) : fitM m := fun p hp => by
  obtain ⟨b, e, hok⟩ := T.form hp
  rw [e]
  exact fitB_tup (by rw [List.length_map]; have := hok.2.1; omega) (okT_fit hok)
theorem ok_l_tree_spoilt (T : Tx K mg) : FnOk P w K mg base CX0 2 T.a_l_tree_spoilt T.d_l_tree_spoilt ["_law_blocks", "_law_number", "_law_way", "_law_top", "_law_width", "_law_cell"] (sp_l_tree_spoilt K) := by
  refine T.F_l_tree_spoilt.ok sc_l_tree_spoilt (fun vs H Q E h => ?_) (fun cdv A outer s H vs Q E hr h => ?_)
  · obtain ⟨b, n, way, top, w, c, m, P, rfl, _⟩ := h
    rfl
  obtain ⟨bd, n, way, top, w, c, m, P, rfl, hb, TT, hn, hy9, hy14, hw, hw2, hc0, lm, hkeyed, qn, qo⟩ := h
  refine ⟨_, (pss_cons (ps_set (i := 6) sc_l_tree_spoilt.nd rfl (Or.inl rfl) (pe_callTy my_dictD (by rfl) T.z_dict (by decide +kernel) (pa_cons (pv 0) pa_nil)))
    (pss_cons (ps_set (i := 7) sc_l_tree_spoilt.nd rfl (Or.inl rfl) (pe_ix ix_tup (pe_dget (hu_of hr) (pv 0) (pv 1) (fun _ _ => rfl)) pe_int (fun _ _ => rfl)))
    (pss_cons (ps_set (i := 8) sc_l_tree_spoilt.nd rfl (Or.inl rfl) (pe_ix ix_tup (pe_dget (hu_of hr) (pv 0) (pv 1) (fun _ _ => rfl)) pe_int (fun _ _ => rfl)))
    (pss_cons (ps_set (i := 9) sc_l_tree_spoilt.nd rfl (Or.inl rfl) (pe_op op_add (pe_callB (cr_max rfl) (by rfl) T.z_max (by decide +kernel) (pa_cons (pe_callTy (my_listD rfl) (by rfl) T.z_list (by decide +kernel) (pa_cons (pv 0) pa_nil)) pa_nil)) pe_int))
    (pss_cons (ps_if (pt_cmpR op_eq (pv 2) pe_int (nomark _))
      (pss_cons (ps_expr (pe_dpop1 (pv 6) (pv 1) ⟨rfl, rfl, rfl, rfl⟩))
      (pss_one (ps_ret (pv 6))))
      pss_nil)
    (pss_cons (ps_if (pt_cmpR op_eq (pv 2) pe_int (nomark _))
      (pss_cons (ps_set (i := 10) sc_l_tree_spoilt.nd rfl (Or.inl rfl) (pe_tup (pa_cons pe_str (pa_cons (pe_tup (pa_cons (pe_tup (pa_cons (pe_op op_add (pv 3) pe_int) (pa_cons pe_str pa_nil))) (pa_cons (pe_tup (pa_cons (pe_op op_add (pv 3) pe_int) (pa_cons pe_str pa_nil))) (pa_cons (pe_tup (pa_cons (pe_op op_add (pv 3) pe_int) (pa_cons pe_str pa_nil))) pa_nil)))) pa_nil))))
      (pss_cons (ps_dput (hu_of hr) (pv 6) (pe_ix ix_list (pe_lst (pa_cons (pv 9) (pa_cons (pe_un un_neg pe_int) (pa_cons (pe_op op_add (pv 9) (pv 5)) pa_nil)))) (pe_op op_mod (pv 5) pe_int) (fun _ _ => rfl)) (pe_ix ix_list (pe_lst (pa_cons (pv 10) (pa_cons pe_non (pa_cons pe_int (pa_cons (pe_tup (pa_cons pe_str (pa_cons (pe_tup pa_nil) pa_nil))) pa_nil))))) (pe_op op_mod (pe_op op_fdiv (pv 5) pe_int) pe_int) (fun _ _ => rfl)) rfl)
      (pss_one (ps_ret (pv 6)))))
      pss_nil)
    (pss_cons (ps_if (pt_cmpR op_eq (pv 2) pe_int (nomark _))
      (pss_one (ps_ret (pe_call (ok_l_ringed T) hr (by rfl) T.g_l_ringed T.F_l_ringed.kp T.b_l_ringed .nil pass0 (pa_cons (pv 6) (pa_cons (pv 3) (pa_cons (pv 9) pa_nil))))))
      pss_nil)
    (pss_cons (ps_if (pw_or (pt_cmpR op_eq (pv 7) pe_str (nomark _)) (pw_or1 (pt_cmpR op_eq (pv 1) pe_int (nomark _)))).pt
      (pss_one (ps_ret pe_non))
      pss_nil)
    (pss_cons (ps_if (pt_cmpR op_eq (pv 2) pe_int (nomark _))
      (pss_one (ps_ret (pe_call (ok_l_deeper T) hr (by rfl) T.g_l_deeper T.F_l_deeper.kp T.b_l_deeper .nil pass0 (pa_cons (pv 6) (pa_cons (pv 1) (pa_cons (pe_ix ix_tup (pe_ix ix_tup (pv 8) pe_int (fun _ _ => rfl)) pe_int (fun _ _ => rfl)) (pa_cons (pv 9) (pa_cons (pv 4) pa_nil))))))))
      pss_nil)
    (pss_cons (ps_if (pt_cmpR op_eq (pe_ix ix_tup (pe_ix ix_tup (pv 8) (pe_un un_neg pe_int) (fun _ _ => rfl)) pe_int (fun _ _ => rfl)) (pv 3) (nomark _))
      (pss_one (ps_ret pe_non))
      pss_nil)
    (Evl.pss_cut (ps_if (pt_cmpR op_eq (pv 2) pe_int (nomark _))
      (pss_one (ps_set (i := 3) sc_l_tree_spoilt.nd rfl (Or.inl rfl) (pe_op op_add (pe_ix ix_tup (pe_ix ix_tup (pv 8) (pe_un un_neg pe_int) (fun _ _ => rfl)) pe_int (fun _ _ => rfl)) pe_int)))
      pss_nil)
    (pss_cons (ps_dput (hu_of hr) (pv 6) (pv 1) (pe_tup (pa_cons pe_str (pa_cons (pe_op op_catA (pe_slice sl_tupA (pv 8) po_none (po_some (pe_un un_neg pe_int))) (pe_tup (pa_cons (pe_tup (pa_cons (pv 3) (pa_cons pe_str pa_nil))) pa_nil))) pa_nil))) rfl)
    (pss_one (ps_ret (pv 6))))))))))))))), ?_⟩
  obtain ⟨d0, hd0⟩ := Option.isSome_iff_exists.mp (mem_keysA.mp hn)
  obtain ⟨b, eb0, hok0⟩ := TT.form (getA_mem hd0)
  dsimp only at eb0
  subst eb0
  have ebn : toTB (blockAt m n) = b := by rw [blockAt_of hd0, toTB_D]
  have fm := TT.fitM hw2
  have nd := TT.blk.1
  wtm_at "gs"
  refine g_dictDd hb fun f H1 n1 s1 d1 => ?_
  wtm_at "gs"
  wtm_at "gs"
  refine g_rDGet (hb.go s1) hd0 fun v1 hv1 => ?_
  obtain ⟨ta, tp0, ys0, rfl, h1, h2, h3⟩ := dp_blk hv1
  wtm_at "gs"
  refine g_ixT h1 (atI_nat (j := 0) rfl) ?_
  wtm_at "gs"
  wtm_at "gs"
  refine g_rDGet (hb.go s1) hd0 fun v2 hv2 => ?_
  obtain ⟨tb, tp, ys, rfl, g1, g2, g3⟩ := dp_blk hv2
  have ly := dpAll_len g3
  unfold rowD at ly
  rw [List.length_map] at ly
  wtm_at "gs"
  refine g_ixT g1 (atI_nat (j := 1) rfl) ?_
  wtm_at "gs"
  wtm_at "gs"
  refine g_listDd (hb.go s1) fun lk H2 n2 s2 e2 => ?_
  wtm_at "gs"
  have hkl : 0 < (keysA m).length := List.length_pos_of_mem hn
  refine g_maxL (SqL.of e2) hkl fun mx hmx hmax => ?_
  wtm_at "gs"
  have hmore : ∀ k ∈ keysA m, k < mx + 1 := fun k hk => by have := hmax k hk; omega
  generalize mx + 1 = more at hmore
  have s12 := s1.trans s2
  have df := d1.go s2
  have hP : Dp K H2 (.ref tp) (.tuple (rowD b.ps)) := Dp.go s2 (.tup g2 g3)
  have nfH : H f = none := n1
  clear hv1 hv2 h1 h2 h3 e2
  -- way 9
  refine g_seq ?_
  refine g_ifP True True (fun QB k1 k2 => ?_) (fun _ => ?_) (fun _ => ?_)
  · wtm_at "gs"
    cases decide (V.int way = V.int 9) with
    | true => exact k1 trivial
    | false => exact k2 trivial
  · refine g_seq (g_drop (g_dpop1 (g_var rfl ?_)))
    refine g_rDPop1 (k := n) df (fun R r => by wtm_at "go"; exact r) (mem_keysA.mp hn) fun u H3 o3 d3 => ?_
    wtm_at "go"
    have hlt := drop_len nd hn
    refine qo f _ H3 (o3.same s12 nfH) d3 ⟨nodup_drop nd, fitM_drop fm, by omega, ?_⟩
    by_cases c0 : n = 0
    · subst c0
      refine Tree.bad_root ?_
      have : blockAt (dropA m 0) 0 = .none := by unfold blockAt; rw [getA_drop, if_pos rfl]; rfl
      rw [this]
      rfl
    · refine TT.bad_at hn c0 (fun k _ hk => by rw [getA_drop, if_neg hk]) ?_
      have : blockAt (dropA m n) n = .none := by unfold blockAt; rw [getA_drop, if_pos rfl]; rfl
      rw [this]
      rfl
  refine g_next ?_
  -- way 10
  wtm_at "red"
  refine g_seq ?_
  refine g_ifP True True (fun QB k1 k2 => ?_) (fun _ => ?_) (fun _ => ?_)
  · wtm_at "gs"
    cases decide (V.int way = V.int 10) with
    | true => exact k1 trivial
    | false => exact k2 trivial
  · refine evd_asg (K := K) (by wtm_at "ev") fun xl H3 s3 hxl => ?_
    wtm_at "red"
    have hdv : ∃ d, [PyData.tuple [.str "leaf", .tuple [.tuple [.int (top + 1), .str "v"], .tuple [.int (top + 2), .str "v"], .tuple [.int (top + 3), .str "v"]]], .none, .int 7, .tuple [.str "leaf", .tuple []]][(c / 3 % 4).toNat]? = some d ∧ FitB d := by
      rcases four c with e | e | e | e <;> rw [e]
      · refine ⟨_, rfl, fitB_tup (by simp) fun p hp => ?_⟩
        have : ∃ i, p = .tuple [.int i, .str "v"] := by
          simp only [List.mem_cons, List.not_mem_nil, or_false] at hp
          rcases hp with rfl | rfl | rfl <;> exact ⟨_, rfl⟩
        obtain ⟨i, rfl⟩ := this
        exact fitP_pair fun z e => by cases e; decide +kernel
      · exact ⟨_, rfl, fitB_no (fun w ps e => nomatch e)⟩
      · exact ⟨_, rfl, fitB_no (fun w ps e => nomatch e)⟩
      · exact ⟨_, rfl, fitB_tup (by simp) fun p hp => nomatch hp⟩
    obtain ⟨d, hd1, hd2⟩ := hdv
    have hkv : ∃ k : Int, [PyData.int more, .int (-1), .int (more + c)][(c % 3).toNat]? = some (.int k) ∧ k ∉ keysA m := by
      have h3 : (c % 3).toNat = 0 ∨ (c % 3).toNat = 1 ∨ (c % 3).toNat = 2 := by omega
      rcases h3 with e | e | e <;> rw [e]
      · exact ⟨_, rfl, fun z => by have := hmore _ z; omega⟩
      · exact ⟨_, rfl, fun z => by have := TT.zero _ z; omega⟩
      · exact ⟨_, rfl, fun z => by have := hmore _ z; omega⟩
    obtain ⟨k, hk1, hk2⟩ := hkv
    refine g_seq (g_dput ?_)
    refine evd_to (K := K) (by wtm_at "ev") fun xv H4 s4 hxv => ?_
    refine g_var rfl ?_
    refine evd_to (K := K) (by wtm_at "ev") fun xk H5 s5 hxk => ?_
    cases dp_i hxk
    refine g_rDPut (df.go (s3.trans (s4.trans s5))) (Dp.go s5 hxv) (by omega) fun H6 o6 d6 => ?_
    wtm_at "go"
    have hl := put_new_len (v := d) (get_none hk2)
    refine qo f _ H6 (o6.same (s12.trans (s3.trans (s4.trans s5))) nfH) d6 ⟨nodup_put nd, fitM_put fm hd2, by omega, ?_⟩
    refine TT.more (fun j hj => ?_) (by omega)
    rw [getA_put, if_neg fun e => hk2 (by rw [← e]; exact hj)]
  refine g_next ?_
  -- way 14
  wtm_at "red"
  refine g_seq ?_
  refine g_ifP True True (fun QB k1 k2 => ?_) (fun _ => ?_) (fun _ => ?_)
  · wtm_at "gs"
    cases decide (V.int way = V.int 14) with
    | true => exact k1 trivial
    | false => exact k2 trivial
  · wtm_at "go"
    refine ⟨f, top, more, m, rfl, df, nd, fm, by omega, hmore, fun m' H3 o3 d3 ha3 nd3 fm3 l3 => ?_⟩
    refine qo f m' H3 (o3.same s12 nfH) d3 ⟨nd3, fm3, by omega, TT.more (fun j hj => ha3 j (hmore j hj)) (by omega)⟩
  refine g_next ?_
  -- a branch, or the root
  wtm_at "red"
  refine g_seq ?_
  refine g_ifP True (b.lf = true ∧ n ≠ 0) (fun QB k1 k2 => ?_) (fun _ => ?_) (fun hp => ?_)
  · have ewl : decide (V.str (wordT b.lf) = V.str (Str.ofString "branch")) = !b.lf := (decide_eq_decide.mpr ⟨V.str.inj, congrArg V.str⟩).trans word_br
    wtm_at "gs"
    rw [ewl]
    refine g_orK (fun _ => k1 trivial) (fun c1 => ?_)
    wtm_at "gs"
    cases c2 : decide (V.int n = V.int 0) with
    | true => exact k1 trivial
    | false => exact k2 ⟨by simpa using c1, fun e => of_decide_eq_false c2 (by rw [e])⟩
  · wtm_at "go"
    exact qn H2 s12
  obtain ⟨hlf, hn0⟩ := hp
  obtain ⟨b', hb', hokh⟩ := TT.block hn hn0
  have ebb : b' = b := D_inj (Option.some.inj (hb'.symm.trans hd0))
  subst ebb
  have hps2 : 2 ≤ b'.ps.length := by
    have := hokh.1
    unfold halfI at this
    omega
  refine g_next ?_
  -- way 11
  wtm_at "red"
  refine g_seq ?_
  refine g_ifP True True (fun QB k1 k2 => ?_) (fun _ => ?_) (fun _ => ?_)
  · wtm_at "gs"
    cases decide (V.int way = V.int 11) with
    | true => exact k1 trivial
    | false => exact k2 trivial
  · obtain ⟨lf, ps⟩ := b'
    dsimp only at hps2 hP
    cases ps with
    | nil => simp at hps2
    | cons p r =>
      obtain ⟨k, h⟩ := p
      obtain ⟨xa, xs, exa, hxs, hdx⟩ := dp_tuple hP
      cases exa
      cases hdx with
      | cons hp0 hrest =>
        obtain ⟨tq, yq, rfl, htq, hyq⟩ := dp_pair hp0
        wtm_at "go"
        refine g_ixT hxs (atI_nat (j := 0) rfl) ?_
        wtm_at "go"
        refine g_ixT htq (atI_nat (j := 0) rfl) ?_
        wtm_at "go"
        refine ⟨f, n, k, more, w, m, rfl, df, TT.blk, fm, by omega, hw, hw2, fun m' H3 o3 d3 ha3 hc3 nd3 fm3 l3 => ?_⟩
        obtain ⟨c3, hc3, hlf3⟩ := hc3
        refine qo f m' H3 (o3.same s12 nfH) d3 ⟨nd3, fm3, by omega, TT.deeper hn hn0 (fun j hj hjn => ha3 j (hmore j hj) hjn) (by rw [ebn]; exact hlf) ?_⟩
        rw [blockAt_of hc3, toTB_D]
        exact hlf3
  refine g_next ?_
  -- the last key
  obtain ⟨init, kl, hl, hps⟩ : ∃ init kl hl, b'.ps = init ++ [(kl, hl)] := by
    cases e : b'.ps.reverse with
    | nil =>
      have : b'.ps = [] := by simpa using e
      rw [this] at hps2
      simp at hps2
    | cons l m =>
      refine ⟨m.reverse, l.1, l.2, ?_⟩
      rw [← List.reverse_reverse b'.ps, e, List.reverse_cons]
  rw [hps] at hP
  have er : rowD (init ++ [(kl, hl)]) = rowD init ++ [.tuple [.int kl, hl]] := by
    unfold rowD
    rw [List.map_append]
    rfl
  have eal : atI (rowD (init ++ [(kl, hl)])) (-1) = some (.tuple [.int kl, hl]) := by
    rw [er]
    exact atI_last _ _
  obtain ⟨xa, xs, exa, hxs, hdx⟩ := dp_tuple hP
  cases exa
  obtain ⟨yl, hyl, hyd⟩ := dpAll_atI hdx eal
  obtain ⟨tl, hlv, rfl, htl, _⟩ := dp_pair (p := (kl, hl)) hyd
  wtm_at "red"
  refine g_seq ?_
  refine g_ifP True (kl ≠ top) (fun QB k1 k2 => ?_) (fun _ => ?_) (fun hkt => ?_)
  · wtm_at "gs"
    refine g_ixT hxs hyl ?_
    wtm_at "gs"
    refine g_ixT htl (atI_nat (j := 0) rfl) ?_
    wtm_at "gs"
    cases c2 : decide (V.int kl = V.int top) with
    | true => exact k1 trivial
    | false => exact k2 fun e => of_decide_eq_false c2 (by rw [e])
  · wtm_at "go"
    exact qn H2 s12
  refine g_next ?_
  wtm_at "red"
  refine g_cut (fun σ' H' => ∃ t : Int, σ' = [some (.ref bd), some (.int n), some (.int way), some (.int t), some (.int w), some (.int c), some (.ref f), some (.str (wordT b'.lf)), some (.ref tp), some (.int more), none] ∧ H' = H2 ∧ (t = kl + 3 ∨ t = top)) ?_ ?_
  · wtm_at "gs"
    refine g_br (fun _ => ?_) (fun _ => ?_)
    · wtm_at "gs"
      refine g_ixT hxs hyl ?_
      wtm_at "gs"
      refine g_ixT htl (atI_nat (j := 0) rfl) ?_
      wtm_at "go"
      exact ⟨_, rfl, rfl, .inl rfl⟩
    · wtm_at "go"
      exact ⟨_, rfl, rfl, .inr rfl⟩
  rintro σ' H' ⟨t, rfl, rfl, ht⟩
  have hci : (cutL (rowD (init ++ [(kl, hl)])) none (some (-1))).length + [PyData.tuple [.int t, .str "v"]].length ≤ 100000 := by
    rw [er, cutL_init]
    have h1 : ((init ++ [(kl, hl)]).length : Int) ≤ w := by rw [← hps]; exact hokh.2.1
    rw [List.length_append, List.length_singleton] at h1
    unfold rowD
    rw [List.length_map]
    simp only [List.length_cons, List.length_nil]
    omega
  refine g_seq (g_dput ?_)
  refine evd_to (K := K) (by wtm_at "ev") fun xv H3 s3 hxv => ?_
  rw [er, cutL_init] at hxv
  wtm_at "go"
  have e9 : PyData.tuple [.str "leaf", .tuple (rowD init ++ [.tuple [.int t, .str "v"]])] = TB.D ⟨true, init ++ [(t, .str "v")]⟩ := by
    unfold TB.D rowD
    rw [List.map_append]
    rfl
  rw [e9] at hxv
  refine g_rDPut (df.go s3) hxv (by omega) fun H4 o4 d4 => ?_
  wtm_at "go"
  have hl5 : (putA m n (TB.D ⟨true, init ++ [(t, PyData.str "v")]⟩)).length ≤ m.length + 1 := length_put
  have hfb : FitB (TB.D ⟨true, init ++ [(t, PyData.str "v")]⟩) := by
    have h1 : ((init ++ [(kl, hl)]).length : Int) ≤ w := by rw [← hps]; exact hokh.2.1
    refine fitB_tup ?_ fun p hp => ?_
    · rw [List.length_map, List.length_append, List.length_singleton]
      rw [List.length_append, List.length_singleton] at h1
      omega
    · rw [List.map_append] at hp
      rcases List.mem_append.mp hp with hp | hp
      · obtain ⟨q0, hq0, rfl⟩ := List.mem_map.mp hp
        exact fitP_pair (held_len (hokh.2.2.1 q0 (by rw [hps]; exact List.mem_append_left _ hq0)).2)
      · rw [List.mem_singleton.mp hp]
        exact fitP_pair fun z e => by cases e; decide +kernel
  refine qo f _ H4 (o4.same (s12.trans s3) nfH) d4 ⟨nodup_put nd, fitM_put fm hfb, by omega, ?_⟩
  refine TT.falls hw hn hn0 (fun k _ hk => by rw [getA_put, if_neg hk]) (by rw [ebn]; exact hlf) (init := init) (kl := kl) (k' := t) (hl := hl) (hl' := .str "v") (by rw [ebn]; exact hps) ?_ (fun A kc C hA => ?_) (fun A hA => ?_)
  · rw [blockAt_of (d := TB.D ⟨true, init ++ [(t, .str "v")]⟩) (by rw [getA_put, if_pos rfl]), toTB_D]
  · have := hkeyed.1 A kl kc C hA
    omega
  · exact hkt (hkeyed.2 A kl hA)
theorem ok_l_says (T : Tx K mg) : FnOk P w K mg base CX0 1 T.a_l_says T.d_l_says ["_law_found", "_law_due"] sp_l_says := by
  refine T.F_l_says.ok sc_l_says (fun vs H Q E h => ?_) (fun cdv A outer s H vs Q E hr h => ?_)
  · obtain ⟨f, d, rfl, _⟩ := h
    rfl
  obtain ⟨f, d, rfl, q⟩ := h
  refine ⟨_, (pss_one (ps_ret (pe_and (pe_or (pe_cmpR op_isBl (pv 0) pe_bl (nomark _)) (pe_one (pe_cmpR op_isBl (pv 0) pe_bl (nomark _)))) (pe_one (pe_cmpR op_eq (pv 0) (pv 1) (nomark _)))))), ?_⟩
  wtm_at "go"
  have e : decide (V.bl f = V.bl d) = decide (f = d) := by cases f <;> cases d <;> rfl
  cases f with
  | true =>
    refine g_orV (fun _ => ?_) (fun c => nomatch c)
    refine g_andV (fun _ => ?_) (fun c => nomatch c)
    wtm_at "go"
    rw [e]
    exact q
  | false =>
    refine g_orV (fun c => nomatch c) (fun _ => ?_)
    wtm_at "go"
    refine g_andV (fun _ => ?_) (fun c => nomatch c)
    wtm_at "go"
    rw [e]
    exact q
theorem spb_false {w n : Int} {P : PL} {m : BT} {b : TB} {d : PyData} {root : Bool} (TT : Tree w P m) (hw : 3 ≤ w) (hr : root = decide (n = 0)) (hn : n ∈ keysA m) (e : getA m n = some b.D) (h : SpB root w b d) : soundD (putA m n d) w = false := by
  have ha : ∀ k ∈ keysA m, k ≠ n → getA (putA m n d) k = getA m k := fun k _ hk => by rw [getA_put, if_neg hk]
  have eb : blockAt (putA m n d) n = d := blockAt_of (by rw [getA_put, if_pos rfl])
  have ebn : toTB (blockAt m n) = b := by rw [blockAt_of e, toTB_D]
  by_cases c0 : n = 0
  · subst c0
    have hroot : root = true := by rw [hr]; rfl
    cases h with
    | bad h1 _ =>
      refine Tree.bad_root ?_
      rw [eb]
      exact h1 hroot
    | @low k hh r hps h1 =>
      have hlf := h1 hroot
      rw [hlf] at eb ⊢
      exact root_low TT e hlf hps eb (by rw [hlf] at ha; exact ha)
    | twice hlf hps => exact root_twice eb rfl not_nodup_ends
  · have hroot : root = false := by rw [hr]; exact decide_eq_false c0
    cases h with
    | bad _ h1 =>
      refine TT.bad_at hn c0 ha ?_
      rw [eb]
      unfold fitsD
      rw [h1 hroot, Bool.false_and]
    | @low k hh r hps h1 =>
      refine TT.bad_at hn c0 ha ?_
      rw [eb, ebn]
      unfold fitsD
      rw [toTB_D]
      have : firstK b = k := by unfold firstK; rw [hps]
      rw [this]
      have e2 : decide (firstK ⟨b.lf, (k - 1, hh) :: r⟩ = k) = false := decide_eq_false (by show ¬ k - 1 = k; omega)
      rw [e2, Bool.and_false]
    | @twice k0 kl h0 hl mid hlf hps =>
      refine TT.twice hn c0 ha (by rw [ebn]; exact hlf) ?_ ?_
      · rw [eb, toTB_D]
      · rw [eb, toTB_D]
        exact not_nodup_ends
theorem ok_l_spoilt (T : Tx K mg) : FnOk P w K mg base CX0 3 T.a_l_spoilt T.d_l_spoilt ["_law_blocks", "_law_number", "_law_way", "_law_width", "_law_top", "_law_more"] (sp_l_spoilt K) := by
  refine T.F_l_spoilt.ok sc_l_spoilt (fun vs H Q E h => ?_) (fun cdv A outer s H vs Q E hr h => ?_)
  · obtain ⟨b, n, way, w, top, c, m, P, rfl, _⟩ := h
    rfl
  obtain ⟨bd, n, way, w, top, c, m, P, rfl, hb, TT, hn, hy0, hy14, hw, hw2, hc0, lm, hkeyed, qn, qo⟩ := h
  refine ⟨_, (pss_cons (ps_if (pt_cmpR op_gt (pv 2) pe_int (nomark _))
      (pss_one (ps_ret (pe_call (ok_l_tree_spoilt T) hr (by rfl) T.g_l_tree_spoilt T.F_l_tree_spoilt.kp T.b_l_tree_spoilt .nil pass0 (pa_cons (pv 0) (pa_cons (pv 1) (pa_cons (pv 2) (pa_cons (pv 4) (pa_cons (pv 3) (pa_cons (pv 5) pa_nil)))))))))
      pss_nil)
    (pss_cons (ps_set (i := 6) sc_l_spoilt.nd rfl (Or.inl rfl) (pe_call (ok_l_block_spoilt T) hr (by rfl) T.g_l_block_spoilt T.F_l_block_spoilt.kp T.b_l_block_spoilt .nil pass0 (pa_cons (pe_dget (hu_of hr) (pv 0) (pv 1) (fun _ _ => rfl)) (pa_cons (pe_cmpR op_eq (pv 1) pe_int (nomark _)) (pa_cons (pv 2) (pa_cons (pv 3) (pa_cons (pv 5) pa_nil)))))))
    (pss_cons (ps_if (pt_cmpR my_isN (pv 6) pe_non (nomark _))
      (pss_one (ps_ret pe_non))
      pss_nil)
    (pss_cons (ps_set (i := 7) sc_l_spoilt.nd rfl (Or.inl rfl) (pe_callTy my_dictD (by rfl) T.z_dict (by decide +kernel) (pa_cons (pv 0) pa_nil)))
    (pss_cons (ps_dput (hu_of hr) (pv 7) (pv 1) (pv 6) rfl)
    (pss_one (ps_ret (pv 7)))))))), ?_⟩
  obtain ⟨d0, hd0⟩ := Option.isSome_iff_exists.mp (mem_keysA.mp hn)
  obtain ⟨b, eb0, hok0⟩ := TT.form (getA_mem hd0)
  dsimp only at eb0
  subst eb0
  wtm_at "gs"
  refine g_br (fun c8 => ?_) (fun c8 => ?_)
  · have h8 : way > 8 := of_decide_eq_true c8
    wtm_at "go"
    exact ⟨bd, n, way, top, w, c, m, P, rfl, hb, TT, hn, by omega, hy14, hw, hw2, hc0, lm, hkeyed, qn, qo⟩
  have h8 : ¬ way > 8 := of_decide_eq_false c8
  refine g_next ?_
  wtm_at "gs"
  refine g_rDGet hb hd0 fun v1 hv1 => ?_
  wtm_at "gs"
  have er : decide (V.int n = V.int 0) = decide (n = 0) := decide_eq_decide.mpr ⟨V.int.inj, congrArg V.int⟩
  rw [er]
  refine ⟨v1, b, decide (n = 0), way, w, c, rfl, hv1, ?_, fun hroot => ?_, hw, hw2, hy0, by omega, hc0, fun y d H1 s1 hy hd => ?_⟩
  · by_cases c0 : n = 0
    · rw [decide_eq_true c0, if_pos rfl]
      exact hok0
    · rw [decide_eq_false c0, if_neg (by decide)]
      obtain ⟨b', hb', hok'⟩ := TT.block hn c0
      have : b' = b := D_inj (Option.some.inj (hb'.symm.trans hd0))
      rw [this] at hok'
      exact hok'
  · have c0 : n = 0 := of_decide_eq_true hroot
    subst c0
    obtain ⟨b', h0', _, _, h2', _⟩ := TT.root
    have : b' = b := D_inj (Option.some.inj (h0'.symm.trans hd0))
    rw [this] at h2'
    exact h2'
  wtm_at "go"
  refine g_br (fun c1 => ?_) (fun c1 => ?_)
  · wtm_at "go"
    exact qn H1 s1
  · rcases hd with e | ⟨hsp, hfb, hnn⟩
    · subst e
      cases hy
      simp at c1
    · wtm_at "go"
      refine g_dictDd (hb.go s1) fun f H2 n2 s2 d2 => ?_
      wtm_at "go"
      refine g_rDPut d2 (Dp.go s2 hy) (by omega) fun H3 o3 d3 => ?_
      wtm_at "go"
      have hl : (putA m n d).length ≤ m.length + 1 := length_put
      exact qo f _ H3 (o3.same (s1.trans s2) (s1.free n2)) d3 ⟨nodup_put TT.blk.1, fitM_put (TT.fitM hw2) hfb, by omega, spb_false TT hw rfl hn hd0 hsp⟩
theorem three_pw {first : Int} {n : Nat} : (threeK first n).Pairwise (· < ·) := by
  unfold threeK
  rw [List.pairwise_map, List.pairwise_iff_getElem]
  intro i j hi hj hij
  rw [List.getElem_range, List.getElem_range]
  omega
theorem ok_law {f : Addr} {fd : FuncData} (F : Fun K "law" "law" s_law f fd) (T : Tx K mg) : FnOk P w K mg base CX0 7 f fd ["_law_script"] (spLaw K) := by
  refine F.ok sc_law (fun vs H Q E h => ?_) (fun cdv A outer s H vs Q E hr h => ?_)
  · obtain ⟨a, ns, rfl, _⟩ := h
    rfl
  obtain ⟨a, ns, rfl, hS, hl, hb, q⟩ := h
  refine ⟨_, (pss_cons (ps_set (i := 1) sc_law.nd rfl (Or.inl rfl) (pe_call (ok_l_width_by T) (hr.mono (by decide)) (by rfl) T.g_l_width_by T.F_l_width_by.kp T.b_l_width_by .nil pass0 (pa_cons (pe_call (ok_l_cell_at T) (hr.mono (by decide)) (by rfl) T.g_l_cell_at T.F_l_cell_at.kp T.b_l_cell_at .nil pass0 (pa_cons (pv 0) (pa_cons pe_int pa_nil))) pa_nil)))
    (pss_cons (ps_set (i := 2) sc_law.nd rfl (Or.inl rfl) (pe_op op_mod (pe_call (ok_l_cell_at T) (hr.mono (by decide)) (by rfl) T.g_l_cell_at T.F_l_cell_at.kp T.b_l_cell_at .nil pass0 (pa_cons (pv 0) (pa_cons pe_int pa_nil))) pe_int))
    (Evl.pss_cut (ps_if (pw_or (pt_cmpR op_eq (pe_op op_mod (pe_op op_fdiv (pe_call (ok_l_cell_at T) (hr.mono (by decide)) (by rfl) T.g_l_cell_at T.F_l_cell_at.kp T.b_l_cell_at .nil pass0 (pa_cons (pv 0) (pa_cons pe_int pa_nil))) pe_int) pe_int) pe_int (nomark _)) (pw_or1 (pt_cmpR op_gt (pv 1) pe_int (nomark _)))).pt
      (pss_one (ps_set (i := 2) sc_law.nd rfl (Or.inl rfl) (pe_op op_mod (pe_op op_mod (pe_op op_mulX (pe_call (ok_l_cell_at T) (hr.mono (by decide)) (by rfl) T.g_l_cell_at T.F_l_cell_at.kp T.b_l_cell_at .nil pass0 (pa_cons (pv 0) (pa_cons pe_int pa_nil))) pe_int) pe_int) pe_int)))
      pss_nil)
    (pss_cons (ps_set (i := 3) sc_law.nd rfl (Or.inr rfl) (pe_op op_sub (pe_op op_mod (pe_call (ok_l_cell_at T) (hr.mono (by decide)) (by rfl) T.g_l_cell_at T.F_l_cell_at.kp T.b_l_cell_at .nil pass0 (pa_cons (pv 0) (pa_cons pe_int pa_nil))) pe_int) pe_int))
    (pss_cons (ps_setLc (i := 4) (own := [("_law_k", 5)]) (g := gName 5) (tt := tYes) rfl sc_law.nd rfl rfl (sw_true rfl rfl rfl (by decide +kernel)) (pi_range1 (by rfl) T.z_range (pa_cons (pv 2) pa_nil)) (blkOk_by (own := [("_law_k", 5)]) (N := N_law) (sc := defScope s_law) (by decide +kernel)) (fun _ _ _ _ _ => (pg_name (i := 5) sc_law.nd rfl (Or.inl rfl))) (fun _ _ _ _ _ => pts_nil) (fun _ _ _ _ _ => (pe_tup (pa_cons (pe_op op_add (pv 3) (pe_op op_mulX pe_int (pv 5))) (pa_cons (pe_op op_mulS pe_str (pe_op op_mod (pv 5) pe_int)) pa_nil)))))
    (pss_cons (ps_set (i := 6) sc_law.nd rfl (Or.inl rfl) (pe_call (ok_l_tree_by T) (hr.mono (by decide)) (by rfl) T.g_l_tree_by T.F_l_tree_by.kp T.b_l_tree_by .nil pass0 (pa_cons (pv 4) (pa_cons (pv 1) (pa_cons (pe_op op_mod (pe_call (ok_l_cell_at T) (hr.mono (by decide)) (by rfl) T.g_l_cell_at T.F_l_cell_at.kp T.b_l_cell_at .nil pass0 (pa_cons (pv 0) (pa_cons pe_int pa_nil))) pe_int) pa_nil)))))
    (pss_cons (ps_set (i := 7) sc_law.nd rfl (Or.inl rfl) (pe_callTy my_dictD (by rfl) T.z_dict (by decide +kernel) (pa_cons (pv 6) pa_nil)))
    (pss_cons (ps_if (pw_or (pt_cmpR op_notBl (pe_call (ok_sound T) hr (by rfl) T.g_sound T.F_sound.kp T.b_sound .nil pass0 (pa_cons (pv 7) (pa_cons (pv 1) pa_nil))) pe_bl (nomark _)) (pw_or1 (pt_cmpR (op_neDD hr.units) (pv 7) (pv 6) (nomark _)))).pt
      (pss_one (ps_ret pe_bl))
      pss_nil)
    (pss_cons (ps_if (pt_cmpR op_eq (pe_op op_mod (pe_call (ok_l_cell_at T) (hr.mono (by decide)) (by rfl) T.g_l_cell_at T.F_l_cell_at.kp T.b_l_cell_at .nil pass0 (pa_cons (pv 0) (pa_cons pe_int pa_nil))) pe_int) pe_int (nomark _))
      (pss_one (ps_ret (pe_call (ok_l_says T) (hr.mono (by decide)) (by rfl) T.g_l_says T.F_l_says.kp T.b_l_says .nil pass0 (pa_cons (pe_call (ok_sound T) hr (by rfl) T.g_sound T.F_sound.kp T.b_sound .nil pass0 (pa_cons (pv 7) (pa_cons (pe_callB (my_min2 rfl) (by rfl) T.z_min (by decide +kernel) (pa_cons pe_int (pa_cons (pe_op op_add (pv 1) pe_int) pa_nil))) pa_nil))) (pa_cons (pe_or (pe_cmpR op_eq (pv 1) pe_int (nomark _)) (pe_one (pe_call (ok_l_as_wide T) (hr.mono (by decide)) (by rfl) T.g_l_as_wide T.F_l_as_wide.kp T.b_l_as_wide .nil pass0 (pa_cons (pv 6) (pa_cons (pe_op op_add (pv 1) pe_int) pa_nil))))) pa_nil)))))
      pss_nil)
    (pss_cons (ps_set (i := 8) sc_law.nd rfl (Or.inl rfl) (pe_callB cr_sortedI (by rfl) T.z_sorted (by decide +kernel) (pa_cons (pe_callTy (my_listD rfl) (by rfl) T.z_list (by decide +kernel) (pa_cons (pv 6) pa_nil)) pa_nil)))
    (pss_cons (ps_set (i := 9) sc_law.nd rfl (Or.inl rfl) (pe_ix ix_list (pv 8) (pe_op op_mod (pe_call (ok_l_cell_at T) (hr.mono (by decide)) (by rfl) T.g_l_cell_at T.F_l_cell_at.kp T.b_l_cell_at .nil pass0 (pa_cons (pv 0) (pa_cons pe_int pa_nil))) (pe_callB my_len (by rfl) T.z_len PySem.boot_len (pa_cons (pv 8) pa_nil))) (fun _ _ => rfl)))
    (pss_cons (ps_set (i := 10) sc_law.nd rfl (Or.inl rfl) (pe_op op_mod (pe_call (ok_l_cell_at T) (hr.mono (by decide)) (by rfl) T.g_l_cell_at T.F_l_cell_at.kp T.b_l_cell_at .nil pass0 (pa_cons (pv 0) (pa_cons pe_int pa_nil))) pe_int))
    (pss_cons (ps_set (i := 11) sc_law.nd rfl (Or.inl rfl) (pe_call (ok_l_spoilt T) (hr.mono (by decide)) (by rfl) T.g_l_spoilt T.F_l_spoilt.kp T.b_l_spoilt .nil pass0 (pa_cons (pv 6) (pa_cons (pv 9) (pa_cons (pe_op op_mod (pe_op op_fdiv (pe_call (ok_l_cell_at T) (hr.mono (by decide)) (by rfl) T.g_l_cell_at T.F_l_cell_at.kp T.b_l_cell_at .nil pass0 (pa_cons (pv 0) (pa_cons pe_int pa_nil))) pe_int) pe_int) (pa_cons (pv 1) (pa_cons (pe_op op_sub (pe_op op_add (pv 3) (pe_op op_mulX pe_int (pv 2))) pe_int) (pa_cons (pv 10) pa_nil))))))))
    (pss_one (ps_ret (pe_or (pe_cmpR my_isN (pv 11) pe_non (nomark _)) (pe_one (pe_cmpR op_isBl (pe_call (ok_sound T) hr (by rfl) T.g_sound T.F_sound.kp T.b_sound .nil pass0 (pa_cons (pv 11) (pa_cons (pv 1) pa_nil))) pe_bl (nomark _))))))))))))))))))), ?_⟩
  wtm_at "gs"
  refine ⟨_, rfl, fun w hw hw2 => ?_⟩
  wtm_at "gs"
  wtm_at "gs"
  refine g_cut (fun σ' H' => ∃ z : Int, σ' = [some (.ref a), some (.int w), some (.int z), none, none, none, none, none, none, none, none, none] ∧ H' = H ∧ 0 ≤ z ∧ z ≤ 200) ?_ ?_
  · refine g_ifP True True (fun QB k1 k2 => ?_) (fun _ => ?_) (fun _ => ?_)
    · wtm_at "gs"
      refine g_orK (fun _ => k1 trivial) (fun _ => ?_)
      wtm_at "gs"
      cases decide (w > 6) with
      | true => exact k1 trivial
      | false => exact k2 trivial
    · wtm_at "go"
      exact ⟨_, rfl, rfl, by omega, by omega⟩
    · wtm_at "go"
      exact ⟨_, rfl, rfl, by omega, by omega⟩
  rintro σ' H' ⟨z, rfl, rfl, hz0, hz1⟩
  wtm_at "gs"
  have f0 := Int.emod_nonneg (cell ns 2) (show (2000 : Int) ≠ 0 by decide)
  have f1 := Int.emod_lt_of_pos (cell ns 2) (show (0 : Int) < 2000 by decide)
  obtain ⟨first, hfirst⟩ : ∃ first, cell ns 2 % 2000 - 1000 = first := ⟨_, rfl⟩
  rw [hfirst]
  wtm_at "gs"
  obtain ⟨P, hPdef⟩ : ∃ P : PL, P = (List.range z.toNat).map fun k : Nat => (first + 3 * (k : Int), PyData.str (repS "v" ((k : Int) % 3).toNat)) := ⟨_, rfl⟩
  have hj3 : ∀ k : Nat, ((k : Int) % 3).toNat = 0 ∨ ((k : Int) % 3).toNat = 1 ∨ ((k : Int) % 3).toNat = 2 := fun k => by omega
  have hv0 : ∀ j : Nat, j = 0 ∨ j = 1 ∨ j = 2 → isValD (.str (repS "v" j)) = true := fun j hj => by
    rcases hj with rfl | rfl | rfl <;> decide +kernel
  have hkP : keysT P = threeK first z.toNat := by
    rw [hPdef]
    unfold keysT threeK
    rw [List.map_map]
    rfl
  have lP : P.length = z.toNat := by rw [hPdef]; simp
  have hKB : (10000 : Int) < KB := by decide +kernel
  have hheld : ∀ p ∈ P, isKeyD (.int p.1) = true ∧ heldD (wordT true) p.2 = true := fun p hp => by
    rw [hPdef] at hp
    obtain ⟨k, hk, rfl⟩ := List.mem_map.mp hp
    rw [List.mem_range] at hk
    refine ⟨?_, ?_⟩
    · show (decide (-KB < first + 3 * (k : Int)) && decide (first + 3 * (k : Int) < KB)) = true
      rw [decide_eq_true (by omega), decide_eq_true (by omega)]
      rfl
    · unfold heldD
      rw [if_pos (by decide +kernel)]
      exact hv0 _ (hj3 k)
  have okPP : okP true P := ⟨hheld, by rw [hkP]; exact three_pw⟩
  have smPP : smP P := fun p hp => by
    refine ⟨held_strict (hheld p hp).2, ?_⟩
    rw [hPdef] at hp
    obtain ⟨k, _, rfl⟩ := List.mem_map.mp hp
    simp [PyData.depth]
  have keyedP : Keyed P (first + 3 * z - 3) := by
    unfold Keyed
    rw [hkP]
    refine ⟨fun A kl kc C h => ?_, fun A kl h => ?_⟩
    · have := three_next h
      omega
    · have := three_last h
      omega
  refine g_lcR1k (n := z) (fun i y H => Dp K H y (.tuple [.int (first + 3 * (i : Int)), .str (repS "v" ((i : Int) % 3).toNat)])) (by omega) (fun x => rfl) (fun i y H1 H2 st hy => Dp.still st ?_ hy) (fun i H1 QE hi s1 kq => ?_) (fun p ys H1 n1 s1 e1 hyl hys => ?_)
  · have := strok_val (hv0 _ (hj3 i))
    simp [strictD, strictAll, this]
  · refine evd_to (K := K) (by wtm_at "ev") fun y H2 s2 hy => ?_
    exact kq y H2 s2 hy
  have hd1 : DpAll K H1 ys (rowD P) := by
    refine dpAll_of (by rw [hyl]; unfold rowD; rw [List.length_map, lP]) fun i v d hv hd => ?_
    have hi := (List.getElem?_eq_some_iff.mp hv).1
    have := hys i v hv
    rw [hPdef] at hd
    unfold rowD at hd
    rw [List.getElem?_map, List.getElem?_map, List.getElem?_range (by omega)] at hd
    cases Option.some.inj hd
    exact this
  have hS1 := L2.Same.seq s1 hS
  clear hys hyl
  wtm_at "gs"
  wtm_at "gs"
  refine ⟨p, w, _, ys, P, rfl, SqL.of e1, hd1, okPP, smPP, hw, hw2, by omega, fun b m H2 n2 s2 d2 TT lm => ?_⟩
  have hS2 := L2.Same.seq s2 hS1
  have lm2 : m.length ≤ 201 := by omega
  have hsz : m.length * w.toNat ≤ 25000 := Nat.le_trans (Nat.mul_le_mul lm2 (show w.toNat ≤ 64 by omega)) (by decide)
  have hform : ∀ p ∈ m, ∃ c : TB, p.2 = c.D := fun p hp => by
    obtain ⟨c, hc, _⟩ := TT.form hp
    exact ⟨c, hc⟩
  wtm_at "gs"
  wtm_at "gs"
  refine g_dictDd d2 fun hn H3 n3 s3 d3 => ?_
  wtm_at "gs"
  wtm_at "gs"
  refine ⟨hn, m, w, rfl, d3, TT.blk.1, TT.fitM hw2, hsz, hw, hw2, fun H4 s4 => ?_⟩
  rw [TT.sound]
  have hS4 := L2.Same.seq (s3.trans s4) hS2
  have d4 := d3.go s4
  have b4 := d2.go (s3.trans s4)
  wtm_at "gs"
  refine g_orK (fun c => nomatch c) (fun _ => ?_)
  wtm_at "gs"
  refine g_neDD d4 b4 TT.blk.fit TT.blk.fit ?_
  rw [eqA_refl TT.blk]
  wtm_at "gs"
  refine g_br (fun c => nomatch c) (fun _ => ?_)
  refine g_next ?_
  wtm_at "gs"
  refine g_br (fun _ => ?_) (fun _ => ?_)
  · wtm_at "gs"
    refine g_min2 ?_
    obtain ⟨w2, hw2e⟩ : ∃ w2, (if w + 1 < 64 then w + 1 else 64) = w2 := ⟨_, rfl⟩
    have hw2r : w ≤ w2 ∧ w2 ≤ 64 := by rw [← hw2e]; split <;> omega
    rw [hw2e]
    wtm_at "gs"
    refine ⟨hn, m, w2, rfl, d4, TT.blk.1, TT.fitM hw2, Nat.le_trans (Nat.mul_le_mul lm2 (show w2.toNat ≤ 64 by omega)) (by decide), by omega, by omega, fun H5 s5 => ?_⟩
    wtm_at "gs"
    have ew : decide (V.int w = V.int 64) = decide (w = 64) := decide_eq_decide.mpr ⟨V.int.inj, congrArg V.int⟩
    rw [ew]
    refine g_orV (fun c => ?_) (fun c => ?_)
    · have c' : w = 64 := of_decide_eq_true c
      have : w2 = w := by omega
      rw [this, TT.sound]
      wtm_at "gs"
      exact ⟨true, true, rfl, q _⟩
    · have c' : w ≠ 64 := of_decide_eq_false c
      have : w2 = w + 1 := by rw [← hw2e]; split <;> omega
      rw [this, TT.asW (by omega)]
      wtm_at "gs"
      refine ⟨b, w + 1, m, rfl, b4.go s5, hform, TT.blk.1, fun H6 s6 => ?_⟩
      wtm_at "gs"
      refine ⟨_, _, rfl, ?_⟩
      rw [decide_eq_true rfl]
      exact q _
  refine g_next ?_
  wtm_at "gs"
  refine g_listDd b4 fun lk H5 n5 s5 e5 => ?_
  wtm_at "gs"
  refine g_sortedI (SqL.of e5) fun ns' sp H6 perm _ n6 s6 e6 => ?_
  have hS6 := L2.Same.seq (s5.trans s6) hS4
  have hlen : 0 < ns'.length := by
    rw [perm.length_eq]
    obtain ⟨c, h0, _⟩ := TT.root
    exact List.length_pos_of_mem (mem_keysA.mpr (by rw [h0]; rfl))
  have hlm : (ns'.map V.int).length = ns'.length := List.length_map ..
  wtm_at "gs"
  wtm_at "gs"
  rw [List.length_map]
  have i0 := Int.emod_nonneg (cell ns 5) (show (ns'.length : Int) ≠ 0 by omega)
  have i1 := Int.emod_lt_of_pos (cell ns 5) (show (0 : Int) < (ns'.length : Int) by omega)
  generalize cell ns 5 % (ns'.length : Int) = ix at i0 i1
  refine g_ixL (SqL.of e6) (atI_cell (ns := ns') i0 (by omega)) ?_
  have hmem : cell ns' ix ∈ keysA m := by
    refine perm.mem_iff.mp ?_
    unfold cell
    have hlt : ix.toNat < ns'.length := by omega
    rw [List.getD_eq_getElem?_getD, List.getElem?_eq_getElem hlt]
    exact List.getElem_mem hlt
  generalize cell ns' ix = n at hmem
  wtm_at "gs"
  wtm_at "gs"
  wtm_at "gs"
  refine ⟨b, n, _, w, _, _, m, P, rfl, b4.go (s5.trans s6), TT, hmem, by omega, by omega, hw, hw2, by omega, by omega, keyedP, fun H7 s7 => ?_, fun o m' H7 s7 d7 hsp => ?_⟩
  · wtm_at "go"
    refine g_orV (fun _ => q _) (fun c => ?_)
    simp at c
  · obtain ⟨nd7, fm7, lm7, hs7⟩ := hsp
    wtm_at "go"
    refine g_orV (fun c => ?_) (fun _ => ?_)
    · simp at c
    wtm_at "go"
    refine ⟨o, m', w, rfl, d7, nd7, fm7, Nat.le_trans (Nat.mul_le_mul lm7 (show w.toNat ≤ 64 by omega)) (by decide), hw, hw2, fun H8 s8 => ?_⟩
    rw [hs7]
    wtm_at "go"
    exact q _
theorem all_mk {l : PySem.W.OpenLaw} {w : World} {K : PySem.W.Frag} {h : Heap} {mg : Str → Option Value} {fa : Addr} (X : K.In h) (G : h.Ns mainGlobals mg) (hfa : mg "law" = some (.ref fa))
    {f0 : Addr} {od0 an0 : Option Addr} {sl0 : Array (Option Value)} {oc0 kV0 dc0 pm0 cd0 ct0 : Value}
    (a0 : PySem.W.nsIn K mainGlobals "is_whole" = some (some (.ref f0))) (l0 : K.lookup f0 = some ⟨oc0, od0, .func (PySem.W.fnOf "is_whole" "is_whole" (defArgs s_is_whole) (defBody s_is_whole) (defScope s_is_whole) .none kV0 dc0 pm0 an0 cd0 ct0), sl0⟩) (c0 : PySem.W.codeIn K cd0 "is_whole" = true) (k0 : PySem.W.keepIn K (.ref f0) = true)
    {f1 : Addr} {od1 an1 : Option Addr} {sl1 : Array (Option Value)} {oc1 kV1 dc1 pm1 cd1 ct1 : Value}
    (a1 : PySem.W.nsIn K mainGlobals "is_key" = some (some (.ref f1))) (l1 : K.lookup f1 = some ⟨oc1, od1, .func (PySem.W.fnOf "is_key" "is_key" (defArgs s_is_key) (defBody s_is_key) (defScope s_is_key) .none kV1 dc1 pm1 an1 cd1 ct1), sl1⟩) (c1 : PySem.W.codeIn K cd1 "is_key" = true) (k1 : PySem.W.keepIn K (.ref f1) = true)
    {f2 : Addr} {od2 an2 : Option Addr} {sl2 : Array (Option Value)} {oc2 kV2 dc2 pm2 cd2 ct2 : Value}
    (a2 : PySem.W.nsIn K mainGlobals "is_value" = some (some (.ref f2))) (l2 : K.lookup f2 = some ⟨oc2, od2, .func (PySem.W.fnOf "is_value" "is_value" (defArgs s_is_value) (defBody s_is_value) (defScope s_is_value) .none kV2 dc2 pm2 an2 cd2 ct2), sl2⟩) (c2 : PySem.W.codeIn K cd2 "is_value" = true) (k2 : PySem.W.keepIn K (.ref f2) = true)
    {f3 : Addr} {od3 an3 : Option Addr} {sl3 : Array (Option Value)} {oc3 kV3 dc3 pm3 cd3 ct3 : Value}
    (a3 : PySem.W.nsIn K mainGlobals "is_number" = some (some (.ref f3))) (l3 : K.lookup f3 = some ⟨oc3, od3, .func (PySem.W.fnOf "is_number" "is_number" (defArgs s_is_number) (defBody s_is_number) (defScope s_is_number) .none kV3 dc3 pm3 an3 cd3 ct3), sl3⟩) (c3 : PySem.W.codeIn K cd3 "is_number" = true) (k3 : PySem.W.keepIn K (.ref f3) = true)
    {f4 : Addr} {od4 an4 : Option Addr} {sl4 : Array (Option Value)} {oc4 kV4 dc4 pm4 cd4 ct4 : Value}
    (a4 : PySem.W.nsIn K mainGlobals "half" = some (some (.ref f4))) (l4 : K.lookup f4 = some ⟨oc4, od4, .func (PySem.W.fnOf "half" "half" (defArgs s_half) (defBody s_half) (defScope s_half) .none kV4 dc4 pm4 an4 cd4 ct4), sl4⟩) (c4 : PySem.W.codeIn K cd4 "half" = true) (k4 : PySem.W.keepIn K (.ref f4) = true)
    {f5 : Addr} {od5 an5 : Option Addr} {sl5 : Array (Option Value)} {oc5 kV5 dc5 pm5 cd5 ct5 : Value}
    (a5 : PySem.W.nsIn K mainGlobals "is_two" = some (some (.ref f5))) (l5 : K.lookup f5 = some ⟨oc5, od5, .func (PySem.W.fnOf "is_two" "is_two" (defArgs s_is_two) (defBody s_is_two) (defScope s_is_two) .none kV5 dc5 pm5 an5 cd5 ct5), sl5⟩) (c5 : PySem.W.codeIn K cd5 "is_two" = true) (k5 : PySem.W.keepIn K (.ref f5) = true)
    {f6 : Addr} {od6 an6 : Option Addr} {sl6 : Array (Option Value)} {oc6 kV6 dc6 pm6 cd6 ct6 : Value}
    (a6 : PySem.W.nsIn K mainGlobals "is_pair" = some (some (.ref f6))) (l6 : K.lookup f6 = some ⟨oc6, od6, .func (PySem.W.fnOf "is_pair" "is_pair" (defArgs s_is_pair) (defBody s_is_pair) (defScope s_is_pair) .none kV6 dc6 pm6 an6 cd6 ct6), sl6⟩) (c6 : PySem.W.codeIn K cd6 "is_pair" = true) (k6 : PySem.W.keepIn K (.ref f6) = true)
    {f7 : Addr} {od7 an7 : Option Addr} {sl7 : Array (Option Value)} {oc7 kV7 dc7 pm7 cd7 ct7 : Value}
    (a7 : PySem.W.nsIn K mainGlobals "rises" = some (some (.ref f7))) (l7 : K.lookup f7 = some ⟨oc7, od7, .func (PySem.W.fnOf "rises" "rises" (defArgs s_rises) (defBody s_rises) (defScope s_rises) .none kV7 dc7 pm7 an7 cd7 ct7), sl7⟩) (c7 : PySem.W.codeIn K cd7 "rises" = true) (k7 : PySem.W.keepIn K (.ref f7) = true)
    {f8 : Addr} {od8 an8 : Option Addr} {sl8 : Array (Option Value)} {oc8 kV8 dc8 pm8 cd8 ct8 : Value}
    (a8 : PySem.W.nsIn K mainGlobals "is_block" = some (some (.ref f8))) (l8 : K.lookup f8 = some ⟨oc8, od8, .func (PySem.W.fnOf "is_block" "is_block" (defArgs s_is_block) (defBody s_is_block) (defScope s_is_block) .none kV8 dc8 pm8 an8 cd8 ct8), sl8⟩) (c8 : PySem.W.codeIn K cd8 "is_block" = true) (k8 : PySem.W.keepIn K (.ref f8) = true)
    {f9 : Addr} {od9 an9 : Option Addr} {sl9 : Array (Option Value)} {oc9 kV9 dc9 pm9 cd9 ct9 : Value}
    (a9 : PySem.W.nsIn K mainGlobals "row_of" = some (some (.ref f9))) (l9 : K.lookup f9 = some ⟨oc9, od9, .func (PySem.W.fnOf "row_of" "row_of" (defArgs s_row_of) (defBody s_row_of) (defScope s_row_of) .none kV9 dc9 pm9 an9 cd9 ct9), sl9⟩) (c9 : PySem.W.codeIn K cd9 "row_of" = true) (k9 : PySem.W.keepIn K (.ref f9) = true)
    {f10 : Addr} {od10 an10 : Option Addr} {sl10 : Array (Option Value)} {oc10 kV10 dc10 pm10 cd10 ct10 : Value}
    (a10 : PySem.W.nsIn K mainGlobals "named" = some (some (.ref f10))) (l10 : K.lookup f10 = some ⟨oc10, od10, .func (PySem.W.fnOf "named" "named" (defArgs s_named) (defBody s_named) (defScope s_named) .none kV10 dc10 pm10 an10 cd10 ct10), sl10⟩) (c10 : PySem.W.codeIn K cd10 "named" = true) (k10 : PySem.W.keepIn K (.ref f10) = true)
    {f11 : Addr} {od11 an11 : Option Addr} {sl11 : Array (Option Value)} {oc11 kV11 dc11 pm11 cd11 ct11 : Value}
    (a11 : PySem.W.nsIn K mainGlobals "all_are" = some (some (.ref f11))) (l11 : K.lookup f11 = some ⟨oc11, od11, .func (PySem.W.fnOf "all_are" "all_are" (defArgs s_all_are) (defBody s_all_are) (defScope s_all_are) .none kV11 dc11 pm11 an11 cd11 ct11), sl11⟩) (c11 : PySem.W.codeIn K cd11 "all_are" = true) (k11 : PySem.W.keepIn K (.ref f11) = true)
    {f12 : Addr} {od12 an12 : Option Addr} {sl12 : Array (Option Value)} {oc12 kV12 dc12 pm12 cd12 ct12 : Value}
    (a12 : PySem.W.nsIn K mainGlobals "is_root" = some (some (.ref f12))) (l12 : K.lookup f12 = some ⟨oc12, od12, .func (PySem.W.fnOf "is_root" "is_root" (defArgs s_is_root) (defBody s_is_root) (defScope s_is_root) .none kV12 dc12 pm12 an12 cd12 ct12), sl12⟩) (c12 : PySem.W.codeIn K cd12 "is_root" = true) (k12 : PySem.W.keepIn K (.ref f12) = true)
    {f13 : Addr} {od13 an13 : Option Addr} {sl13 : Array (Option Value)} {oc13 kV13 dc13 pm13 cd13 ct13 : Value}
    (a13 : PySem.W.nsIn K mainGlobals "fits" = some (some (.ref f13))) (l13 : K.lookup f13 = some ⟨oc13, od13, .func (PySem.W.fnOf "fits" "fits" (defArgs s_fits) (defBody s_fits) (defScope s_fits) .none kV13 dc13 pm13 an13 cd13 ct13), sl13⟩) (c13 : PySem.W.codeIn K cd13 "fits" = true) (k13 : PySem.W.keepIn K (.ref f13) = true)
    {f14 : Addr} {od14 an14 : Option Addr} {sl14 : Array (Option Value)} {oc14 kV14 dc14 pm14 cd14 ct14 : Value}
    (a14 : PySem.W.nsIn K mainGlobals "sound" = some (some (.ref f14))) (l14 : K.lookup f14 = some ⟨oc14, od14, .func (PySem.W.fnOf "sound" "sound" (defArgs s_sound) (defBody s_sound) (defScope s_sound) .none kV14 dc14 pm14 an14 cd14 ct14), sl14⟩) (c14 : PySem.W.codeIn K cd14 "sound" = true) (k14 : PySem.W.keepIn K (.ref f14) = true)
    {f15 : Addr} {od15 an15 : Option Addr} {sl15 : Array (Option Value)} {oc15 kV15 dc15 pm15 cd15 ct15 : Value}
    (a15 : PySem.W.nsIn K mainGlobals "_law_cell_at" = some (some (.ref f15))) (l15 : K.lookup f15 = some ⟨oc15, od15, .func (PySem.W.fnOf "_law_cell_at" "_law_cell_at" (defArgs s_l_cell_at) (defBody s_l_cell_at) (defScope s_l_cell_at) .none kV15 dc15 pm15 an15 cd15 ct15), sl15⟩) (c15 : PySem.W.codeIn K cd15 "_law_cell_at" = true) (k15 : PySem.W.keepIn K (.ref f15) = true)
    {f16 : Addr} {od16 an16 : Option Addr} {sl16 : Array (Option Value)} {oc16 kV16 dc16 pm16 cd16 ct16 : Value}
    (a16 : PySem.W.nsIn K mainGlobals "_law_width_by" = some (some (.ref f16))) (l16 : K.lookup f16 = some ⟨oc16, od16, .func (PySem.W.fnOf "_law_width_by" "_law_width_by" (defArgs s_l_width_by) (defBody s_l_width_by) (defScope s_l_width_by) .none kV16 dc16 pm16 an16 cd16 ct16), sl16⟩) (c16 : PySem.W.codeIn K cd16 "_law_width_by" = true) (k16 : PySem.W.keepIn K (.ref f16) = true)
    {f17 : Addr} {od17 an17 : Option Addr} {sl17 : Array (Option Value)} {oc17 kV17 dc17 pm17 cd17 ct17 : Value}
    (a17 : PySem.W.nsIn K mainGlobals "_law_level" = some (some (.ref f17))) (l17 : K.lookup f17 = some ⟨oc17, od17, .func (PySem.W.fnOf "_law_level" "_law_level" (defArgs s_l_level) (defBody s_l_level) (defScope s_l_level) .none kV17 dc17 pm17 an17 cd17 ct17), sl17⟩) (c17 : PySem.W.codeIn K cd17 "_law_level" = true) (k17 : PySem.W.keepIn K (.ref f17) = true)
    {f18 : Addr} {od18 an18 : Option Addr} {sl18 : Array (Option Value)} {oc18 kV18 dc18 pm18 cd18 ct18 : Value}
    (a18 : PySem.W.nsIn K mainGlobals "_law_tree_by" = some (some (.ref f18))) (l18 : K.lookup f18 = some ⟨oc18, od18, .func (PySem.W.fnOf "_law_tree_by" "_law_tree_by" (defArgs s_l_tree_by) (defBody s_l_tree_by) (defScope s_l_tree_by) .none kV18 dc18 pm18 an18 cd18 ct18), sl18⟩) (c18 : PySem.W.codeIn K cd18 "_law_tree_by" = true) (k18 : PySem.W.keepIn K (.ref f18) = true)
    {f19 : Addr} {od19 an19 : Option Addr} {sl19 : Array (Option Value)} {oc19 kV19 dc19 pm19 cd19 ct19 : Value}
    (a19 : PySem.W.nsIn K mainGlobals "_law_pair_spoilt" = some (some (.ref f19))) (l19 : K.lookup f19 = some ⟨oc19, od19, .func (PySem.W.fnOf "_law_pair_spoilt" "_law_pair_spoilt" (defArgs s_l_pair_spoilt) (defBody s_l_pair_spoilt) (defScope s_l_pair_spoilt) .none kV19 dc19 pm19 an19 cd19 ct19), sl19⟩) (c19 : PySem.W.codeIn K cd19 "_law_pair_spoilt" = true) (k19 : PySem.W.keepIn K (.ref f19) = true)
    {f20 : Addr} {od20 an20 : Option Addr} {sl20 : Array (Option Value)} {oc20 kV20 dc20 pm20 cd20 ct20 : Value}
    (a20 : PySem.W.nsIn K mainGlobals "_law_block_spoilt" = some (some (.ref f20))) (l20 : K.lookup f20 = some ⟨oc20, od20, .func (PySem.W.fnOf "_law_block_spoilt" "_law_block_spoilt" (defArgs s_l_block_spoilt) (defBody s_l_block_spoilt) (defScope s_l_block_spoilt) .none kV20 dc20 pm20 an20 cd20 ct20), sl20⟩) (c20 : PySem.W.codeIn K cd20 "_law_block_spoilt" = true) (k20 : PySem.W.keepIn K (.ref f20) = true)
    {f21 : Addr} {od21 an21 : Option Addr} {sl21 : Array (Option Value)} {oc21 kV21 dc21 pm21 cd21 ct21 : Value}
    (a21 : PySem.W.nsIn K mainGlobals "_law_deeper" = some (some (.ref f21))) (l21 : K.lookup f21 = some ⟨oc21, od21, .func (PySem.W.fnOf "_law_deeper" "_law_deeper" (defArgs s_l_deeper) (defBody s_l_deeper) (defScope s_l_deeper) .none kV21 dc21 pm21 an21 cd21 ct21), sl21⟩) (c21 : PySem.W.codeIn K cd21 "_law_deeper" = true) (k21 : PySem.W.keepIn K (.ref f21) = true)
    {f22 : Addr} {od22 an22 : Option Addr} {sl22 : Array (Option Value)} {oc22 kV22 dc22 pm22 cd22 ct22 : Value}
    (a22 : PySem.W.nsIn K mainGlobals "_law_ringed" = some (some (.ref f22))) (l22 : K.lookup f22 = some ⟨oc22, od22, .func (PySem.W.fnOf "_law_ringed" "_law_ringed" (defArgs s_l_ringed) (defBody s_l_ringed) (defScope s_l_ringed) .none kV22 dc22 pm22 an22 cd22 ct22), sl22⟩) (c22 : PySem.W.codeIn K cd22 "_law_ringed" = true) (k22 : PySem.W.keepIn K (.ref f22) = true)
    {f23 : Addr} {od23 an23 : Option Addr} {sl23 : Array (Option Value)} {oc23 kV23 dc23 pm23 cd23 ct23 : Value}
    (a23 : PySem.W.nsIn K mainGlobals "_law_tree_spoilt" = some (some (.ref f23))) (l23 : K.lookup f23 = some ⟨oc23, od23, .func (PySem.W.fnOf "_law_tree_spoilt" "_law_tree_spoilt" (defArgs s_l_tree_spoilt) (defBody s_l_tree_spoilt) (defScope s_l_tree_spoilt) .none kV23 dc23 pm23 an23 cd23 ct23), sl23⟩) (c23 : PySem.W.codeIn K cd23 "_law_tree_spoilt" = true) (k23 : PySem.W.keepIn K (.ref f23) = true)
    {f24 : Addr} {od24 an24 : Option Addr} {sl24 : Array (Option Value)} {oc24 kV24 dc24 pm24 cd24 ct24 : Value}
    (a24 : PySem.W.nsIn K mainGlobals "_law_says" = some (some (.ref f24))) (l24 : K.lookup f24 = some ⟨oc24, od24, .func (PySem.W.fnOf "_law_says" "_law_says" (defArgs s_l_says) (defBody s_l_says) (defScope s_l_says) .none kV24 dc24 pm24 an24 cd24 ct24), sl24⟩) (c24 : PySem.W.codeIn K cd24 "_law_says" = true) (k24 : PySem.W.keepIn K (.ref f24) = true)
    {f25 : Addr} {od25 an25 : Option Addr} {sl25 : Array (Option Value)} {oc25 kV25 dc25 pm25 cd25 ct25 : Value}
    (a25 : PySem.W.nsIn K mainGlobals "_law_as_wide" = some (some (.ref f25))) (l25 : K.lookup f25 = some ⟨oc25, od25, .func (PySem.W.fnOf "_law_as_wide" "_law_as_wide" (defArgs s_l_as_wide) (defBody s_l_as_wide) (defScope s_l_as_wide) .none kV25 dc25 pm25 an25 cd25 ct25), sl25⟩) (c25 : PySem.W.codeIn K cd25 "_law_as_wide" = true) (k25 : PySem.W.keepIn K (.ref f25) = true)
    {f26 : Addr} {od26 an26 : Option Addr} {sl26 : Array (Option Value)} {oc26 kV26 dc26 pm26 cd26 ct26 : Value}
    (a26 : PySem.W.nsIn K mainGlobals "_law_spoilt" = some (some (.ref f26))) (l26 : K.lookup f26 = some ⟨oc26, od26, .func (PySem.W.fnOf "_law_spoilt" "_law_spoilt" (defArgs s_l_spoilt) (defBody s_l_spoilt) (defScope s_l_spoilt) .none kV26 dc26 pm26 an26 cd26 ct26), sl26⟩) (c26 : PySem.W.codeIn K cd26 "_law_spoilt" = true) (k26 : PySem.W.keepIn K (.ref f26) = true)
    {f27 : Addr} {od27 an27 : Option Addr} {sl27 : Array (Option Value)} {oc27 kV27 dc27 pm27 cd27 ct27 : Value}
    (a27 : PySem.W.nsIn K mainGlobals "law" = some (some (.ref f27))) (l27 : K.lookup f27 = some ⟨oc27, od27, .func (PySem.W.fnOf "law" "law" (defArgs s_law) (defBody s_law) (defScope s_law) .none kV27 dc27 pm27 an27 cd27 ct27), sl27⟩) (c27 : PySem.W.codeIn K cd27 "law" = true) (k27 : PySem.W.keepIn K (.ref f27) = true)
    {tk0 : Tok} (q0 : PySem.W.nsIn K mainGlobals "KEY_BOUND" = some (some (.int (KB) tk0)))
    {tk1 : Tok} (q1 : PySem.W.nsIn K mainGlobals "MOST_SIGNS" = some (some (.int (60) tk1)))
    (z0 : PySem.W.nsIn K mainGlobals "all" = some none)
    (z1 : PySem.W.nsIn K mainGlobals "dict" = some none)
    (z2 : PySem.W.nsIn K mainGlobals "int" = some none)
    (z3 : PySem.W.nsIn K mainGlobals "len" = some none)
    (z4 : PySem.W.nsIn K mainGlobals "list" = some none)
    (z5 : PySem.W.nsIn K mainGlobals "max" = some none)
    (z6 : PySem.W.nsIn K mainGlobals "min" = some none)
    (z7 : PySem.W.nsIn K mainGlobals "range" = some none)
    (z8 : PySem.W.nsIn K mainGlobals "sorted" = some none)
    (z9 : PySem.W.nsIn K mainGlobals "str" = some none)
    (z10 : PySem.W.nsIn K mainGlobals "tuple" = some none)
    (z11 : PySem.W.nsIn K mainGlobals "type" = some none)
    : ∃ fd : FuncData, (∀ (s : Shared) (v : Value), BindsTo s fd ⟨[v], []⟩ [("_law_script", v)]) ∧ ∀ base : Heap, K.In base → base.Ns mainGlobals mg → FnOk l.prog w K mg base CX0 7 fa fd ["_law_script"] (spLaw K) := by
  have e := hfa.symm.trans (PySem.W.mg_of X G a27)
  cases e
  have F0 := fun_mk (st := s_is_whole) l0 c0 k0
  have b0 := F0.binds (ps := ["thing"]) fun _ _ _ _ _ _ us hl => match us, hl with | [_], _ => rfl
  have F1 := fun_mk (st := s_is_key) l1 c1 k1
  have b1 := F1.binds (ps := ["thing"]) fun _ _ _ _ _ _ us hl => match us, hl with | [_], _ => rfl
  have F2 := fun_mk (st := s_is_value) l2 c2 k2
  have b2 := F2.binds (ps := ["thing"]) fun _ _ _ _ _ _ us hl => match us, hl with | [_], _ => rfl
  have F3 := fun_mk (st := s_is_number) l3 c3 k3
  have b3 := F3.binds (ps := ["thing"]) fun _ _ _ _ _ _ us hl => match us, hl with | [_], _ => rfl
  have F4 := fun_mk (st := s_half) l4 c4 k4
  have b4 := F4.binds (ps := ["width"]) fun _ _ _ _ _ _ us hl => match us, hl with | [_], _ => rfl
  have F5 := fun_mk (st := s_is_two) l5 c5 k5
  have b5 := F5.binds (ps := ["thing"]) fun _ _ _ _ _ _ us hl => match us, hl with | [_], _ => rfl
  have F6 := fun_mk (st := s_is_pair) l6 c6 k6
  have b6 := F6.binds (ps := ["thing", "word"]) fun _ _ _ _ _ _ us hl => match us, hl with | [_, _], _ => rfl
  have F7 := fun_mk (st := s_rises) l7 c7 k7
  have b7 := F7.binds (ps := ["pairs"]) fun _ _ _ _ _ _ us hl => match us, hl with | [_], _ => rfl
  have F8 := fun_mk (st := s_is_block) l8 c8 k8
  have b8 := F8.binds (ps := ["thing", "least", "most"]) fun _ _ _ _ _ _ us hl => match us, hl with | [_, _, _], _ => rfl
  have F9 := fun_mk (st := s_row_of) l9 c9 k9
  have b9 := F9.binds (ps := ["level"]) fun _ _ _ _ _ _ us hl => match us, hl with | [_], _ => rfl
  have F10 := fun_mk (st := s_named) l10 c10 k10
  have b10 := F10.binds (ps := ["blocks", "pairs"]) fun _ _ _ _ _ _ us hl => match us, hl with | [_, _], _ => rfl
  have F11 := fun_mk (st := s_all_are) l11 c11 k11
  have b11 := F11.binds (ps := ["word", "level"]) fun _ _ _ _ _ _ us hl => match us, hl with | [_, _], _ => rfl
  have F12 := fun_mk (st := s_is_root) l12 c12 k12
  have b12 := F12.binds (ps := ["thing", "width"]) fun _ _ _ _ _ _ us hl => match us, hl with | [_, _], _ => rfl
  have F13 := fun_mk (st := s_fits) l13 c13 k13
  have b13 := F13.binds (ps := ["thing", "width", "key"]) fun _ _ _ _ _ _ us hl => match us, hl with | [_, _, _], _ => rfl
  have F14 := fun_mk (st := s_sound) l14 c14 k14
  have b14 := F14.binds (ps := ["blocks", "width"]) fun _ _ _ _ _ _ us hl => match us, hl with | [_, _], _ => rfl
  have F15 := fun_mk (st := s_l_cell_at) l15 c15 k15
  have b15 := F15.binds (ps := ["_law_script", "_law_k"]) fun _ _ _ _ _ _ us hl => match us, hl with | [_, _], _ => rfl
  have F16 := fun_mk (st := s_l_width_by) l16 c16 k16
  have b16 := F16.binds (ps := ["_law_cell"]) fun _ _ _ _ _ _ us hl => match us, hl with | [_], _ => rfl
  have F17 := fun_mk (st := s_l_level) l17 c17 k17
  have b17 := F17.binds (ps := ["_law_pairs", "_law_width", "_law_cell"]) fun _ _ _ _ _ _ us hl => match us, hl with | [_, _, _], _ => rfl
  have F18 := fun_mk (st := s_l_tree_by) l18 c18 k18
  have b18 := F18.binds (ps := ["_law_pairs", "_law_width", "_law_cell"]) fun _ _ _ _ _ _ us hl => match us, hl with | [_, _, _], _ => rfl
  have F19 := fun_mk (st := s_l_pair_spoilt) l19 c19 k19
  have b19 := F19.binds (ps := ["_law_kind", "_law_pair", "_law_cell"]) fun _ _ _ _ _ _ us hl => match us, hl with | [_, _, _], _ => rfl
  have F20 := fun_mk (st := s_l_block_spoilt) l20 c20 k20
  have b20 := F20.binds (ps := ["_law_block", "_law_root", "_law_way", "_law_width", "_law_more"]) fun _ _ _ _ _ _ us hl => match us, hl with | [_, _, _, _, _], _ => rfl
  have F21 := fun_mk (st := s_l_deeper) l21 c21 k21
  have b21 := F21.binds (ps := ["_law_found", "_law_number", "_law_first", "_law_more", "_law_width"]) fun _ _ _ _ _ _ us hl => match us, hl with | [_, _, _, _, _], _ => rfl
  have F22 := fun_mk (st := s_l_ringed) l22 c22 k22
  have b22 := F22.binds (ps := ["_law_found", "_law_top", "_law_more"]) fun _ _ _ _ _ _ us hl => match us, hl with | [_, _, _], _ => rfl
  have F23 := fun_mk (st := s_l_tree_spoilt) l23 c23 k23
  have b23 := F23.binds (ps := ["_law_blocks", "_law_number", "_law_way", "_law_top", "_law_width", "_law_cell"]) fun _ _ _ _ _ _ us hl => match us, hl with | [_, _, _, _, _, _], _ => rfl
  have F24 := fun_mk (st := s_l_says) l24 c24 k24
  have b24 := F24.binds (ps := ["_law_found", "_law_due"]) fun _ _ _ _ _ _ us hl => match us, hl with | [_, _], _ => rfl
  have F25 := fun_mk (st := s_l_as_wide) l25 c25 k25
  have b25 := F25.binds (ps := ["_law_blocks", "_law_width"]) fun _ _ _ _ _ _ us hl => match us, hl with | [_, _], _ => rfl
  have F26 := fun_mk (st := s_l_spoilt) l26 c26 k26
  have b26 := F26.binds (ps := ["_law_blocks", "_law_number", "_law_way", "_law_width", "_law_top", "_law_more"]) fun _ _ _ _ _ _ us hl => match us, hl with | [_, _, _, _, _, _], _ => rfl
  have F27 := fun_mk (st := s_law) l27 c27 k27
  have T : Tx K mg := ⟨f0, _, F0, b0, PySem.W.mg_of X G a0, f1, _, F1, b1, PySem.W.mg_of X G a1, f2, _, F2, b2, PySem.W.mg_of X G a2, f3, _, F3, b3, PySem.W.mg_of X G a3, f4, _, F4, b4, PySem.W.mg_of X G a4, f5, _, F5, b5, PySem.W.mg_of X G a5, f6, _, F6, b6, PySem.W.mg_of X G a6, f7, _, F7, b7, PySem.W.mg_of X G a7, f8, _, F8, b8, PySem.W.mg_of X G a8, f9, _, F9, b9, PySem.W.mg_of X G a9, f10, _, F10, b10, PySem.W.mg_of X G a10, f11, _, F11, b11, PySem.W.mg_of X G a11, f12, _, F12, b12, PySem.W.mg_of X G a12, f13, _, F13, b13, PySem.W.mg_of X G a13, f14, _, F14, b14, PySem.W.mg_of X G a14, f15, _, F15, b15, PySem.W.mg_of X G a15, f16, _, F16, b16, PySem.W.mg_of X G a16, f17, _, F17, b17, PySem.W.mg_of X G a17, f18, _, F18, b18, PySem.W.mg_of X G a18, f19, _, F19, b19, PySem.W.mg_of X G a19, f20, _, F20, b20, PySem.W.mg_of X G a20, f21, _, F21, b21, PySem.W.mg_of X G a21, f22, _, F22, b22, PySem.W.mg_of X G a22, f23, _, F23, b23, PySem.W.mg_of X G a23, f24, _, F24, b24, PySem.W.mg_of X G a24, f25, _, F25, b25, PySem.W.mg_of X G a25, f26, _, F26, b26, PySem.W.mg_of X G a26, _, PySem.W.mg_of X G q0, _, PySem.W.mg_of X G q1, PySem.W.mg_none_of X G z0, PySem.W.mg_none_of X G z1, PySem.W.mg_none_of X G z2, PySem.W.mg_none_of X G z3, PySem.W.mg_none_of X G z4, PySem.W.mg_none_of X G z5, PySem.W.mg_none_of X G z6, PySem.W.mg_none_of X G z7, PySem.W.mg_none_of X G z8, PySem.W.mg_none_of X G z9, PySem.W.mg_none_of X G z10, PySem.W.mg_none_of X G z11⟩
  exact ⟨_, fun s v => .of_eq rfl, fun base _ _ => ok_law F27 T⟩
end
end My
open PySem PySem.W PyProof.Rows
set_option maxRecDepth 100000 in
set_option maxHeartbeats 0 in
theorem PySem.Challenge.cw_btreelog_k07_sound_holds : PySem.Challenge.rw_btreelog_k07_sound.Holds := by
  w_on; o_law; k_head; (case hw => w_witness2)
  k_fill
  refine L2.walk_ofB (l := PySem.Challenge.rw_btreelog_k07_sound) (n := 63) (k := 7) (x := "_law_script") (CX := fun _ => L2.CX0) (sp := fun w => My.spLaw _) rfl (by decide) rfl ⟨rfl, by decide, by decide⟩ (fun w h Y => PySem.W.kIn_of Y) ?F (fun _ _ a ns hl hb _ hS => ⟨a, ns, rfl, hS, hl, hb, fun _ => rfl⟩) (fun _ _ _ _ _ h => h)
  case F =>
    intro w mg fa h KX G hmg
    refine' My.all_mk KX G hmg ?a0 ?l0 ?c0 ?k0 ?a1 ?l1 ?c1 ?k1 ?a2 ?l2 ?c2 ?k2 ?a3 ?l3 ?c3 ?k3 ?a4 ?l4 ?c4 ?k4 ?a5 ?l5 ?c5 ?k5 ?a6 ?l6 ?c6 ?k6 ?a7 ?l7 ?c7 ?k7 ?a8 ?l8 ?c8 ?k8 ?a9 ?l9 ?c9 ?k9 ?a10 ?l10 ?c10 ?k10 ?a11 ?l11 ?c11 ?k11 ?a12 ?l12 ?c12 ?k12 ?a13 ?l13 ?c13 ?k13 ?a14 ?l14 ?c14 ?k14 ?a15 ?l15 ?c15 ?k15 ?a16 ?l16 ?c16 ?k16 ?a17 ?l17 ?c17 ?k17 ?a18 ?l18 ?c18 ?k18 ?a19 ?l19 ?c19 ?k19 ?a20 ?l20 ?c20 ?k20 ?a21 ?l21 ?c21 ?k21 ?a22 ?l22 ?c22 ?k22 ?a23 ?l23 ?c23 ?k23 ?a24 ?l24 ?c24 ?k24 ?a25 ?l25 ?c25 ?k25 ?a26 ?l26 ?c26 ?k26 ?a27 ?l27 ?c27 ?k27 ?q0 ?q1 ?z0 ?z1 ?z2 ?z3 ?z4 ?z5 ?z6 ?z7 ?z8 ?z9 ?z10 ?z11
    (case a0 => k_is)
    (case l0 => k_is)
    (case c0 => k_is)
    (case k0 => k_is)
    (case a1 => k_is)
    (case l1 => k_is)
    (case c1 => k_is)
    (case k1 => k_is)
    (case a2 => k_is)
    (case l2 => k_is)
    (case c2 => k_is)
    (case k2 => k_is)
    (case a3 => k_is)
    (case l3 => k_is)
    (case c3 => k_is)
    (case k3 => k_is)
    (case a4 => k_is)
    (case l4 => k_is)
    (case c4 => k_is)
    (case k4 => k_is)
    (case a5 => k_is)
    (case l5 => k_is)
    (case c5 => k_is)
    (case k5 => k_is)
    (case a6 => k_is)
    (case l6 => k_is)
    (case c6 => k_is)
    (case k6 => k_is)
    (case a7 => k_is)
    (case l7 => k_is)
    (case c7 => k_is)
    (case k7 => k_is)
    (case a8 => k_is)
    (case l8 => k_is)
    (case c8 => k_is)
    (case k8 => k_is)
    (case a9 => k_is)
    (case l9 => k_is)
    (case c9 => k_is)
    (case k9 => k_is)
    (case a10 => k_is)
    (case l10 => k_is)
    (case c10 => k_is)
    (case k10 => k_is)
    (case a11 => k_is)
    (case l11 => k_is)
    (case c11 => k_is)
    (case k11 => k_is)
    (case a12 => k_is)
    (case l12 => k_is)
    (case c12 => k_is)
    (case k12 => k_is)
    (case a13 => k_is)
    (case l13 => k_is)
    (case c13 => k_is)
    (case k13 => k_is)
    (case a14 => k_is)
    (case l14 => k_is)
    (case c14 => k_is)
    (case k14 => k_is)
    (case a15 => k_is)
    (case l15 => k_is)
    (case c15 => k_is)
    (case k15 => k_is)
    (case a16 => k_is)
    (case l16 => k_is)
    (case c16 => k_is)
    (case k16 => k_is)
    (case a17 => k_is)
    (case l17 => k_is)
    (case c17 => k_is)
    (case k17 => k_is)
    (case a18 => k_is)
    (case l18 => k_is)
    (case c18 => k_is)
    (case k18 => k_is)
    (case a19 => k_is)
    (case l19 => k_is)
    (case c19 => k_is)
    (case k19 => k_is)
    (case a20 => k_is)
    (case l20 => k_is)
    (case c20 => k_is)
    (case k20 => k_is)
    (case a21 => k_is)
    (case l21 => k_is)
    (case c21 => k_is)
    (case k21 => k_is)
    (case a22 => k_is)
    (case l22 => k_is)
    (case c22 => k_is)
    (case k22 => k_is)
    (case a23 => k_is)
    (case l23 => k_is)
    (case c23 => k_is)
    (case k23 => k_is)
    (case a24 => k_is)
    (case l24 => k_is)
    (case c24 => k_is)
    (case k24 => k_is)
    (case a25 => k_is)
    (case l25 => k_is)
    (case c25 => k_is)
    (case k25 => k_is)
    (case a26 => k_is)
    (case l26 => k_is)
    (case c26 => k_is)
    (case k26 => k_is)
    (case a27 => k_is)
    (case l27 => k_is)
    (case c27 => k_is)
    (case k27 => k_is)
    (case q0 => k_is)
    (case q1 => k_is)
    (case z0 => k_is)
    (case z1 => k_is)
    (case z2 => k_is)
    (case z3 => k_is)
    (case z4 => k_is)
    (case z5 => k_is)
    (case z6 => k_is)
    (case z7 => k_is)
    (case z8 => k_is)
    (case z9 => k_is)
    (case z10 => k_is)
    (case z11 => k_is)
