import PyProof.Rows.All
import Wide.All
import OpenK.AllK
import Wide.FinOn
import HandS.ForMost
import HandS.More
import HandS.IsInst
import HandS.RevRange
import HandS.Style
import HandS.EndBits
import HandS.Evl
import HandS.Walk
import Flt.Len
import HandS.DictComp
import HandS.DictEq
import HandS.SortInts
import KE.KEqDict
import PyProof.StrOps2
import HandS.TupAny
import KE.KDictPairs
import HandS.Rev
import KE.GoesEnum
import HandS.ExcOwn
import HandS.WordsExc
import HandS.TryOnly
import PyProof.DictDisplay
import PyProof.DictUpdate
import PySem.Challenge.RW_btreelog_k09_requests_by_a_row
set_option Elab.async false
set_option linter.all false
set_option maxRecDepth 100000
set_option maxHeartbeats 1000000
namespace My
open PySem L2
/-! ### facts carried from heap to heap -/
theorem Same.at {H H' : Hp} {a : Addr} {o : HO} (e : Same H H') (h : H a = some o) : H' a = some o := e a o h
theorem Same.seqT {K : PySem.W.Frag} {H H' : Hp} {a : Addr} {xs : List V} (e : Same H H') (h : SqT K H a xs) : SqT K H' a xs := Evl.ex_t e h
theorem Same.new {H : Hp} {p : Addr} (h : H p = none) (o : HO) : Same H (upd H p o) := Evl.Ex.new h
theorem seq_l {K : PySem.W.Frag} {H : Hp} {a : Addr} {xs : List V} (h : SqL K H a xs) : SqL K H a xs ∨ SqT K H a xs := .inl h
theorem seq_t {K : PySem.W.Frag} {H : Hp} {a : Addr} {xs : List V} (h : SqT K H a xs) : SqL K H a xs ∨ SqT K H a xs := .inr h
theorem Same.seqO {K : PySem.W.Frag} {H H' : Hp} {a : Addr} {xs : List V} (e : Same H H') (h : SqL K H a xs ∨ SqT K H a xs) : SqL K H' a xs ∨ SqT K H' a xs :=
  h.elim (fun h => .inl (e.seq h)) fun h => .inr (Same.seqT e h)
mutual
theorem Dp.go {K : PySem.W.Frag} {H H' : Hp} (e : Same H H') : ∀ {v : V} {d : PyData}, Dp K H v d → Dp K H' v d
  | _, _, .non => .non
  | _, _, .bl b => .bl b
  | _, _, .int i => .int i
  | _, _, .str x => .str x
  | _, _, .lst h r => .lst (e.seq h) (DpAll.go e r)
  | _, _, .tup h r => .tup (Same.seqT e h) (DpAll.go e r)
theorem DpAll.go {K : PySem.W.Frag} {H H' : Hp} (e : Same H H') : ∀ {vs : List V} {ds : List PyData}, DpAll K H vs ds → DpAll K H' vs ds
  | _, _, .nil => .nil
  | _, _, .cons h r => .cons (Dp.go e h) (DpAll.go e r)
end
/-! ### readings, a step at a time -/
section
variable {K : PySem.W.Frag} {σ : L2.St} {H : Hp} {Q : VK} {ta tb tc te : TE} {v x y z : V} {D : Ends} {t u : TS} {tt tu : TT} {r r' : R2} {tr : TA} {QA : List V → Hp → Prop} {QB : Bool → Hp → Prop}
theorem g_var {i : Nat} (h : σ[i]? = some (some v)) (q : Q v H) : tVar i σ H Q := ⟨v, h, q⟩
theorem g_c (q : Q v H) : tC v σ H Q := q
theorem g_op (q : ta σ H fun x H1 => tb σ H1 fun y H2 => r x y H2 Q) : tOp r ta tb σ H Q := q
theorem g_un {f : V → Hp → VK → Prop} (q : ta σ H fun x H1 => f x H1 Q) : tUn f ta σ H Q := q
theorem g_rI0 {g : Int → Int → V} {i j : Int} (q : Q (g i j) H) : rI0 g (.int i) (.int j) H Q := ⟨i, j, rfl, rfl, q⟩
theorem g_rI {C : Int → Int → Prop} {g : Int → Int → V} {i j : Int} (c : C i j) (q : Q (g i j) H) : rI C g (.int i) (.int j) H Q := ⟨i, j, rfl, rfl, c, q⟩
theorem g_rU {g : Int → V} {i : Int} (q : Q (g i) H) : rU g (.int i) H Q := ⟨i, rfl, q⟩
theorem g_rEq (s : scal x y = true) (q : Q (.bl (decide (x = y))) H) : rEq x y H Q := ⟨s, q⟩
theorem g_rNe (s : scal x y = true) (q : Q (.bl (!decide (x = y))) H) : rNe x y H Q := ⟨s, q⟩
/-- what a test waits for -/
def isB (QB : Bool → Hp → Prop) : VK := fun x H => ∃ k, x = .bl k ∧ QB k H
theorem g_isB {k : Bool} (q : QB k H) : isB QB (.bl k) H := ⟨k, rfl, q⟩
theorem g_test (q : ta σ H (isB QB)) : tTest ta σ H QB := q
theorem g_tB (q : ta σ H (isB QB)) : tB ta σ H QB := q
def chK (r' : R2) (tc : TE) (y : V) (σ : L2.St) (Q : VK) : Bool → Hp → Prop := fun k H => if k = true then tc σ H fun w H4 => r' y w H4 Q else Q (.bl false) H
theorem g_chain (q : ta σ H fun x H1 => tb σ H1 fun y H2 => r x y H2 (isB (chK r' tc y σ Q))) : tChain r r' ta tb tc σ H Q := q
theorem g_chK {k : Bool} (h1 : k = true → tc σ H fun w H4 => r' y w H4 Q) (h2 : k = false → Q (.bl false) H) : chK r' tc y σ Q k H := by
  cases k
  · exact h2 rfl
  · exact h1 rfl
def andK (u : TT) (σ : L2.St) (Q : Bool → Hp → Prop) : Bool → Hp → Prop := fun c H => if c = true then u σ H Q else Q false H
def orK (u : TT) (σ : L2.St) (Q : Bool → Hp → Prop) : Bool → Hp → Prop := fun c H => if c = true then Q true H else u σ H Q
def notK (Q : Bool → Hp → Prop) : Bool → Hp → Prop := fun c H => Q (!c) H
theorem g_and (q : tt σ H (andK tu σ QB)) : tAnd tt tu σ H QB := q
theorem g_or (q : tt σ H (orK tu σ QB)) : tOr tt tu σ H QB := q
theorem g_not (q : tt σ H (notK QB)) : tNot tt σ H QB := q
theorem g_notK {k : Bool} (q : QB (!k) H) : notK QB k H := q
theorem g_andK {k : Bool} (h1 : k = true → tu σ H QB) (h2 : k = false → QB false H) : andK tu σ QB k H := by
  cases k
  · exact h2 rfl
  · exact h1 rfl
theorem g_orK {k : Bool} (h1 : k = true → QB true H) (h2 : k = false → tu σ H QB) : orK tu σ QB k H := by
  cases k
  · exact h2 rfl
  · exact h1 rfl
/-- .. as values -/
def andV (tb : TE) (σ : L2.St) (Q : VK) : VK := fun x H => ∃ c, x = .bl c ∧ if c = true then tb σ H Q else Q (.bl false) H
def orV (tb : TE) (σ : L2.St) (Q : VK) : VK := fun x H => ∃ c, x = .bl c ∧ if c = true then Q (.bl true) H else tb σ H Q
def notV (Q : VK) : VK := fun x H => ∃ c, x = .bl c ∧ Q (.bl (!c)) H
theorem g_andT (q : ta σ H (andV tb σ Q)) : tAndV ta tb σ H Q := q
theorem g_orT (q : ta σ H (orV tb σ Q)) : tOrV ta tb σ H Q := q
theorem g_notT (q : ta σ H (notV Q)) : tNotV ta σ H Q := q
theorem g_andV {k : Bool} (h1 : k = true → tb σ H Q) (h2 : k = false → Q (.bl false) H) : andV tb σ Q (.bl k) H := ⟨k, rfl, by
  cases k
  · exact h2 rfl
  · exact h1 rfl⟩
theorem g_orV {k : Bool} (h1 : k = true → Q (.bl true) H) (h2 : k = false → tb σ H Q) : orV tb σ Q (.bl k) H := ⟨k, rfl, by
  cases k
  · exact h2 rfl
  · exact h1 rfl⟩
theorem g_notV {k : Bool} (q : Q (.bl (!k)) H) : notV Q (.bl k) H := ⟨k, rfl, q⟩
def ifV (ta tb : TE) (σ : L2.St) (Q : VK) : Bool → Hp → Prop := fun c H => if c = true then ta σ H Q else tb σ H Q
theorem g_ifE (q : tt σ H (ifV ta tb σ Q)) : tIf tt ta tb σ H Q := q
theorem g_ifV {k : Bool} (h1 : k = true → ta σ H Q) (h2 : k = false → tb σ H Q) : ifV ta tb σ Q k H := by
  cases k
  · exact h2 rfl
  · exact h1 rfl
/-! tuples, lists, arguments, calls -/
theorem g_nil (q : QA [] H) : tNil σ H QA := q
theorem g_cons (q : ta σ H fun x H1 => tr σ H1 fun xs H2 => QA (x :: xs) H2) : tCons ta tr σ H QA := q
def tupK (Q : VK) : List V → Hp → Prop := fun xs H => xs.length ≤ sizeLine ∧ ∀ p, H p = none → Q (.ref p) (upd H p (.tup xs))
def lstK (Q : VK) : List V → Hp → Prop := fun xs H => xs.length ≤ sizeLine ∧ ∀ p, H p = none → Q (.ref p) (upd H p (.lst xs))
theorem g_tup (q : tr σ H (tupK Q)) : tTup tr σ H Q := q
theorem g_lst (q : tr σ H (lstK Q)) : tLst tr σ H Q := q
theorem g_tupK {xs : List V} (hl : xs.length ≤ sizeLine) (q : ∀ p H1, H p = none → Same H H1 → H1 p = some (.tup xs) → Q (.ref p) H1) : tupK Q xs H :=
  ⟨hl, fun p hp => q p _ hp (Same.new hp _) upd_same⟩
theorem g_lstK {xs : List V} (hl : xs.length ≤ sizeLine) (q : ∀ p H1, H p = none → Same H H1 → H1 p = some (.lst xs) → Q (.ref p) H1) : lstK Q xs H :=
  ⟨hl, fun p hp => q p _ hp (Same.new hp _) upd_same⟩
theorem g_call {sp : Sp} {dvs : List V} {E : XK} (q : tr σ H fun vs H1 => sp (vs ++ dvs) H1 Q E) : tCall sp dvs E tr σ H Q := q
theorem g_cb {f : List V → Hp → VK → Prop} (q : tr σ H fun vs H1 => f vs H1 Q) : tCB f tr σ H Q := q
theorem g_bm {T : String} {f : V → List V → Hp → VK → Prop} (q : ta σ H fun x H1 => tyV K T x H1 ∧ tr σ H1 fun xs H2 => f x xs H2 Q) : tBM K T f ta tr σ H Q := q
/-! subscripts, slices -/
theorem g_ixL {p : Addr} {xs : List V} {i : Int} (h : SqL K H p xs) (ha : atI xs i = some v) (q : Q v H) : rIxL K (.ref p) (.int i) H Q := ⟨p, xs, i, v, rfl, rfl, h, ha, q⟩
theorem g_ixT {p : Addr} {xs : List V} {i : Int} (h : SqT K H p xs) (ha : atI xs i = some v) (q : Q v H) : rIxT K (.ref p) (.int i) H Q := ⟨p, xs, i, v, rfl, rfl, h, ha, q⟩
theorem g_ixO {p : Addr} {xs : List V} {i : Int} (h : SqL K H p xs ∨ SqT K H p xs) (ha : atI xs i = some v) (q : Q v H) : rIx K (.ref p) (.int i) H Q :=
  h.elim (fun h => .inl ⟨p, xs, i, v, rfl, rfl, h, ha, q⟩) fun h => .inr (.inl ⟨p, xs, i, v, rfl, rfl, h, ha, q⟩)
theorem g_sl {f : V → Option Int → Option Int → Hp → VK → Prop} {tl th : TO} (q : te σ H fun x H1 => tl σ H1 fun l H2 => th σ H2 fun u H3 => f x l u H3 Q) : tSl f te tl th σ H Q := q
theorem g_noPart {QO : Option Int → Hp → Prop} (q : QO none H) : tNoPart σ H QO := q
def partK (QO : Option Int → Hp → Prop) : VK := fun x H => ∃ i, x = .int i ∧ QO (some i) H
theorem g_part {QO : Option Int → Hp → Prop} (q : te σ H (partK QO)) : tPart te σ H QO := q
theorem g_partK {QO : Option Int → Hp → Prop} {i : Int} (q : QO (some i) H) : partK QO (.int i) H := ⟨i, rfl, q⟩
theorem g_slL {a : Addr} {xs : List V} {lo hi : Option Int} (h : SqL K H a xs) (q : ∀ p H1, H p = none → Same H H1 → H1 p = some (.lst (cutV xs lo hi)) → Q (.ref p) H1) : rSlL K (.ref a) lo hi H Q :=
  ⟨a, xs, rfl, h, fun p hp => q p _ hp (Same.new hp _) upd_same⟩
theorem g_slT {a : Addr} {xs : List V} {lo hi : Option Int} (h : SqT K H a xs) (n : ¬ (HT.sIx xs.length 0 lo = 0 ∧ HT.sIx xs.length xs.length hi = xs.length)) (q : ∀ p H1, H p = none → Same H H1 → H1 p = some (.tup (cutV xs lo hi)) → Q (.ref p) H1) : rSlT K (.ref a) lo hi H Q :=
  ⟨a, xs, rfl, h, n, fun p hp => q p _ hp (Same.new hp _) upd_same⟩
/-! statements -/
theorem g_seq (q : t { D with nx := u D } σ H) : tSeq t u D σ H := q
theorem g_next (q : D.nx σ H) : tNext D σ H := q
theorem g_asg {g : TG} (q : te σ H fun x H1 => g x σ H1 D.nx) : tAsg te g D σ H := q
theorem g_name {i : Nat} {QS : L2.St → Hp → Prop} (q : QS (σ.set i (some v)) H) : gName i v σ H QS := q
theorem g_gtup {n : Nat} {tg : TGs} {a : Addr} {xs : List V} {QS : L2.St → Hp → Prop} (h : SqT K H a xs) (hl : xs.length = n) (q : tg xs σ H QS) : gTup K n tg (.ref a) σ H QS := ⟨a, xs, rfl, h, hl, q⟩
theorem g_gcons {g : TG} {tg : TGs} {vs : List V} {QS : L2.St → Hp → Prop} (q : g v σ H fun σ' H' => tg vs σ' H' QS) : gCons g tg (v :: vs) σ H QS := ⟨v, vs, rfl, q⟩
theorem g_gnil {QS : L2.St → Hp → Prop} (q : QS σ H) : gNil [] σ H QS := ⟨rfl, q⟩
theorem g_ret (q : te σ H D.rt) : tRet te D σ H := q
theorem g_retN (q : D.rt .non H) : tRetN D σ H := q
theorem g_drop (q : te σ H fun _ H1 => D.nx σ H1) : tDrop te D σ H := q
def brS (t u : TS) (D : Ends) (σ : L2.St) : Bool → Hp → Prop := fun b H1 => if b = true then t D σ H1 else u D σ H1
theorem g_if (q : tt σ H (brS t u D σ)) : tIfS tt t u D σ H := q
theorem g_br {k : Bool} (h1 : k = true → t D σ H) (h2 : k = false → u D σ H) : brS t u D σ k H := by
  cases k
  · exact h2 rfl
  · exact h1 rfl
theorem g_brT (h1 : t D σ H) : brS t u D σ true H := h1
theorem g_brF (h1 : u D σ H) : brS t u D σ false H := h1
end
/-! ### rules whose relation has a name -/
section
variable {X : Cx}
def rLen (K : PySem.W.Frag) : List V → Hp → VK → Prop := fun xs H Q => ∃ p ys, xs = [.ref p] ∧ (SqL K H p ys ∨ SqT K H p ys) ∧ Q (.int ys.length) H
theorem my_len : CallR X (.builtin "len") (rLen X.K) := call_len_seq
def rLenS : List V → Hp → VK → Prop := fun us H Q => ∃ t, us = [.str t] ∧ t.length ≤ sizeLine ∧ Q (.int t.length) H
theorem my_lenS : CallR X (.builtin "len") rLenS := call_len_str
def rList (K : PySem.W.Frag) : List V → Hp → VK → Prop := fun xs H Q => ∃ p ys, xs = [.ref p] ∧ (SqL K H p ys ∨ SqT K H p ys) ∧ ∀ l, H l = none → Q (.ref l) (upd H l (.lst ys))
theorem my_list : CallR X (.type "list") (rList X.K) := call_list_of
def rTuple (K : PySem.W.Frag) : List V → Hp → VK → Prop := fun xs H Q => ∃ p ys, xs = [.ref p] ∧ ((SqL K H p ys ∧ ∀ l, H l = none → Q (.ref l) (upd H l (.tup ys))) ∨ (SqT K H p ys ∧ Q (.ref p) H))
theorem my_tuple : CallR X (.type "tuple") (rTuple X.K) := call_tuple_of
def rInt : List V → Hp → VK → Prop := fun xs H Q => (∃ i, xs = [.int i] ∧ Q (.int i) H) ∨ ∃ k, xs = [.bl k] ∧ Q (.int (if k then 1 else 0)) H
theorem my_int : CallR X (.type "int") rInt := call_int1
def rMax2 : List V → Hp → VK → Prop := fun us H Q => ∃ i j, us = [.int i, .int j] ∧ Q (.int (if j > i then j else i)) H
theorem my_max2 (hc : X.calm = true) : CallR X (.builtin "max") rMax2 := call_max2 hc
def rStrI : List V → Hp → VK → Prop := fun xs H Q => ∃ i, xs = [.int i] ∧ i.natAbs.log2 < 1920 ∧ Q (.str (toString i)) H
theorem my_strI : CallR X (.type "str") rStrI := call_str_int
def rAddS : R2 := fun x y H Q => ∃ i j, x = .str i ∧ y = .str j ∧ i.length + j.length ≤ sizeLine ∧ Q (.str (i ++ j)) H
theorem my_addS : OpR X (binaryOp .Add) rAddS := op_add_str
def rIsN : R2 := fun u v H Q => v = .non ∧ Q (.bl (decide (u = .non))) H
def rNotN : R2 := fun u v H Q => v = .non ∧ Q (.bl (!decide (u = .non))) H
theorem my_isN : OpR X (compareOp .Is) rIsN := op_isN
theorem my_notN : OpR X (compareOp .IsNot) rNotN := op_notN
def rIsTy : R2 := fun x y H Q => ∃ a b, x = .ty a ∧ y = .ty b ∧ Q (.bl (decide (a = b))) H
theorem my_isTy : OpR X (compareOp .Is) rIsTy := op_isTyB
theorem op_mulX : OpR X (binaryOp .Mult) (rI IntMulOk fun i j => .int (i * j)) := opI fun _ _ _ _ _ _ _ hc q => PyProof.Rows.mul_int q hc
end
section
variable {K : PySem.W.Frag} {H : Hp} {Q : VK} {v x y : V} {a : Addr} {xs : List V}
theorem g_len (h : SqL K H a xs ∨ SqT K H a xs) (q : Q (.int xs.length) H) : rLen K [.ref a] H Q := ⟨a, xs, rfl, h, q⟩
theorem g_lenS {z : Str} (h : z.length ≤ sizeLine) (q : Q (.int z.length) H) : rLenS [.str z] H Q := ⟨z, rfl, h, q⟩
theorem g_list (h : SqL K H a xs ∨ SqT K H a xs) (q : ∀ p H1, H p = none → Same H H1 → H1 p = some (.lst xs) → Q (.ref p) H1) : rList K [.ref a] H Q := ⟨a, xs, rfl, h, fun p hp => q p _ hp (Same.new hp _) upd_same⟩
theorem g_tupleL (h : SqL K H a xs) (q : ∀ p H1, H p = none → Same H H1 → H1 p = some (.tup xs) → Q (.ref p) H1) : rTuple K [.ref a] H Q := ⟨a, xs, rfl, .inl ⟨h, fun p hp => q p _ hp (Same.new hp _) upd_same⟩⟩
theorem g_tupleT (h : SqT K H a xs) (q : Q (.ref a) H) : rTuple K [.ref a] H Q := ⟨a, xs, rfl, .inr ⟨h, q⟩⟩
/-- tuple(x) of either: some tuple of the items -/
theorem g_tupleO (h : SqL K H a xs ∨ SqT K H a xs) (q : ∀ p H1, Same H H1 → SqT K H1 p xs → Q (.ref p) H1) : rTuple K [.ref a] H Q :=
  h.elim (fun h => g_tupleL h fun p H1 _ s e => q p H1 s (SqT.of e)) fun h => g_tupleT h (q a H (L2.Same.refl H) h)
theorem g_intB {k : Bool} (q : Q (.int (if k then 1 else 0)) H) : rInt [.bl k] H Q := .inr ⟨k, rfl, q⟩
theorem g_intI {i : Int} (q : Q (.int i) H) : rInt [.int i] H Q := .inl ⟨i, rfl, q⟩
theorem g_max2 {i j : Int} (q : Q (.int (if j > i then j else i)) H) : rMax2 [.int i, .int j] H Q := ⟨i, j, rfl, q⟩
theorem g_strI {i : Int} (h : i.natAbs.log2 < 1920) (q : Q (.str (toString i)) H) : rStrI [.int i] H Q := ⟨i, rfl, h, q⟩
theorem g_addS {i j : Str} (h : i.length + j.length ≤ sizeLine) (q : Q (.str (i ++ j)) H) : rAddS (.str i) (.str j) H Q := ⟨i, j, rfl, rfl, h, q⟩
theorem g_isN (q : Q (.bl (decide (x = .non))) H) : rIsN x .non H Q := ⟨rfl, q⟩
theorem g_notN (q : Q (.bl (!decide (x = .non))) H) : rNotN x .non H Q := ⟨rfl, q⟩
theorem g_isTy {m n : String} (q : Q (.bl (decide (m = n))) H) : rIsTy (.ty m) (.ty n) H Q := ⟨m, n, rfl, rfl, q⟩
theorem g_notTy {m n : String} (q : Q (.bl (!decide (m = n))) H) : rNT (.ty m) (.ty n) H Q := ⟨m, n, rfl, rfl, q⟩
theorem g_isBl {m n : Bool} (q : Q (.bl (decide (m = n))) H) : rIsB (.bl m) (.bl n) H Q := ⟨m, n, rfl, rfl, q⟩
theorem g_notBl {m n : Bool} (q : Q (.bl (!decide (m = n))) H) : rNotB (.bl m) (.bl n) H Q := ⟨m, n, rfl, rfl, q⟩
theorem g_typ {T : String} (t : TyB K H x T) (q : Q (.ty T) H) : rTyp K [x] H Q := ⟨x, T, rfl, t, q⟩
theorem g_isi {c : V} {t u : Value} {b : Bool} (k : ClsV c u) (ty : TyX K H x t) (e : PySem.W.kitOne K t u = some b) (q : Q (.bl b) H) : rIsi K [x, c] H Q := ⟨x, c, t, u, b, rfl, k, ty, e, q⟩
theorem g_eqD {d e : PyData} (hx : Dp K H x d) (hy : Dp K H y e) (sd : SeqAt.shaped d = true) (se : SeqAt.shaped e = true) (q : Q (.bl (PyData.eqv d e)) H) : rEqD K x y H Q := ⟨d, e, hx, hy, sd, se, q⟩
theorem g_neD {d e : PyData} (hx : Dp K H x d) (hy : Dp K H y e) (sd : SeqAt.shaped d = true) (se : SeqAt.shaped e = true) (q : Q (.bl (!PyData.eqv d e)) H) : rNeD K x y H Q := ⟨d, e, hx, hy, sd, se, q⟩
theorem g_all {bs : List Bool} (h : SqL K H a (bs.map V.bl)) (q : Q (.bl (bs.all id)) H) : rAll K [.ref a] H Q := ⟨a, bs, rfl, h, q⟩
theorem g_in {neg : Bool} (h : SqL K H a xs ∨ SqT K H a xs) (f : flatV x = true) (fs : xs.all flatV = true) (q : Q (.bl (if neg then !inV x xs else inV x xs)) H) : rIn K neg x (.ref a) H Q := ⟨a, xs, rfl, h, f, fs, q⟩
end
end My
namespace My
open PySem L2
section
variable {X : Cx} {K : PySem.W.Frag} {H : Hp} {Q : VK} {a : Addr} {xs : List V} {lo hi : Option Int}
def rSlO (K : PySem.W.Frag) : V → Option Int → Option Int → Hp → VK → Prop := fun x lo hi H Q => rSlL K x lo hi H Q ∨ rSlT K x lo hi H Q
theorem my_slO : SlR X (rSlO X.K) := sl_list.or sl_tup
theorem g_slO (h : SqL K H a xs ∨ SqT K H a xs) (n : ¬ (HT.sIx xs.length 0 lo = 0 ∧ HT.sIx xs.length xs.length hi = xs.length))
    (q : ∀ p H1, H p = none → Same H H1 → (SqL K H1 p (cutV xs lo hi) ∨ SqT K H1 p (cutV xs lo hi)) → Q (.ref p) H1) : rSlO K (.ref a) lo hi H Q :=
  h.elim (fun h => .inl (g_slL h fun p H1 np s e => q p H1 np s (.inl (SqL.of e)))) fun h => .inr (g_slT h n fun p H1 np s e => q p H1 np s (.inr (SqT.of e)))
theorem cut_to (xs : List V) (n : Nat) : cutV xs none (some (n : Int)) = xs.take n := by
  unfold cutV
  rw [HT.sIx_none, HT.sIx_nat, List.drop_zero, Nat.sub_zero]
  by_cases h : n ≤ xs.length
  · rw [Nat.min_eq_left h]
  · rw [Nat.min_eq_right (by omega), List.take_length, List.take_of_length_le (by omega)]
theorem cut_from (xs : List V) (n : Nat) : cutV xs (some (n : Int)) none = xs.drop n := by
  unfold cutV
  rw [HT.sIx_none, HT.sIx_nat]
  by_cases h : n ≤ xs.length
  · rw [Nat.min_eq_left h, List.take_of_length_le (by rw [List.length_drop]; omega)]
  · rw [Nat.min_eq_right (by omega), Nat.sub_self, List.take_zero, List.drop_eq_nil_of_le (by omega)]
theorem sz {n : Nat} (h : n ≤ 100000) : n ≤ sizeLine := Nat.le_trans h (by decide)
end
end My
namespace My
open PySem L2
/-! ### joins, comprehensions, loops -/
section
variable {K : PySem.W.Frag} {σ : L2.St} {H : Hp} {Q : VK} {D : Ends} {t u : TS} {te tl : TE}
theorem g_cut (M : L2.St → Hp → Prop) (h : t { D with nx := M } σ H) (k : ∀ σ' H', M σ' H' → u D σ' H') : Evl.tCut t u D σ H := ⟨M, h, k⟩
/-- all objects but lists stand as they stood -/
def Still (H H' : Hp) : Prop := ∀ b o, (∀ xs, o ≠ .lst xs) → H b = some o → H' b = some o
theorem Still.of (e : Same H H') : Still H H' := fun b o _ h => e b o h
theorem Still.refl (H : Hp) : Still H H := fun _ _ _ h => h
theorem Still.trans {H H1 H2 : Hp} (a : Still H H1) (b : Still H1 H2) : Still H H2 := fun c o n h => b c o n (a c o n h)
theorem Still.upd {H : Hp} {p : Addr} {xs ys : List V} (h : H p = some (.lst xs)) : Still H (upd H p (.lst ys)) := fun b o n e => by
  rw [upd_ne (ne_of e h (n xs))]
  exact e
theorem Still.tup {H H' : Hp} {p : Addr} {xs : List V} (e : Still H H') (h : H p = some (.tup xs)) : H' p = some (.tup xs) := e p _ (fun _ z => nomatch z) h
theorem g_lcR1 {ta : TA} {j : Nat} {vs : List Nat} {n : Int} (Rel : Nat → V → Hp → Prop) (ha : ∀ R : List V → Hp → Prop, R [.int n] H → ta σ H R) (hn : -40000 ≤ n ∧ n ≤ 40000)
    (hw : ∀ x, wipe ((wipe σ vs).set j (some x)) vs = wipe σ vs) (hst : ∀ i y H1 H2, Still H1 H2 → Rel i y H1 → Rel i y H2)
    (he : ∀ (i : Nat) (H1 : Hp) (QE : VK), (i : Int) < n → Same H H1 → (∀ y H2, Same H1 H2 → Rel i y H2 → QE y H2) → te ((wipe σ vs).set j (some (.int (i : Int)))) H1 QE)
    (q : ∀ p ys H1, H p = none → Same H H1 → H1 p = some (.lst ys) → ys.length = n.toNat → (∀ i y, ys[i]? = some y → Rel i y H1) → Q (.ref p) H1) :
    tLc (iRng1 ta) (gName j) tYes te vs σ H Q := by
  refine ha _ ⟨n, rfl, by omega, by omega, fun Dl hD => ?_⟩
  refine lc_range (lo := 0) (n := n.toNat) (fun i H' => Same H H' ∧ ∃ ys, H' Dl = some (.lst ys) ∧ ys.length = i ∧ ∀ k y, ys[k]? = some y → Rel k y H')
    ⟨Same.new hD _, [], upd_same, rfl, fun k y h => nomatch h⟩ (fun i H' hi p => ?_) (fun H' p => ?_)
  · obtain ⟨s, ys, e, hl, hr⟩ := p
    show wipe ((wipe σ vs).set j (some (.int ((0 : Int) + (i : Int))))) vs = wipe σ vs ∧ _
    rw [Int.zero_add]
    refine ⟨hw _, ?_⟩
    show te ((wipe σ vs).set j (some (.int (i : Int)))) H' _
    refine he i H' _ (by omega) s fun y H2 s2 r => ⟨ys, s2 _ _ e, Evl.sz_lt (by omega), ?_⟩
    have st : Still H2 (upd H2 Dl (.lst (ys ++ [y]))) := Still.upd (s2 _ _ e)
    refine ⟨fun b o h => ?_, ys ++ [y], upd_same, by rw [List.length_append, hl]; rfl, fun k z hk => ?_⟩
    · rw [upd_ne (ne_of_none h hD)]
      exact s2 _ _ (s _ _ h)
    · by_cases c : k < ys.length
      · rw [List.getElem?_append_left c] at hk
        exact hst k z _ _ st (hst k z _ _ (Still.of s2) (hr k z hk))
      · rw [List.getElem?_append_right (by omega)] at hk
        by_cases c2 : k - ys.length = 0
        · rw [c2] at hk
          have ez : y = z := Option.some.inj hk
          have ek : k = i := by omega
          subst ez ek
          exact hst _ _ _ _ st r
        · rw [List.getElem?_eq_none (by rw [List.length_singleton]; omega)] at hk
          cases hk
  · obtain ⟨s, ys, e, hl, hr⟩ := p
    exact q Dl ys H' hD s e hl hr
/-- over a list (its items told): a value for each item, no test -/
theorem g_lcL {a : Addr} {xs : List V} {j : Nat} {vs : List Nat} (Rel : Nat → V → Hp → Prop) (ha : ∀ R : VK, R (.ref a) H → tl σ H R) (hx : SqL K H a xs) (hn : xs.length ≤ 40000)
    (hw : ∀ x, wipe ((wipe σ vs).set j (some x)) vs = wipe σ vs) (hst : ∀ i y H1 H2, Still H1 H2 → Rel i y H1 → Rel i y H2)
    (he : ∀ (i : Nat) (x : V) (H1 : Hp) (QE : VK), xs[i]? = some x → Same H H1 → (∀ y H2, Same H1 H2 → Rel i y H2 → QE y H2) → te ((wipe σ vs).set j (some x)) H1 QE)
    (q : ∀ p ys H1, H p = none → Same H H1 → H1 p = some (.lst ys) → ys.length = xs.length → (∀ i y, ys[i]? = some y → Rel i y H1) → Q (.ref p) H1) :
    tLc (iList K tl) (gName j) tYes te vs σ H Q := by
  refine ha _ ⟨a, rfl, ⟨xs, hx⟩, fun Dl hD => ?_⟩
  refine lc_list (xs := xs) (fun i H' => Same H H' ∧ ∃ ys, H' Dl = some (.lst ys) ∧ ys.length = i ∧ ∀ k y, ys[k]? = some y → Rel k y H')
    ⟨Same.new hD _, [], upd_same, rfl, fun k y h => nomatch h⟩ (fun i H' _ p => p.1.seq hx) (fun i x H' hi p => ?_) (fun H' p => ?_)
  · obtain ⟨s, ys, e, hl, hr⟩ := p
    have hi2 := (List.getElem?_eq_some_iff.mp hi).1
    refine ⟨hw _, ?_⟩
    show te ((wipe σ vs).set j (some x)) H' _
    refine he i x H' _ hi s fun y H2 s2 r => ⟨ys, s2 _ _ e, Evl.sz_lt (by omega), ?_⟩
    have st : Still H2 (upd H2 Dl (.lst (ys ++ [y]))) := Still.upd (s2 _ _ e)
    refine ⟨fun b o h => ?_, ys ++ [y], upd_same, by rw [List.length_append, hl]; rfl, fun k z hk => ?_⟩
    · rw [upd_ne (ne_of_none h hD)]
      exact s2 _ _ (s _ _ h)
    · by_cases c : k < ys.length
      · rw [List.getElem?_append_left c] at hk
        exact hst k z _ _ st (hst k z _ _ (Still.of s2) (hr k z hk))
      · rw [List.getElem?_append_right (by omega)] at hk
        by_cases c2 : k - ys.length = 0
        · rw [c2] at hk
          have ez : y = z := Option.some.inj hk
          have ek : k = i := by omega
          subst ez ek
          exact hst _ _ _ _ st r
        · rw [List.getElem?_eq_none (by rw [List.length_singleton]; omega)] at hk
          cases hk
  · obtain ⟨s, ys, e, hl, hr⟩ := p
    exact q Dl ys H' hD s e hl hr
theorem g_lcT {a : Addr} {xs : List V} {j : Nat} {vs : List Nat} (Rel : Nat → V → Hp → Prop) (ha : ∀ R : VK, R (.ref a) H → tl σ H R) (hx : SqT K H a xs) (hn : xs.length ≤ 40000)
    (hw : ∀ x, wipe ((wipe σ vs).set j (some x)) vs = wipe σ vs) (hst : ∀ i y H1 H2, Still H1 H2 → Rel i y H1 → Rel i y H2)
    (he : ∀ (i : Nat) (x : V) (H1 : Hp) (QE : VK), xs[i]? = some x → Same H H1 → (∀ y H2, Same H1 H2 → Rel i y H2 → QE y H2) → te ((wipe σ vs).set j (some x)) H1 QE)
    (q : ∀ p ys H1, H p = none → Same H H1 → H1 p = some (.lst ys) → ys.length = xs.length → (∀ i y, ys[i]? = some y → Rel i y H1) → Q (.ref p) H1) :
    tLc (iTup K tl) (gName j) tYes te vs σ H Q := by
  refine ha _ ⟨a, rfl, ⟨xs, hx⟩, fun Dl hD => ?_⟩
  refine lc_tup (xs := xs) (fun i H' => Same H H' ∧ ∃ ys, H' Dl = some (.lst ys) ∧ ys.length = i ∧ ∀ k y, ys[k]? = some y → Rel k y H')
    ⟨Same.new hD _, [], upd_same, rfl, fun k y h => nomatch h⟩ (fun i H' _ p => Same.seqT p.1 hx) (fun i x H' hi p => ?_) (fun H' p => ?_)
  · obtain ⟨s, ys, e, hl, hr⟩ := p
    have hi2 := (List.getElem?_eq_some_iff.mp hi).1
    refine ⟨hw _, ?_⟩
    show te ((wipe σ vs).set j (some x)) H' _
    refine he i x H' _ hi s fun y H2 s2 r => ⟨ys, s2 _ _ e, Evl.sz_lt (by omega), ?_⟩
    have st : Still H2 (upd H2 Dl (.lst (ys ++ [y]))) := Still.upd (s2 _ _ e)
    refine ⟨fun b o h => ?_, ys ++ [y], upd_same, by rw [List.length_append, hl]; rfl, fun k z hk => ?_⟩
    · rw [upd_ne (ne_of_none h hD)]
      exact s2 _ _ (s _ _ h)
    · by_cases c : k < ys.length
      · rw [List.getElem?_append_left c] at hk
        exact hst k z _ _ st (hst k z _ _ (Still.of s2) (hr k z hk))
      · rw [List.getElem?_append_right (by omega)] at hk
        by_cases c2 : k - ys.length = 0
        · rw [c2] at hk
          have ez : y = z := Option.some.inj hk
          have ek : k = i := by omega
          subst ez ek
          exact hst _ _ _ _ st r
        · rw [List.getElem?_eq_none (by rw [List.length_singleton]; omega)] at hk
          cases hk
  · obtain ⟨s, ys, e, hl, hr⟩ := p
    exact q Dl ys H' hD s e hl hr
/-! loops: Pv of the turn, the slots and the heap -/
theorem g_forL {a : Addr} {xs : List V} {g : TG} (Pv : Nat → L2.St → Hp → Prop) (ha : ∀ R : VK, R (.ref a) H → tl σ H R) (hx : SqL K H a xs) (h0 : Pv 0 σ H) (hl : ∀ i σ' H', i ≤ xs.length → Pv i σ' H' → SqL K H' a xs)
    (hs : ∀ i x σ' H', xs[i]? = some x → Pv i σ' H' → g x σ' H' fun σ2 H2 => t { D with nx := Pv (i + 1), ct := Pv (i + 1), bk := D.nx } σ2 H2) (hd : ∀ σ' H', Pv xs.length σ' H' → D.nx σ' H') : tFor (iList K tl) g t D σ H :=
  ha _ ⟨a, rfl, ⟨xs, hx⟩, for_list Pv h0 hl hs hd⟩
theorem g_forT {a : Addr} {xs : List V} {g : TG} (Pv : Nat → L2.St → Hp → Prop) (ha : ∀ R : VK, R (.ref a) H → tl σ H R) (hx : SqT K H a xs) (h0 : Pv 0 σ H) (hl : ∀ i σ' H', i ≤ xs.length → Pv i σ' H' → SqT K H' a xs)
    (hs : ∀ i x σ' H', xs[i]? = some x → Pv i σ' H' → g x σ' H' fun σ2 H2 => t { D with nx := Pv (i + 1), ct := Pv (i + 1), bk := D.nx } σ2 H2) (hd : ∀ σ' H', Pv xs.length σ' H' → D.nx σ' H') : tFor (iTup K tl) g t D σ H :=
  ha _ ⟨a, rfl, ⟨xs, hx⟩, for_tup Pv h0 hl hs hd⟩
theorem g_forR1 {ta : TA} {j : Nat} {n : Int} (Pv : Nat → L2.St → Hp → Prop) (ha : ∀ R : List V → Hp → Prop, R [.int n] H → ta σ H R) (hn : -1000000 ≤ n ∧ n ≤ 1000000) (h0 : Pv 0 σ H)
    (hs : ∀ (i : Nat) σ' H', (i : Int) < n → Pv i σ' H' → t { D with nx := Pv (i + 1), ct := Pv (i + 1), bk := D.nx } (σ'.set j (some (.int (i : Int)))) H') (hd : ∀ σ' H', Pv n.toNat σ' H' → D.nx σ' H') : tFor (iRng1 ta) (gName j) t D σ H :=
  ha _ ⟨n, rfl, by omega, by omega, for_range (lo := 0) (n := n.toNat) Pv h0 (fun i σ' H' hi p => by
    have e0 : (0 : Int) + (i : Int) = (i : Int) := Int.zero_add _
    show t { D with nx := Pv (i + 1), ct := Pv (i + 1), bk := D.nx } (σ'.set j (some (.int ((0 : Int) + (i : Int))))) H'
    rw [e0]
    exact hs i σ' H' (by omega) p) hd⟩
end
/-! ### data of flat tuples: == and != -/
theorem canAll : ∀ {ds : List PyData}, (∀ d ∈ ds, PyData.canLay0 d = true) → PyData.canLayAll0 ds = true
  | [], _ => by simp [PyData.canLayAll0]
  | d :: ds, h => by
    simp only [PyData.canLayAll0, Bool.and_eq_true]
    exact ⟨h d List.mem_cons_self, canAll fun x hx => h x (List.mem_cons_of_mem _ hx)⟩
end My
namespace My
open PySem L2
theorem depthAll_le {n : Nat} : ∀ {ds : List PyData}, (∀ d ∈ ds, PyData.depth d ≤ n) → PyData.depthAll ds ≤ n
  | [], _ => by simp [PyData.depthAll]
  | d :: ds, h => by
    simp only [PyData.depthAll]
    have h1 := h d List.mem_cons_self
    have h2 := depthAll_le (ds := ds) fun x hx => h x (List.mem_cons_of_mem _ hx)
    omega
theorem shaped_list {ds : List PyData} {n : Nat} (h : ∀ d ∈ ds, PyData.canLay0 d = true ∧ PyData.depth d ≤ n) (hn : n < 64) : SeqAt.shaped (.list ds) = true := by
  unfold SeqAt.shaped
  rw [Bool.and_eq_true, decide_eq_true_eq]
  refine ⟨?_, ?_⟩
  · simp only [PyData.canLay0]
    exact canAll fun d hd => (h d hd).1
  · simp only [PyData.depth]
    have := depthAll_le (n := n) fun d hd => (h d hd).2
    omega
theorem dpAll_of {K : PySem.W.Frag} {H : Hp} : ∀ {vs : List V} {ds : List PyData}, vs.length = ds.length → (∀ (i : Nat) v d, vs[i]? = some v → ds[i]? = some d → Dp K H v d) → DpAll K H vs ds
  | [], [], _, _ => .nil
  | [], _ :: _, h, _ => nomatch h
  | _ :: _, [], h, _ => nomatch h
  | v :: vs, d :: ds, h, f => .cons (f 0 v d rfl rfl) (dpAll_of (by simpa using h) fun i x y hx hy => f (i + 1) x y (by simpa using hx) (by simpa using hy))
theorem dpAll_get {K : PySem.W.Frag} {H : Hp} : ∀ {vs : List V} {ds : List PyData}, DpAll K H vs ds → ∀ (i : Nat) (v : V), vs[i]? = some v → ∃ d, ds[i]? = some d ∧ Dp K H v d
  | _, _, .nil, i, v, h => nomatch h
  | _, _, .cons h1 h2, 0, v, h => ⟨_, rfl, by cases Option.some.inj h; exact h1⟩
  | _, _, .cons h1 h2, i + 1, v, h => dpAll_get h2 i v (by simpa using h)
theorem dpAll_len {K : PySem.W.Frag} {H : Hp} : ∀ {vs : List V} {ds : List PyData}, DpAll K H vs ds → vs.length = ds.length
  | _, _, .nil => rfl
  | _, _, .cons _ h => by simp [dpAll_len h]
theorem dpAll_take {K : PySem.W.Frag} {H : Hp} : ∀ {vs : List V} {ds : List PyData} (n : Nat), DpAll K H vs ds → DpAll K H (vs.take n) (ds.take n)
  | _, _, 0, _ => .nil
  | _, _, _ + 1, .nil => .nil
  | _, _, n + 1, .cons h r => .cons h (dpAll_take n r)
theorem dpAll_drop {K : PySem.W.Frag} {H : Hp} : ∀ {vs : List V} {ds : List PyData} (n : Nat), DpAll K H vs ds → DpAll K H (vs.drop n) (ds.drop n)
  | _, _, 0, h => h
  | _, _, _ + 1, .nil => .nil
  | _, _, n + 1, .cons _ r => dpAll_drop n r
theorem eqv_list {ds : List PyData} (h : SeqAt.shaped (.list ds) = true) : PyData.eqv (.list ds) (.list ds) = true := SeqAt.eqv_refl _ (SeqAt.canLay_of_shaped h)
/-- two lists of the same data: == is True, != is False -/
theorem g_eqL {K : PySem.W.Frag} {H : Hp} {Q : VK} {a b : Addr} {xs ys : List V} {ds : List PyData} {n : Nat} (ha : SqL K H a xs) (hb : SqL K H b ys) (h1 : DpAll K H xs ds) (h2 : DpAll K H ys ds) (hd : ∀ d ∈ ds, PyData.canLay0 d = true ∧ PyData.depth d ≤ n) (hn : n < 64)
    (q : Q (.bl true) H) : rEqD K (.ref a) (.ref b) H Q := by
  have sh := shaped_list hd hn
  refine ⟨_, _, .lst ha h1, .lst hb h2, sh, sh, ?_⟩
  rw [eqv_list sh]
  exact q
theorem g_neL {K : PySem.W.Frag} {H : Hp} {Q : VK} {a b : Addr} {xs ys : List V} {ds : List PyData} {n : Nat} (ha : SqL K H a xs) (hb : SqL K H b ys) (h1 : DpAll K H xs ds) (h2 : DpAll K H ys ds) (hd : ∀ d ∈ ds, PyData.canLay0 d = true ∧ PyData.depth d ≤ n) (hn : n < 64)
    (q : Q (.bl false) H) : rNeD K (.ref a) (.ref b) H Q := by
  have sh := shaped_list hd hn
  refine ⟨_, _, .lst ha h1, .lst hb h2, sh, sh, ?_⟩
  rw [eqv_list sh]
  exact q
end My
namespace My
open PySem L2
theorem kit_ll : PySem.W.kitOne K (.type "list") (.type "list") = some true := kit_ty (by decide +kernel)
theorem kit_tt : PySem.W.kitOne K (.type "tuple") (.type "tuple") = some true := kit_ty (by decide +kernel)
theorem g_isiL {K : PySem.W.Frag} {H : Hp} {Q : VK} {a : Addr} {xs : List V} (h : H a = some (.lst xs)) (q : Q (.bl true) H) : rIsi K [.ref a, .ty "list"] H Q := g_isi (.ty "list") (.base (.lst h)) kit_ll q
theorem tyx_t {K : PySem.W.Frag} {H : Hp} {a : Addr} {xs : List V} (h : SqT K H a xs) : TyX K H (.ref a) (.type "tuple") := by
  rcases h with (h | ⟨o, h⟩) | ⟨o, its, n, h, hc, _⟩
  · exact .base (.tup h)
  · exact .fTuple h
  · exact .kTuple h hc
theorem g_isiT {K : PySem.W.Frag} {H : Hp} {Q : VK} {a : Addr} {xs : List V} (h : SqT K H a xs) (q : Q (.bl true) H) : rIsi K [.ref a, .ty "tuple"] H Q := g_isi (.ty "tuple") (tyx_t h) kit_tt q
end My
namespace My
open PySem L2
theorem pair_at {α β : Type} {R : α → β → Prop} : ∀ {as : List α} {bs : List β}, Paired R as bs → ∀ {n : Nat} {a : α}, as[n]? = some a → ∃ b, bs[n]? = some b ∧ R a b
  | _, _, .nil, i, x, h => nomatch h
  | _, _, .cons r t, 0, x, h => ⟨_, rfl, by cases Option.some.inj h; exact r⟩
  | _, _, .cons r t, i + 1, x, h => pair_at t (by simpa using h)
end My
namespace My
open PySem L2
section
variable {K : PySem.W.Frag} {σ : L2.St} {H : Hp} {Q : VK} {D : Ends} {t u : TS} {te tl : TE}
theorem g_forRev {n : Int} {j : Nat} (Pv : Nat → L2.St → Hp → Prop) (ha : ∀ R : VK, R (.int n) H → te σ H R) (hn : 0 ≤ n ∧ n ≤ 1000000) (h0 : Pv 0 σ H)
    (hs : ∀ (i : Nat) σ' H', (i : Int) < n → Pv i σ' H' → t { D with nx := Pv (i + 1), ct := Pv (i + 1), bk := D.nx } (σ'.set j (some (.int (n - 1 - (i : Int))))) H') (hd : ∀ σ' H', Pv n.toNat σ' H' → D.nx σ' H') :
    tFor (iRevR (tRg1 te)) (gName j) t D σ H := by
  refine ha _ ⟨n, rfl, by omega, by omega, by omega, by omega, ?_⟩
  have e1 : (n - 0).toNat = n.toNat := by omega
  have e2 : 0 + ((n.toNat : Nat) : Int) - 1 = n - 1 := by omega
  rw [e1, e2]
  exact for_rangeC (lo := n - 1) (c := -1) (n := n.toNat) Pv h0 (fun i σ' H' hi p => by
    show t { D with nx := Pv (i + 1), ct := Pv (i + 1), bk := D.nx } (σ'.set j (some (.int (n - 1 + ((i : Nat) : Int) * (-1))))) H'
    have e3 : n - 1 + ((i : Nat) : Int) * (-1) = n - 1 - (i : Int) := by omega
    rw [e3]
    exact hs i σ' H' (by omega) p) hd
theorem g_tyL {P : Prop} {l : Addr} {xs : List V} (h : H l = some (.lst xs)) (q : P) : tyV K "list" (.ref l) H ∧ P := ⟨.inl ⟨rfl, _, SqL.of h⟩, q⟩
theorem g_append {l : Addr} {xs : List V} {v : V} (h : H l = some (.lst xs)) (hl : xs.length ≤ 100000) (q : Q .non (upd H l (.lst (xs ++ [v])))) : rAppend (.ref l) [v] H Q := ⟨l, xs, v, rfl, rfl, h, Nat.lt_of_le_of_lt hl (by decide), q⟩
/-- a comprehension over a list with a test: pure test, pure value -/
theorem g_lcF {tt : TT} {a : Addr} {xs : List V} {j : Nat} {vs : List Nat} (p : V → Bool) (f : V → V) (ha : ∀ R : VK, R (.ref a) H → tl σ H R) (hx : SqL K H a xs) (hn : xs.length ≤ 40000)
    (hw : ∀ x, wipe ((wipe σ vs).set j (some x)) vs = wipe σ vs)
    (ht : ∀ (i : Nat) (x : V) (H1 : Hp) (QB : Bool → Hp → Prop), xs[i]? = some x → Same H H1 → QB (p x) H1 → tt ((wipe σ vs).set j (some x)) H1 QB)
    (he : ∀ (i : Nat) (x : V) (H1 : Hp) (QE : VK), xs[i]? = some x → p x = true → Same H H1 → QE (f x) H1 → te ((wipe σ vs).set j (some x)) H1 QE)
    (q : ∀ pp H1, H pp = none → Same H H1 → H1 pp = some (.lst ((xs.filter p).map f)) → Q (.ref pp) H1) :
    tLc (iList K tl) (gName j) tt te vs σ H Q := by
  refine ha _ ⟨a, rfl, ⟨xs, hx⟩, fun Dl hD => ?_⟩
  refine lc_list (xs := xs) (fun i H' => Same H H' ∧ H' Dl = some (.lst (((xs.take i).filter p).map f)))
    ⟨Same.new hD _, upd_same⟩ (fun i H' _ p => p.1.seq hx) (fun i x H' hi pr => ?_) (fun H' pr => ?_)
  · obtain ⟨s, e⟩ := pr
    have hi2 := (List.getElem?_eq_some_iff.mp hi).1
    have et : xs.take (i + 1) = xs.take i ++ [x] := by rw [List.take_add_one, hi]; rfl
    have hz : (((xs.take i).filter p).map f).length < sizeLine := by
      rw [List.length_map]
      have h1 := List.length_filter_le p (xs.take i)
      rw [List.length_take] at h1
      exact Evl.sz_lt (by omega)
    refine ⟨hw _, ht i x H' _ hi s ?_⟩
    cases hp : p x with
    | true =>
      show te ((wipe σ vs).set j (some x)) H' _
      refine he i x H' _ hi hp s ⟨_, e, hz, fun b o h => ?_, ?_⟩
      · rw [upd_ne (ne_of_none h hD)]
        exact s _ _ h
      · rw [upd_same, et, List.filter_append, List.map_append, List.filter_cons, if_pos hp]
        rfl
    | false =>
      show Same H H' ∧ H' Dl = some (.lst (((xs.take (i + 1)).filter p).map f))
      refine ⟨s, ?_⟩
      rw [et, List.filter_append, List.map_append, List.filter_cons, if_neg (by rw [hp]; decide), e]
      simp
  · obtain ⟨s, e⟩ := pr
    rw [List.take_length] at e
    exact q Dl H' hD s e
end
theorem mulBits {a b : Int} (ha : Builtin.Int.intBits a ≤ 10000000) (hb : Builtin.Int.intBits b ≤ 10000000) : IntMulOk a b := by
  unfold IntMulOk Builtin.Int.intTooBig
  intro z
  rw [Bool.and_eq_true, decide_eq_true_eq] at z
  have z2 := z.2
  have e : bitsLine = 134217728 := by decide
  rw [e] at z2
  omega
/-! ### what all laws have: the script's cells, whole numbers, the answer -/
def cell (ns : List Int) (k : Int) : Int := ns.getD k.toNat 0
def sp_cell (K : PySem.W.Frag) : Sp := fun vs H Q _ => ∃ (a : Addr) (ns : List Int) (k : Int), vs = [.ref a, .int k] ∧ SqL K H a (ns.map V.int) ∧ 0 ≤ k ∧ Q (.int (cell ns k)) H
theorem use_cell {K : PySem.W.Frag} {H : Hp} {Q : VK} {E : XK} {a : Addr} {ns : List Int} {k : Int} (h : SqL K H a (ns.map V.int)) (h0 : 0 ≤ k) (q : Q (.int (cell ns k)) H) : sp_cell K [.ref a, .int k] H Q E := ⟨a, ns, k, rfl, h, h0, q⟩
def spLaw (K : PySem.W.Frag) : Sp := fun vs H Q _ => ∃ (a : Addr) (ns : List Int), vs = [.ref a] ∧ SqL K H a (ns.map V.int) ∧ ns.length ≤ 63 ∧ (∀ z ∈ ns, Builtin.Int.intBits z ≤ 1048576) ∧ ∀ H', Q (.bl true) H'
theorem atI_cell {ns : List Int} {k : Int} (h0 : 0 ≤ k) (h : k < (ns.length : Int)) : atI (ns.map V.int) k = some (.int (cell ns k)) := by
  have hk : k.toNat < ns.length := by omega
  have ek : k = ((k.toNat : Nat) : Int) := by omega
  rw [ek]
  refine atI_nat ?_
  rw [List.getElem?_map, List.getElem?_eq_getElem hk]
  show some (V.int ns[k.toNat]) = some (V.int (cell ns _))
  unfold cell
  rw [Int.toNat_natCast, List.getD_eq_getElem?_getD, List.getElem?_eq_getElem hk]
  rfl
theorem cell_out {ns : List Int} {k : Int} (h : ¬ k < (ns.length : Int)) : cell ns k = 0 := by
  unfold cell
  rw [List.getD_eq_getElem?_getD, List.getElem?_eq_none (by omega)]
  rfl
theorem cell_bits {ns : List Int} (h : ∀ z ∈ ns, Builtin.Int.intBits z ≤ 1048576) (k : Int) : Builtin.Int.intBits (cell ns k) ≤ 1048576 := by
  unfold cell
  rw [List.getD_eq_getElem?_getD]
  cases e : ns[k.toNat]? with
  | none => exact Nat.zero_le _
  | some z => exact h z (List.mem_of_getElem? e)
end My
namespace My
open PySem L2
section
variable {X : Cx} {K : PySem.W.Frag}
theorem ixTK (h : X.K = K) : IxR X (rIxT K) := h ▸ ix_tup
theorem ixLK (h : X.K = K) : IxR X (rIxL K) := h ▸ ix_list
theorem ixOK (h : X.K = K) : IxR X (rIx K) := h ▸ ix_seq
theorem lenK (h : X.K = K) : CallR X (.builtin "len") (rLen K) := h ▸ my_len
theorem listK (h : X.K = K) : CallR X (.type "list") (rList K) := h ▸ my_list
theorem tupleK (h : X.K = K) : CallR X (.type "tuple") (rTuple K) := h ▸ my_tuple
theorem typK (h : X.K = K) : CallR X (.type "type") (rTyp K) := h ▸ call_type1
theorem isiK (h : X.K = K) : CallR X (.builtin "isinstance") (rIsi K) := h ▸ call_isi
theorem inK (h : X.K = K) : OpR X (compareOp .In) (rIn K false) := h ▸ op_in_seq
theorem ninK (h : X.K = K) : OpR X (compareOp .NotIn) (rIn K true) := h ▸ op_notIn_seq
theorem slLK (h : X.K = K) : SlR X (rSlL K) := h ▸ sl_list
theorem slTK (h : X.K = K) : SlR X (rSlT K) := h ▸ sl_tup
end
end My

set_option Elab.async false
set_option linter.all false
set_option maxRecDepth 100000
set_option maxHeartbeats 1000000
/-! texts, and what keys and values are -/
namespace My
open PySem L2
section
variable {X : Cx} {K : PySem.W.Frag} {σ : L2.St} {H : Hp} {Q : VK} {D : Ends} {t u : TS} {te tl : TE}
/-- a comprehension over a text: a pure value for each sign -/
theorem g_lcS {z : Str} {j : Nat} {vs : List Nat} (f : Nat → V) (ha : ∀ R : VK, R (.str z) H → tl σ H R) (hn : z.cps.size ≤ 40000)
    (hw : ∀ x, wipe ((wipe σ vs).set j (some x)) vs = wipe σ vs)
    (he : ∀ (c : Nat) (H1 : Hp) (QE : VK), c ∈ z.cps.toList → Same H H1 → QE (f c) H1 → te ((wipe σ vs).set j (some (.str ⟨#[c]⟩))) H1 QE)
    (q : ∀ p H1, H p = none → Same H H1 → H1 p = some (.lst (z.cps.toList.map f)) → Q (.ref p) H1) :
    tLc (iStr tl) (gName j) tYes te vs σ H Q := by
  refine ha _ ⟨z, rfl, fun Dl hD => ?_⟩
  refine lc_it walk_str (fun i H' => Same H H' ∧ H' Dl = some (.lst ((z.cps.toList.take i).map f)))
    ⟨Same.new hD _, upd_same⟩ (fun _ _ _ _ => trivial) (fun i x H1 H' hi pr y => ?_) (fun H' pr => ?_)
  · obtain ⟨s, e⟩ := pr
    obtain ⟨rfl, c, hc, rfl⟩ := y
    have hc2 : z.cps.toList[i]? = some c := by rw [Array.getElem?_toList]; exact hc
    refine ⟨hw _, ?_⟩
    show te ((wipe σ vs).set j (some (.str ⟨#[c]⟩))) H' _
    refine he c H' _ (List.mem_of_getElem? hc2) s ⟨_, e, by rw [List.length_map, List.length_take]; exact Evl.sz_lt (by omega), fun b o h => ?_, ?_⟩
    · rw [upd_ne (ne_of_none h hD)]
      exact s _ _ h
    · rw [upd_same, List.take_add_one, hc2, List.map_append]
      rfl
  · obtain ⟨s, e⟩ := pr
    rw [show z.cps.size = z.cps.toList.length from Array.length_toList.symm, List.take_length] at e
    exact q Dl H' hD s e
theorem pe_gI {x : Str} {i : Int} {t : Tok} {pos : Pos} (hg : Gl X x) (hm : X.mg x = some (.int i t)) (hd : (x == ("__debug__" : Str)) = false := by decide) : PE X (.Name x pos) (tC (.int i)) := pe_glob hg hm ⟨t, rfl⟩ hd
theorem g_dnewK (q : ∀ p H1, H p = none → Same H H1 → H1 p = some (.dK []) → Q (.ref p) H1) : tDNewK σ H Q := fun p hp => q p _ hp (Same.new hp _) upd_same
def rLeS : R2 := fun x y H Q => ∃ i j, x = .str i ∧ y = .str j ∧ Q (.bl (!decide (j.cps.toList < i.cps.toList))) H
theorem my_leS : OpR X (compareOp .LtE) rLeS := op_le_str
theorem g_leS {i j : Str} (q : Q (.bl (!decide (j.cps.toList < i.cps.toList))) H) : rLeS (.str i) (.str j) H Q := ⟨i, j, rfl, rfl, q⟩
theorem g_slS {z : Str} {lo hi : Option Int} (h : z.length ≤ sizeLine) (q : Q (.str (cutS z lo hi)) H) : rSlS (.str z) lo hi H Q := ⟨z, rfl, h, q⟩
theorem g_ixS {z : Str} {i : Int} {c : Nat} (h : z.length ≤ sizeLine) (ha : atI z.cps.toList i = some c) (q : Q (.str ⟨#[c]⟩) H) : rIxS (.str z) (.int i) H Q := ⟨z, i, c, rfl, rfl, h, ha, q⟩
def rJoin (K : PySem.W.Frag) : V → List V → Hp → VK → Prop := fun x xs H Q => ∃ a p, ∃ ys : List Str, x = .str a ∧ xs = [.ref p] ∧ (SqL K H p (ys.map V.str) ∨ SqT K H p (ys.map V.str)) ∧
      (ys.map (·.length)).sum + ys.length * a.length ≤ 16777216 ∧ Q (.str (Txt.join a ys)) H
theorem my_join {o e : Expr} {to te : TE} {apos pos : Pos} (ho : PE X o to) (he : PE X e te) (hs : starEach [e] X.env = [(false, eval e X.env)] := by rfl) (hbase : attributeBase o "join" X.env (eval o X.env) = eval o X.env := by rfl) (hline : (apos.endLine == pos.line) = true := by rfl) :
    PE X (.Call (.Attribute o "join" apos) [e] [] pos) (tM1 (rJoin X.K) to te) := pe_join ho he hs hbase hline
theorem g_m1 {r : V → List V → Hp → VK → Prop} {to te : TE} {z : Str} (q : ∀ R : VK, R (.str z) H → to σ H R) (k : te σ H fun y H2 => r (.str z) [y] H2 Q) : tM1 r to te σ H Q := q _ ⟨⟨z, rfl⟩, k⟩
theorem g_join {a : Str} {p : Addr} {ys : List Str} (h : SqL K H p (ys.map V.str)) (hz : (ys.map (·.length)).sum + ys.length * a.length ≤ 16777216) (q : Q (.str (Txt.join a ys)) H) : rJoin K (.str a) [.ref p] H Q := ⟨a, p, ys, rfl, rfl, .inl h, hz, q⟩
end
/-! signs -/
theorem str_ext {a b : Str} (h : a.cps.toList = b.cps.toList) : a = b := by
  obtain ⟨⟨x⟩⟩ := a
  obtain ⟨⟨y⟩⟩ := b
  have : x = y := h
  rw [this]
theorem str_len (z : Str) : z.length = z.cps.toList.length := Array.length_toList.symm
theorem app_toList (a b : Str) : (a ++ b).cps.toList = a.cps.toList ++ b.cps.toList := Array.toList_append
theorem app_len (a b : Str) : (a ++ b).length = a.length + b.length := by rw [str_len, str_len, str_len, app_toList, List.length_append]
theorem join_signs : ∀ cs : List Nat, (Txt.join (Str.ofString "") (cs.map fun c => (⟨#[c]⟩ : Str))).cps.toList = cs := fun cs => by
  have e0 : (Str.ofString "") = (⟨#[]⟩ : Str) := by decide +kernel
  rw [e0, show Txt.join = Str.join from by funext y parts; exact TL.join_eq y parts]
  induction cs with
  | nil => rfl
  | cons c r ih =>
    cases r with
    | nil => rfl
    | cons d r =>
      show ((⟨#[c]⟩ : Str) ++ ⟨#[]⟩ ++ Str.join ⟨#[]⟩ ((d :: r).map fun c => (⟨#[c]⟩ : Str))).cps.toList = _
      rw [app_toList, app_toList, ih]
      rfl
theorem sum_ones (cs : List Nat) : ((cs.map fun c => (⟨#[c]⟩ : Str)).map (·.length)).sum = cs.length := by
  induction cs with
  | nil => rfl
  | cons c r ih =>
    rw [List.map_cons, List.map_cons, List.sum_cons, ih, List.length_cons]
    exact Nat.add_comm 1 r.length
theorem cutS_to (z : Str) (n : Nat) : (cutS z none (some (n : Int))).cps.toList = z.cps.toList.take n := by
  unfold cutS
  show (z.cps.toList.drop _).take _ = _
  rw [HT.sIx_none, HT.sIx_nat, List.drop_zero, Nat.sub_zero, str_len]
  by_cases h : n ≤ z.cps.toList.length
  · rw [Nat.min_eq_left h]
  · rw [Nat.min_eq_right (by omega), List.take_length, List.take_of_length_le (by omega)]
theorem cutS_from (z : Str) (n : Nat) : (cutS z (some (n : Int)) none).cps.toList = z.cps.toList.drop n := by
  unfold cutS
  show (z.cps.toList.drop _).take _ = _
  rw [HT.sIx_none, HT.sIx_nat, str_len]
  by_cases h : n ≤ z.cps.toList.length
  · rw [Nat.min_eq_left h, List.take_of_length_le (by rw [List.length_drop]; omega)]
  · rw [Nat.min_eq_right (by omega), Nat.sub_self, List.take_zero, List.drop_eq_nil_of_le (by omega)]
/-! ### keys and values -/
def KB : Int := 1000000000000000000000000000000000000000000000000000000000000
theorem KB_eq : KB = 10 ^ Int.toNat 60 := by decide +kernel
def isInt : V → Bool
  | .int _ => true
  | _ => false
def isStr : V → Bool
  | .str _ => true
  | _ => false
def isKeyV : V → Bool
  | .int i => decide (-KB < i) && decide (i < KB)
  | _ => false
def signOk (c : Nat) : Bool := decide (32 ≤ c) && decide (c ≤ 126)
def isValV : V → Bool
  | .str z => decide (z.length ≤ 60) && z.cps.toList.all signOk
  | _ => false
/-- a thing whose kind is known -/
def Thing (K : PySem.W.Frag) (H : Hp) (x : V) : Prop := ∃ T, TyB K H x T ∧ (∀ z, x = .str z → z.length ≤ sizeLine)
theorem Thing.int {K : PySem.W.Frag} {H : Hp} (i : Int) : Thing K H (.int i) := ⟨_, .int i, fun _ h => nomatch h⟩
theorem Thing.str {K : PySem.W.Frag} {H : Hp} (z : Str) (h : z.length ≤ sizeLine) : Thing K H (.str z) := ⟨_, .str z, fun y e => by cases e; exact h⟩
theorem tyb_int {K : PySem.W.Frag} {H : Hp} {x : V} {T : String} (t : TyB K H x T) : decide (T = "int") = isInt x := by cases t <;> rfl
theorem tyb_str {K : PySem.W.Frag} {H : Hp} {x : V} {T : String} (t : TyB K H x T) : decide (T = "str") = isStr x := by cases t <;> rfl
theorem isKeyV_no {x : V} (h : isInt x = false) : isKeyV x = false := by
  cases x <;> first | rfl | cases h
theorem isValV_no {x : V} (h : isStr x = false) : isValV x = false := by
  cases x <;> first | rfl | cases h
theorem sign_lo (c : Nat) : (!decide ((⟨#[c]⟩ : Str).cps.toList < (Str.ofString " ").cps.toList)) = decide (32 ≤ c) := by
  have e : (Str.ofString " ").cps.toList = [32] := by decide +kernel
  rw [e]
  show (!decide (([c] : List Nat) < [32])) = decide (32 ≤ c)
  by_cases h : 32 ≤ c
  · rw [decide_eq_true h, Bool.not_eq_true', decide_eq_false_iff_not, List.cons_lt_cons_iff]
    simp
    omega
  · rw [decide_eq_false h, Bool.not_eq_false', decide_eq_true_iff, List.cons_lt_cons_iff]
    exact .inl (by omega)
theorem sign_hi (c : Nat) : (!decide ((Str.ofString "~").cps.toList < (⟨#[c]⟩ : Str).cps.toList)) = decide (c ≤ 126) := by
  have e : (Str.ofString "~").cps.toList = [126] := by decide +kernel
  rw [e]
  show (!decide (([126] : List Nat) < [c])) = decide (c ≤ 126)
  by_cases h : c ≤ 126
  · rw [decide_eq_true h, Bool.not_eq_true', decide_eq_false_iff_not, List.cons_lt_cons_iff]
    simp
    omega
  · rw [decide_eq_false h, Bool.not_eq_false', decide_eq_true_iff, List.cons_lt_cons_iff]
    exact .inl (by omega)
def Thing0 (K : PySem.W.Frag) (H : Hp) (x : V) : Prop := ∃ T, TyB K H x T
theorem Thing.zero {K : PySem.W.Frag} {H : Hp} {x : V} (h : Thing K H x) : Thing0 K H x := ⟨_, h.choose_spec.1⟩
def sp_is_whole (K : PySem.W.Frag) : Sp := fun vs H Q _ => ∃ x : V, vs = [x] ∧ Thing0 K H x ∧ Q (.bl (isInt x)) H
def sp_is_key (K : PySem.W.Frag) : Sp := fun vs H Q _ => ∃ x : V, vs = [x] ∧ Thing0 K H x ∧ Q (.bl (isKeyV x)) H
def sp_is_value (K : PySem.W.Frag) : Sp := fun vs H Q _ => ∃ x : V, vs = [x] ∧ Thing K H x ∧ ∀ H', Same H H' → Q (.bl (isValV x)) H'
def sp_l_says : Sp := fun vs H Q _ => ∃ f d : Bool, vs = [.bl f, .bl d] ∧ Q (.bl (decide (f = d))) H
end My
namespace My
open PySem L2
theorem list_eq {α : Type} {xs ys : List α} (hl : xs.length = ys.length) (h : ∀ (i : Nat) x, xs[i]? = some x → ys[i]? = some x) : xs = ys := by
  refine List.ext_getElem? fun i => ?_
  cases e : xs[i]? with
  | some x => exact (h i x e).symm
  | none =>
    have := List.getElem?_eq_none_iff.mp e
    exact (List.getElem?_eq_none (by omega)).symm
theorem strL {cs : List Nat} : (cs.map fun c => V.str ⟨#[c]⟩) = (cs.map fun c => (⟨#[c]⟩ : Str)).map V.str := by rw [List.map_map]; rfl
end My
namespace My
open PySem L2
section
variable {σ : L2.St} {H : Hp} {Q : VK} {tb : TE}
theorem g_andVJ {k b : Bool} (h : k = true → ∀ R : VK, R (.bl b) H → tb σ H R) (q : Q (.bl (k && b)) H) : andV tb σ Q (.bl k) H := ⟨k, rfl, by
  cases k
  · exact q
  · exact h rfl _ q⟩
theorem g_orVJ {k b : Bool} (h : k = false → ∀ R : VK, R (.bl b) H → tb σ H R) (q : Q (.bl (k || b)) H) : orV tb σ Q (.bl k) H := ⟨k, rfl, by
  cases k
  · exact h rfl _ q
  · exact q⟩
end
theorem notval_of_mem {z : Str} {c : Nat} (h : c ∈ z.cps.toList) (hc : signOk c = false) : isValV (.str z) = false := by
  have e : isValV (.str z) = (decide (z.length ≤ 60) && z.cps.toList.all signOk) := rfl
  rw [e, Bool.and_eq_false_iff]
  refine .inr ?_
  rw [List.all_eq_false]
  exact ⟨c, h, by rw [hc]; decide⟩
end My
namespace My
open PySem L2
theorem tyof_same {K : PySem.W.Frag} {H H' : Hp} (e : Same H H') {x : V} {t : Value} (h : TyOf K H x t) : TyOf K H' x t := by
  cases h with
  | non => exact .non
  | bl b => exact .bl b
  | int i => exact .int i
  | str x => exact .str x
  | flt x => exact .flt x
  | lst ea => exact .lst (e _ _ ea)
  | frz ea => exact .frz (e _ _ ea)
  | tup ea => exact .tup (e _ _ ea)
  | dK ea => exact .dK (e _ _ ea)
  | dT ea => exact .dT (e _ _ ea)
  | ins ea cl ha hn htk hm => exact .ins (e _ _ ea) cl ha hn htk hm
end My

set_option Elab.async false
set_option linter.all false
set_option maxRecDepth 100000
set_option maxHeartbeats 1000000
/-! what a block is, told of data -/
namespace My
open PySem L2
def isKeyD : PyData → Bool
  | .int i => decide (-KB < i) && decide (i < KB)
  | _ => false
def isValD : PyData → Bool
  | .str z => decide (z.length ≤ 60) && z.cps.toList.all signOk
  | _ => false
def isNumD : PyData → Bool
  | .int i => decide (1 ≤ i)
  | _ => false
def isTwoD : PyData → Bool
  | .tuple ds => decide (ds.length = 2)
  | _ => false
def tyD : PyData → String
  | .none => "NoneType"
  | .bool _ => "bool"
  | .int _ => "int"
  | .str _ => "str"
  | .list _ => "list"
  | .tuple _ => "tuple"
  | .dict _ => "dict"
def leafW : Str := Str.ofString "leaf"
def branchW : Str := Str.ofString "branch"
def heldD (w : Str) (h : PyData) : Bool := if w = leafW then isValD h else isNumD h
def isPairD (w : Str) : PyData → Bool
  | .tuple [k, h] => isKeyD k && heldD w h
  | _ => false
def keyD : PyData → Int
  | .tuple (.int k :: _) => k
  | _ => 0
def risesI (ks : List Int) : Bool := (List.range (ks.length - 1)).all fun i => decide (ks.getD i 0 < ks.getD (i + 1) 0)
def isBlockD (least most : Int) : PyData → Bool
  | .tuple [.str w, .tuple ps] => (decide (w = leafW) || decide (w = branchW)) && (decide (least ≤ (ps.length : Int)) && decide ((ps.length : Int) ≤ most)) && (ps.all (isPairD w) && risesI (ps.map keyD))
  | _ => false
/-- texts that are held are no longer than the line -/
def FitP (d : PyData) : Prop := ∀ k z, d = .tuple [k, .str z] → z.length ≤ sizeLine
def FitB (d : PyData) : Prop := ∀ w ps, d = .tuple [w, .tuple ps] → ps.length ≤ 30000 ∧ ∀ p ∈ ps, FitP p
theorem rises_iff (ks : List Int) : risesI ks = true ↔ ks.Pairwise (· < ·) := by
  unfold risesI
  rw [List.all_eq_true]
  constructor
  · intro h
    induction ks with
    | nil => exact .nil
    | cons x r ih =>
      have hr : r.Pairwise (· < ·) := ih fun i hi => by
        rw [List.mem_range] at hi
        have := h (i + 1) (by rw [List.mem_range, List.length_cons]; omega)
        simpa using this
      refine List.pairwise_cons.mpr ⟨fun y hy => ?_, hr⟩
      cases r with
      | nil => cases hy
      | cons z t =>
        have hz : x < z := by
          have := h 0 (by rw [List.mem_range, List.length_cons, List.length_cons]; omega)
          simpa using this
        rcases List.mem_cons.mp hy with e | e
        · rw [e]; exact hz
        · exact Int.lt_trans hz ((List.pairwise_cons.mp hr).1 y e)
  · intro h i hi
    rw [List.mem_range] at hi
    have h1 : i < ks.length := by omega
    have h2 : i + 1 < ks.length := by omega
    rw [List.getD_eq_getElem?_getD, List.getD_eq_getElem?_getD, List.getElem?_eq_getElem h1, List.getElem?_eq_getElem h2]
    exact decide_eq_true (List.pairwise_iff_getElem.mp h i (i + 1) h1 h2 (by omega))
theorem rises_not {as bs : List Int} {x y : Int} (h : ¬ x < y) : risesI (as ++ x :: y :: bs) = false := by
  rw [Bool.eq_false_iff]
  intro e
  have := (List.pairwise_append.mp ((rises_iff _).mp e)).2.1
  exact h ((List.pairwise_cons.mp this).1 y List.mem_cons_self)
/-! data and values -/
theorem dp_tyb {K : PySem.W.Frag} {H : Hp} {x : V} {d : PyData} (h : Dp K H x d) : TyB K H x (tyD d) := by
  cases h with
  | non => exact .non
  | bl b => exact .bl b
  | int i => exact .int i
  | str z => exact .str z
  | lst h _ => exact .lst h
  | tup h _ => exact .tup h
theorem dp_key {K : PySem.W.Frag} {H : Hp} {x : V} {d : PyData} (h : Dp K H x d) : isKeyV x = isKeyD d := by cases h <;> rfl
theorem dp_val {K : PySem.W.Frag} {H : Hp} {x : V} {d : PyData} (h : Dp K H x d) : isValV x = isValD d := by cases h <;> rfl
theorem dp_int {K : PySem.W.Frag} {H : Hp} {x : V} {d : PyData} (h : Dp K H x d) : isInt x = decide (tyD d = "int") := by cases h <;> rfl
theorem dp_tuple {K : PySem.W.Frag} {H : Hp} {x : V} {ds : List PyData} (h : Dp K H x (.tuple ds)) : ∃ a xs, x = .ref a ∧ SqT K H a xs ∧ DpAll K H xs ds := by
  cases h with
  | tup h r => exact ⟨_, _, rfl, h, r⟩
theorem dpAll_two {K : PySem.W.Frag} {H : Hp} {xs : List V} {k h : PyData} (r : DpAll K H xs [k, h]) : ∃ x y, xs = [x, y] ∧ Dp K H x k ∧ Dp K H y h := by
  cases r with
  | cons h1 r =>
    cases r with
    | cons h2 r =>
      cases r
      exact ⟨_, _, rfl, h1, h2⟩
theorem dp_str {K : PySem.W.Frag} {H : Hp} {x : V} {z : Str} (h : Dp K H x (.str z)) : x = .str z := by cases h; rfl
theorem dp_i {K : PySem.W.Frag} {H : Hp} {x : V} {i : Int} (h : Dp K H x (.int i)) : x = .int i := by cases h; rfl
theorem tyD_tuple {d : PyData} (h : tyD d = "tuple") : ∃ ds, d = .tuple ds := by
  cases d <;> first | exact ⟨_, rfl⟩ | (simp [tyD] at h)
theorem tyD_str {d : PyData} (h : tyD d = "str") : ∃ z, d = .str z := by
  cases d <;> first | exact ⟨_, rfl⟩ | (simp [tyD] at h)
theorem tyD_int {d : PyData} (h : tyD d = "int") : ∃ z, d = .int z := by
  cases d <;> first | exact ⟨_, rfl⟩ | (simp [tyD] at h)
theorem isTwoD_two {d : PyData} (h : isTwoD d = true) : ∃ k x, d = .tuple [k, x] := by
  match d, h with
  | .tuple [k, x], _ => exact ⟨k, x, rfl⟩
theorem isPairD_not2 {w : Str} {d : PyData} (h : isTwoD d = false) : isPairD w d = false := by
  match d, h with
  | .tuple [], _ => rfl
  | .tuple [_], _ => rfl
  | .tuple (_ :: _ :: _ :: _), _ => rfl
  | .none, _ => rfl
  | .bool _, _ => rfl
  | .int _, _ => rfl
  | .str _, _ => rfl
  | .list _, _ => rfl
  | .dict _, _ => rfl
theorem isPairD_key {w : Str} {d : PyData} (h : isPairD w d = true) : ∃ k x, d = .tuple [.int k, x] := by
  cases e : isTwoD d with
  | false =>
    rw [isPairD_not2 e] at h
    cases h
  | true =>
    obtain ⟨k, x, rfl⟩ := isTwoD_two e
    cases k <;> first | exact ⟨_, _, rfl⟩ | (simp [isPairD, isKeyD] at h)
theorem isBlockD_one {l m : Int} (x : PyData) : isBlockD l m (.tuple [x]) = false := by
  cases x <;> rfl
theorem isBlockD_three {l m : Int} (x y z : PyData) (r : List PyData) : isBlockD l m (.tuple (x :: y :: z :: r)) = false := by
  cases x <;> first | rfl | (cases y <;> rfl)
theorem isBlockD_not2 {l m : Int} {d : PyData} (h : isTwoD d = false) : isBlockD l m d = false := by
  match d, h with
  | .tuple [], _ => rfl
  | .tuple [x], _ => exact isBlockD_one x
  | .tuple (x :: y :: z :: r), _ => exact isBlockD_three x y z r
  | .none, _ => rfl
  | .bool _, _ => rfl
  | .int _, _ => rfl
  | .str _, _ => rfl
  | .list _, _ => rfl
  | .dict _, _ => rfl
theorem isBlockD_word {l m : Int} {w p : PyData} (h : tyD w ≠ "str") : isBlockD l m (.tuple [w, p]) = false := by
  cases w <;> first | rfl | exact absurd rfl h
theorem isBlockD_pairs {l m : Int} {w : Str} {p : PyData} (h : tyD p ≠ "tuple") : isBlockD l m (.tuple [.str w, p]) = false := by
  cases p <;> first | rfl | exact absurd rfl h
/-! promises -/
def sp_is_number (K : PySem.W.Frag) : Sp := fun vs H Q _ => ∃ (x : V) (d : PyData), vs = [x] ∧ Dp K H x d ∧ Q (.bl (isNumD d)) H
def sp_is_two (K : PySem.W.Frag) : Sp := fun vs H Q _ => ∃ (x : V) (d : PyData), vs = [x] ∧ Dp K H x d ∧ Q (.bl (isTwoD d)) H
def sp_is_pair (K : PySem.W.Frag) : Sp := fun vs H Q _ => ∃ (x : V) (d : PyData) (w : Str), vs = [x, .str w] ∧ Dp K H x d ∧ FitP d ∧ ∀ H', Same H H' → Q (.bl (isPairD w d)) H'
def sp_rises (K : PySem.W.Frag) : Sp := fun vs H Q _ => ∃ (a : Addr) (xs : List V) (ds : List PyData), vs = [.ref a] ∧ SqT K H a xs ∧ DpAll K H xs ds ∧ ds.length ≤ 30000 ∧ (∀ d ∈ ds, ∃ k x, d = .tuple [.int k, x]) ∧
  ∀ H', Same H H' → Q (.bl (risesI (ds.map keyD))) H'
def sp_is_block (K : PySem.W.Frag) : Sp := fun vs H Q _ => ∃ (x : V) (d : PyData) (l m : Int), vs = [x, .int l, .int m] ∧ Dp K H x d ∧ FitB d ∧ ∀ H', Same H H' → Q (.bl (isBlockD l m d)) H'
/-- items that are bools by a function of the data -/
theorem bools_of {ys : List V} {ds : List PyData} {f : PyData → Bool} (hl : ys.length = ds.length) (h : ∀ (i : Nat) y, ys[i]? = some y → ∃ d, ds[i]? = some d ∧ y = .bl (f d)) : ys = (ds.map f).map V.bl := by
  refine list_eq (by rw [hl, List.length_map, List.length_map]) fun i y hy => ?_
  obtain ⟨d, hd, rfl⟩ := h i y hy
  rw [List.getElem?_map, List.getElem?_map, hd]
  rfl
end My

set_option Elab.async false
set_option linter.all false
set_option maxRecDepth 100000
set_option maxHeartbeats 1000000
/-! expressions that give data, whatever heap comes behind -/
namespace My
open PySem L2
def EvD (K : PySem.W.Frag) (te : TE) (σ : L2.St) (H : Hp) (d : PyData) : Prop := ∀ H1, Same H H1 → ∀ Q : VK, (∀ x H2, Same H1 H2 → Dp K H2 x d → Q x H2) → te σ H1 Q
def EvDs (K : PySem.W.Frag) (tr : TA) (σ : L2.St) (H : Hp) (ds : List PyData) : Prop := ∀ H1, Same H H1 → ∀ Q : List V → Hp → Prop, (∀ xs H2, Same H1 H2 → DpAll K H2 xs ds → Q xs H2) → tr σ H1 Q
/-- a new list -/
def EvN (K : PySem.W.Frag) (te : TE) (σ : L2.St) (H : Hp) (ds : List PyData) : Prop := ∀ H1, Same H H1 → ∀ Q : VK, (∀ p xs H2, H1 p = none → Same H1 H2 → H2 p = some (.lst xs) → DpAll K H2 xs ds → Q (.ref p) H2) → te σ H1 Q
def EvO (K : PySem.W.Frag) (to : TO) (σ : L2.St) (H : Hp) (o : Option Int) : Prop := ∀ H1, Same H H1 → ∀ Q : Option Int → Hp → Prop, (∀ H2, Same H1 H2 → Q o H2) → to σ H1 Q
section
variable {K : PySem.W.Frag} {σ : L2.St} {H H' : Hp} {ta tb te : TE} {tr : TA} {d e : PyData} {ds es : List PyData} {i j k : Int}
theorem EvD.mono (s : Same H H') (h : EvD K te σ H d) : EvD K te σ H' d := fun H1 s1 => h H1 (s.trans s1)
theorem EvN.mono (s : Same H H') (h : EvN K te σ H ds) : EvN K te σ H' ds := fun H1 s1 => h H1 (s.trans s1)
theorem EvN.toD (h : EvN K te σ H ds) : EvD K te σ H (.list ds) := fun H1 s1 Q q => h H1 s1 Q fun p xs H2 np s2 e hd => q _ H2 s2 (.lst (SqL.of e) hd)
theorem evd_i : EvD K (tC (.int i)) σ H (.int i) := fun H1 _ Q q => q _ H1 (L2.Same.refl H1) (.int i)
theorem evd_b {b : Bool} : EvD K (tC (.bl b)) σ H (.bool b) := fun H1 _ Q q => q _ H1 (L2.Same.refl H1) (.bl b)
theorem evd_n : EvD K (tC .non) σ H .none := fun H1 _ Q q => q _ H1 (L2.Same.refl H1) .non
theorem evd_s {z : Str} : EvD K (tC (.str z)) σ H (.str z) := fun H1 _ Q q => q _ H1 (L2.Same.refl H1) (.str z)
theorem evd_v {n : Nat} {x : V} (h : σ[n]? = some (some x)) (hd : Dp K H x d) : EvD K (tVar n) σ H d := fun H1 s1 Q q => ⟨x, h, q x H1 (L2.Same.refl H1) (Dp.go s1 hd)⟩
theorem evd_op0 {g : Int → Int → V} (ha : EvD K ta σ H (.int i)) (hb : EvD K tb σ H (.int j)) (hg : g i j = .int k) : EvD K (tOp (rI0 g) ta tb) σ H (.int k) := fun H1 s1 Q q =>
  ha H1 s1 _ fun x H2 s2 hx => hb H2 (s1.trans s2) _ fun y H3 s3 hy => by
    cases dp_i hx
    cases dp_i hy
    exact ⟨i, j, rfl, rfl, q _ H3 (s2.trans s3) (by rw [hg]; exact .int k)⟩
theorem evd_op {C : Int → Int → Prop} {g : Int → Int → V} (ha : EvD K ta σ H (.int i)) (hb : EvD K tb σ H (.int j)) (hc : C i j) (hg : g i j = .int k) : EvD K (tOp (rI C g) ta tb) σ H (.int k) := fun H1 s1 Q q =>
  ha H1 s1 _ fun x H2 s2 hx => hb H2 (s1.trans s2) _ fun y H3 s3 hy => by
    cases dp_i hx
    cases dp_i hy
    exact ⟨i, j, rfl, rfl, hc, q _ H3 (s2.trans s3) (by rw [hg]; exact .int k)⟩
theorem evd_neg (ha : EvD K ta σ H (.int i)) : EvD K (tUn (rU fun i => .int (-i)) ta) σ H (.int (-i)) := fun H1 s1 Q q => ha H1 s1 _ fun x H2 s2 hx => by
  cases dp_i hx
  exact ⟨i, rfl, q _ H2 s2 (.int _)⟩
theorem evds_nil : EvDs K tNil σ H [] := fun H1 _ Q q => q [] H1 (L2.Same.refl H1) .nil
theorem evds_cons (h : EvD K te σ H d) (hr : EvDs K tr σ H ds) : EvDs K (tCons te tr) σ H (d :: ds) := fun H1 s1 Q q =>
  h H1 s1 _ fun x H2 s2 hx => hr H2 (s1.trans s2) _ fun xs H3 s3 hxs => q _ H3 (s2.trans s3) (.cons (Dp.go s3 hx) hxs)
theorem evd_tup (h : EvDs K tr σ H ds) (hl : ds.length ≤ 100000) : EvD K (tTup tr) σ H (.tuple ds) := fun H1 s1 Q q =>
  h H1 s1 _ fun xs H2 s2 hxs => g_tupK (by rw [dpAll_len hxs]; exact sz hl) fun p H3 np s3 e => q _ H3 (s2.trans s3) (.tup (SqT.of e) (DpAll.go s3 hxs))
theorem evn_lst (h : EvDs K tr σ H ds) (hl : ds.length ≤ 100000) : EvN K (tLst tr) σ H ds := fun H1 s1 Q q =>
  h H1 s1 _ fun xs H2 s2 hxs => g_lstK (by rw [dpAll_len hxs]; exact sz hl) fun p H3 np s3 e => q p xs H3 (s2.free np) (s2.trans s3) e (DpAll.go s3 hxs)
theorem dpAll_at {xs : List V} (h : DpAll K H xs ds) {n : Nat} (hd : ds[n]? = some d) : ∃ x, xs[n]? = some x ∧ Dp K H x d := by
  have hl := dpAll_len h
  have hn := (List.getElem?_eq_some_iff.mp hd).1
  obtain ⟨d', e1, e2⟩ := dpAll_get h n xs[n] (List.getElem?_eq_getElem (by omega))
  rw [hd] at e1
  cases Option.some.inj e1
  exact ⟨_, List.getElem?_eq_getElem (by omega), e2⟩
theorem evd_ixT (h : EvD K ta σ H (.tuple ds)) (hi : EvD K tb σ H (.int i)) (h0 : 0 ≤ i) (hd : ds[i.toNat]? = some d) : EvD K (tOp (rIxT K) ta tb) σ H d := fun H1 s1 Q q =>
  h H1 s1 _ fun x H2 s2 hx => hi H2 (s1.trans s2) _ fun y H3 s3 hy => by
    cases dp_i hy
    obtain ⟨a, xs, rfl, hs, hxs⟩ := dp_tuple (Dp.go s3 hx)
    obtain ⟨x, e1, e2⟩ := dpAll_at hxs hd
    have ei : i = ((i.toNat : Nat) : Int) := by omega
    exact ⟨a, xs, i, x, rfl, rfl, hs, (by rw [ei]; exact atI_nat e1), q x H3 (s2.trans s3) e2⟩
theorem dp_list {x : V} (h : Dp K H x (.list ds)) : ∃ a xs, x = .ref a ∧ SqL K H a xs ∧ DpAll K H xs ds := by
  cases h with
  | lst h r => exact ⟨_, _, rfl, h, r⟩
theorem evd_ixL (h : EvD K ta σ H (.list ds)) (hi : EvD K tb σ H (.int i)) (h0 : 0 ≤ i) (hd : ds[i.toNat]? = some d) : EvD K (tOp (rIxL K) ta tb) σ H d := fun H1 s1 Q q =>
  h H1 s1 _ fun x H2 s2 hx => hi H2 (s1.trans s2) _ fun y H3 s3 hy => by
    cases dp_i hy
    obtain ⟨a, xs, rfl, hs, hxs⟩ := dp_list (Dp.go s3 hx)
    obtain ⟨x, e1, e2⟩ := dpAll_at hxs hd
    have ei : i = ((i.toNat : Nat) : Int) := by omega
    exact ⟨a, xs, i, x, rfl, rfl, hs, (by rw [ei]; exact atI_nat e1), q x H3 (s2.trans s3) e2⟩
theorem dpAll_app : ∀ {xs ys : List V} {ds es : List PyData}, DpAll K H xs ds → DpAll K H ys es → DpAll K H (xs ++ ys) (ds ++ es)
  | _, _, _, _, .nil, h => h
  | _, _, _, _, .cons a r, h => .cons a (dpAll_app r h)
theorem evn_cat (ha : EvN K ta σ H ds) (hb : EvN K tb σ H es) (hl : ds.length + es.length ≤ 100000) : EvN K (tOp rCat ta tb) σ H (ds ++ es) := fun H1 s1 Q q =>
  ha H1 s1 _ fun p xs H2 np s2 e1 h1 => hb H2 (s1.trans s2) _ fun r ys H3 nr s3 e2 h2 =>
    ⟨p, r, xs, ys, rfl, rfl, s3 _ _ e1, e2, by rw [dpAll_len h1, dpAll_len h2]; exact sz hl, fun t nt =>
      q t (xs ++ ys) _ ((s2.trans s3).free nt) ((s2.trans s3).trans (Same.new nt _)) upd_same (DpAll.go (Same.new nt _) (dpAll_app (DpAll.go s3 h1) h2))⟩
/-- a list that stands: x + [..] wants its very object -/
theorem evn_v {n : Nat} {p : Addr} {xs : List V} (h : σ[n]? = some (some (.ref p))) (hp : H p = some (.lst xs)) (hd : DpAll K H xs ds) {tb : TE} (hb : EvN K tb σ H es) (hl : ds.length + es.length ≤ 100000) : EvN K (tOp rCat (tVar n) tb) σ H (ds ++ es) := fun H1 s1 Q q =>
  ⟨_, h, hb H1 s1 _ fun r ys H3 nr s3 e2 h2 =>
    ⟨p, r, xs, ys, rfl, rfl, s3 _ _ (s1 _ _ hp), e2, by rw [dpAll_len hd, dpAll_len h2]; exact sz hl, fun t nt =>
      q t (xs ++ ys) _ (s3.free nt) (s3.trans (Same.new nt _)) upd_same (DpAll.go (Same.new nt _) (dpAll_app (DpAll.go (s1.trans s3) hd) h2))⟩⟩
theorem evo_none : EvO K tNoPart σ H none := fun H1 _ Q q => q H1 (L2.Same.refl H1)
theorem evo_some (h : EvD K te σ H (.int i)) : EvO K (tPart te) σ H (some i) := fun H1 s1 Q q => h H1 s1 _ fun x H2 s2 hx => by
  cases dp_i hx
  exact ⟨i, rfl, q H2 s2⟩
theorem evn_slTo {th : TO} (h : EvD K te σ H (.list ds)) (hi : EvO K th σ H (some i)) (h0 : 0 ≤ i) : EvN K (tSl (rSlL K) te tNoPart th) σ H (ds.take i.toNat) := fun H1 s1 Q q =>
  h H1 s1 _ fun x H2 s2 hx => hi H2 (s1.trans s2) _ fun H3 s3 => by
    obtain ⟨a, xs, rfl, hs, hxs⟩ := dp_list (Dp.go s3 hx)
    refine ⟨a, xs, rfl, hs, fun p np => q p (xs.take i.toNat) _ ((s2.trans s3).free np) ((s2.trans s3).trans (Same.new np _)) ?_ (DpAll.go (Same.new np _) (dpAll_take _ hxs))⟩
    rw [show i = ((i.toNat : Nat) : Int) by omega, cut_to, Int.toNat_natCast]
    exact upd_same
theorem evn_slFrom {tl : TO} (h : EvD K te σ H (.list ds)) (hi : EvO K tl σ H (some i)) (h0 : 0 ≤ i) : EvN K (tSl (rSlL K) te tl tNoPart) σ H (ds.drop i.toNat) := fun H1 s1 Q q =>
  h H1 s1 _ fun x H2 s2 hx => hi H2 (s1.trans s2) _ fun H3 s3 => by
    obtain ⟨a, xs, rfl, hs, hxs⟩ := dp_list (Dp.go s3 hx)
    refine ⟨a, xs, rfl, hs, fun p np => q p (xs.drop i.toNat) _ ((s2.trans s3).free np) ((s2.trans s3).trans (Same.new np _)) ?_ (DpAll.go (Same.new np _) (dpAll_drop _ hxs))⟩
    rw [show i = ((i.toNat : Nat) : Int) by omega, cut_from, Int.toNat_natCast]
    exact upd_same
theorem evn_listL (h : EvD K te σ H (.list ds)) : EvN K (tCB (rList K) (tCons te tNil)) σ H ds := fun H1 s1 Q q => h H1 s1 _ fun x H2 s2 hx => by
  obtain ⟨a, xs, rfl, hs, hxs⟩ := dp_list hx
  exact ⟨a, xs, rfl, .inl hs, fun p np => q p xs _ (s2.free np) (s2.trans (Same.new np _)) upd_same (DpAll.go (Same.new np _) hxs)⟩
theorem evn_listT (h : EvD K te σ H (.tuple ds)) : EvN K (tCB (rList K) (tCons te tNil)) σ H ds := fun H1 s1 Q q => h H1 s1 _ fun x H2 s2 hx => by
  obtain ⟨a, xs, rfl, hs, hxs⟩ := dp_tuple hx
  exact ⟨a, xs, rfl, .inr hs, fun p np => q p xs _ (s2.free np) (s2.trans (Same.new np _)) upd_same (DpAll.go (Same.new np _) hxs)⟩
theorem evd_tupleL (h : EvD K te σ H (.list ds)) : EvD K (tCB (rTuple K) (tCons te tNil)) σ H (.tuple ds) := fun H1 s1 Q q => h H1 s1 _ fun x H2 s2 hx => by
  obtain ⟨a, xs, rfl, hs, hxs⟩ := dp_list hx
  exact ⟨a, xs, rfl, .inl ⟨hs, fun p np => q _ _ (s2.trans (Same.new np _)) (.tup (SqT.of upd_same) (DpAll.go (Same.new np _) hxs))⟩⟩
theorem evd_tupleT (h : EvD K te σ H (.tuple ds)) : EvD K (tCB (rTuple K) (tCons te tNil)) σ H (.tuple ds) := fun H1 s1 Q q => h H1 s1 _ fun x H2 s2 hx => by
  obtain ⟨a, xs, rfl, hs, hxs⟩ := dp_tuple hx
  exact ⟨a, xs, rfl, .inr ⟨hs, q _ _ s2 (.tup hs hxs)⟩⟩
theorem evd_strI (h : EvD K te σ H (.int i)) (hl : i.natAbs.log2 < 1920) : EvD K (tCB rStrI (tCons te tNil)) σ H (.str (toString i)) := fun H1 s1 Q q => h H1 s1 _ fun x H2 s2 hx => by
  cases dp_i hx
  exact ⟨i, rfl, hl, q _ H2 s2 (.str _)⟩
theorem evd_addS {a b : Str} (ha : EvD K ta σ H (.str a)) (hb : EvD K tb σ H (.str b)) (hl : a.length + b.length ≤ 100000) : EvD K (tOp rAddS ta tb) σ H (.str (a ++ b)) := fun H1 s1 Q q =>
  ha H1 s1 _ fun x H2 s2 hx => hb H2 (s1.trans s2) _ fun y H3 s3 hy => by
    cases dp_str hx
    cases dp_str hy
    exact ⟨a, b, rfl, rfl, sz hl, q _ H3 (s2.trans s3) (.str _)⟩
/-- data behind items that each read as something -/
theorem exists_data : ∀ {ys : List V} {R : Nat → V → PyData → Prop}, (∀ (i : Nat) y, ys[i]? = some y → ∃ d, R i y d) → ∃ ds : List PyData, ds.length = ys.length ∧ ∀ (i : Nat) y d, ys[i]? = some y → ds[i]? = some d → R i y d
  | [], R, _ => ⟨[], rfl, fun i y d h => nomatch h⟩
  | y :: ys, R, h => by
    obtain ⟨d, hd⟩ := h 0 y rfl
    obtain ⟨ds, hl, hr⟩ := exists_data (ys := ys) (R := fun i => R (i + 1)) fun i z hz => h (i + 1) z (by simpa using hz)
    refine ⟨d :: ds, by simp [hl], fun i z e h1 h2 => ?_⟩
    cases i with
    | zero =>
      cases Option.some.inj h1
      cases Option.some.inj h2
      exact hd
    | succ i => exact hr i z e (by simpa using h1) (by simpa using h2)
end
end My
namespace My
open PySem L2
section
variable {K : PySem.W.Frag} {σ : L2.St} {H : Hp} {te : TE} {d : PyData} {ds : List PyData} {D : Ends} {u : TS} {i : Nat} {Q : VK}
theorem evn_asg (h : EvN K te σ H ds) (k : ∀ p xs H1, H p = none → Same H H1 → H1 p = some (.lst xs) → DpAll K H1 xs ds → u D (σ.set i (some (.ref p))) H1) : tSeq (tAsg te (gName i)) u D σ H := h H (L2.Same.refl H) _ k
theorem evd_asg (h : EvD K te σ H d) (k : ∀ x H1, Same H H1 → Dp K H1 x d → u D (σ.set i (some x)) H1) : tSeq (tAsg te (gName i)) u D σ H := h H (L2.Same.refl H) _ k
theorem evn_ret (h : EvN K te σ H ds) (k : ∀ p xs H1, H p = none → Same H H1 → H1 p = some (.lst xs) → DpAll K H1 xs ds → D.rt (.ref p) H1) : tRet te D σ H := h H (L2.Same.refl H) _ k
theorem evd_ret (h : EvD K te σ H d) (k : ∀ x H1, Same H H1 → Dp K H1 x d → D.rt x H1) : tRet te D σ H := h H (L2.Same.refl H) _ k
theorem evd_to (h : EvD K te σ H d) (k : ∀ x H1, Same H H1 → Dp K H1 x d → Q x H1) : te σ H Q := h H (L2.Same.refl H) _ k
end
theorem held_no {w : Str} {h : PyData} (h1 : isValD h = false) (h2 : isNumD h = false) : heldD w h = false := by
  unfold heldD
  split <;> assumption
theorem all_mid {as bs : List PyData} {x : PyData} {p : PyData → Bool} (h : p x = false) : ((as ++ [x]) ++ bs).all p = false := by
  rw [List.all_append, List.all_append, List.all_cons, h, Bool.false_and, Bool.and_false, Bool.false_and]
theorem rises_mid {as bs : List PyData} {x y : PyData} (h : ¬ keyD x < keyD y) : risesI (((as ++ [x, y]) ++ bs).map keyD) = false := by
  rw [List.map_append, List.map_append, List.append_assoc]
  exact rises_not h
theorem log_small {k : Int} (h1 : -(2 ^ 300) < k) (h2 : k < 2 ^ 300) : k.natAbs.log2 < 1920 :=
  Nat.lt_of_lt_of_le (PySem.Flt.log2_lt_of (k := 300) (by decide) (by omega)) (by decide)
end My
namespace My
open PySem L2
section
variable {σ : L2.St} {H : Hp} {D : Ends} {t u : TS} {c : TT}
theorem g_ifP (P1 P2 : Prop) (hc : ∀ QB : Bool → Hp → Prop, (P1 → QB true H) → (P2 → QB false H) → c σ H QB) (h1 : P1 → t D σ H) (h2 : P2 → u D σ H) : tIfS c t u D σ H := hc _ (fun p => h1 p) (fun p => h2 p)
end
end My

set_option Elab.async false
set_option linter.all false
set_option maxRecDepth 100000
set_option maxHeartbeats 1000000
/-! dicts: their steps, their data, == and != -/
namespace My
open PySem L2
/-! ### named relations -/
section
variable {X : Cx}
def rDictD : List V → Hp → VK → Prop := fun us H Q => ∃ (d : Addr) (m : List (Key × V)), us = [.ref d] ∧ Rd H d (.dK m) ∧ ∀ p, H p = none → Q (.ref p) (upd H p (.dK m))
theorem my_dictD : CallR X (.type "dict") rDictD := call_dictD
def rListD : List V → Hp → VK → Prop := fun us H Q => ∃ (d : Addr) (m : List (Key × V)), us = [.ref d] ∧ Rd H d (.dK m) ∧ ∀ p, H p = none → Q (.ref p) (upd H p (.lst (m.map fun kv => kV kv.1)))
theorem my_listD (hc : X.calm = true) : CallR X (.type "list") rListD := call_listD hc
def rLenD : List V → Hp → VK → Prop := fun us H Q => ∃ (d : Addr) (m : List (Key × V)), us = [.ref d] ∧ Rd H d (.dK m) ∧ Q (.int m.length) H
theorem my_lenD : CallR X (.builtin "len") rLenD := by
  intro pins s σ H xs us Q I r h
  obtain ⟨d, m, rfl, hd, q⟩ := h
  cases r with
  | cons r0 r1 =>
    cases r1
    cases (show _ = Value.ref d from r0)
    exact d_len I hd fun t s' I' => ⟨.int _, H, I', ⟨_, rfl⟩, q⟩
/-- text * int -/
def repS (z : Str) (n : Nat) : Str := ⟨(List.replicate n z.cps.toList).flatten.toArray⟩
theorem repS_toList (z : Str) (n : Nat) : (repS z n).cps.toList = (List.replicate n z.cps.toList).flatten := rfl
theorem repS_len (z : Str) (n : Nat) : (repS z n).length = n * z.length := by
  rw [str_len, repS_toList, str_len, List.length_flatten, List.map_replicate, List.sum_replicate_nat]
def rMulS : R2 := fun x y H Q => ∃ (z : Str) (n : Int), x = .str z ∧ y = .int n ∧ 0 ≤ n ∧ n ≤ 1000 ∧ z.length ≤ 1000 ∧ Q (.str (repS z n.toNat)) H
theorem fold_app (z : Array Nat) : ∀ (n : Nat) (acc : Array Nat), ((List.replicate n z).foldl (· ++ ·) acc).toList = acc.toList ++ (List.replicate n z.toList).flatten
  | 0, acc => by simp
  | n + 1, acc => by
    rw [List.replicate_succ, List.foldl_cons, fold_app z n, Array.toList_append, List.replicate_succ, List.flatten_cons, List.append_assoc]
theorem op_mulS : OpR X (binaryOp .Mult) rMulS := by
  intro pins s σ H x y v u Q I rx ry h
  obtain ⟨z, n, rfl, rfl, h0, h1, hz, q⟩ := h
  obtain ⟨t, rfl⟩ := (show ∃ t, v = Value.str z t from rx)
  obtain ⟨t', rfl⟩ := (show ∃ t, u = Value.int n t from ry)
  have hlen : z.length * n.toNat ≤ 1000000 := Nat.mul_le_mul hz (show n.toNat ≤ 1000 by omega)
  have fin : ∀ (y : Str) (tk : Tok) (k : Nat), y = repS z n.toNat → EP X pins σ Q (.str y tk) { s with toks := k } := fun y tk k e => ⟨.str y, H, I.tok k, ⟨tk, rfl⟩, by rw [e]; exact q⟩
  refine P.mul_str (by rw [decide_eq_false (by omega), decide_eq_false (by omega)]; rfl) (fun h2 _ h3 => ?_) (fun h2 h3 => ?_) ?_
  · have hn : 0 < n := by omega
    have : (2 ^ 63 - 1 : Int) / 1000 ≤ (2 ^ 63 - 1) / n := Int.le_ediv_of_mul_le hn (by have := Int.mul_le_mul_of_nonneg_left h1 (show (0:Int) ≤ (2^63-1)/1000 by decide); omega)
    omega
  · unfold Builtin.Str.tooLong
    exact decide_eq_false (by have : sizeLine = 16777216 := sizeLine_eq; omega)
  · by_cases c1 : n < 1
    · rw [if_pos c1]
      refine ⟨by decide, fin _ _ _ ?_⟩
      have e0 : n.toNat = 0 := by omega
      rw [e0]
      rfl
    · rw [if_neg c1]
      by_cases c2 : (n == 1 || z.length == 0) = true
      · rw [if_pos c2]
        refine fin z t s.toks ?_
        refine str_ext ?_
        rw [repS_toList]
        rcases Bool.or_eq_true_iff.mp c2 with c | c
        · have e1 : n = 1 := of_decide_eq_true c
          subst e1
          simp
        · have e1 : z.cps.toList = [] := by
            have := of_decide_eq_true c
            rw [str_len] at this
            exact List.length_eq_zero_iff.mp this
          rw [e1]
          simp
      · rw [if_neg c2]
        refine ⟨?_, fin _ _ _ (str_ext ?_)⟩
        · have e : (⟨List.foldl (fun x1 x2 => x1 ++ x2) #[] (List.replicate n.toNat z.cps)⟩ : Str) = repS z n.toNat := str_ext (by rw [repS_toList, fold_app]; rfl)
          rw [e, repS_len, sizeLine_eq, Nat.mul_comm]
          omega
        · rw [repS_toList, fold_app]
          rfl
end
section
variable {H : Hp} {Q : VK} {d : Addr} {m : List (Key × V)}
theorem g_mulS {z : Str} {n : Int} (h0 : 0 ≤ n) (h1 : n ≤ 1000) (hz : z.length ≤ 1000) (q : Q (.str (repS z n.toNat)) H) : rMulS (.str z) (.int n) H Q := ⟨z, n, rfl, rfl, h0, h1, hz, q⟩
theorem g_dictD (h : Rd H d (.dK m)) (q : ∀ p H1, H p = none → Same H H1 → H1 p = some (.dK m) → Q (.ref p) H1) : rDictD [.ref d] H Q := ⟨d, m, rfl, h, fun p hp => q p _ hp (Same.new hp _) upd_same⟩
theorem g_listD (h : Rd H d (.dK m)) (q : ∀ p H1, H p = none → Same H H1 → H1 p = some (.lst (m.map fun kv => kV kv.1)) → Q (.ref p) H1) : rListD [.ref d] H Q := ⟨d, m, rfl, h, fun p hp => q p _ hp (Same.new hp _) upd_same⟩
theorem g_lenD (h : Rd H d (.dK m)) (q : Q (.int m.length) H) : rLenD [.ref d] H Q := ⟨d, m, rfl, h, q⟩
end
end My

set_option Elab.async false
set_option linter.all false
set_option maxRecDepth 100000
set_option maxHeartbeats 1000000
/-! tables by whole numbers, and dicts of data -/
namespace My
open PySem L2
/-! ### tables -/
section
variable {β : Type}
def getA (m : List (Int × β)) (k : Int) : Option β := (m.find? fun p => decide (p.1 = k)).map (·.2)
def putA (m : List (Int × β)) (k : Int) (v : β) : List (Int × β) := if (m.any fun p => decide (p.1 = k)) = true then m.map (fun p => if p.1 = k then (p.1, v) else p) else m ++ [(k, v)]
def dropA (m : List (Int × β)) (k : Int) : List (Int × β) := m.filter fun p => decide (p.1 ≠ k)
def keysA (m : List (Int × β)) : List Int := m.map (·.1)
theorem getA_nil {k : Int} : getA ([] : List (Int × β)) k = none := rfl
theorem getA_cons {p : Int × β} {m : List (Int × β)} {k : Int} : getA (p :: m) k = if p.1 = k then some p.2 else getA m k := by
  by_cases e : p.1 = k
  · simp [getA, List.find?_cons, e]
  · simp [getA, List.find?_cons, e]
theorem getA_app {m n : List (Int × β)} {k : Int} : getA (m ++ n) k = (getA m k).or (getA n k) := by
  induction m with
  | nil => simp [getA_nil]
  | cons p m ih =>
    rw [List.cons_append, getA_cons, getA_cons, ih]
    split <;> simp
theorem any_getA {m : List (Int × β)} {k : Int} : (m.any fun p => decide (p.1 = k)) = (getA m k).isSome := by
  induction m with
  | nil => rfl
  | cons p m ih =>
    rw [List.any_cons, getA_cons, ih]
    by_cases e : p.1 = k
    · rw [if_pos e, decide_eq_true e]; rfl
    · rw [if_neg e, decide_eq_false e]; rfl
theorem getA_map {m : List (Int × β)} {k j : Int} {v : β} : getA (m.map fun p => if p.1 = k then (p.1, v) else p) j = (getA m j).map fun x => if j = k then v else x := by
  induction m with
  | nil => rfl
  | cons p m ih =>
    rw [List.map_cons, getA_cons, getA_cons, ih]
    by_cases e : p.1 = k
    · rw [if_pos e]
      by_cases e2 : p.1 = j
      · rw [if_pos e2, if_pos e2]
        simp [← e2, e]
      · rw [if_neg e2, if_neg e2]
    · rw [if_neg e]
      by_cases e2 : p.1 = j
      · rw [if_pos e2, if_pos e2]
        simp [← e2, e]
      · rw [if_neg e2, if_neg e2]
theorem getA_put (m : List (Int × β)) (k j : Int) (v : β) : getA (putA m k v) j = if j = k then some v else getA m j := by
  unfold putA
  rw [any_getA]
  by_cases h : (getA m k).isSome = true
  · rw [if_pos h, getA_map]
    by_cases e : j = k
    · subst e
      obtain ⟨x, hx⟩ := Option.isSome_iff_exists.mp h
      rw [hx, if_pos rfl]
      simp
    · rw [if_neg e]
      cases getA m j <;> simp [e]
  · rw [if_neg h, getA_app, getA_cons, getA_nil]
    have hn : getA m k = none := by cases e : getA m k with
      | none => rfl
      | some x => rw [e] at h; exact absurd rfl h
    by_cases e : j = k
    · subst e
      rw [hn, if_pos rfl]
      simp
    · rw [if_neg e, if_neg (fun z => e z.symm)]
      cases getA m j <;> rfl
theorem getA_drop (m : List (Int × β)) (k j : Int) : getA (dropA m k) j = if j = k then none else getA m j := by
  unfold dropA
  induction m with
  | nil => simp [getA_nil]
  | cons p m ih =>
    rw [List.filter_cons]
    by_cases e : p.1 = k
    · rw [if_neg (by simp [e]), ih, getA_cons]
      by_cases e2 : j = k
      · rw [if_pos e2, if_pos e2]
      · rw [if_neg e2, if_neg e2, if_neg (fun z => e2 (by rw [← z, e]))]
    · rw [if_pos (by simp [e]), getA_cons, getA_cons, ih]
      by_cases e2 : p.1 = j
      · rw [if_pos e2, if_pos e2, if_neg (fun z => e (by rw [e2, z]))]
      · rw [if_neg e2, if_neg e2]
theorem getA_mem {m : List (Int × β)} {k : Int} {v : β} (h : getA m k = some v) : (k, v) ∈ m := by
  induction m with
  | nil => cases h
  | cons p m ih =>
    rw [getA_cons] at h
    by_cases e : p.1 = k
    · rw [if_pos e] at h
      cases Option.some.inj h
      rw [← e]
      exact List.mem_cons_self
    · rw [if_neg e] at h
      exact List.mem_cons_of_mem _ (ih h)
theorem mem_keysA {m : List (Int × β)} {k : Int} : k ∈ keysA m ↔ (getA m k).isSome = true := by
  rw [← any_getA, List.any_eq_true]
  unfold keysA
  rw [List.mem_map]
  constructor
  · rintro ⟨p, hp, e⟩
    exact ⟨p, hp, decide_eq_true e⟩
  · rintro ⟨p, hp, e⟩
    exact ⟨p, hp, of_decide_eq_true e⟩
theorem getA_of_mem {m : List (Int × β)} (nd : (keysA m).Nodup) {p : Int × β} (h : p ∈ m) : getA m p.1 = some p.2 := by
  induction m with
  | nil => cases h
  | cons q m ih =>
    unfold keysA at nd
    rw [List.map_cons, List.nodup_cons] at nd
    rw [getA_cons]
    rcases List.mem_cons.mp h with e | e
    · rw [e, if_pos rfl]
    · rw [if_neg (fun z => nd.1 (List.mem_map.mpr ⟨p, e, z.symm⟩)), ih nd.2 e]
theorem keysA_map {m : List (Int × β)} {k : Int} {v : β} : keysA (m.map fun p => if p.1 = k then (p.1, v) else p) = keysA m := by
  unfold keysA
  rw [List.map_map]
  refine List.map_congr_left fun p _ => ?_
  show (if p.1 = k then (p.1, v) else p).1 = p.1
  split <;> rfl
theorem keysA_put {m : List (Int × β)} {k : Int} {v : β} : keysA (putA m k v) = if (getA m k).isSome = true then keysA m else keysA m ++ [k] := by
  unfold putA
  rw [any_getA]
  split
  · exact keysA_map
  · unfold keysA
    rw [List.map_append]
    rfl
theorem nodup_snoc {l : List Int} {k : Int} (nd : l.Nodup) (h : k ∉ l) : (l ++ [k]).Nodup := by
  rw [List.nodup_append]
  refine ⟨nd, by simp, fun a ha b hb e => ?_⟩
  rw [List.mem_singleton.mp hb] at e
  exact h (e ▸ ha)
theorem nodup_put {m : List (Int × β)} {k : Int} {v : β} (nd : (keysA m).Nodup) : (keysA (putA m k v)).Nodup := by
  rw [keysA_put]
  split
  · exact nd
  · rename_i h
    exact nodup_snoc nd fun z => h (mem_keysA.mp z)
theorem nodup_drop {m : List (Int × β)} {k : Int} (nd : (keysA m).Nodup) : (keysA (dropA m k)).Nodup :=
  List.Nodup.sublist (List.Sublist.map _ List.filter_sublist) nd
theorem length_put {m : List (Int × β)} {k : Int} {v : β} : (putA m k v).length ≤ m.length + 1 := by
  unfold putA
  split
  · rw [List.length_map]; omega
  · rw [List.length_append, List.length_singleton]; omega
theorem length_drop {m : List (Int × β)} {k : Int} : (dropA m k).length ≤ m.length := List.length_filter_le _ _
theorem all_put {P : Int × β → Prop} {m : List (Int × β)} {k : Int} {v : β} (h : ∀ p ∈ m, P p) (hv : P (k, v)) : ∀ p ∈ putA m k v, P p := by
  intro p hp
  unfold putA at hp
  split at hp
  · obtain ⟨q, hq, e⟩ := List.mem_map.mp hp
    by_cases c : q.1 = k
    · rw [if_pos c, c] at e
      exact e ▸ hv
    · rw [if_neg c] at e
      exact e ▸ h q hq
  · rcases List.mem_append.mp hp with hp | hp
    · exact h p hp
    · rw [List.mem_singleton.mp hp]
      exact hv
theorem all_drop {P : Int × β → Prop} {m : List (Int × β)} {k : Int} (h : ∀ p ∈ m, P p) : ∀ p ∈ dropA m k, P p := fun p hp => h p (List.mem_filter.mp hp).1
/-- the same number of keys where the same keys stand -/
theorem length_of_get {m n : List (Int × β)} (hm : (keysA m).Nodup) (hn : (keysA n).Nodup) (h : ∀ k, (getA m k).isSome = (getA n k).isSome) : m.length = n.length := by
  have p : (keysA m).Perm (keysA n) := (List.perm_ext_iff_of_nodup hm hn).mpr fun k => by rw [mem_keysA, mem_keysA, h]
  have := p.length_eq
  unfold keysA at this
  rwa [List.length_map, List.length_map] at this
end
/-! ### strict data: no truths, no lists: == is being the same -/
mutual
def strictD : PyData → Bool
  | .none => true
  | .int _ => true
  | .str z => PyData.strOk z
  | .tuple xs => strictAll xs
  | .bool _ => false
  | .list _ => false
  | .dict _ => false
def strictAll : List PyData → Bool
  | [] => true
  | x :: xs => strictD x && strictAll xs
end
mutual
theorem eqv_strict : ∀ {d e : PyData}, strictD d = true → strictD e = true → (PyData.eqv d e = true ↔ d = e)
  | .none, e, _, _ => by cases e <;> simp [PyData.eqv]
  | .int i, e, _, h => by cases e <;> simp [PyData.eqv, strictD] at h ⊢
  | .str i, e, _, h => by cases e <;> simp [PyData.eqv, strictD] at h ⊢
  | .tuple xs, e, h1, h => by
    cases e <;> simp [PyData.eqv, strictD] at h h1 ⊢
    exact eqvAll_strict h1 h
  | .bool _, _, h, _ => by simp [strictD] at h
  | .list _, _, h, _ => by simp [strictD] at h
  | .dict _, _, h, _ => by simp [strictD] at h
theorem eqvAll_strict : ∀ {ds es : List PyData}, strictAll ds = true → strictAll es = true → (PyData.eqvAll ds es = true ↔ ds = es)
  | [], [], _, _ => by simp [PyData.eqvAll]
  | [], _ :: _, _, _ => by simp [PyData.eqvAll]
  | _ :: _, [], _, _ => by simp [PyData.eqvAll]
  | d :: ds, e :: es, h1, h2 => by
    simp [strictAll] at h1 h2
    have a := eqv_strict h1.1 h2.1
    have b := eqvAll_strict h1.2 h2.2
    simp [PyData.eqvAll, a, b]
end
mutual
theorem strict_lay : ∀ {d : PyData}, strictD d = true → PyData.canLay0 d = true
  | .none, _ => by simp [PyData.canLay0]
  | .int _, _ => by simp [PyData.canLay0]
  | .str _, h => by simpa [PyData.canLay0, strictD] using h
  | .tuple xs, h => by
    simp only [PyData.canLay0]
    exact strictAll_lay (by simpa [strictD] using h)
  | .bool _, h => by simp [strictD] at h
  | .list _, h => by simp [strictD] at h
  | .dict _, h => by simp [strictD] at h
theorem strictAll_lay : ∀ {ds : List PyData}, strictAll ds = true → PyData.canLayAll0 ds = true
  | [], _ => by simp [PyData.canLayAll0]
  | d :: ds, h => by
    simp [strictAll] at h
    simp [PyData.canLayAll0, strict_lay h.1, strictAll_lay h.2]
end
theorem strictAll_iff : ∀ {ds : List PyData}, strictAll ds = true ↔ ∀ d ∈ ds, strictD d = true
  | [] => by simp [strictAll]
  | d :: ds => by simp [strictAll, strictAll_iff (ds := ds)]
/-! ### what moves from heap to heap -/
def Keep (P : HO → Prop) (H H' : Hp) : Prop := ∀ b o, P o → H b = some o → H' b = some o
/-- what never changes -/
def fixO : HO → Prop
  | .tup _ => True
  | .frz _ _ => True
  | _ => False
theorem Keep.of {P : HO → Prop} {H H' : Hp} (e : Same H H') : Keep P H H' := fun b o _ h => e b o h
theorem Keep.refl {P : HO → Prop} (H : Hp) : Keep P H H := fun _ _ _ h => h
theorem Keep.trans {P : HO → Prop} {H H1 H2 : Hp} (a : Keep P H H1) (b : Keep P H1 H2) : Keep P H H2 := fun c o p h => b c o p (a c o p h)
theorem Keep.upd {P : HO → Prop} {H : Hp} {a : Addr} {o u : HO} (h : H a = some o) (hp : ¬ P o) : Keep P H (upd H a u) := fun b v p e => by
  rw [upd_ne]
  · exact e
  · rintro rfl
    rw [h] at e
    cases Option.some.inj e
    exact hp p
theorem keep_seqT {P : HO → Prop} (h1 : ∀ xs, P (.tup xs)) (h2 : ∀ o u, P (.frz o u)) {K : PySem.W.Frag} {H H' : Hp} (e : Keep P H H') {a : Addr} {xs : List V} (h : SqT K H a xs) : SqT K H' a xs := by
  rcases h with (h | ⟨o, h⟩) | h
  · exact .inl (.inl (e _ _ (h1 _) h))
  · exact .inl (.inr ⟨o, e _ _ (h2 _ _) h⟩)
  · exact .inr h
theorem keep_seqL {P : HO → Prop} (h1 : ∀ xs, P (.lst xs)) (h2 : ∀ o u, P (.frz o u)) {K : PySem.W.Frag} {H H' : Hp} (e : Keep P H H') {a : Addr} {xs : List V} (h : SqL K H a xs) : SqL K H' a xs := by
  rcases h with (h | ⟨o, h⟩) | h
  · exact .inl (.inl (e _ _ (h1 _) h))
  · exact .inl (.inr ⟨o, e _ _ (h2 _ _) h⟩)
  · exact .inr h
mutual
/-- data without a list goes along whatever leaves tuples -/
theorem Dp.keep {P : HO → Prop} (h1 : ∀ xs, P (.tup xs)) (h2 : ∀ o u, P (.frz o u)) {K : PySem.W.Frag} {H H' : Hp} (e : Keep P H H') : ∀ {v : V} {d : PyData}, Dp K H v d → strictD d = true → Dp K H' v d
  | _, _, .non, _ => .non
  | _, _, .bl b, _ => .bl b
  | _, _, .int i, _ => .int i
  | _, _, .str x, _ => .str x
  | _, _, .lst h r, s => by simp [strictD] at s
  | _, _, .tup h r, s => .tup (keep_seqT h1 h2 e h) (DpAll.keep h1 h2 e r (by simpa [strictD] using s))
theorem DpAll.keep {P : HO → Prop} (h1 : ∀ xs, P (.tup xs)) (h2 : ∀ o u, P (.frz o u)) {K : PySem.W.Frag} {H H' : Hp} (e : Keep P H H') : ∀ {vs : List V} {ds : List PyData}, DpAll K H vs ds → strictAll ds = true → DpAll K H' vs ds
  | _, _, .nil, _ => .nil
  | _, _, .cons h r, s => .cons (Dp.keep h1 h2 e h (by simp [strictAll] at s; exact s.1)) (DpAll.keep h1 h2 e r (by simp [strictAll] at s; exact s.2))
end
mutual
/-- any data goes along whatever leaves tuples and lists -/
theorem Dp.keepL {P : HO → Prop} (h0 : ∀ xs, P (.lst xs)) (h1 : ∀ xs, P (.tup xs)) (h2 : ∀ o u, P (.frz o u)) {K : PySem.W.Frag} {H H' : Hp} (e : Keep P H H') : ∀ {v : V} {d : PyData}, Dp K H v d → Dp K H' v d
  | _, _, .non => .non
  | _, _, .bl b => .bl b
  | _, _, .int i => .int i
  | _, _, .str x => .str x
  | _, _, .lst h r => .lst (keep_seqL h0 h2 e h) (DpAll.keepL h0 h1 h2 e r)
  | _, _, .tup h r => .tup (keep_seqT h1 h2 e h) (DpAll.keepL h0 h1 h2 e r)
theorem DpAll.keepL {P : HO → Prop} (h0 : ∀ xs, P (.lst xs)) (h1 : ∀ xs, P (.tup xs)) (h2 : ∀ o u, P (.frz o u)) {K : PySem.W.Frag} {H H' : Hp} (e : Keep P H H') : ∀ {vs : List V} {ds : List PyData}, DpAll K H vs ds → DpAll K H' vs ds
  | _, _, .nil => .nil
  | _, _, .cons h r => .cons (Dp.keepL h0 h1 h2 e h) (DpAll.keepL h0 h1 h2 e r)
end
/-! ### dicts of data -/
inductive DdAll (K : PySem.W.Frag) (H : Hp) : List (Key × V) → List (Int × PyData) → Prop
  | nil : DdAll K H [] []
  | cons {k : Int} {v : V} {d : PyData} {kvs : List (Key × V)} {m : List (Int × PyData)} : Dp K H v d → DdAll K H kvs m → DdAll K H ((.inl k, v) :: kvs) ((k, d) :: m)
def Dd (K : PySem.W.Frag) (H : Hp) (a : Addr) (m : List (Int × PyData)) : Prop := ∃ kvs, H a = some (.dK kvs) ∧ DdAll K H kvs m
section
variable {K : PySem.W.Frag} {H H' : Hp} {kvs : List (Key × V)} {m n : List (Int × PyData)} {k : Int} {v : V} {d : PyData} {a : Addr}
theorem DdAll.map (f : ∀ {v d}, Dp K H v d → (∃ k, (k, d) ∈ m) → Dp K H' v d) (h : DdAll K H kvs m) : DdAll K H' kvs m := by
  induction h with
  | nil => exact .nil
  | cons h r ih => exact .cons (f h ⟨_, List.mem_cons_self⟩) (ih fun h ⟨k, e⟩ => f h ⟨k, List.mem_cons_of_mem _ e⟩)
theorem DdAll.go (e : Same H H') (h : DdAll K H kvs m) : DdAll K H' kvs m := h.map fun h _ => Dp.go e h
theorem DdAll.len (h : DdAll K H kvs m) : kvs.length = m.length := by
  induction h with
  | nil => rfl
  | cons _ _ ih => rw [List.length_cons, List.length_cons, ih]
theorem DdAll.val (h : DdAll K H kvs m) (k : Int) : (getA m k = none ∧ valV kvs (.inl k) = none) ∨ ∃ v d, getA m k = some d ∧ valV kvs (.inl k) = some v ∧ Dp K H v d := by
  induction h with
  | nil => exact .inl ⟨rfl, rfl⟩
  | @cons j v d kvs m h r ih =>
    rw [getA_cons]
    by_cases e : j = k
    · rw [if_pos e, valV_pos (congrArg Sum.inl e)]
      exact .inr ⟨v, d, rfl, rfl, h⟩
    · rw [if_neg e, valV_neg (fun z => e (Sum.inl.inj z))]
      exact ih
theorem DdAll.isSome (h : DdAll K H kvs m) (k : Int) : (valV kvs (.inl k)).isSome = (getA m k).isSome := by
  rcases h.val k with ⟨e1, e2⟩ | ⟨v, d, e1, e2, _⟩ <;> rw [e1, e2] <;> rfl
theorem DdAll.app {kvs2 : List (Key × V)} (h : DdAll K H kvs m) (h2 : DdAll K H kvs2 n) : DdAll K H (kvs ++ kvs2) (m ++ n) := by
  induction h with
  | nil => exact h2
  | cons a b ih => exact .cons a ih
theorem DdAll.put (h : DdAll K H kvs m) (hd : Dp K H v d) : DdAll K H (putK kvs (.inl k) v) (putA m k d) := by
  unfold putK putA
  rw [valV_any, any_getA, h.isSome]
  split
  · rename_i c0
    clear c0
    induction h with
    | nil => exact .nil
    | @cons j w e kvs m a b ih =>
      rw [List.map_cons, List.map_cons]
      by_cases c : j = k
      · rw [if_pos (congrArg Sum.inl c), if_pos c]
        exact .cons hd ih
      · rw [if_neg (fun z => c (Sum.inl.inj z)), if_neg c]
        exact .cons a ih
  · exact h.app (.cons hd .nil)
theorem DdAll.drop (h : DdAll K H kvs m) : DdAll K H (dropK kvs (.inl k)) (dropA m k) := by
  unfold dropK dropA
  induction h with
  | nil => exact .nil
  | @cons j w e kvs m a b ih =>
    rw [List.filter_cons, List.filter_cons]
    by_cases c : j = k
    · rw [if_neg (by simp [c]), if_neg (by simp [c])]
      exact ih
    · rw [if_pos (by simp [c]), if_pos (by simp [c])]
      exact .cons a ih
theorem DdAll.keys (h : DdAll K H kvs m) : kvs.map (fun kv => kV kv.1) = (keysA m).map V.int := by
  induction h with
  | nil => rfl
  | cons a b ih =>
    unfold keysA at ih ⊢
    rw [List.map_cons, List.map_cons, List.map_cons, ih]
    rfl
theorem Dd.go (e : Same H H') (h : Dd K H a m) : Dd K H' a m := by
  obtain ⟨kvs, h1, h2⟩ := h
  exact ⟨kvs, e _ _ h1, h2.go e⟩
/-- objects but the one at a stand -/
def Oth (a : Addr) (H H' : Hp) : Prop := ∀ b o, b ≠ a → H b = some o → H' b = some o
theorem Oth.upd {o : HO} : Oth a H (upd H a o) := fun b u n e => by rw [upd_ne n]; exact e
theorem Oth.keep {P : HO → Prop} (e : Oth a H H') (h : ∀ o, P o → H a ≠ some o) : Keep P H H' := fun b o p hb => e b o (fun z => h o p (z ▸ hb)) hb
theorem Oth.same {H0 : Hp} (e : Oth a H H') (s : Same H0 H) (h : H0 a = none) : Same H0 H' := fun b o hb => e b o (ne_of_none hb h) (s b o hb)
theorem Oth.trans {H1 H2 : Hp} (e : Oth a H H1) (f : Oth a H1 H2) : Oth a H H2 := fun b o n h => f b o n (e b o n h)
theorem Oth.of (s : Same H H') : Oth a H H' := fun b o _ h => s b o h
def notD : HO → Prop
  | .dK _ => False
  | _ => True
def notM : HO → Prop
  | .dK _ => False
  | .lst _ => False
  | _ => True
theorem Dp.oth {kvs0 : List (Key × V)} (h0 : H a = some (.dK kvs0)) (e : Oth a H H') (h : Dp K H v d) : Dp K H' v d :=
  Dp.keepL (P := notD) (fun _ => trivial) (fun _ => trivial) (fun _ _ => trivial) (e.keep fun o p z => by rw [h0] at z; cases z; exact p) h
theorem DpAll.oth {kvs0 : List (Key × V)} {vs : List V} {ds : List PyData} (h0 : H a = some (.dK kvs0)) (e : Oth a H H') (h : DpAll K H vs ds) : DpAll K H' vs ds :=
  DpAll.keepL (P := notD) (fun _ => trivial) (fun _ => trivial) (fun _ _ => trivial) (e.keep fun o p z => by rw [h0] at z; cases z; exact p) h
theorem Dd.oth {kvs0 : List (Key × V)} {b : Addr} (h0 : H a = some (.dK kvs0)) (e : Oth a H H') (n : b ≠ a) (h : Dd K H b m) : Dd K H' b m := by
  obtain ⟨kvs, h1, h2⟩ := h
  exact ⟨kvs, e _ _ n h1, h2.map fun h _ => Dp.oth h0 e h⟩
/-- behind a list that changes -/
theorem Dp.othL {xs0 : List V} (h0 : H a = some (.lst xs0)) (e : Oth a H H') (s : strictD d = true) (h : Dp K H v d) : Dp K H' v d :=
  Dp.keep (P := fixO) (fun _ => trivial) (fun _ _ => trivial) (e.keep fun o p z => by rw [h0] at z; cases z; exact p) h s
theorem DpAll.othL {xs0 : List V} {vs : List V} {ds : List PyData} (h0 : H a = some (.lst xs0)) (e : Oth a H H') (s : strictAll ds = true) (h : DpAll K H vs ds) : DpAll K H' vs ds :=
  DpAll.keep (P := fixO) (fun _ => trivial) (fun _ _ => trivial) (e.keep fun o p z => by rw [h0] at z; cases z; exact p) h s
theorem Dd.othL {xs0 : List V} {b : Addr} (h0 : H a = some (.lst xs0)) (e : Oth a H H') (s : ∀ p ∈ m, strictD p.2 = true) (h : Dd K H b m) : Dd K H' b m := by
  obtain ⟨kvs, h1, h2⟩ := h
  exact ⟨kvs, e _ _ (ne_of h1 h0 (by intro z; cases z)) h1, h2.map fun h ⟨k, hk⟩ => Dp.othL h0 e (s _ hk) h⟩
end
/-! ### steps -/
section
variable {K : PySem.W.Frag} {σ : L2.St} {H : Hp} {Q : VK} {D : Ends} {m : List (Int × PyData)} {k : Int} {v x y : V} {d : PyData} {a : Addr} {td ty tv tx : TE} {N : Hp → Prop}
def rDGet : R2 := fun x y H Q => ∃ a v, x = .ref a ∧ DGet H a y (some v) ∧ Q v H
def rDIn : R2 := fun y x H Q => ∃ a o, x = .ref a ∧ DGet H a y o ∧ Q (.bl o.isSome) H
def rDNotIn : R2 := fun y x H Q => ∃ a o, x = .ref a ∧ DGet H a y o ∧ Q (.bl (!o.isSome)) H
def rDPut (v x y : V) (H : Hp) (N : Hp → Prop) : Prop := ∃ a H4, x = .ref a ∧ DPut H a y v H4 ∧ N H4
def rDGet1 (x : V) (ty : TE) (σ : L2.St) (H : Hp) (Q : VK) : Prop := ∃ a, x = .ref a ∧ IsD H a ∧ ty σ H fun y H2 => ∃ o, DGet H2 a y o ∧ Q (o.getD .non) H2
theorem g_dget (q : td σ H fun x H1 => ty σ H1 fun y H2 => rDGet x y H2 Q) : tDGet td ty σ H Q := q
theorem g_din (q : ty σ H fun y H1 => td σ H1 fun x H2 => rDIn y x H2 Q) : tDIn ty td σ H Q := q
theorem g_dnin (q : ty σ H fun y H1 => td σ H1 fun x H2 => rDNotIn y x H2 Q) : tDNotIn ty td σ H Q := q
theorem g_dput (q : tv σ H fun v H1 => td σ H1 fun x H2 => ty σ H2 fun y H3 => rDPut v x y H3 (D.nx σ)) : sDPut td ty tv D σ H := q
theorem g_dget1 (q : td σ H fun x H1 => rDGet1 x ty σ H1 Q) : tDGet1 td ty σ H Q := q
theorem DdAll.dget {kvs : List (Key × V)} (h : H a = some (.dK kvs)) (k : Int) : DGet H a (.int k) (valV kvs (.inl k)) := .inl ⟨kvs, .inl k, .inl h, rfl, rfl⟩
theorem g_rDGet (h : Dd K H a m) (e : getA m k = some d) (q : ∀ v, Dp K H v d → Q v H) : rDGet (.ref a) (.int k) H Q := by
  obtain ⟨kvs, h1, h2⟩ := h
  rcases h2.val k with ⟨e1, _⟩ | ⟨v, d', e1, e2, hd⟩
  · rw [e] at e1
    cases e1
  · rw [e] at e1
    cases Option.some.inj e1
    exact ⟨a, v, rfl, by rw [← e2]; exact DdAll.dget h1 k, q v hd⟩
theorem g_rDIn (h : Dd K H a m) (q : Q (.bl (getA m k).isSome) H) : rDIn (.int k) (.ref a) H Q := by
  obtain ⟨kvs, h1, h2⟩ := h
  exact ⟨a, _, rfl, DdAll.dget h1 k, by rw [h2.isSome]; exact q⟩
theorem g_rDNotIn (h : Dd K H a m) (q : Q (.bl (!(getA m k).isSome)) H) : rDNotIn (.int k) (.ref a) H Q := by
  obtain ⟨kvs, h1, h2⟩ := h
  exact ⟨a, _, rfl, DdAll.dget h1 k, by rw [h2.isSome]; exact q⟩
def optD : Option PyData → PyData
  | some d => d
  | none => .none
theorem g_rDGet1 (h : Dd K H a m) (hy : ∀ R : VK, R (.int k) H → ty σ H R) (q : ∀ v, Dp K H v (optD (getA m k)) → Q v H) : rDGet1 (.ref a) ty σ H Q := by
  obtain ⟨kvs, h1, h2⟩ := h
  refine ⟨a, rfl, .inl ⟨kvs, .inl h1⟩, hy _ ⟨_, DdAll.dget h1 k, ?_⟩⟩
  rcases h2.val k with ⟨e1, e2⟩ | ⟨v, d', e1, e2, hd⟩
  · rw [e2]
    refine q _ ?_
    rw [e1]
    exact .non
  · rw [e2]
    refine q _ ?_
    rw [e1]
    exact hd
theorem g_rDPut (h : Dd K H a m) (hd : Dp K H v d) (hl : m.length ≤ 100000) (q : ∀ H1, Oth a H H1 → Dd K H1 a (putA m k d) → N H1) : rDPut v (.ref a) (.int k) H N := by
  obtain ⟨kvs, h1, h2⟩ := h
  refine ⟨a, _, rfl, .inl ⟨kvs, .inl k, h1, rfl, Nat.lt_of_le_of_lt (by rw [h2.len]; exact hl) (by decide), rfl⟩, q _ Oth.upd ⟨_, upd_same, ?_⟩⟩
  exact (h2.put hd).map fun h _ => Dp.oth h1 Oth.upd h
/-- d.pop(k, x) -/
def rDPop2 (x : V) (ty tx : TE) (σ : L2.St) (H : Hp) (Q : VK) : Prop := ∃ a, x = .ref a ∧ IsD H a ∧ ty σ H fun y H2 => tx σ H2 fun z H3 => ∃ kvs k, H3 a = some (.dK kvs) ∧ y = kV k ∧
  (∀ v, valV kvs k = some v → Q v (upd H3 a (.dK (dropK kvs k)))) ∧ (valV kvs k = none → Q z H3)
theorem g_dpop2 (q : td σ H fun x H1 => rDPop2 x ty tx σ H1 Q) : tDPop2 td ty tx σ H Q := q
theorem dropA_none {β : Type} {m : List (Int × β)} {k : Int} (h : getA m k = none) : dropA m k = m := by
  unfold dropA
  rw [List.filter_eq_self]
  intro p hp
  refine decide_eq_true fun e => ?_
  have : (getA m k).isSome = true := mem_keysA.mp (List.mem_map.mpr ⟨p, hp, e⟩)
  rw [h] at this
  cases this
theorem g_rDPop2 {z : V} (h : Dd K H a m) (hy : ∀ R : VK, R (.int k) H → ty σ H R) (hx : ∀ R : VK, R z H → tx σ H R) (q : ∀ u H1, Oth a H H1 → Dd K H1 a (dropA m k) → Q u H1) : rDPop2 (.ref a) ty tx σ H Q := by
  obtain ⟨kvs, h1, h2⟩ := h
  refine ⟨a, rfl, .inl ⟨kvs, .inl h1⟩, hy _ (hx _ ⟨kvs, .inl k, h1, rfl, fun v e => ?_, fun e => ?_⟩)⟩
  · exact q v _ Oth.upd ⟨_, upd_same, h2.drop.map fun h _ => Dp.oth h1 Oth.upd h⟩
  · have e2 : getA m k = none := by
      have := h2.isSome k
      rw [e] at this
      cases e3 : getA m k with
      | none => rfl
      | some x => rw [e3] at this; cases this
    refine q z H (fun b o _ h => h) ?_
    rw [dropA_none e2]
    exact ⟨kvs, h1, h2⟩
theorem g_dictDd (h : Dd K H a m) (q : ∀ p H1, H p = none → Same H H1 → Dd K H1 p m → Q (.ref p) H1) : rDictD [.ref a] H Q := by
  obtain ⟨kvs, h1, h2⟩ := h
  exact g_dictD (.inl h1) fun p H1 np s e => q p H1 np s ⟨kvs, e, h2.go s⟩
theorem g_listDd (h : Dd K H a m) (q : ∀ p H1, H p = none → Same H H1 → H1 p = some (.lst ((keysA m).map V.int)) → Q (.ref p) H1) : rListD [.ref a] H Q := by
  obtain ⟨kvs, h1, h2⟩ := h
  exact g_listD (.inl h1) fun p H1 np s e => q p H1 np s (by rw [← h2.keys]; exact e)
theorem g_lenDd (h : Dd K H a m) (q : Q (.int m.length) H) : rLenD [.ref a] H Q := by
  obtain ⟨kvs, h1, h2⟩ := h
  exact g_lenD (.inl h1) (by rw [h2.len]; exact q)
theorem g_dnewDd (q : ∀ p H1, H p = none → Same H H1 → Dd K H1 p [] → Q (.ref p) H1) : tDNewK σ H Q := g_dnewK fun p H1 np s e => q p H1 np s ⟨[], e, .nil⟩
end
/-! ### == of dicts of data -/
def eqA (m n : List (Int × PyData)) : Bool := decide (m.length = n.length) && m.all fun p => match getA n p.1 with
  | some e => PyData.eqv p.2 e
  | none => false
def fitA (m : List (Int × PyData)) : Prop := ∀ p ∈ m, PyData.canLay0 p.2 = true ∧ PyData.depth p.2 ≤ 40
def rEqDD (K : PySem.W.Frag) : R2 := fun x y H Q => ∃ a b m n, x = .ref a ∧ y = .ref b ∧ Dd K H a m ∧ Dd K H b n ∧ fitA m ∧ fitA n ∧ Q (.bl (eqA m n)) H
def rNeDD (K : PySem.W.Frag) : R2 := fun x y H Q => ∃ a b m n, x = .ref a ∧ y = .ref b ∧ Dd K H a m ∧ Dd K H b n ∧ fitA m ∧ fitA n ∧ Q (.bl (!eqA m n)) H
section
variable {X : Cx} {pins : List (Addr × Obj)} {σ : L2.St} {H : Hp} {s : Shared}
theorem hits_dd (I : Inv X pins σ H s) {A : Around} (hu : A.units + 40 < cLine) {ls : List (Key × V)} {vb : List (Key × Value)} {n : List (Int × PyData)} (rb : KV ls vb) (db : DdAll X.K H ls n) (fn : fitA n) :
    ∀ {ks : List (Key × V)} {va : List (Key × Value)} {m : List (Int × PyData)}, KV ks va → DdAll X.K H ks m → fitA m → PySem.W.KeqHits A s vb va (m.all fun p => match getA n p.1 with
      | some e => PyData.eqv p.2 e
      | none => false) := by
  intro ks va m t r fm
  induction r generalizing va with
  | nil =>
    unfold KV at t
    cases t
    exact .nil
  | @cons k v d kvs m hd r ih =>
    unfold KV at t
    cases t with
    | @cons _ q _ l2 h t =>
    obtain ⟨h1, h2⟩ := h
    obtain ⟨key, u⟩ := q
    have h1' : Sum.inl k = key := h1
    subst h1'
    rw [List.all_cons]
    have rr : RelO (valV ls (.inl k)) (valueAt vb (.inl k)) := rb.val _
    have ih := ih t fun p hp => fm p (List.mem_cons_of_mem _ hp)
    rcases db.val k with ⟨e1, e2⟩ | ⟨w, e, e1, e2, he⟩
    · rw [e2] at rr
      have e3 : valueAt vb (Sum.inl k) = none := by
        cases e : valueAt vb (Sum.inl k) with
        | none => rfl
        | some x => rw [e] at rr; cases rr
      dsimp only
      rw [e1]
      exact .miss e3
    · rw [e2] at rr
      obtain ⟨y, hy, ry⟩ := rr.some_of
      dsimp only
      rw [e1]
      have f1 := fm _ List.mem_cons_self
      have f2 := fn _ (getA_mem e1)
      obtain ⟨as, r1⟩ := Dp.reads I d v u hd h2
      obtain ⟨bs, r2⟩ := Dp.reads I e w y he ry
      exact .hit hy (SeqAt.eqAt_reads d e A s u y as bs r1 r2 f1.1 f2.1 (by have : min d.depth e.depth ≤ d.depth := Nat.min_le_left _ _; have := f1.2; dsimp only at this; omega)) ih
/-- the two compared, by their tables and their data -/
theorem eq_parts (I : Inv X pins σ H s) {a b : Addr} {m n : List (Int × PyData)} (ha : Dd X.K H a m) (hb : Dd X.K H b n) (fm : fitA m) (fn : fitA n) (hu : X.A.units + 64 < cLine) :
    ∃ va vb : List (Key × Value), (a == sysModules) = false ∧ (b == sysModules) = false ∧ s.heap.DictOf (mixKind X.prog X.w) a va ∧ s.heap.DictOf (mixKind X.prog X.w) b vb ∧ va.length = m.length ∧ vb.length = n.length ∧
      PySem.W.KeqHits X.A.in1 s vb va (m.all fun p => match getA n p.1 with
        | some e => PyData.eqv p.2 e
        | none => false) := by
  obtain ⟨ks, ea, hm⟩ := ha
  obtain ⟨ls, eb, hn⟩ := hb
  obtain ⟨-, xa, va, ra, qa⟩ := dk_of I.hok ea
  obtain ⟨-, xb, vb, rb, qb⟩ := dk_of I.hok eb
  refine ⟨va, vb, xa, xb, qa, qb, ?_, ?_, hits_dd I (by show X.A.units + 1 + 40 < cLine; omega) rb hn fn ra hm fm⟩
  · rw [← ra.length, hm.len]
  · rw [← rb.length, hn.len]
theorem op_eqDD (hu : X.A.units + 64 < cLine) : OpR X (compareOp .Eq) (rEqDD X.K) := fun pins s σ H x y v u Q I rx ry h => by
  obtain ⟨a, b, m, n, rfl, rfl, ha, hb, fm, fn, q⟩ := h
  obtain ⟨va, vb, xa, xb, qa, qb, la, lb, hk⟩ := eq_parts I ha hb fm fn hu
  cases (show v = Value.ref a from rx)
  cases (show u = Value.ref b from ry)
  refine PySem.W.keq_eq xa xb qa qb (by omega) (fun _ => hk) (fin_bl I q ?_)
  unfold eqA
  rw [la, lb]
  rfl
theorem op_neDD (hu : X.A.units + 64 < cLine) : OpR X (compareOp .NotEq) (rNeDD X.K) := fun pins s σ H x y v u Q I rx ry h => by
  obtain ⟨a, b, m, n, rfl, rfl, ha, hb, fm, fn, q⟩ := h
  obtain ⟨va, vb, xa, xb, qa, qb, la, lb, hk⟩ := eq_parts I ha hb fm fn hu
  cases (show v = Value.ref a from rx)
  cases (show u = Value.ref b from ry)
  refine PySem.W.keq_ne xa xb qa qb (by omega) (fun _ => hk) (fin_bl I q ?_)
  unfold eqA
  rw [la, lb]
  rfl
end
section
variable {K : PySem.W.Frag} {H : Hp} {Q : VK} {m n : List (Int × PyData)} {a b : Addr}
theorem g_eqDD (ha : Dd K H a m) (hb : Dd K H b n) (fm : fitA m) (fn : fitA n) (q : Q (.bl (eqA m n)) H) : rEqDD K (.ref a) (.ref b) H Q := ⟨a, b, m, n, rfl, rfl, ha, hb, fm, fn, q⟩
theorem g_neDD (ha : Dd K H a m) (hb : Dd K H b n) (fm : fitA m) (fn : fitA n) (q : Q (.bl (!eqA m n)) H) : rNeDD K (.ref a) (.ref b) H Q := ⟨a, b, m, n, rfl, rfl, ha, hb, fm, fn, q⟩
end
/-- the same table: equal -/
theorem eqA_of_get {m n : List (Int × PyData)} (hm : (keysA m).Nodup) (hn : (keysA n).Nodup) (sm : ∀ p ∈ m, PyData.canLay0 p.2 = true) (h : ∀ k, getA m k = getA n k) : eqA m n = true := by
  unfold eqA
  rw [Bool.and_eq_true, decide_eq_true_iff, List.all_eq_true]
  refine ⟨length_of_get hm hn fun k => by rw [h], fun p hp => ?_⟩
  rw [← h, getA_of_mem hm hp]
  exact SeqAt.eqv_refl _ (sm p hp)
end My

set_option Elab.async false
set_option linter.all false
set_option maxRecDepth 100000
set_option maxHeartbeats 1000000
/-! lists that grow; blocks, disks -/
namespace My
open PySem L2
section
variable {K : PySem.W.Frag} {σ : L2.St} {H H' : Hp} {Q : VK} {l a : Addr} {xs : List V} {y : V} {ta : TE} {v : V} {d : PyData}
theorem g_bm0 {T : String} {f : V → List V → Hp → VK → Prop} (q : ta σ H fun x H1 => tyV K T x H1 ∧ f x [] H1 Q) : tBM0 K T f ta σ H Q := q

theorem g_appendO (h : H l = some (.lst xs)) (hl : xs.length ≤ 100000) (q : ∀ H1, Oth l H H1 → H1 l = some (.lst (xs ++ [y])) → Q .non H1) : rAppend (.ref l) [y] H Q :=
  ⟨l, xs, y, rfl, rfl, h, Nat.lt_of_le_of_lt hl (by decide), q _ Oth.upd upd_same⟩
theorem g_clear (h : H l = some (.lst xs)) (q : ∀ H1, Oth l H H1 → H1 l = some (.lst []) → Q .non H1) : rClear (.ref l) [] H Q :=
  ⟨l, xs, rfl, rfl, h, q _ Oth.upd upd_same⟩
def stillP : HO → Prop := fun o => ∀ xs, o ≠ .lst xs
theorem Dp.still (e : Still H H') (s : strictD d = true) (h : Dp K H v d) : Dp K H' v d :=
  Dp.keep (P := stillP) (fun _ _ z => nomatch z) (fun _ _ _ z => nomatch z) (fun b o p hb => e b o p hb) h s
theorem kit_dd {K : PySem.W.Frag} : PySem.W.kitOne K (.type "dict") (.type "dict") = some true := kit_ty (by decide +kernel)
theorem g_isiD {m : List (Int × PyData)} (h : Dd K H a m) (q : Q (.bl true) H) : rIsi K [.ref a, .ty "dict"] H Q := by
  obtain ⟨kvs, h1, _⟩ := h
  exact g_isi (.ty "dict") (.base (.dK h1)) kit_dd q
end
/-! ### blocks -/
def layA (m : List (Int × PyData)) (n : Int) (b : PyData) : List (Int × PyData) := match b with
  | .none => dropA m n
  | _ => putA m n b
def okD (d : PyData) : Prop := strictD d = true ∧ PyData.depth d ≤ 20
def Blk (m : List (Int × PyData)) : Prop := (keysA m).Nodup ∧ ∀ p ∈ m, okD p.2
theorem Blk.nil : Blk [] := ⟨by unfold keysA; exact List.nodup_nil, fun p h => nomatch h⟩
theorem Blk.put {m : List (Int × PyData)} {n : Int} {b : PyData} (h : Blk m) (hb : okD b) : Blk (putA m n b) := ⟨nodup_put h.1, all_put h.2 hb⟩
theorem Blk.drop {m : List (Int × PyData)} {n : Int} (h : Blk m) : Blk (dropA m n) := ⟨nodup_drop h.1, all_drop h.2⟩
theorem Blk.lay {m : List (Int × PyData)} {n : Int} {b : PyData} (h : Blk m) (hb : okD b) : Blk (layA m n b) := by
  unfold layA
  split
  · exact h.drop
  · exact h.put hb
theorem Blk.fit {m : List (Int × PyData)} (h : Blk m) : fitA m := fun p hp => ⟨strict_lay (h.2 p hp).1, Nat.le_trans (h.2 p hp).2 (by decide)⟩
theorem Blk.strict {m : List (Int × PyData)} (h : Blk m) : ∀ p ∈ m, strictD p.2 = true := fun p hp => (h.2 p hp).1
theorem length_lay {m : List (Int × PyData)} {n : Int} {b : PyData} : (layA m n b).length ≤ m.length + 1 := by
  unfold layA
  split
  · exact Nat.le_trans length_drop (by omega)
  · exact length_put
theorem getA_lay (m : List (Int × PyData)) (n j : Int) (b : PyData) : getA (layA m n b) j = if j = n then (match b with | .none => none | _ => some b) else getA m j := by
  unfold layA
  split
  · rw [getA_drop]
  · rw [getA_put]
theorem eqA_blk {m n : List (Int × PyData)} (hm : Blk m) (hn : Blk n) (h : ∀ k, getA m k = getA n k) : eqA m n = true :=
  eqA_of_get hm.1 hn.1 (fun p hp => strict_lay (hm.2 p hp).1) h
theorem eqA_refl {m : List (Int × PyData)} (hm : Blk m) : eqA m m = true := eqA_blk hm hm fun _ => rfl
/-- the list of them -/
def okL (ds : List PyData) : Prop := ∀ d ∈ ds, okD d
theorem okL.strict {ds : List PyData} (h : okL ds) : strictAll ds = true := strictAll_iff.mpr fun d hd => (h d hd).1
theorem okL.fit {ds : List PyData} (h : okL ds) : ∀ d ∈ ds, PyData.canLay0 d = true ∧ PyData.depth d ≤ 20 := fun d hd => ⟨strict_lay (h d hd).1, (h d hd).2⟩
theorem okL.snoc {ds : List PyData} {d : PyData} (h : okL ds) (hd : okD d) : okL (ds ++ [d]) := fun e he => by
  rcases List.mem_append.mp he with he | he
  · exact h e he
  · rw [List.mem_singleton.mp he]; exact hd
theorem Dp.notNone {K : PySem.W.Frag} {H : Hp} {v : V} {d : PyData} (h : Dp K H v d) : decide (v = V.non) = (match d with | .none => true | _ => false) := by
  cases h <;> first | rfl | (exact decide_eq_true rfl) | (exact decide_eq_false (by intro z; cases z))
/-! ### deeds -/
def logW : Str := Str.ofString "log"
def writeW : Str := Str.ofString "write"
def clearW : Str := Str.ofString "clear"
def blockW : Str := Str.ofString "block"
def keptW : Str := Str.ofString "kept"
inductive Deed : PyData → Prop
  | log (e : PyData) : Deed (.tuple [.str logW, e])
  | write (n : Int) (b : PyData) : Deed (.tuple [.str writeW, .int n, b])
  | clear : Deed (.tuple [.str clearW])
def doneB (m : List (Int × PyData)) : PyData → List (Int × PyData)
  | .tuple [.str _, .int n, b] => layA m n b
  | _ => m
def doneL (es : List PyData) : PyData → List PyData
  | .tuple [.str _, .int _, _] => es
  | .tuple [.str _, e] => es ++ [e]
  | _ => []
def sp_lay (K : PySem.W.Frag) : Sp := fun vs H Q _ => ∃ (a : Addr) (m : List (Int × PyData)) (n : Int) (x : V) (b : PyData), vs = [.ref a, .int n, x] ∧ Dd K H a m ∧ Dp K H x b ∧ m.length ≤ 100000 ∧
  ∀ H', Oth a H H' → Dd K H' a (layA m n b) → Q .non H'
section
variable {K : PySem.W.Frag} {σ : L2.St} {H : Hp} {Q : VK} {D : Ends} {t u : TS} {te tl : TE} {tt : TT} {g : TG} {vs : List Nat} {a : Addr} {xs : List V} {ta : TA}
theorem g_cutS (h : t { D with nx := u D } σ H) : Evl.tCut t u D σ H := ⟨u D, h, fun _ _ h => h⟩
theorem evn_to {ds : List PyData} (h : EvN K te σ H ds) (k : ∀ p xs H1, H p = none → Same H H1 → H1 p = some (.lst xs) → DpAll K H1 xs ds → Q (.ref p) H1) : te σ H Q := h H (L2.Same.refl H) _ k
/-! walks, opened -/
def forR (g : TG) (tb : TS) (D : Ends) (σ : L2.St) : It → Hp → Prop := fun J H1 => tFor (fun _ H R => R J H) g tb D σ H1
theorem g_for {wi : TI} (q : wi σ H (forR g t D σ)) : tFor wi g t D σ H := q
def lcR (g : TG) (tt : TT) (te : TE) (vs : List Nat) (σ : L2.St) (Q : VK) : It → Hp → Prop := fun J H1 => tLc (fun _ H R => R J H) g tt te vs σ H1 Q
theorem g_lcO {wi : TI} (q : wi σ H (lcR g tt te vs σ Q)) : tLc wi g tt te vs σ H Q := q
def wL (K : PySem.W.Frag) (R : It → Hp → Prop) : VK := fun x H1 => ∃ a, x = .ref a ∧ (∃ xs, SqL K H1 a xs) ∧ R (Itl K a) H1
def wT (K : PySem.W.Frag) (R : It → Hp → Prop) : VK := fun x H1 => ∃ a, x = .ref a ∧ (∃ xs, SqT K H1 a xs) ∧ R (Itt K a) H1
def wR1 (R : It → Hp → Prop) : List V → Hp → Prop := fun vs H1 => ∃ j : Int, vs = [.int j] ∧ -(2 ^ 62) ≤ j ∧ j < 2 ^ 62 ∧ R (Itr 0 j.toNat) H1
theorem g_wL {R : It → Hp → Prop} (q : tl σ H (wL K R)) : iList K tl σ H R := q
theorem g_wT {R : It → Hp → Prop} (q : tl σ H (wT K R)) : iTup K tl σ H R := q
theorem g_wR1 {R : It → Hp → Prop} (q : ta σ H (wR1 R)) : iRng1 ta σ H R := q
theorem g_forLk (Pv : Nat → L2.St → Hp → Prop) (hx : SqL K H a xs) (h0 : Pv 0 σ H) (hl : ∀ i σ' H', i ≤ xs.length → Pv i σ' H' → SqL K H' a xs)
    (hs : ∀ i x σ' H', xs[i]? = some x → Pv i σ' H' → g x σ' H' fun σ2 H2 => t { D with nx := Pv (i + 1), ct := Pv (i + 1), bk := D.nx } σ2 H2) (hd : ∀ σ' H', Pv xs.length σ' H' → D.nx σ' H') : wL K (forR g t D σ) (.ref a) H :=
  ⟨a, rfl, ⟨xs, hx⟩, for_list Pv h0 hl hs hd⟩
theorem g_forTk (Pv : Nat → L2.St → Hp → Prop) (hx : SqT K H a xs) (h0 : Pv 0 σ H) (hl : ∀ i σ' H', i ≤ xs.length → Pv i σ' H' → SqT K H' a xs)
    (hs : ∀ i x σ' H', xs[i]? = some x → Pv i σ' H' → g x σ' H' fun σ2 H2 => t { D with nx := Pv (i + 1), ct := Pv (i + 1), bk := D.nx } σ2 H2) (hd : ∀ σ' H', Pv xs.length σ' H' → D.nx σ' H') : wT K (forR g t D σ) (.ref a) H :=
  ⟨a, rfl, ⟨xs, hx⟩, for_tup Pv h0 hl hs hd⟩
theorem g_forR1k {j : Nat} {n : Int} (Pv : Nat → L2.St → Hp → Prop) (hn : -1000000 ≤ n ∧ n ≤ 1000000) (h0 : Pv 0 σ H)
    (hs : ∀ (i : Nat) σ' H', (i : Int) < n → Pv i σ' H' → t { D with nx := Pv (i + 1), ct := Pv (i + 1), bk := D.nx } (σ'.set j (some (.int (i : Int)))) H') (hd : ∀ σ' H', Pv n.toNat σ' H' → D.nx σ' H') : wR1 (forR (gName j) t D σ) [.int n] H :=
  g_forR1 (ta := fun _ H R => R [.int n] H) Pv (fun R r => r) hn h0 hs hd
theorem g_lcR1k {j : Nat} {n : Int} (Rel : Nat → V → Hp → Prop) (hn : -40000 ≤ n ∧ n ≤ 40000)
    (hw : ∀ x, wipe ((wipe σ vs).set j (some x)) vs = wipe σ vs) (hst : ∀ i y H1 H2, Still H1 H2 → Rel i y H1 → Rel i y H2)
    (he : ∀ (i : Nat) (H1 : Hp) (QE : VK), (i : Int) < n → Same H H1 → (∀ y H2, Same H1 H2 → Rel i y H2 → QE y H2) → te ((wipe σ vs).set j (some (.int (i : Int)))) H1 QE)
    (q : ∀ p ys H1, H p = none → Same H H1 → H1 p = some (.lst ys) → ys.length = n.toNat → (∀ i y, ys[i]? = some y → Rel i y H1) → Q (.ref p) H1) :
    wR1 (lcR (gName j) tYes te vs σ Q) [.int n] H :=
  g_lcR1 (ta := fun _ H R => R [.int n] H) Rel (fun R r => r) hn hw hst he q
theorem g_lcLk {j : Nat} (Rel : Nat → V → Hp → Prop) (hx : SqL K H a xs) (hn : xs.length ≤ 40000)
    (hw : ∀ x, wipe ((wipe σ vs).set j (some x)) vs = wipe σ vs) (hst : ∀ i y H1 H2, Still H1 H2 → Rel i y H1 → Rel i y H2)
    (he : ∀ (i : Nat) (x : V) (H1 : Hp) (QE : VK), xs[i]? = some x → Same H H1 → (∀ y H2, Same H1 H2 → Rel i y H2 → QE y H2) → te ((wipe σ vs).set j (some x)) H1 QE)
    (q : ∀ p ys H1, H p = none → Same H H1 → H1 p = some (.lst ys) → ys.length = xs.length → (∀ i y, ys[i]? = some y → Rel i y H1) → Q (.ref p) H1) :
    wL K (lcR (gName j) tYes te vs σ Q) (.ref a) H :=
  g_lcL (tl := fun _ H R => R (.ref a) H) Rel (fun R r => r) hx hn hw hst he q
theorem g_lcTk {j : Nat} (Rel : Nat → V → Hp → Prop) (hx : SqT K H a xs) (hn : xs.length ≤ 40000)
    (hw : ∀ x, wipe ((wipe σ vs).set j (some x)) vs = wipe σ vs) (hst : ∀ i y H1 H2, Still H1 H2 → Rel i y H1 → Rel i y H2)
    (he : ∀ (i : Nat) (x : V) (H1 : Hp) (QE : VK), xs[i]? = some x → Same H H1 → (∀ y H2, Same H1 H2 → Rel i y H2 → QE y H2) → te ((wipe σ vs).set j (some x)) H1 QE)
    (q : ∀ p ys H1, H p = none → Same H H1 → H1 p = some (.lst ys) → ys.length = xs.length → (∀ i y, ys[i]? = some y → Rel i y H1) → Q (.ref p) H1) :
    wT K (lcR (gName j) tYes te vs σ Q) (.ref a) H :=
  g_lcT (tl := fun _ H R => R (.ref a) H) Rel (fun R r => r) hx hn hw hst he q
end
end My

set_option Elab.async false
set_option linter.all false
set_option maxRecDepth 100000
set_option maxHeartbeats 1000000
/-! logs -/
namespace My
open PySem L2
abbrev BT := List (Int × PyData)
/-- an entry: a block (or none) for a number, or the mark -/
abbrev Ent := Option (Int × PyData)
def entD : Ent → PyData
  | some p => .tuple [.str blockW, .int p.1, p.2]
  | none => .tuple [.str keptW]
def layAll (m : BT) (g : BT) : BT := g.foldl (fun m p => layA m p.1 p.2) m
def stepR (s : BT × BT) : Ent → BT × BT
  | some p => (s.1, s.2 ++ [p])
  | none => (layAll s.1 s.2, [])
def redoS (m : BT) (E : List Ent) : BT × BT := E.foldl stepR (m, [])
def redoA (m : BT) (E : List Ent) : BT := (redoS m E).1
def okE (E : List Ent) : Prop := ∀ p, some p ∈ E → okD p.2
theorem okD_tup {ds : List PyData} (h : ∀ d ∈ ds, strictD d = true ∧ PyData.depth d ≤ 19) : okD (.tuple ds) := by
  refine ⟨by simp only [strictD]; exact strictAll_iff.mpr fun d hd => (h d hd).1, ?_⟩
  simp only [PyData.depth]
  have := depthAll_le (n := 19) fun d hd => (h d hd).2
  omega
theorem strok_block : PyData.strOk blockW = true := by decide +kernel
theorem strok_kept : PyData.strOk keptW = true := by decide +kernel
theorem entD_strict {e : Ent} (h : ∀ p, e = some p → okD p.2) : strictD (entD e) = true := by
  cases e with
  | none => simp [entD, strictD, strictAll, strok_kept]
  | some p => simp [entD, strictD, strictAll, strok_block, (h p rfl).1]
theorem entD_fit {e : Ent} (h : ∀ p, e = some p → okD p.2) : PyData.canLay0 (entD e) = true ∧ PyData.depth (entD e) ≤ 21 := by
  refine ⟨strict_lay (entD_strict h), ?_⟩
  cases e with
  | none => simp [entD, PyData.depth, PyData.depthAll]
  | some p =>
    have := (h p rfl).2
    simp [entD, PyData.depth, PyData.depthAll]
    omega
theorem okE.fit {E : List Ent} (h : okE E) : ∀ d ∈ E.map entD, PyData.canLay0 d = true ∧ PyData.depth d ≤ 21 := fun d hd => by
  obtain ⟨e, he, rfl⟩ := List.mem_map.mp hd
  exact entD_fit fun p ep => h p (ep ▸ he)
theorem okE.strict {E : List Ent} (h : okE E) : strictAll (E.map entD) = true := strictAll_iff.mpr fun d hd => by
  obtain ⟨e, he, rfl⟩ := List.mem_map.mp hd
  exact entD_strict fun p ep => h p (ep ▸ he)
theorem layAll_blk : ∀ {g m : BT}, Blk m → (∀ p ∈ g, okD p.2) → Blk (layAll m g)
  | [], m, h, _ => h
  | p :: g, m, h, hg => layAll_blk (g := g) (h.lay (hg p List.mem_cons_self)) fun q hq => hg q (List.mem_cons_of_mem _ hq)
theorem layAll_len : ∀ {g m : BT}, (layAll m g).length ≤ m.length + g.length
  | [], m => Nat.le_refl _
  | p :: g, m => by
    have h1 := layAll_len (g := g) (m := layA m p.1 p.2)
    have h2 := length_lay (m := m) (n := p.1) (b := p.2)
    show (layAll (layA m p.1 p.2) g).length ≤ _
    rw [List.length_cons]
    omega
theorem layAll_app {m g h : BT} : layAll m (g ++ h) = layAll (layAll m g) h := List.foldl_append ..
theorem redoS_snoc {m : BT} {E : List Ent} {e : Ent} : redoS m (E ++ [e]) = stepR (redoS m E) e := List.foldl_append ..
/-- what stands while it is redone -/
theorem redoS_ok {m : BT} (bm : Blk m) : ∀ {E : List Ent}, okE E → Blk (redoS m E).1 ∧ (∀ p ∈ (redoS m E).2, okD p.2) ∧ (redoS m E).1.length + (redoS m E).2.length ≤ m.length + E.length := by
  intro E hE
  have go : ∀ (E : List Ent) (s : BT × BT), okE E → Blk s.1 → (∀ p ∈ s.2, okD p.2) → Blk (E.foldl stepR s).1 ∧ (∀ p ∈ (E.foldl stepR s).2, okD p.2) ∧ (E.foldl stepR s).1.length + (E.foldl stepR s).2.length ≤ s.1.length + s.2.length + E.length := by
    intro E
    induction E with
    | nil => intro s _ h1 h2; exact ⟨h1, h2, Nat.le_refl _⟩
    | cons e E ih =>
      intro s hE h1 h2
      rw [List.foldl_cons]
      have hE' : okE E := fun p hp => hE p (List.mem_cons_of_mem _ hp)
      cases e with
      | none =>
        obtain ⟨a, b, c⟩ := ih (stepR s none) hE' (layAll_blk h1 h2) (fun p hp => nomatch hp)
        refine ⟨a, b, Nat.le_trans c ?_⟩
        have := layAll_len (g := s.2) (m := s.1)
        show (layAll s.1 s.2).length + 0 + _ ≤ _
        rw [List.length_cons]
        omega
      | some p =>
        obtain ⟨a, b, c⟩ := ih (stepR s (some p)) hE' h1 (fun q hq => by
          rcases List.mem_append.mp hq with hq | hq
          · exact h2 q hq
          · rw [List.mem_singleton.mp hq]; exact hE p List.mem_cons_self)
        refine ⟨a, b, Nat.le_trans c ?_⟩
        show s.1.length + (s.2 ++ [p]).length + _ ≤ _
        rw [List.length_append, List.length_singleton, List.length_cons]
        omega
  obtain ⟨a, b, c⟩ := go E (m, []) hE bm (fun p h => nomatch h)
  refine ⟨a, b, Nat.le_trans c ?_⟩
  show m.length + 0 + E.length ≤ _
  omega
theorem redoA_blk {m : BT} {E : List Ent} (bm : Blk m) (h : okE E) : Blk (redoA m E) := (redoS_ok bm h).1
theorem redoA_len {m : BT} {E : List Ent} (bm : Blk m) (h : okE E) : (redoA m E).length ≤ m.length + E.length := by
  have := (redoS_ok bm h).2.2
  unfold redoA
  omega
def sp_redone (K : PySem.W.Frag) : Sp := fun vs H Q _ => ∃ (a l : Addr) (m : BT) (xs : List V) (E : List Ent), vs = [.ref a, .ref l] ∧ Dd K H a m ∧ SqL K H l xs ∧ DpAll K H xs (E.map entD) ∧ okE E ∧ Blk m ∧ m.length + E.length ≤ 90000 ∧
  ∀ da H', H da = none → Same H H' → Dd K H' da (redoA m E) → Q (.ref da) H'
theorem dpAll_one {K : PySem.W.Frag} {H : Hp} {xs : List V} {d : PyData} (h : DpAll K H xs [d]) : ∃ x, xs = [x] ∧ Dp K H x d := by
  cases h with
  | cons h1 r =>
    cases r
    exact ⟨_, rfl, h1⟩
theorem dpAll_three {K : PySem.W.Frag} {H : Hp} {xs : List V} {d e f : PyData} (h : DpAll K H xs [d, e, f]) : ∃ x y z, xs = [x, y, z] ∧ Dp K H x d ∧ Dp K H y e ∧ Dp K H z f := by
  cases h with
  | cons h1 r =>
    obtain ⟨y, z, rfl, h2, h3⟩ := dpAll_two r
    exact ⟨_, y, z, rfl, h1, h2, h3⟩
theorem dp_block {K : PySem.W.Frag} {H : Hp} {x : V} {p : Int × PyData} (h : Dp K H x (entD (some p))) : ∃ a y, x = .ref a ∧ SqT K H a [.str blockW, .int p.1, y] ∧ Dp K H y p.2 := by
  obtain ⟨a, ys, rfl, ht, hy⟩ := dp_tuple h
  obtain ⟨y1, y2, y3, rfl, h1, h2, h3⟩ := dpAll_three hy
  cases dp_str h1
  cases dp_i h2
  exact ⟨a, y3, rfl, ht, h3⟩
theorem dp_kept {K : PySem.W.Frag} {H : Hp} {x : V} (h : Dp K H x (entD none)) : ∃ a, x = .ref a ∧ SqT K H a [.str keptW] := by
  obtain ⟨a, ys, rfl, ht, hy⟩ := dp_tuple h
  obtain ⟨y1, rfl, h1⟩ := dpAll_one hy
  cases dp_str h1
  exact ⟨a, rfl, ht⟩
theorem w_kb : keptW ≠ blockW := by decide +kernel
theorem dpAll_at' {K : PySem.W.Frag} {H : Hp} {α : Type} {f : α → PyData} {xs : List V} {E : List α} (h : DpAll K H xs (E.map f)) {i : Nat} {x : V} (hx : xs[i]? = some x) : ∃ e, E[i]? = some e ∧ Dp K H x (f e) := by
  obtain ⟨d, hd, hp⟩ := dpAll_get h i x hx
  rw [List.getElem?_map] at hd
  obtain ⟨e, he, rfl⟩ := Option.map_eq_some_iff.mp hd
  exact ⟨e, he, hp⟩
theorem Oth.seqL {K : PySem.W.Frag} {H H' : Hp} {a b : Addr} {kvs : List (Key × V)} {xs : List V} (h : H a = some (.dK kvs)) (e : Oth a H H') (hl : SqL K H b xs) : SqL K H' b xs :=
  keep_seqL (P := notD) (fun _ => trivial) (fun _ _ => trivial) (e.keep fun o p z => by rw [h] at z; cases z; exact p) hl
section
variable {K : PySem.W.Frag} {σ : L2.St} {H : Hp} {Q : VK} {D : Ends} {t u : TS} {te tl : TE} {tt : TT} {g : TG} {vs : List Nat} {a : Addr} {xs : List V} {ta : TA}
variable {J : It} {n : Nat} {G : Hp → Prop} {Y : Nat → Hp → V → Hp → Prop}
/-- a comprehension without a test over any walk -/
theorem g_lcW (w : Walk J n G Y) (Rel : Nat → V → Hp → Prop) (hn : n ≤ 40000) (hG : ∀ H', Same H H' → G H') (hst : ∀ i y H1 H2, Still H1 H2 → Rel i y H1 → Rel i y H2)
    (he : ∀ (i : Nat) (x : V) (H1 H2 : Hp) (QE : VK), i < n → Same H H1 → Y i H1 x H2 → (∀ y H3, Same H1 H3 → Rel i y H3 → QE y H3) → g x (wipe σ vs) H2 fun σ2 H3 => wipe σ2 vs = wipe σ vs ∧ te σ2 H3 QE)
    (q : ∀ p ys H1, H p = none → Same H H1 → H1 p = some (.lst ys) → ys.length = n → (∀ i y, ys[i]? = some y → Rel i y H1) → Q (.ref p) H1) : lcR g tYes te vs σ Q J H := by
  intro Dl hD
  refine lc_it w (fun i H' => Same H H' ∧ ∃ ys, H' Dl = some (.lst ys) ∧ ys.length = i ∧ ∀ k y, ys[k]? = some y → Rel k y H')
    ⟨Same.new hD _, [], upd_same, rfl, fun k y h => nomatch h⟩ (fun i H' _ p => hG H' p.1) (fun i x H1 H2 hi p y => ?_) (fun H' p => ?_)
  · obtain ⟨s, ys, e, hl, hr⟩ := p
    refine he i x H1 H2 _ hi s y fun y H3 s3 r => ⟨ys, s3 _ _ e, Evl.sz_lt (by omega), ?_⟩
    have st : Still H3 (upd H3 Dl (.lst (ys ++ [y]))) := Still.upd (s3 _ _ e)
    refine ⟨fun b o h => ?_, ys ++ [y], upd_same, by rw [List.length_append, hl]; rfl, fun k z hk => ?_⟩
    · rw [upd_ne (ne_of_none h hD)]
      exact s3 _ _ (s _ _ h)
    · by_cases c : k < ys.length
      · rw [List.getElem?_append_left c] at hk
        exact hst k z _ _ st (hst k z _ _ (Still.of s3) (hr k z hk))
      · rw [List.getElem?_append_right (by omega)] at hk
        by_cases c2 : k - ys.length = 0
        · rw [c2] at hk
          have ez : y = z := Option.some.inj hk
          have ek : k = i := by omega
          subst ez ek
          exact hst _ _ _ _ st r
        · rw [List.getElem?_eq_none (by rw [List.length_singleton]; omega)] at hk
          cases hk
  · obtain ⟨s, ys, e, hl, hr⟩ := p
    exact q Dl ys H' hD s e hl hr
theorem g_forW (w : Walk J n G Y) (Pv : Nat → L2.St → Hp → Prop) (h0 : Pv 0 σ H) (hG : ∀ i σ H, i ≤ n → Pv i σ H → G H)
    (hs : ∀ i x σ H H', i < n → Pv i σ H → Y i H x H' → g x σ H' fun σ2 H2 => t { D with nx := Pv (i + 1), ct := Pv (i + 1), bk := D.nx } σ2 H2) (hd : ∀ σ H, Pv n σ H → D.nx σ H) : forR g t D σ J H := for_it w Pv h0 hG hs hd
def wE (K : PySem.W.Frag) (R : It → Hp → Prop) : List V → Hp → Prop := fun vs H1 => ∃ a xs, vs = [.ref a] ∧ SqL K H1 a xs ∧ R (Ite K a) H1
theorem g_wE {R : It → Hp → Prop} (q : ta σ H (wE K R)) : iEnum K ta σ H R := q
theorem g_forEk (Pv : Nat → L2.St → Hp → Prop) (hx : SqL K H a xs) (h0 : Pv 0 σ H) (hl : ∀ i σ' H', i ≤ xs.length → Pv i σ' H' → SqL K H' a xs)
    (hs : ∀ i x σ' H' T H2, xs[i]? = some x → Pv i σ' H' → H' T = none → Same H' H2 → H2 T = some (.tup [.int (i : Int), x]) → g (.ref T) σ' H2 fun σ2 H2 => t { D with nx := Pv (i + 1), ct := Pv (i + 1), bk := D.nx } σ2 H2)
    (hd : ∀ σ' H', Pv xs.length σ' H' → D.nx σ' H') : wE K (forR g t D σ) [.ref a] H :=
  ⟨a, xs, rfl, hx, g_forW walk_enum Pv h0 hl (fun i v σ' H' H2 hi hp hy => by
    obtain ⟨T, x, y, rfl, hT, rfl, e1, e2⟩ := hy
    cases Option.some.inj e1
    exact hs i y σ' H' T _ e2 hp hT (Same.new hT _) upd_same) hd⟩
theorem g_lcEk (Rel : Nat → V → Hp → Prop) (hx : SqL K H a xs) (hn : xs.length ≤ 40000) (hst : ∀ i y H1 H2, Still H1 H2 → Rel i y H1 → Rel i y H2)
    (he : ∀ (i : Nat) (x : V) (T : Addr) (H1 : Hp) (QE : VK), xs[i]? = some x → Same H H1 → H1 T = some (.tup [.int (i : Int), x]) → (∀ y H3, Same H1 H3 → Rel i y H3 → QE y H3) → g (.ref T) (wipe σ vs) H1 fun σ2 H3 => wipe σ2 vs = wipe σ vs ∧ te σ2 H3 QE)
    (q : ∀ p ys H1, H p = none → Same H H1 → H1 p = some (.lst ys) → ys.length = xs.length → (∀ i y, ys[i]? = some y → Rel i y H1) → Q (.ref p) H1) : wE K (lcR g tYes te vs σ Q) [.ref a] H :=
  ⟨a, xs, rfl, hx, g_lcW walk_enum Rel hn (fun H' s => L2.Same.seq s hx) hst (fun i v H1 H2 QE hi s hy k => by
    obtain ⟨T, x, y, rfl, hT, rfl, e1, e2⟩ := hy
    cases Option.some.inj e1
    exact he i y T _ QE e2 (s.trans (Same.new hT _)) upd_same fun z H3 s3 r => k z H3 ((Same.new hT _).trans s3) r) q⟩
end
end My

set_option Elab.async false
set_option linter.all false
set_option maxRecDepth 100000
set_option maxHeartbeats 1000000
/-! sound trees, told of data -/
namespace My
open PySem L2
structure TB where
  lf : Bool
  ps : List (Int × PyData)
def wordT (lf : Bool) : Str := if lf then leafW else branchW
def pairD (p : Int × PyData) : PyData := .tuple [.int p.1, p.2]
def TB.D (b : TB) : PyData := .tuple [.str (wordT b.lf), .tuple (b.ps.map pairD)]
def numD : PyData → Int
  | .int n => n
  | _ => 0
def heldOf : PyData → PyData
  | .tuple [_, h] => h
  | _ => .none
def toTB : PyData → TB
  | .tuple [.str w, .tuple ps] => ⟨decide (w = leafW), ps.map fun p => (keyD p, heldOf p)⟩
  | _ => ⟨true, []⟩
theorem word_lf : ∀ {lf : Bool}, decide (wordT lf = leafW) = lf := by
  intro lf
  cases lf <;> decide +kernel
theorem word_or {lf : Bool} : (decide (wordT lf = leafW) || decide (wordT lf = branchW)) = true := by cases lf <;> decide +kernel
theorem keyD_pair {p : Int × PyData} : keyD (pairD p) = p.1 := rfl
theorem heldOf_pair {p : Int × PyData} : heldOf (pairD p) = p.2 := rfl
theorem toTB_D {b : TB} : toTB b.D = b := by
  obtain ⟨lf, ps⟩ := b
  show (⟨decide (wordT lf = leafW), (ps.map pairD).map fun p => (keyD p, heldOf p)⟩ : TB) = _
  rw [word_lf, List.map_map]
  congr 1
  exact (List.map_congr_left fun p _ => rfl).trans (List.map_id ps)
theorem D_inj {b c : TB} (h : b.D = c.D) : b = c := by rw [← toTB_D (b := b), h, toTB_D]
def keysT (ps : List (Int × PyData)) : List Int := ps.map (·.1)
def okT (l u : Int) (b : TB) : Prop := l ≤ (b.ps.length : Int) ∧ (b.ps.length : Int) ≤ u ∧ (∀ p ∈ b.ps, isKeyD (.int p.1) = true ∧ heldD (wordT b.lf) p.2 = true) ∧ (keysT b.ps).Pairwise (· < ·)
theorem isPairD_pair {w : Str} {p : Int × PyData} : isPairD w (pairD p) = (isKeyD (.int p.1) && heldD w p.2) := rfl
theorem isBlockD_D {l u : Int} {b : TB} : isBlockD l u b.D = true ↔ okT l u b := by
  show ((decide (wordT b.lf = leafW) || decide (wordT b.lf = branchW)) && (decide (l ≤ ((b.ps.map pairD).length : Int)) && decide (((b.ps.map pairD).length : Int) ≤ u)) && ((b.ps.map pairD).all (isPairD (wordT b.lf)) && risesI ((b.ps.map pairD).map keyD))) = true ↔ _
  rw [word_or, Bool.true_and, List.length_map]
  have e : (b.ps.map pairD).map keyD = keysT b.ps := by rw [List.map_map]; rfl
  rw [e]
  simp only [Bool.and_eq_true, decide_eq_true_eq, rises_iff, List.all_eq_true, List.mem_map]
  unfold okT
  constructor
  · rintro ⟨⟨h1, h2⟩, h3, h4⟩
    refine ⟨h1, h2, fun p hp => ?_, h4⟩
    have := h3 (pairD p) ⟨p, hp, rfl⟩
    rw [isPairD_pair, Bool.and_eq_true] at this
    exact this
  · rintro ⟨h1, h2, h3, h4⟩
    refine ⟨⟨h1, h2⟩, ?_, h4⟩
    rintro _ ⟨p, hp, rfl⟩
    rw [isPairD_pair, Bool.and_eq_true]
    exact h3 p hp
theorem pairs_back : ∀ {ps : List PyData}, (∀ p ∈ ps, ∃ k x, p = .tuple [.int k, x]) → (ps.map fun p => (keyD p, heldOf p)).map pairD = ps
  | [], _ => rfl
  | p :: ps, h => by
    obtain ⟨k, x, rfl⟩ := h p List.mem_cons_self
    rw [List.map_cons, List.map_cons, pairs_back fun q hq => h q (List.mem_cons_of_mem _ hq)]
    rfl
theorem isBlockD_form {l u : Int} {d : PyData} (h : isBlockD l u d = true) : d = (toTB d).D := by
  cases e2 : isTwoD d with
  | false => rw [isBlockD_not2 e2] at h; cases h
  | true =>
    obtain ⟨k, x, rfl⟩ := isTwoD_two e2
    cases ek : decide (tyD k = "str") with
    | false => rw [isBlockD_word (of_decide_eq_false ek)] at h; cases h
    | true =>
      obtain ⟨w, rfl⟩ := tyD_str (of_decide_eq_true ek)
      cases ex : decide (tyD x = "tuple") with
      | false => rw [isBlockD_pairs (of_decide_eq_false ex)] at h; cases h
      | true =>
        obtain ⟨ps, rfl⟩ := tyD_tuple (of_decide_eq_true ex)
        have h' : ((decide (w = leafW) || decide (w = branchW)) && (decide (l ≤ (ps.length : Int)) && decide ((ps.length : Int) ≤ u)) && (ps.all (isPairD w) && risesI (ps.map keyD))) = true := h
        rw [Bool.and_eq_true, Bool.and_eq_true, Bool.and_eq_true] at h'
        have hw : w = wordT (decide (w = leafW)) := by
          by_cases c : w = leafW
          · rw [decide_eq_true c]; exact c
          · rw [decide_eq_false c]
            have := h'.1.1
            rw [decide_eq_false c, Bool.false_or] at this
            exact of_decide_eq_true this
        have hp : ∀ p ∈ ps, ∃ k x, p = .tuple [.int k, x] := fun p hp => isPairD_key (List.all_eq_true.mp (Bool.and_eq_true_iff.mp h'.2).1 p hp)
        show PyData.tuple [.str w, .tuple ps] = .tuple [.str (wordT (decide (w = leafW))), .tuple ((ps.map fun p => (keyD p, heldOf p)).map pairD)]
        rw [← hw, pairs_back hp]
theorem isBlockD_iff {l u : Int} {d : PyData} : isBlockD l u d = true ↔ d = (toTB d).D ∧ okT l u (toTB d) := by
  constructor
  · intro h
    have e := isBlockD_form h
    exact ⟨e, isBlockD_D.mp (e ▸ h)⟩
  · rintro ⟨e, h⟩
    rw [e]
    exact isBlockD_D.mpr h
/-! ### the walk -/
def halfI (w : Int) : Int := (w + 1) / 2
def firstK (b : TB) : Int := match b.ps with
  | p :: _ => p.1
  | [] => 0
def fitsD (w key : Int) (d : PyData) : Bool := isBlockD (halfI w) w d && decide (firstK (toTB d) = key)
def rootD (w : Int) (d : PyData) : Bool := isBlockD 0 w d && ((toTB d).lf || decide (2 ≤ (toTB d).ps.length))
def rowT (L : List TB) : List (Int × PyData) := L.flatMap (·.ps)
def numsT (row : List (Int × PyData)) : List Int := row.map fun p => numD p.2
def blockAt (m : BT) (n : Int) : PyData := optD (getA m n)
def checkRow (m : BT) (w : Int) : List Int → List (Int × PyData) → Option (List Int)
  | r, [] => some r
  | r, p :: row => if decide (numD p.2 ∈ r) || !fitsD w p.1 (blockAt m (numD p.2)) then none else checkRow m w (r ++ [numD p.2]) row
def nextL (m : BT) (row : List (Int × PyData)) : List TB := row.map fun p => toTB (blockAt m (numD p.2))
def soundL (m : BT) (w : Int) : Nat → List Int → List TB → Bool
  | 0, _, _ => false
  | f + 1, r, L => if L.all (fun b => !b.lf) then (match checkRow m w r (rowT L) with
    | none => false
    | some r' => soundL m w f r' (nextL m (rowT L))) else L.all (·.lf) && (risesI (keysT (rowT L)) && decide (r.length = m.length))
def soundD (m : BT) (w : Int) : Bool := rootD w (blockAt m 0) && soundL m w (m.length + 1) [0] [toTB (blockAt m 0)]
section
variable {m m' : BT} {w w' : Int} {r r' rf : List Int} {L Lf : List TB} {row : List (Int × PyData)} {f : Nat}
theorem checkRow_some : ∀ {row : List (Int × PyData)} {r r' : List Int}, checkRow m w r row = some r' → r' = r ++ numsT row ∧ (∀ p ∈ row, fitsD w p.1 (blockAt m (numD p.2)) = true) ∧ (∀ n ∈ numsT row, n ∉ r) ∧ (numsT row).Nodup
  | [], r, r', h => by
    cases h
    exact ⟨by unfold numsT; simp, (fun p h => nomatch h), (fun n h => nomatch h), by unfold numsT; exact List.nodup_nil⟩
  | p :: row, r, r', h => by
    unfold checkRow at h
    split at h
    · cases h
    · rename_i c
      rw [Bool.or_eq_true, not_or, decide_eq_true_eq] at c
      obtain ⟨c1, c2⟩ := c
      obtain ⟨h1, h2, h3, h4⟩ := checkRow_some h
      refine ⟨by rw [h1, List.append_assoc]; rfl, fun q hq => ?_, fun n hn => ?_, ?_⟩
      · rcases List.mem_cons.mp hq with e | e
        · rw [e]; simpa using c2
        · exact h2 q e
      · have hn' : n ∈ numD p.2 :: numsT row := hn
        rcases List.mem_cons.mp hn' with e | e
        · rw [e]; exact c1
        · intro z
          exact h3 n e (List.mem_append_left _ z)
      · unfold numsT
        rw [List.map_cons, List.nodup_cons]
        exact ⟨fun z => h3 _ z (List.mem_append_right _ (List.mem_singleton.mpr rfl)), h4⟩
theorem checkRow_of : ∀ {row : List (Int × PyData)} {r : List Int}, (∀ p ∈ row, fitsD w p.1 (blockAt m (numD p.2)) = true) → (∀ n ∈ numsT row, n ∉ r) → (numsT row).Nodup → checkRow m w r row = some (r ++ numsT row)
  | [], r, _, _, _ => by unfold checkRow numsT; simp
  | p :: row, r, h2, h3, h4 => by
    unfold checkRow
    unfold numsT at h4
    rw [List.map_cons, List.nodup_cons] at h4
    have n1 : numD p.2 ∉ r := h3 _ (List.mem_map.mpr ⟨p, List.mem_cons_self, rfl⟩)
    rw [decide_eq_false n1, h2 p List.mem_cons_self]
    rw [if_neg (by decide), checkRow_of (fun q hq => h2 q (List.mem_cons_of_mem _ hq)) (fun n hn z => ?_) h4.2]
    · rw [List.append_assoc]
      rfl
    · rcases List.mem_append.mp z with z | z
      · exact h3 n (List.mem_cons_of_mem _ hn) z
      · rw [List.mem_singleton.mp z] at hn
        exact h4.1 hn
/-- a walk down the levels, from what is reached and a level to all that is reached and the leaves -/
inductive Run (m : BT) (w : Int) : List Int → List TB → List Int → List TB → Prop
  | stop {r : List Int} {L : List TB} : L ≠ [] → (∀ b ∈ L, b.lf = true) → Run m w r L r L
  | next {r r' rf : List Int} {L Lf : List TB} : L ≠ [] → (∀ b ∈ L, b.lf = false) → 2 ≤ (rowT L).length → checkRow m w r (rowT L) = some r' → Run m w r' (nextL m (rowT L)) rf Lf → Run m w r L rf Lf
theorem all_br (h : ∀ b ∈ L, b.lf = false) : L.all (fun b => !b.lf) = true := List.all_eq_true.mpr fun b hb => by rw [h b hb]; rfl
theorem all_lf (h : ∀ b ∈ L, b.lf = true) : L.all (·.lf) = true := List.all_eq_true.mpr fun b hb => h b hb
theorem not_br (h0 : L ≠ []) (h : ∀ b ∈ L, b.lf = true) : L.all (fun b => !b.lf) = false := by
  obtain ⟨b, hb⟩ := List.exists_mem_of_ne_nil L h0
  exact List.all_eq_false.mpr ⟨b, hb, by rw [h b hb]; decide⟩
theorem Run.pre (h : Run m w r L rf Lf) : ∃ s, rf = r ++ s ∧ s.Nodup ∧ ∀ n ∈ s, n ∉ r := by
  induction h with
  | stop _ _ => exact ⟨[], by simp, List.nodup_nil, fun n h => nomatch h⟩
  | next _ _ _ hc _ ih =>
    obtain ⟨s, e, nd, hs⟩ := ih
    obtain ⟨h1, _, h3, h4⟩ := checkRow_some hc
    refine ⟨numsT (rowT _) ++ s, by rw [e, h1, List.append_assoc], ?_, fun n hn => ?_⟩
    · rw [List.nodup_append]
      refine ⟨h4, nd, fun a ha b hb e => ?_⟩
      subst e
      exact hs a hb (by rw [h1]; exact List.mem_append_right _ ha)
    · rcases List.mem_append.mp hn with hn | hn
      · exact h3 n hn
      · intro z
        exact hs n hn (by rw [h1]; exact List.mem_append_left _ z)
theorem Run.sub (h : Run m w r L rf Lf) {n : Int} (hn : n ∈ r) : n ∈ rf := by
  obtain ⟨s, e, _⟩ := h.pre
  rw [e]
  exact List.mem_append_left _ hn
theorem soundL_run (h : Run m w r L rf Lf) : ∀ f, rf.length < f + r.length → soundL m w f r L = (risesI (keysT (rowT Lf)) && decide (rf.length = m.length)) := by
  induction h with
  | stop h0 h =>
    intro f hf
    cases f with
    | zero => omega
    | succ f =>
      unfold soundL
      rw [not_br h0 h, if_neg (by decide), all_lf h, Bool.true_and]
  | @next r r' rf L Lf h0 hb h2 hc hr ih =>
    intro f hf
    obtain ⟨s, es, _⟩ := hr.pre
    obtain ⟨h1, _⟩ := checkRow_some hc
    have hl : (numsT (rowT L)).length = (rowT L).length := List.length_map ..
    have e1 := congrArg List.length h1
    have e2 := congrArg List.length es
    rw [List.length_append] at e1 e2
    cases f with
    | zero => omega
    | succ f =>
      unfold soundL
      rw [all_br hb, if_pos rfl, hc]
      exact ih f (by omega)
theorem checkRow_agree {row : List (Int × PyData)} {r : List Int} (h : ∀ n ∈ numsT row, getA m' n = getA m n) : checkRow m' w r row = checkRow m w r row := by
  induction row generalizing r with
  | nil => rfl
  | cons p row ih =>
    unfold checkRow
    have e : blockAt m' (numD p.2) = blockAt m (numD p.2) := by
      unfold blockAt
      rw [h _ (List.mem_map.mpr ⟨p, List.mem_cons_self, rfl⟩)]
    rw [e, ih fun n hn => h n (List.mem_cons_of_mem _ hn)]
theorem nextL_agree {row : List (Int × PyData)} (h : ∀ n ∈ numsT row, getA m' n = getA m n) : nextL m' row = nextL m row :=
  List.map_congr_left fun p hp => by
    unfold blockAt
    rw [h _ (List.mem_map.mpr ⟨p, hp, rfl⟩)]
theorem Run.mono (h : Run m w r L rf Lf) (ha : ∀ n ∈ rf, n ∉ r → getA m' n = getA m n) : Run m' w r L rf Lf := by
  induction h with
  | stop h0 h => exact .stop h0 h
  | next h0 hb h2 hc hr ih =>
    obtain ⟨h1, _, h3, _⟩ := checkRow_some hc
    have hrow : ∀ n ∈ numsT (rowT _), getA m' n = getA m n := fun n hn => ha n (hr.sub (by rw [h1]; exact List.mem_append_right _ hn)) (h3 n hn)
    refine .next h0 hb h2 ((checkRow_agree hrow).trans hc) ?_
    rw [nextL_agree hrow]
    exact ih fun n hn hnr => ha n hn fun z => hnr (by rw [h1]; exact List.mem_append_left _ z)
/-- down to the level in which a number is named -/
theorem Run.to (h : Run m w r L rf Lf) {n : Int} (hn : n ∈ rf) (hr : n ∉ r) (ha : ∀ k, k ≠ n → getA m' k = getA m k)
    (X : ∀ r r' L, L ≠ [] → (∀ b ∈ L, b.lf = false) → 2 ≤ (rowT L).length → checkRow m w r (rowT L) = some r' → n ∈ numsT (rowT L) → Run m w r' (nextL m (rowT L)) rf Lf → ∀ f, soundL m' w f r L = false) : ∀ f, soundL m' w f r L = false := by
  induction h with
  | stop h0 h => exact absurd hn hr
  | @next r r' rf L Lf h0 hb h2 hc hR ih =>
    by_cases c : n ∈ numsT (rowT L)
    · exact X r r' L h0 hb h2 hc c hR
    · intro f
      cases f with
      | zero => rfl
      | succ f =>
        obtain ⟨h1, _, h3, _⟩ := checkRow_some hc
        have hrow : ∀ k ∈ numsT (rowT L), getA m' k = getA m k := fun k hk => ha k fun e => c (e ▸ hk)
        unfold soundL
        rw [all_br hb, if_pos rfl, checkRow_agree hrow, hc, nextL_agree hrow]
        refine ih hn (fun z => ?_) X f
        rw [h1] at z
        rcases List.mem_append.mp z with z | z
        · exact hr z
        · exact c z
/-- the width other: all that is reached is as wide -/
theorem Run.wide (h : Run m w r L rf Lf) : ∀ f, soundL m w' f r L = true → ∀ n ∈ rf, n ∉ r → isBlockD (halfI w') w' (blockAt m n) = true := by
  induction h with
  | stop h0 h => intro f _ n hn hr; exact absurd hn hr
  | @next r r' rf L Lf h0 hb h2 hc hR ih =>
    intro f hs n hn hr
    cases f with
    | zero => cases hs
    | succ f =>
      unfold soundL at hs
      rw [all_br hb, if_pos rfl] at hs
      obtain ⟨h1, _, _, _⟩ := checkRow_some hc
      cases e : checkRow m w' r (rowT L) with
      | none => rw [e] at hs; cases hs
      | some r2 =>
        rw [e] at hs
        obtain ⟨g1, g2, _, _⟩ := checkRow_some e
        have er : r2 = r' := by rw [g1, h1]
        subst er
        by_cases c : n ∈ numsT (rowT L)
        · obtain ⟨p, hp, rfl⟩ := List.mem_map.mp c
          have := g2 p hp
          unfold fitsD at this
          rw [Bool.and_eq_true] at this
          exact this.1
        · refine ih f hs n hn fun z => ?_
          rw [h1] at z
          rcases List.mem_append.mp z with z | z
          · exact hr z
          · exact c z
theorem Run.widen (h : Run m w r L rf Lf) (hw : ∀ n ∈ rf, n ∉ r → isBlockD (halfI w') w' (blockAt m n) = true) : Run m w' r L rf Lf := by
  induction h with
  | stop h0 h => exact .stop h0 h
  | @next r r' rf L Lf h0 hb h2 hc hR ih =>
    obtain ⟨h1, g2, h3, h4⟩ := checkRow_some hc
    refine .next h0 hb h2 ?_ (ih fun n hn hr => hw n hn fun z => hr (by rw [h1]; exact List.mem_append_left _ z))
    rw [h1]
    refine checkRow_of (fun p hp => ?_) h3 h4
    have := g2 p hp
    unfold fitsD at this ⊢
    rw [Bool.and_eq_true] at this ⊢
    have hm : numD p.2 ∈ numsT (rowT L) := List.mem_map.mpr ⟨p, hp, rfl⟩
    exact ⟨hw _ (hR.sub (by rw [h1]; exact List.mem_append_right _ hm)) (h3 _ hm), this.2⟩
end
end My

set_option Elab.async false
set_option linter.all false
set_option maxRecDepth 100000
set_option maxHeartbeats 1000000
/-! trees that are built from the leaves up -/
namespace My
open PySem L2
abbrev PL := List (Int × PyData)
/-- pairs of a word: keys in range, held good, rising -/
def okP (lf : Bool) (P : PL) : Prop := (∀ p ∈ P, isKeyD (.int p.1) = true ∧ heldD (wordT lf) p.2 = true) ∧ (keysT P).Pairwise (· < ·)
/-- held data as small as can be compared -/
def smP (P : PL) : Prop := ∀ p ∈ P, strictD p.2 = true ∧ PyData.depth p.2 ≤ 5
theorem strok_word {lf : Bool} : PyData.strOk (wordT lf) = true := by cases lf <;> decide +kernel
theorem okD_D {b : TB} (h : smP b.ps) : okD b.D := by
  have hp : ∀ d ∈ b.ps.map pairD, strictD d = true ∧ PyData.depth d ≤ 6 := fun d hd => by
    obtain ⟨p, hp, rfl⟩ := List.mem_map.mp hd
    obtain ⟨h1, h2⟩ := h p hp
    refine ⟨by simp [pairD, strictD, strictAll, h1], ?_⟩
    simp only [pairD, PyData.depth, PyData.depthAll]
    omega
  refine okD_tup fun d hd => ?_
  rcases List.mem_cons.mp hd with e | e
  · subst e
    exact ⟨by simp [strictD, strok_word], by simp [PyData.depth]⟩
  · rw [List.mem_singleton.mp e]
    refine ⟨by simp only [strictD]; exact strictAll_iff.mpr fun d hd => (hp d hd).1, ?_⟩
    simp only [PyData.depth]
    have := depthAll_le (n := 6) fun d hd => (hp d hd).2
    omega
theorem okT_of {l u : Int} {lf : Bool} {P : PL} (h : okP lf P) (h1 : l ≤ (P.length : Int)) (h2 : (P.length : Int) ≤ u) : okT l u ⟨lf, P⟩ := ⟨h1, h2, h.1, h.2⟩
theorem okT.okP {l u : Int} {b : TB} (h : okT l u b) : okP b.lf b.ps := ⟨h.2.2.1, h.2.2.2⟩
structure Lvl (w : Int) (P0 : PL) (m : BT) (lf : Bool) (P : PL) (num : Int) : Prop where
  nd : (keysA m).Nodup
  rng : ∀ k ∈ keysA m, 1 ≤ k ∧ k < num
  low : 1 ≤ num
  ok : ∀ p ∈ m, okD p.2
  ps : okP lf P
  sm : smP P
  two : lf = false → 2 ≤ P.length
  walk : ∀ (r : List Int) (L : List TB), L ≠ [] → (∀ b ∈ L, b.lf = lf) → rowT L = P → (∀ k ∈ r, k ∉ keysA m) → ∃ rf Lf, Run m w r L rf Lf ∧ rf.length = r.length + m.length ∧ rowT Lf = P0 ∧ ∀ n ∈ rf, n ∉ r → n ∈ keysA m
theorem Lvl.base {w : Int} {P : PL} {num : Int} (h : okP true P) (s : smP P) (hn : 1 ≤ num) : Lvl w P [] true P num :=
  ⟨Blk.nil.1, (fun k h => nomatch h), hn, (fun p h => nomatch h), h, s, (fun h => nomatch h), fun r L h0 hl hr _ => ⟨r, L, .stop h0 hl, by simp, hr, fun n h1 h2 => absurd h1 h2⟩⟩
structure Adding (w : Int) (m0 : BT) (lf : Bool) (num0 : Int) (rows : List PL) (m : BT) (ab : PL) (num : Int) : Prop where
  keys : keysA m = keysA m0 ++ numsT ab
  low : num0 ≤ num
  nums : ∀ n ∈ numsT ab, num0 ≤ n ∧ n < num
  nd : (numsT ab).Nodup
  old : ∀ k, k < num0 → getA m k = getA m0 k
  next : nextL m ab = rows.map (TB.mk lf)
  fit : ∀ p ∈ ab, fitsD w p.1 (blockAt m (numD p.2)) = true
  kk : keysT ab = rows.map fun r => firstK ⟨lf, r⟩
  held : ∀ p ∈ ab, p.2 = .int (numD p.2)
  ok : ∀ p ∈ m, okD p.2
theorem Adding.base {w : Int} {m0 : BT} {lf : Bool} {num0 : Int} (ok : ∀ p ∈ m0, okD p.2) : Adding w m0 lf num0 [] m0 [] num0 :=
  ⟨by unfold numsT; simp, Int.le_refl _, (fun n h => nomatch h), by unfold numsT; exact List.nodup_nil, fun _ _ => rfl, rfl, (fun p h => nomatch h), rfl, (fun p h => nomatch h), ok⟩
theorem numsT_app {a b : PL} : numsT (a ++ b) = numsT a ++ numsT b := List.map_append ..
theorem keysT_app {a b : PL} : keysT (a ++ b) = keysT a ++ keysT b := List.map_append ..
theorem Adding.step {w : Int} {m0 m : BT} {lf : Bool} {num0 num st : Int} {rows : List PL} {ab row : PL} (A : Adding w m0 lf num0 rows m ab num) (rng : ∀ k ∈ keysA m0, k < num0) (hr : okT (halfI w) w ⟨lf, row⟩) (sr : smP row) (hst : 1 ≤ st) :
    Adding w m0 lf num0 (rows ++ [row]) (putA m num (TB.D ⟨lf, row⟩)) (ab ++ [(firstK ⟨lf, row⟩, .int num)]) (num + st) := by
  have hlow := A.low
  have nin : getA m num = none := by
    cases e : getA m num with
    | none => rfl
    | some x =>
      have : num ∈ keysA m := mem_keysA.mpr (by rw [e]; rfl)
      rw [A.keys] at this
      rcases List.mem_append.mp this with h | h
      · have := rng _ h; omega
      · have := (A.nums _ h).2; omega
  have old : ∀ n ∈ numsT ab, getA (putA m num (TB.D ⟨lf, row⟩)) n = getA m n := fun n hn => by
    rw [getA_put, if_neg (by have := (A.nums n hn).2; omega)]
  have oldB : ∀ p ∈ ab, blockAt (putA m num (TB.D ⟨lf, row⟩)) (numD p.2) = blockAt m (numD p.2) := fun p hp => by
    unfold blockAt
    rw [old _ (List.mem_map.mpr ⟨p, hp, rfl⟩)]
  have newB : blockAt (putA m num (TB.D ⟨lf, row⟩)) num = TB.D ⟨lf, row⟩ := by
    unfold blockAt
    rw [getA_put, if_pos rfl]
    rfl
  refine ⟨?_, by omega, fun n hn => ?_, ?_, fun k hk => ?_, ?_, fun p hp => ?_, ?_, fun p hp => ?_, all_put A.ok (okD_D sr)⟩
  · rw [keysA_put, nin, if_neg (by decide), A.keys, numsT_app, List.append_assoc]
    rfl
  · rw [numsT_app] at hn
    rcases List.mem_append.mp hn with hn | hn
    · have := A.nums n hn; omega
    · have e : n = num := List.mem_singleton.mp hn
      omega
  · rw [numsT_app]
    exact nodup_snoc A.nd fun z => by have e := (A.nums _ z).2; exact absurd e (Int.lt_irrefl _)
  · rw [getA_put, if_neg (by omega), A.old k hk]
  · unfold nextL
    rw [List.map_append, List.map_append]
    congr 1
    · rw [← A.next]
      exact List.map_congr_left fun p hp => by rw [oldB p hp]
    · show [toTB (blockAt _ num)] = [TB.mk lf row]
      rw [newB, toTB_D]
  · rcases List.mem_append.mp hp with hp | hp
    · rw [oldB p hp]
      exact A.fit p hp
    · rw [List.mem_singleton.mp hp]
      show fitsD w (firstK ⟨lf, row⟩) (blockAt _ num) = true
      rw [newB]
      unfold fitsD
      rw [toTB_D, decide_eq_true rfl, Bool.and_true]
      exact isBlockD_D.mpr hr
  · rw [keysT_app, A.kk, List.map_append]
    rfl
  · rcases List.mem_append.mp hp with hp | hp
    · exact A.held p hp
    · rw [List.mem_singleton.mp hp]
      rfl
/-- the first keys of rows that rise together -/
theorem firsts_rise : ∀ {rows : List PL}, (∀ r ∈ rows, r ≠ []) → (keysT rows.flatten).Pairwise (· < ·) → (rows.map fun r => firstK ⟨true, r⟩).Pairwise (· < ·)
  | [], _, _ => .nil
  | r :: rows, h0, h => by
    rw [List.flatten_cons, keysT_app, List.pairwise_append] at h
    rw [List.map_cons, List.pairwise_cons]
    refine ⟨fun k hk => ?_, firsts_rise (fun x hx => h0 x (List.mem_cons_of_mem _ hx)) h.2.1⟩
    obtain ⟨s, hs, rfl⟩ := List.mem_map.mp hk
    have n1 := h0 r List.mem_cons_self
    have n2 := h0 s (List.mem_cons_of_mem _ hs)
    cases r with
    | nil => exact absurd rfl n1
    | cons p r =>
      cases s with
      | nil => exact absurd rfl n2
      | cons q s =>
        refine h.2.2 p.1 List.mem_cons_self q.1 ?_
        exact List.mem_map.mpr ⟨q, List.mem_flatten.mpr ⟨_, hs, List.mem_cons_self⟩, rfl⟩
theorem firstK_mem {lf : Bool} {r : PL} (h : r ≠ []) : ∃ p ∈ r, firstK ⟨lf, r⟩ = p.1 := by
  cases r with
  | nil => exact absurd rfl h
  | cons p r => exact ⟨p, List.mem_cons_self, rfl⟩
theorem rowT_map {lf : Bool} {rows : List PL} : rowT (rows.map (TB.mk lf)) = rows.flatten := by
  unfold rowT
  rw [List.flatMap_map, List.flatMap_id']
theorem Adding.done {w : Int} {P0 P : PL} {m0 m : BT} {lf : Bool} {num0 num : Int} {rows : List PL} {ab : PL} (V : Lvl w P0 m0 lf P num0) (A : Adding w m0 lf num0 rows m ab num) (hP : rows.flatten = P) (h2 : 2 ≤ rows.length) (h0 : ∀ r ∈ rows, r ≠ []) :
    Lvl w P0 m false ab num := by
  have hlow := A.low
  have hV := V.low
  have lab : ab.length = rows.length := by
    have := congrArg List.length A.kk
    unfold keysT at this
    rwa [List.length_map, List.length_map] at this
  have hf : ∀ lf' r, firstK ⟨lf', r⟩ = firstK ⟨true, r⟩ := fun lf' r => rfl
  refine ⟨?_, fun k hk => ?_, by omega, A.ok, ⟨fun p hp => ?_, ?_⟩, fun p hp => ?_, fun _ => by omega, fun r L hL hbr hrow hdis => ?_⟩
  · rw [A.keys, List.nodup_append]
    refine ⟨V.nd, A.nd, fun a ha b hb e => ?_⟩
    have h1 := (V.rng a ha).2
    have h2 := (A.nums b hb).1
    omega
  · rw [A.keys] at hk
    rcases List.mem_append.mp hk with hk | hk
    · have := V.rng k hk; omega
    · have := A.nums k hk; omega
  · refine ⟨?_, ?_⟩
    · have hk : p.1 ∈ keysT ab := List.mem_map.mpr ⟨p, hp, rfl⟩
      rw [A.kk] at hk
      obtain ⟨r, hr, e⟩ := List.mem_map.mp hk
      obtain ⟨q, hq, e2⟩ := firstK_mem (lf := lf) (h0 r hr)
      rw [← e, e2]
      exact (V.ps.1 q (by rw [← hP]; exact List.mem_flatten.mpr ⟨r, hr, hq⟩)).1
    · have hn := (A.nums (numD p.2) (List.mem_map.mpr ⟨p, hp, rfl⟩)).1
      rw [A.held p hp]
      show (if wordT false = leafW then _ else _) = true
      rw [if_neg (by decide +kernel)]
      exact decide_eq_true (by omega)
  · rw [A.kk]
    simp only [hf]
    exact firsts_rise h0 (by rw [hP]; exact V.ps.2)
  · rw [A.held p hp]
    exact ⟨rfl, by simp [PyData.depth]⟩
  · have hnr : ∀ n ∈ numsT ab, n ∉ r := fun n hn z => hdis n z (by rw [A.keys]; exact List.mem_append_right _ hn)
    have hc : checkRow m w r ab = some (r ++ numsT ab) := checkRow_of A.fit hnr A.nd
    obtain ⟨rf, Lf, hR, hl, hrf, hsub⟩ := V.walk (r ++ numsT ab) (rows.map (TB.mk lf)) (by
      intro z
      have := congrArg List.length z
      rw [List.length_map, List.length_nil] at this
      omega) (fun b hb => by
        obtain ⟨x, _, rfl⟩ := List.mem_map.mp hb
        rfl) (by rw [rowT_map, hP]) (fun k hk z => by
        rcases List.mem_append.mp hk with hk | hk
        · exact hdis k hk (by rw [A.keys]; exact List.mem_append_left _ z)
        · have h1 := (A.nums k hk).1
          have h2 := (V.rng k z).2
          omega)
    have hR' : Run m w (r ++ numsT ab) (nextL m (rowT L)) rf Lf := by
      rw [hrow, A.next]
      exact hR.mono fun n hn hnr => A.old n (V.rng n (hsub n hn hnr)).2
    refine ⟨rf, Lf, .next hL hbr (by rw [hrow]; omega) (by rw [hrow]; exact hc) hR', ?_, hrf, fun n hn hnr2 => ?_⟩
    · have e1 := congrArg List.length A.keys
      unfold keysA at e1
      rw [List.length_append, List.length_map, List.length_map] at e1
      rw [hl, List.length_append]
      omega
    · rw [A.keys]
      by_cases c : n ∈ numsT ab
      · exact List.mem_append_right _ c
      · refine List.mem_append_left _ (hsub n hn fun z => ?_)
        rcases List.mem_append.mp z with z | z
        · exact hnr2 z
        · exact c z
/-- a sound tree of a width that holds just P -/
structure Tree (w : Int) (P : PL) (m : BT) : Prop where
  blk : Blk m
  root : ∃ b : TB, getA m 0 = some b.D ∧ okT 0 w b ∧ smP b.ps ∧ (b.lf = true ∨ 2 ≤ b.ps.length) ∧ ∃ rf Lf, Run m w [0] [b] rf Lf ∧ rf.length = m.length ∧ rowT Lf = P
  rise : (keysT P).Pairwise (· < ·)
  zero : ∀ k ∈ keysA m, 0 ≤ k
theorem rowT_one {b : TB} : rowT [b] = b.ps := by unfold rowT; simp
theorem Lvl.done {w : Int} {P0 P : PL} {m : BT} {lf : Bool} {num : Int} (V : Lvl w P0 m lf P num) (hw : (P.length : Int) ≤ w) (hP : (keysT P0).Pairwise (· < ·)) : Tree w P0 (putA m 0 (TB.D ⟨lf, P⟩)) := by
  have n0 : (0 : Int) ∉ keysA m := fun z => by have := (V.rng 0 z).1; omega
  obtain ⟨rf, Lf, hR, hl, hrf, hsub⟩ := V.walk [0] [⟨lf, P⟩] (by simp) (fun b hb => by rw [List.mem_singleton.mp hb]) rowT_one fun k hk => by rw [List.mem_singleton.mp hk]; exact n0
  have g0 : getA m 0 = none := by
    cases e : getA m 0 with
    | none => rfl
    | some x => exact absurd (mem_keysA.mpr (by rw [e]; rfl)) n0
  refine ⟨⟨nodup_put V.nd, all_put V.ok (okD_D V.sm)⟩, ⟨⟨lf, P⟩, by rw [getA_put, if_pos rfl], okT_of V.ps (by omega) hw, V.sm, ?_, rf, Lf, hR.mono fun n hn hnr => ?_, ?_, hrf⟩, hP, fun k hk => ?_⟩
  · cases lf with
    | true => exact .inl rfl
    | false => exact .inr (V.two rfl)
  · rw [getA_put, if_neg fun e => hnr (by rw [e]; exact List.mem_singleton.mpr rfl)]
  · have e := congrArg List.length (keysA_put (m := m) (k := 0) (v := TB.D ⟨lf, P⟩))
    rw [g0, if_neg (by decide)] at e
    unfold keysA at e
    rw [List.length_append, List.length_map, List.length_map, List.length_singleton] at e
    rw [hl, List.length_singleton]
    omega
  · rw [keysA_put, g0, if_neg (by decide)] at hk
    rcases List.mem_append.mp hk with hk | hk
    · have := V.rng k hk; omega
    · rw [List.mem_singleton.mp hk]
      omega
theorem Tree.sound {w : Int} {P : PL} {m : BT} (T : Tree w P m) : soundD m w = true := by
  obtain ⟨b, h0, hok, _, h2, rf, Lf, hR, hl, hP⟩ := T.root
  unfold soundD
  have e : blockAt m 0 = b.D := by unfold blockAt; rw [h0]; rfl
  rw [e, toTB_D, soundL_run hR _ (by simp; omega), hP, (rises_iff _).mpr T.rise, decide_eq_true hl]
  unfold rootD
  rw [isBlockD_D.mpr hok, toTB_D]
  rcases h2 with h2 | h2
  · rw [h2]; rfl
  · rw [decide_eq_true h2, Bool.or_true]; rfl
end My

set_option Elab.async false
set_option linter.all false
set_option maxRecDepth 100000
set_option maxHeartbeats 1000000
/-! two fors, tuples cut and put together, least and greatest, sorted -/
namespace My
open PySem L2
section
variable {X : Cx}
/-- walks a list or a tuple -/
def iSeq (K : PySem.W.Frag) (tl : TE) : TI := fun σ H R => iList K tl σ H R ∨ iTup K tl σ H R
theorem pi_seq {tg l : Expr} {tl : TE} (hl : PE X l tl) : PI X tg l (iSeq X.K tl) := ⟨fun pins s σ H R I h => h.elim (fun h => (pi_list hl).run pins s σ H R I h) fun h => (pi_tup hl).run pins s σ H R I h⟩
def rMin2 : List V → Hp → VK → Prop := fun us H Q => ∃ i j, us = [.int i, .int j] ∧ Q (.int (if j < i then j else i)) H
theorem my_min2 (hc : X.calm = true) : CallR X (.builtin "min") rMin2 := call_min2 hc
end
section
variable {K : PySem.W.Frag} {σ σ2 : L2.St} {H : Hp} {Q : VK} {D : Addr} {te tl : TE} {tt tt1 : TT} {g g1 : TG} {vs vs1 : List Nat} {a : Addr} {xs : List V} {wi1 : TI}
variable {J : It} {n : Nat} {G : Hp → Prop} {Y : Nat → Hp → V → Hp → Prop}
theorem g_min2 {i j : Int} (q : Q (.int (if j < i then j else i)) H) : rMin2 [.int i, .int j] H Q := ⟨i, j, rfl, q⟩
/-- the inner walk of two: what is to stand behind it is N, the list in the making at D -/
def inR (g1 : TG) (tt1 : TT) (te : TE) (vs1 : List Nat) (D : Addr) (σ2 : L2.St) (N : Hp → Prop) : It → Hp → Prop := fun J1 Hs =>
  ∃ U : Nat → Nat → Hp → Prop, (∃ m, U 0 m Hs) ∧ ∀ j k Ht, U j k Ht → (J1.stop j Ht ∧ N Ht) ∨
    (J1.go j Ht ∧ ∃ Nn : Hp → Prop, (∀ Hn, Nn Hn → ∃ k', k' < k ∧ U (j + 1) k' Hn) ∧
      ∀ z Hn, J1.yld j Ht z Hn → g1 z (wipe σ2 vs1) Hn fun σ3 Hm => wipe σ3 vs1 = wipe σ2 vs1 ∧ tt1 σ3 Hm fun kp He =>
        if kp = true then te σ3 He fun u Hu => ∃ acc, Hu D = some (.lst acc) ∧ acc.length < sizeLine ∧ Nn (upd Hu D (.lst (acc ++ [u]))) else Nn He)
def lc2R (g : TG) (tt : TT) (wi1 : TI) (g1 : TG) (tt1 : TT) (te : TE) (vs vs1 : List Nat) (σ : L2.St) (Q : VK) : It → Hp → Prop := fun J H1 => tLc2 (fun _ H R => R J H) g tt wi1 g1 tt1 te vs vs1 σ H1 Q
theorem g_lc2O {wi : TI} (q : wi σ H (lc2R g tt wi1 g1 tt1 te vs vs1 σ Q)) : tLc2 wi g tt wi1 g1 tt1 te vs vs1 σ H Q := q
theorem g_lc2W (w : Walk J n G Y) (Pv : Addr → Nat → Hp → Prop) (h0 : ∀ D, H D = none → Pv D 0 (upd H D (.lst []))) (hG : ∀ D i H', i ≤ n → Pv D i H' → G H')
    (hs : ∀ D i x H1 H2, H D = none → i < n → Pv D i H1 → Y i H1 x H2 → g x (wipe σ vs) H2 fun σ2 H3 => wipe σ2 vs = wipe σ vs ∧ wi1 σ2 H3 (inR g1 tt1 te vs1 D σ2 (Pv D (i + 1)))) (hd : ∀ D H', H D = none → Pv D n H' → Q (.ref D) H') :
    lc2R g tYes wi1 g1 tt1 te vs vs1 σ Q J H := by
  intro D hD
  refine ⟨fun i m H => m = n - i ∧ i ≤ n ∧ Pv D i H, ⟨n, by simp, Nat.zero_le _, h0 D hD⟩, ?_⟩
  rintro i m H' ⟨rfl, hi, p⟩
  have q := hG D i H' hi p
  by_cases hlt : i < n
  · exact .inr ⟨w.goes i H' hlt q, Pv D (i + 1), fun H' p' => ⟨n - (i + 1), by omega, rfl, hlt, p'⟩, fun x H2 y => hs D i x H' H2 hD hlt p (w.yields i H' x H2 hlt q y)⟩
  · have e : i = n := by omega
    subst e
    exact .inl ⟨w.stops H' q, hd D H' hD p⟩
theorem g_inW (w : Walk J n G Y) {N : Hp → Prop} (Pv : Nat → Hp → Prop) (h0 : Pv 0 H) (hG : ∀ i H', i ≤ n → Pv i H' → G H')
    (hs : ∀ j x H1 H2, j < n → Pv j H1 → Y j H1 x H2 → g1 x (wipe σ2 vs1) H2 fun σ3 H5 => wipe σ3 vs1 = wipe σ2 vs1 ∧ te σ3 H5 fun y H7 => ∃ acc, H7 D = some (.lst acc) ∧ acc.length < sizeLine ∧ Pv (j + 1) (upd H7 D (.lst (acc ++ [y]))))
    (hd : ∀ H', Pv n H' → N H') : inR g1 tYes te vs1 D σ2 N J H := by
  refine ⟨fun i m H => m = n - i ∧ i ≤ n ∧ Pv i H, ⟨n, by simp, Nat.zero_le _, h0⟩, ?_⟩
  rintro i m H' ⟨rfl, hi, p⟩
  have q := hG i H' hi p
  by_cases hlt : i < n
  · exact .inr ⟨w.goes i H' hlt q, Pv (i + 1), fun H' p' => ⟨n - (i + 1), by omega, rfl, hlt, p'⟩, fun x H2 y => hs i x H' H2 hlt p (w.yields i H' x H2 hlt q y)⟩
  · have e : i = n := by omega
    subst e
    exact .inl ⟨w.stops H' q, hd H' p⟩
theorem g_wTk {R : It → Hp → Prop} (hx : SqT K H a xs) (q : R (Itt K a) H) : wT K R (.ref a) H := ⟨a, rfl, ⟨xs, hx⟩, q⟩
theorem g_wLk {R : It → Hp → Prop} (hx : SqL K H a xs) (q : R (Itl K a) H) : wL K R (.ref a) H := ⟨a, rfl, ⟨xs, hx⟩, q⟩
/-- over a list or a tuple, whichever it is -/
theorem g_seqW {R : It → Hp → Prop} (hx : SqL K H a xs ∨ SqT K H a xs) (hl : ∀ S : VK, S (.ref a) H → tl σ H S) (q : ∀ {J : It} {G : Hp → Prop}, Walk J xs.length G (YAt xs) → (∀ H', Same H H' → G H') → R J H) : iSeq K tl σ H R :=
  hx.elim (fun h => .inl (hl _ ⟨a, rfl, ⟨xs, h⟩, q walk_list fun H' s => s.seq h⟩)) fun h => .inr (hl _ ⟨a, rfl, ⟨xs, h⟩, q walk_tup fun H' s => Same.seqT s h⟩)
end
/-! what trees are read by -/
def lsD (L : List TB) : List PyData := L.map TB.D
def rowD (P : PL) : List PyData := P.map pairD
def sp_row_of (K : PySem.W.Frag) : Sp := fun vs H Q _ => ∃ (l : Addr) (xs : List V) (L : List TB), vs = [.ref l] ∧ SqL K H l xs ∧ DpAll K H xs (lsD L) ∧ (rowT L).length ≤ 90000 ∧
  ∀ p ys H', H p = none → Same H H' → H' p = some (.lst ys) → DpAll K H' ys (rowD (rowT L)) → Q (.ref p) H'
def sp_named (K : PySem.W.Frag) : Sp := fun vs H Q _ => ∃ (b p : Addr) (m : BT) (xs : List V) (P : PL), vs = [.ref b, .ref p] ∧ Dd K H b m ∧ (SqL K H p xs ∨ SqT K H p xs) ∧ DpAll K H xs (rowD P) ∧ (∀ q ∈ P, ∃ n, q.2 = .int n ∧ (getA m n).isSome = true) ∧ P.length ≤ 30000 ∧
  ∀ p ys H', H p = none → Same H H' → H' p = some (.lst ys) → DpAll K H' ys (P.map fun q => blockAt m (numD q.2)) → Q (.ref p) H'
def sp_all_are (K : PySem.W.Frag) : Sp := fun vs H Q _ => ∃ (w : Str) (l : Addr) (xs : List V) (L : List TB), vs = [.str w, .ref l] ∧ SqL K H l xs ∧ DpAll K H xs (lsD L) ∧ L.length ≤ 30000 ∧
  ∀ H', Same H H' → Q (.bl (L.all fun b => decide (wordT b.lf = w))) H'
def sp_half : Sp := fun vs H Q _ => ∃ w : Int, vs = [.int w] ∧ Q (.int (halfI w)) H
def sp_is_root (K : PySem.W.Frag) : Sp := fun vs H Q _ => ∃ (x : V) (d : PyData) (w : Int), vs = [x, .int w] ∧ Dp K H x d ∧ FitB d ∧ ∀ H', Same H H' → Q (.bl (rootD w d)) H'
def sp_fits (K : PySem.W.Frag) : Sp := fun vs H Q _ => ∃ (x : V) (d : PyData) (w key : Int), vs = [x, .int w, .int key] ∧ Dp K H x d ∧ FitB d ∧ 3 ≤ w ∧ ∀ H', Same H H' → Q (.bl (fitsD w key d)) H'
/-- what sound can be asked: any dict by whole numbers -/
def fitM (m : BT) : Prop := ∀ p ∈ m, FitB p.2
def sp_sound (K : PySem.W.Frag) : Sp := fun vs H Q _ => ∃ (b : Addr) (m : BT) (w : Int), vs = [.ref b, .int w] ∧ Dd K H b m ∧ (keysA m).Nodup ∧ fitM m ∧ m.length * w.toNat ≤ 25000 ∧ 3 ≤ w ∧ w ≤ 64 ∧ ∀ H', Same H H' → Q (.bl (soundD m w)) H'
def sp_risesO (K : PySem.W.Frag) : Sp := fun vs H Q _ => ∃ (a : Addr) (xs : List V) (ds : List PyData), vs = [.ref a] ∧ (SqL K H a xs ∨ SqT K H a xs) ∧ DpAll K H xs ds ∧ ds.length ≤ 30000 ∧ (∀ d ∈ ds, ∃ k x, d = .tuple [.int k, x]) ∧
  ∀ H', Same H H' → Q (.bl (risesI (ds.map keyD))) H'
theorem dp_blk {K : PySem.W.Frag} {H : Hp} {x : V} {b : TB} (h : Dp K H x b.D) : ∃ a p ys, x = .ref a ∧ SqT K H a [.str (wordT b.lf), .ref p] ∧ SqT K H p ys ∧ DpAll K H ys (rowD b.ps) := by
  obtain ⟨a, xs, rfl, ht, hd⟩ := dp_tuple h
  obtain ⟨x1, x2, rfl, h1, h2⟩ := dpAll_two hd
  cases dp_str h1
  obtain ⟨p, ys, rfl, hp, hy⟩ := dp_tuple h2
  exact ⟨a, p, ys, rfl, ht, hp, hy⟩
theorem dp_pair {K : PySem.W.Frag} {H : Hp} {x : V} {p : Int × PyData} (h : Dp K H x (pairD p)) : ∃ a y, x = .ref a ∧ SqT K H a [.int p.1, y] ∧ Dp K H y p.2 := by
  obtain ⟨a, xs, rfl, ht, hd⟩ := dp_tuple h
  obtain ⟨x1, x2, rfl, h1, h2⟩ := dpAll_two hd
  cases dp_i h1
  exact ⟨a, x2, rfl, ht, h2⟩
section
variable {σ : L2.St} {H : Hp} {D : Ends} {t : TS} {c : TT} {m : Nat} {W : Nat → L2.St → Hp → Prop}
/-- what a while's test is followed by: a turn that comes to a smaller one, or the end -/
def whK (t : TS) (D : Ends) (W : Nat → L2.St → Hp → Prop) (m : Nat) (σ : L2.St) : Bool → Hp → Prop := fun go He =>
  if go = true then ∃ N : L2.St → Hp → Prop, (∀ σn Hn, N σn Hn → ∃ k, k < m ∧ W k σn Hn) ∧ t { D with nx := N, ct := N, bk := D.nx } σ He else D.nx σ He
theorem g_while (W : Nat → L2.St → Hp → Prop) (m0 : Nat) (h0 : W m0 σ H) (hs : ∀ m σ H, W m σ H → c σ H (whK t D W m σ)) : tWhile c t D σ H := ⟨W, ⟨m0, h0⟩, hs⟩
theorem g_whT (q : t { D with nx := fun σ' H' => ∃ m', m' < m ∧ W m' σ' H', ct := fun σ' H' => ∃ m', m' < m ∧ W m' σ' H', bk := D.nx } σ H) : whK t D W m σ true H := ⟨_, fun _ _ h => h, q⟩
theorem g_whF (q : D.nx σ H) : whK t D W m σ false H := q
end
theorem nodup_sub_len : ∀ {l1 l2 : List Int}, l1.Nodup → (∀ x ∈ l1, x ∈ l2) → l1.length ≤ l2.length
  | [], _, _, _ => Nat.zero_le _
  | x :: l1, l2, nd, h => by
    rw [List.nodup_cons] at nd
    have hx := h x List.mem_cons_self
    have := nodup_sub_len (l2 := l2.erase x) nd.2 fun y hy => (List.mem_erase_of_ne (fun e => nd.1 (by rw [← e]; exact hy))).mpr (h y (List.mem_cons_of_mem _ hy))
    rw [List.length_erase_of_mem hx] at this
    have h1 : 0 < l2.length := List.length_pos_of_mem hx
    rw [List.length_cons]
    omega
theorem rowT_len {k : Nat} : ∀ {L : List TB}, (∀ b ∈ L, b.ps.length ≤ k) → (rowT L).length ≤ L.length * k
  | [], _ => by simp [rowT]
  | b :: L, h => by
    have h1 := h b List.mem_cons_self
    have h2 := rowT_len (L := L) fun c hc => h c (List.mem_cons_of_mem _ hc)
    have e : rowT (b :: L) = b.ps ++ rowT L := by unfold rowT; rw [List.flatMap_cons]
    rw [e, List.length_append, List.length_cons, Nat.add_mul, Nat.one_mul]
    omega
theorem checkRow_cons {m : BT} {w : Int} {p : Int × PyData} {row : PL} {r : List Int} : checkRow m w r (p :: row) = if decide (numD p.2 ∈ r) || !fitsD w p.1 (blockAt m (numD p.2)) then none else checkRow m w (r ++ [numD p.2]) row := rfl
theorem checkRow_app {m : BT} {w : Int} : ∀ {a b : PL} {r r' : List Int}, checkRow m w r a = some r' → checkRow m w r (a ++ b) = checkRow m w r' b
  | [], b, r, r', h => by cases h; rfl
  | p :: a, b, r, r', h => by
    rw [List.cons_append]
    rw [checkRow_cons] at h ⊢
    split at h
    · cases h
    · rename_i c
      rw [if_neg c]
      exact checkRow_app h
theorem word_br {lf : Bool} : decide (wordT lf = branchW) = !lf := by cases lf <;> decide +kernel
theorem all_br_eq {L : List TB} : (L.all fun b => decide (wordT b.lf = branchW)) = L.all fun b => !b.lf := by
  congr 1
  funext b
  exact word_br
theorem all_lf_eq {L : List TB} : (L.all fun b => decide (wordT b.lf = leafW)) = L.all (·.lf) := by
  congr 1
  funext b
  exact word_lf
/-- what is reached, as a dict -/
def seenD (r : List Int) : BT := r.map fun n => (n, .bool true)
theorem seen_keys {r : List Int} : keysA (seenD r) = r := by
  unfold keysA seenD
  rw [List.map_map]
  exact List.map_id r
theorem seen_get {r : List Int} {n : Int} : (getA (seenD r) n).isSome = decide (n ∈ r) := by
  cases e : (getA (seenD r) n).isSome with
  | true =>
    have := mem_keysA.mpr e
    rw [seen_keys] at this
    exact (decide_eq_true this).symm
  | false =>
    refine (decide_eq_false fun z => ?_).symm
    rw [← seen_keys (r := r)] at z
    rw [mem_keysA.mp z] at e
    cases e
theorem seen_put {r : List Int} {n : Int} (h : n ∉ r) : putA (seenD r) n (.bool true) = seenD (r ++ [n]) := by
  unfold putA
  rw [any_getA, seen_get, decide_eq_false h, if_neg (by decide)]
  unfold seenD
  rw [List.map_append]
  rfl
theorem blockAt_some {m : BT} {n : Int} {l u : Int} (h : isBlockD l u (blockAt m n) = true) : getA m n = some (blockAt m n) := by
  unfold blockAt at h ⊢
  cases e : getA m n with
  | some d => rfl
  | none =>
    rw [e] at h
    cases h
end My

set_option Elab.async false
set_option linter.all false
set_option maxRecDepth 100000
set_option maxHeartbeats 1000000
/-! rows cut from a list, and how they are counted -/
namespace My
open PySem L2
theorem cut_both (xs : List V) (a b : Nat) : cutV xs (some (a : Int)) (some (b : Int)) = (xs.drop a).take (b - a) := by
  unfold cutV
  rw [HT.sIx_nat, HT.sIx_nat]
  by_cases h : a ≤ xs.length
  · rw [Nat.min_eq_left h]
    by_cases h2 : b ≤ xs.length
    · rw [Nat.min_eq_left h2]
    · rw [Nat.min_eq_right (by omega), List.take_of_length_le (by rw [List.length_drop]; omega), List.take_of_length_le (by rw [List.length_drop]; omega)]
  · have e : min a xs.length = xs.length := Nat.min_eq_right (by omega)
    rw [e, List.drop_eq_nil_of_le (Nat.le_refl _), List.drop_eq_nil_of_le (show xs.length ≤ a by omega), List.take_nil, List.take_nil]
section
variable {K : PySem.W.Frag} {H H' H2 : Hp} {a b : Addr} {xs : List V} {v : V} {d : PyData}
/-- tuples stand -/
def Fx (H H' : Hp) : Prop := Keep fixO H H'
theorem Fx.of (s : Same H H') : Fx H H' := Keep.of s
theorem Fx.refl (H : Hp) : Fx H H := Keep.refl H
theorem Fx.trans (f : Fx H H') (g : Fx H' H2) : Fx H H2 := Keep.trans f g
theorem Fx.lst {ys : List V} (h : H a = some (.lst ys)) (o : Oth a H H') : Fx H H' := o.keep fun u p z => by rw [h] at z; cases z; exact p
theorem Fx.dict {m : BT} (h : Dd K H a m) (o : Oth a H H') : Fx H H' := by
  obtain ⟨kvs, h, _⟩ := h
  exact o.keep fun u p z => by rw [h] at z; cases z; exact p
theorem Dp.fx (f : Fx H H') (s : strictD d = true) (h : Dp K H v d) : Dp K H' v d := Dp.keep (P := fixO) (fun _ => trivial) (fun _ _ => trivial) f h s
theorem DpAll.fx {vs : List V} {ds : List PyData} (f : Fx H H') (s : strictAll ds = true) (h : DpAll K H vs ds) : DpAll K H' vs ds := DpAll.keep (P := fixO) (fun _ => trivial) (fun _ _ => trivial) f h s
theorem SqT.fx (f : Fx H H') (h : SqT K H a xs) : SqT K H' a xs := keep_seqT (P := fixO) (fun _ => trivial) (fun _ _ => trivial) f h
theorem Oth.seqLne (o : Oth a H H') (n : b ≠ a) (h : SqL K H b xs) : SqL K H' b xs := by
  rcases h with (h | ⟨u, h⟩) | h
  · exact .inl (.inl (o _ _ n h))
  · exact .inl (.inr ⟨u, o _ _ n h⟩)
  · exact .inr h
theorem Dd.fx {m : BT} {kvs : List (Key × V)} (f : Fx H H') (s : ∀ p ∈ m, strictD p.2 = true) (h : DdAll K H kvs m) : DdAll K H' kvs m := h.map fun h ⟨k, hk⟩ => Dp.fx f (s _ hk) h
theorem Dd.othLne {m : BT} (o : Oth a H H') (n : b ≠ a) (f : Fx H H') (s : ∀ p ∈ m, strictD p.2 = true) (h : Dd K H b m) : Dd K H' b m := by
  obtain ⟨kvs, h1, h2⟩ := h
  exact ⟨kvs, o _ _ n h1, Dd.fx f s h2⟩
end
theorem pairD_strict {p : Int × PyData} (h : strictD p.2 = true) : strictD (pairD p) = true := by simp [pairD, strictD, strictAll, h]
theorem smP.strict {P : PL} (h : smP P) : strictAll (rowD P) = true := strictAll_iff.mpr fun d hd => by
  obtain ⟨p, hp, rfl⟩ := List.mem_map.mp hd
  exact pairD_strict (h p hp).1
def rowsD (rows : List PL) : List PyData := rows.map fun r => .tuple (rowD r)
theorem rowsD_strict {rows : List PL} (h : ∀ r ∈ rows, smP r) : strictAll (rowsD rows) = true := strictAll_iff.mpr fun d hd => by
  obtain ⟨r, hr, rfl⟩ := List.mem_map.mp hd
  simp only [strictD]
  exact (h r hr).strict
theorem D_strict {b : TB} (h : smP b.ps) : strictD b.D = true := (okD_D h).1
/-! the counts -/
def offN (q rem i : Nat) : Nat := i * q + min i rem
theorem offN_succ (q rem i : Nat) : offN q rem (i + 1) = offN q rem i + (q + if i < rem then 1 else 0) := by
  unfold offN
  rw [Nat.add_mul, Nat.one_mul]
  split <;> omega
def cutRows (P : PL) (q rem n : Nat) : List PL := (List.range n).map fun i => (P.drop (offN q rem i)).take (offN q rem (i + 1) - offN q rem i)
theorem cutRows_succ (P : PL) (q rem n : Nat) : cutRows P q rem (n + 1) = cutRows P q rem n ++ [(P.drop (offN q rem n)).take (offN q rem (n + 1) - offN q rem n)] := by
  unfold cutRows
  rw [List.range_succ, List.map_append]
  rfl
theorem cutRows_flat (P : PL) (q rem : Nat) : ∀ n, (cutRows P q rem n).flatten = P.take (offN q rem n)
  | 0 => by
    have : offN q rem 0 = 0 := by unfold offN; simp
    rw [this]
    rfl
  | n + 1 => by
    rw [cutRows_succ, List.flatten_append, cutRows_flat P q rem n, List.flatten_singleton]
    have h : offN q rem (n + 1) = offN q rem n + (offN q rem (n + 1) - offN q rem n) := by
      have := offN_succ q rem n
      omega
    conv => rhs; rw [h, List.take_add]
theorem cutRows_len {P : PL} {q rem n : Nat} (h : offN q rem n ≤ P.length) : ∀ r ∈ cutRows P q rem n, q ≤ r.length ∧ r.length ≤ q + (if rem = 0 then 0 else 1) := by
  intro r hr
  obtain ⟨i, hi, rfl⟩ := List.mem_map.mp hr
  rw [List.mem_range] at hi
  have h1 := offN_succ q rem i
  have mono : ∀ d, offN q rem (i + 1) ≤ offN q rem (i + 1 + d) := fun d => by
    induction d with
    | zero => exact Nat.le_refl _
    | succ d ih => have := offN_succ q rem (i + 1 + d); rw [← Nat.add_assoc]; omega
  have h2 := mono (n - (i + 1))
  rw [show i + 1 + (n - (i + 1)) = n by omega] at h2
  rw [List.length_take, List.length_drop]
  by_cases c : i < rem
  · rw [if_pos c] at h1
    rw [if_neg (show ¬ rem = 0 by omega)]
    omega
  · rw [if_neg c] at h1
    split <;> omega
theorem cutRows_num {P : PL} {q rem n : Nat} : (cutRows P q rem n).length = n := by
  unfold cutRows
  rw [List.length_map, List.length_range]
/-- how many rows there may be -/
theorem rows_count {N w c : Int} (hw : 3 ≤ w) (hN : w < N) :
    2 ≤ -((-N) / w) ∧ 0 < (if N / ((w + 1) / 2) > 1 then N / ((w + 1) / 2) else 1) - -((-N) / w) + 1 ∧
    ∀ many, many = -((-N) / w) + c % ((if N / ((w + 1) / 2) > 1 then N / ((w + 1) / 2) else 1) - -((-N) / w) + 1) →
      2 ≤ many ∧ (w + 1) / 2 ≤ N / many ∧ N / many + (if N % many = 0 then 0 else 1) ≤ w ∧ many * 2 ≤ N := by
  obtain ⟨h, hh⟩ : ∃ h, h = (w + 1) / 2 := ⟨_, rfl⟩
  rw [← hh]
  have h2 : 2 ≤ h := by omega
  have hw2 : w ≤ 2 * h := by omega
  have hw3 : 2 * h - 1 ≤ w := by omega
  obtain ⟨l, hl⟩ : ∃ l, l = -((-N) / w) := ⟨_, rfl⟩
  rw [← hl]
  have e1 := Int.mul_ediv_add_emod (-N) w
  have e2 := Int.emod_nonneg (-N) (show w ≠ 0 by omega)
  have e3 := Int.emod_lt_of_pos (-N) (show 0 < w by omega)
  have e4 : -N / w = -l := by omega
  rw [e4] at e1
  have e5 : w * -l = -(w * l) := Int.mul_neg w l
  rw [e5] at e1
  have l2 : 2 ≤ l := by
    by_cases c : 2 ≤ l
    · exact c
    · have : w * l ≤ w * 1 := Int.mul_le_mul_of_nonneg_left (by omega) (by omega)
      omega
  have hlN : h * l ≤ N := by
    have p := Int.mul_nonneg (show 0 ≤ h - 1 by omega) (show 0 ≤ l - 2 by omega)
    have p2 : (h - 1) * (l - 2) = h * l - 2 * h - l + 2 := by rw [Int.sub_mul, Int.mul_sub, Int.one_mul]; omega
    have p3 : (2 * h - 1) * (l - 1) ≤ w * (l - 1) := Int.mul_le_mul_of_nonneg_right hw3 (by omega)
    have p4 : (2 * h - 1) * (l - 1) = 2 * (h * l) - l - 2 * h + 1 := by rw [Int.sub_mul, Int.mul_sub, Int.one_mul, Int.mul_assoc]; omega
    have p5 : w * (l - 1) = w * l - w := by rw [Int.mul_sub, Int.mul_one]
    omega
  have hm : l ≤ N / h := (Int.le_ediv_iff_mul_le (by omega)).mpr (by rw [Int.mul_comm]; exact hlN)
  rw [if_pos (show N / h > 1 by omega)]
  refine ⟨l2, by omega, fun many e => ?_⟩
  have c1 := Int.emod_nonneg c (show N / h - l + 1 ≠ 0 by omega)
  have c2 := Int.emod_lt_of_pos c (show 0 < N / h - l + 1 by omega)
  generalize c % (N / h - l + 1) = c' at *
  have m1 : many ≤ N / h := by omega
  have m2 : h * many ≤ N := by
    have := (Int.le_ediv_iff_mul_le (show 0 < h by omega)).mp m1
    rw [Int.mul_comm] at this
    exact this
  have m3 : h ≤ N / many := (Int.le_ediv_iff_mul_le (show 0 < many by omega)).mpr m2
  have m4 : w * l ≤ w * many := Int.mul_le_mul_of_nonneg_left (by omega) (by omega)
  have f1 := Int.mul_ediv_add_emod N many
  have f2 := Int.emod_nonneg N (show many ≠ 0 by omega)
  have f3 := Int.emod_lt_of_pos N (show 0 < many by omega)
  have f4 : N ≤ w * many := by omega
  have m5 : 2 * many ≤ h * many := Int.mul_le_mul_of_nonneg_right h2 (by omega)
  refine ⟨by omega, m3, ?_, by omega⟩
  generalize N / many = q at *
  rw [Int.mul_comm] at f4
  by_cases c0 : N % many = 0
  · rw [if_pos c0, Int.add_zero]
    rw [c0, Int.add_zero] at f1
    refine Int.le_of_mul_le_mul_left (a := many) ?_ (by omega)
    omega
  · rw [if_neg c0]
    have : many * q < many * w := by omega
    have := Int.lt_of_mul_lt_mul_left this (by omega)
    omega
end My

set_option Elab.async false
set_option linter.all false
set_option maxRecDepth 100000
set_option maxHeartbeats 1000000
/-! trees with something wrong -/
namespace My
open PySem L2
section
variable {m m' : BT} {w w' : Int} {r r' rf : List Int} {L Lf : List TB} {P : PL} {n : Int}
theorem Run.blocks (h : Run m w r L rf Lf) : ∀ n ∈ rf, n ∉ r → isBlockD (halfI w) w (blockAt m n) = true := by
  induction h with
  | stop h0 h => intro n hn hr; exact absurd hn hr
  | @next r r' rf L Lf h0 hb h2 hc hR ih =>
    intro n hn hr
    obtain ⟨h1, g2, _, _⟩ := checkRow_some hc
    by_cases c : n ∈ numsT (rowT L)
    · obtain ⟨p, hp, rfl⟩ := List.mem_map.mp c
      have := g2 p hp
      unfold fitsD at this
      rw [Bool.and_eq_true] at this
      exact this.1
    · refine ih n hn fun z => ?_
      rw [h1] at z
      rcases List.mem_append.mp z with z | z
      · exact hr z
      · exact c z
theorem Run.to' (h : Run m w r L rf Lf) {n : Int} (hn : n ∈ rf) (hr : n ∉ r) (ha : ∀ k ∈ rf, k ≠ n → getA m' k = getA m k)
    (X : ∀ r r' L, L ≠ [] → (∀ b ∈ L, b.lf = false) → 2 ≤ (rowT L).length → checkRow m w r (rowT L) = some r' → n ∈ numsT (rowT L) → Run m w r' (nextL m (rowT L)) rf Lf → (∀ k ∈ numsT (rowT L), k ∈ rf) → ∀ f, soundL m' w f r L = false) : ∀ f, soundL m' w f r L = false := by
  induction h with
  | stop h0 h => exact absurd hn hr
  | @next r r' rf L Lf h0 hb h2 hc hR ih =>
    obtain ⟨h1, _, h3, _⟩ := checkRow_some hc
    have hrf : ∀ k ∈ numsT (rowT L), k ∈ rf := fun k hk => hR.sub (by rw [h1]; exact List.mem_append_right _ hk)
    by_cases c : n ∈ numsT (rowT L)
    · exact X r r' L h0 hb h2 hc c hR hrf
    · intro f
      cases f with
      | zero => rfl
      | succ f =>
        have hrow : ∀ k ∈ numsT (rowT L), getA m' k = getA m k := fun k hk => ha k (hrf k hk) fun e => c (e ▸ hk)
        unfold soundL
        rw [all_br hb, if_pos rfl, checkRow_agree hrow, hc, nextL_agree hrow]
        refine ih hn (fun z => ?_) ha X f
        rw [h1] at z
        rcases List.mem_append.mp z with z | z
        · exact hr z
        · exact c z
/-- what stands behind a tree -/
structure TF (w : Int) (P : PL) (m : BT) (b : TB) (rf : List Int) (Lf : List TB) : Prop where
  root : getA m 0 = some b.D
  ok : okT 0 w b
  two : b.lf = true ∨ 2 ≤ b.ps.length
  run : Run m w [0] [b] rf Lf
  row : rowT Lf = P
  len : rf.length = m.length
  all : ∀ n ∈ keysA m, n ∈ rf
  only : ∀ n ∈ rf, n ∈ keysA m
theorem Tree.tf (T : Tree w P m) : ∃ b rf Lf, TF w P m b rf Lf := by
  obtain ⟨b, h0, hok, _, h2, rf, Lf, hR, hl, hP⟩ := T.root
  have only : ∀ n ∈ rf, n ∈ keysA m := fun n hn => by
    by_cases c : n = 0
    · subst c
      exact mem_keysA.mpr (by rw [h0]; rfl)
    · exact mem_keysA.mpr (by rw [blockAt_some (hR.blocks n hn (fun z => c (List.mem_singleton.mp z)))]; rfl)
  have nd : rf.Nodup := by
    obtain ⟨s, e, nds, hs⟩ := hR.pre
    rw [e, List.nodup_append]
    refine ⟨by simp, nds, fun a ha c hc e => ?_⟩
    subst e
    exact hs a hc ha
  refine ⟨b, rf, Lf, h0, hok, h2, hR, hP, hl, fun n hn => ?_, only⟩
  by_cases c : n ∈ rf
  · exact c
  · have h := nodup_sub_len (l1 := n :: rf) (l2 := keysA m) (List.nodup_cons.mpr ⟨c, nd⟩) fun x hx => by
      rcases List.mem_cons.mp hx with e | e
      · rw [e]; exact hn
      · exact only x e
    unfold keysA at h
    rw [List.length_map, List.length_cons] at h
    omega
theorem Tree.block (T : Tree w P m) (hn : n ∈ keysA m) (h0 : n ≠ 0) : ∃ b : TB, getA m n = some b.D ∧ okT (halfI w) w b := by
  obtain ⟨b, rf, Lf, F⟩ := T.tf
  have h := F.run.blocks n (F.all n hn) fun z => h0 (List.mem_singleton.mp z)
  obtain ⟨e, hok⟩ := isBlockD_iff.mp h
  exact ⟨toTB (blockAt m n), by rw [← e]; exact blockAt_some h, hok⟩
theorem blockAt_of {d : PyData} (h : getA m n = some d) : blockAt m n = d := by unfold blockAt; rw [h]; rfl
/-- one block other, not the root: where the walk comes to it -/
theorem Tree.false_at (T : Tree w P m) (hn : n ∈ keysA m) (h0 : n ≠ 0) (ha : ∀ k ∈ keysA m, k ≠ n → getA m' k = getA m k)
    (X : ∀ r R1 p R2 rf Lf, numD p.2 = n → p.1 = firstK (toTB (blockAt m n)) → fitsD w p.1 (blockAt m' n) = true → 2 ≤ (R1 ++ p :: R2).length → rowT Lf = P → Run m w r (nextL m R1 ++ toTB (blockAt m n) :: nextL m R2) rf Lf →
      ∀ f r2, soundL m' w f r2 (nextL m R1 ++ toTB (blockAt m' n) :: nextL m R2) = false) : soundD m' w = false := by
  obtain ⟨b, rf, Lf, F⟩ := T.tf
  have e0 : blockAt m' 0 = b.D := blockAt_of ((ha 0 (mem_keysA.mpr (by rw [F.root]; rfl)) fun e => h0 e.symm).trans F.root)
  unfold soundD
  rw [e0, toTB_D]
  rw [F.run.to' (F.all n hn) (fun z => h0 (List.mem_singleton.mp z)) (fun k hk hkn => ha k (F.only k hk) hkn) ?_ _, Bool.and_false]
  intro r r' L hL hbr h2 hc hnL hR hrf f
  cases f with
  | zero => rfl
  | succ f =>
    obtain ⟨h1, g2, h3, h4⟩ := checkRow_some hc
    obtain ⟨p, hp, hpn⟩ := List.mem_map.mp hnL
    obtain ⟨R1, R2, hrow⟩ := List.append_of_mem hp
    unfold soundL
    rw [all_br hbr, if_pos rfl]
    cases hc' : checkRow m' w r (rowT L) with
    | none => rfl
    | some r2 =>
      obtain ⟨_, g2', _, _⟩ := checkRow_some hc'
      have hk := g2 p hp
      have hk' := g2' p hp
      rw [hpn] at hk hk'
      unfold fitsD at hk
      rw [Bool.and_eq_true, decide_eq_true_eq] at hk
      rw [hrow] at hR h4 hrf
      have h4' : (numsT R1 ++ n :: numsT R2).Nodup := by
        have : numsT (R1 ++ p :: R2) = numsT R1 ++ n :: numsT R2 := by rw [numsT_app]; show _ ++ (numD p.2 :: numsT R2) = _; rw [hpn]
        rw [← this]
        exact h4
      rw [List.nodup_append, List.nodup_cons] at h4'
      have a1 : ∀ k ∈ numsT R1, getA m' k = getA m k := fun k hk => ha k (F.only k (hrf k (by rw [numsT_app]; exact List.mem_append_left _ hk))) fun e => h4'.2.2 k hk n List.mem_cons_self e
      have a2 : ∀ k ∈ numsT R2, getA m' k = getA m k := fun k hk => ha k (F.only k (hrf k (by rw [numsT_app]; exact List.mem_append_right _ (List.mem_cons_of_mem _ hk)))) fun e => h4'.2.1.1 (e ▸ hk)
      have eN : nextL m' (rowT L) = nextL m R1 ++ toTB (blockAt m' n) :: nextL m R2 := by
        rw [hrow]
        unfold nextL
        rw [List.map_append, List.map_cons, hpn]
        show nextL m' R1 ++ _ :: nextL m' R2 = nextL m R1 ++ _ :: nextL m R2
        rw [nextL_agree a1, nextL_agree a2]
      have eM : nextL m (R1 ++ p :: R2) = nextL m R1 ++ toTB (blockAt m n) :: nextL m R2 := by
        unfold nextL
        rw [List.map_append, List.map_cons, hpn]
      rw [eM] at hR
      show soundL m' w f r2 (nextL m' (rowT L)) = false
      rw [eN]
      exact X r' R1 p R2 rf Lf hpn hk.2.symm hk' (by rw [← hrow]; exact h2) F.row hR f r2
/-- a block that does not fit below its key -/
theorem Tree.bad_at (T : Tree w P m) (hn : n ∈ keysA m) (h0 : n ≠ 0) (ha : ∀ k ∈ keysA m, k ≠ n → getA m' k = getA m k)
    (hb : fitsD w (firstK (toTB (blockAt m n))) (blockAt m' n) = false) : soundD m' w = false :=
  T.false_at hn h0 ha fun r R1 p R2 rf Lf h1 h2 h3 _ _ _ _ _ => by
    rw [h2, hb] at h3
    cases h3
theorem Tree.bad_root (hb : rootD w (blockAt m' 0) = false) : soundD m' w = false := by
  unfold soundD
  rw [hb, Bool.false_and]
theorem rowT_app {A B : List TB} : rowT (A ++ B) = rowT A ++ rowT B := by unfold rowT; rw [List.flatMap_append]
theorem rowT_cons {b : TB} {B : List TB} : rowT (b :: B) = b.ps ++ rowT B := by unfold rowT; rw [List.flatMap_cons]
/-- all of a level are of one kind -/
theorem Run.kind (h : Run m w r L rf Lf) {b : TB} (hb : b ∈ L) : (b.lf = true → (∀ c ∈ L, c.lf = true) ∧ Lf = L) ∧ (b.lf = false → ∀ c ∈ L, c.lf = false) := by
  cases h with
  | stop h0 h => exact ⟨fun _ => ⟨h, rfl⟩, fun e => (by rw [h b hb] at e; cases e)⟩
  | next h0 h _ _ _ => exact ⟨fun e => (by rw [h b hb] at e; cases e), fun _ => h⟩
/-- a branch that names one block twice -/
theorem Tree.twice (T : Tree w P m) (hn : n ∈ keysA m) (h0 : n ≠ 0) (ha : ∀ k ∈ keysA m, k ≠ n → getA m' k = getA m k) (hlf : (toTB (blockAt m n)).lf = false) (hlf' : (toTB (blockAt m' n)).lf = false)
    (hd : ¬ (numsT (toTB (blockAt m' n)).ps).Nodup) : soundD m' w = false :=
  T.false_at hn h0 ha fun r R1 p R2 rf Lf h1 h2 h3 h4 h5 hR f r2 => by
    have hk := (hR.kind (b := toTB (blockAt m n)) (by simp)).2 hlf
    have hall : ∀ c ∈ nextL m R1 ++ toTB (blockAt m' n) :: nextL m R2, c.lf = false := fun c hc => by
      rcases List.mem_append.mp hc with hc | hc
      · exact hk c (List.mem_append_left _ hc)
      · rcases List.mem_cons.mp hc with e | e
        · rw [e]; exact hlf'
        · exact hk c (List.mem_append_right _ (List.mem_cons_of_mem _ e))
    cases f with
    | zero => rfl
    | succ f =>
      unfold soundL
      rw [all_br hall, if_pos rfl]
      cases hc' : checkRow m' w r2 (rowT (nextL m R1 ++ toTB (blockAt m' n) :: nextL m R2)) with
      | none => rfl
      | some r3 =>
        obtain ⟨_, _, _, h4⟩ := checkRow_some hc'
        rw [rowT_app, rowT_cons, numsT_app, numsT_app] at h4
        exact absurd (List.nodup_append.mp (List.nodup_append.mp h4).2.1).1 hd
theorem root_twice {b' : TB} (e : blockAt m' 0 = b'.D) (hlf : b'.lf = false) (hd : ¬ (numsT b'.ps).Nodup) : soundD m' w = false := by
  unfold soundD
  rw [e, toTB_D]
  have : soundL m' w (m'.length + 1) [0] [b'] = false := by
    unfold soundL
    rw [all_br (L := [b']) (fun c hc => by rw [List.mem_singleton.mp hc]; exact hlf), if_pos rfl, rowT_one]
    cases hc : checkRow m' w [0] b'.ps with
    | none => rfl
    | some r3 =>
      obtain ⟨_, _, _, h4⟩ := checkRow_some hc
      exact absurd h4 hd
  rw [this, Bool.and_false]
/-- a leaf that is a branch -/
theorem Tree.deeper (T : Tree w P m) (hn : n ∈ keysA m) (h0 : n ≠ 0) (ha : ∀ k ∈ keysA m, k ≠ n → getA m' k = getA m k) (hlf : (toTB (blockAt m n)).lf = true) (hlf' : (toTB (blockAt m' n)).lf = false) : soundD m' w = false :=
  T.false_at hn h0 ha fun r R1 p R2 rf Lf h1 h2 h3 h4 h5 hR f r2 => by
    have hk := ((hR.kind (b := toTB (blockAt m n)) (by simp)).1 hlf).1
    have hx : ∃ c, c ∈ nextL m R1 ++ toTB (blockAt m' n) :: nextL m R2 ∧ c.lf = true := by
      rw [List.length_append, List.length_cons] at h4
      cases e1 : R1 with
      | cons q R =>
        refine ⟨toTB (blockAt m (numD q.2)), by unfold nextL; simp, hk _ ?_⟩
        rw [e1]; unfold nextL; simp
      | nil =>
        cases e2 : R2 with
        | cons q R =>
          refine ⟨toTB (blockAt m (numD q.2)), by unfold nextL; simp, hk _ ?_⟩
          rw [e2]; unfold nextL; simp
        | nil => rw [e1, e2] at h4; simp at h4
    obtain ⟨c, hc, hclf⟩ := hx
    cases f with
    | zero => rfl
    | succ f =>
      unfold soundL
      have n1 : (nextL m R1 ++ toTB (blockAt m' n) :: nextL m R2).all (fun b => !b.lf) = false := List.all_eq_false.mpr ⟨c, hc, by rw [hclf]; decide⟩
      have n2 : (nextL m R1 ++ toTB (blockAt m' n) :: nextL m R2).all (·.lf) = false := List.all_eq_false.mpr ⟨_, List.mem_append_right _ List.mem_cons_self, by rw [hlf']; decide⟩
      rw [n1, if_neg (by decide), n2, Bool.false_and]
/-- a leaf whose last key is no less than the next one -/
theorem Tree.falls (T : Tree w P m) (hw : 3 ≤ w) (hn : n ∈ keysA m) (h0 : n ≠ 0) (ha : ∀ k ∈ keysA m, k ≠ n → getA m' k = getA m k) (hlf : (toTB (blockAt m n)).lf = true)
    {init : PL} {kl k' : Int} {hl hl' : PyData} (e1 : (toTB (blockAt m n)).ps = init ++ [(kl, hl)]) (e2 : toTB (blockAt m' n) = ⟨true, init ++ [(k', hl')]⟩)
    (hk : ∀ A kc C, keysT P = A ++ kl :: kc :: C → kc ≤ k') (hlast : ∀ A, keysT P ≠ A ++ [kl]) : soundD m' w = false :=
  T.false_at hn h0 ha fun r R1 p R2 rf Lf h1 h2 h3 h4 h5 hR f r2 => by
    obtain ⟨hk1, hLf⟩ := (hR.kind (b := toTB (blockAt m n)) (by simp)).1 hlf
    rw [hLf, rowT_app, rowT_cons, e1] at h5
    have hP : keysT P = (keysT (rowT (nextL m R1)) ++ keysT init) ++ kl :: keysT (rowT (nextL m R2)) := by
      rw [← h5, keysT_app, keysT_app, keysT_app, List.append_assoc, List.append_assoc]
      rfl
    cases ec : keysT (rowT (nextL m R2)) with
    | nil => rw [ec] at hP; exact absurd hP (hlast _)
    | cons kc C =>
      rw [ec] at hP
      have hle := hk _ _ _ hP
      cases f with
      | zero => rfl
      | succ f =>
        unfold soundL
        have n1 : (nextL m R1 ++ toTB (blockAt m' n) :: nextL m R2).all (fun b => !b.lf) = false := List.all_eq_false.mpr ⟨_, List.mem_append_right _ List.mem_cons_self, by rw [e2]; simp⟩
        have n3 : risesI (keysT (rowT (nextL m R1 ++ toTB (blockAt m' n) :: nextL m R2))) = false := by
          have : keysT (rowT (nextL m R1 ++ toTB (blockAt m' n) :: nextL m R2)) = (keysT (rowT (nextL m R1)) ++ keysT init) ++ k' :: kc :: C := by
            rw [rowT_app, rowT_cons, e2, keysT_app, keysT_app, keysT_app, ec, List.append_assoc, List.append_assoc]
            rfl
          rw [this]
          exact rises_not (by omega)
        rw [n1, if_neg (by decide), n3, Bool.false_and, Bool.and_false]
/-- blocks more than are named -/
theorem Tree.more (T : Tree w P m) (ha : ∀ k ∈ keysA m, getA m' k = getA m k) (hl : m.length < m'.length) : soundD m' w = false := by
  obtain ⟨b, rf, Lf, F⟩ := T.tf
  have e0 : blockAt m' 0 = b.D := blockAt_of ((ha 0 (mem_keysA.mpr (by rw [F.root]; rfl))).trans F.root)
  have hR := F.run.mono (m' := m') fun n hn _ => ha n (F.only n hn)
  unfold soundD
  rw [e0, toTB_D]
  rw [soundL_run hR _ (by have := F.len; simp; omega), decide_eq_false (by have := F.len; omega), Bool.and_false, Bool.and_false]
/-- of another width -/
theorem Tree.wide (T : Tree w P m) (hw : w ≤ w') : soundD m w' = true ↔ ∀ n ∈ keysA m, n ≠ 0 → halfI w' ≤ ((toTB (blockAt m n)).ps.length : Int) := by
  obtain ⟨b, rf, Lf, F⟩ := T.tf
  have e0 : blockAt m 0 = b.D := blockAt_of F.root
  have hroot : rootD w' (blockAt m 0) = true := by
    unfold rootD
    rw [e0, isBlockD_D.mpr ⟨F.ok.1, by have := F.ok.2.1; omega, F.ok.2.2.1, F.ok.2.2.2⟩, toTB_D]
    rcases F.two with h | h
    · rw [h]; rfl
    · rw [decide_eq_true h, Bool.or_true]; rfl
  unfold soundD
  rw [hroot, Bool.true_and, e0, toTB_D]
  constructor
  · intro h n hn hn0
    have := F.run.wide _ h n (F.all n hn) fun z => hn0 (List.mem_singleton.mp z)
    exact (isBlockD_iff.mp this).2.1
  · intro h
    have hR := F.run.widen (w' := w') fun n hn hr => by
      have hn0 : n ≠ 0 := fun e => hr (by rw [e]; exact List.mem_singleton.mpr rfl)
      obtain ⟨c, hc, hok⟩ := T.block (F.only n hn) hn0
      have h1 := h n (F.only n hn) hn0
      rw [blockAt_of hc, toTB_D] at h1
      rw [blockAt_of hc]
      exact isBlockD_D.mpr ⟨h1, by have := hok.2.1; omega, hok.2.2.1, hok.2.2.2⟩
    rw [soundL_run hR _ (by have := F.len; simp; omega), F.row, (rises_iff _).mpr T.rise, decide_eq_true F.len]
    rfl
end
end My

set_option Elab.async false
set_option linter.all false
set_option maxRecDepth 100000
set_option maxHeartbeats 1000000
/-! tuples cut, joined and turned, told of data -/
namespace My
open PySem PySem.Spec PyProof.Rows HT L2
theorem fm_congr {α β : Type} {f g : α → Option β} : ∀ {l : List α}, (∀ x ∈ l, f x = g x) → l.filterMap f = l.filterMap g
  | [], _ => rfl
  | x :: l, h => by rw [List.filterMap_cons, List.filterMap_cons, h x List.mem_cons_self, fm_congr fun y hy => h y (List.mem_cons_of_mem _ hy)]
section
variable {prog : Program} {w : World} {A : Around} {E : Value → Shared → Prop} {s : Shared}
theorem back_places (n : Nat) : Builtin.Slice.sliceAdjust none none (-1) (n : Int) = ((n : Int) - 1, -1) ∧ Builtin.Slice.slicePlaces ((n : Int) - 1) (-1) (-1) = n := by
  refine ⟨rfl, ?_⟩
  unfold Builtin.Slice.slicePlaces
  rw [if_neg (by decide)]
  by_cases c : (n : Int) - 1 > -1
  · rw [if_pos c, show -(-1 : Int) = 1 by decide, Int.ediv_one]; omega
  · rw [if_neg c]; omega
theorem back_pick (xs : Array Value) : ((List.range xs.size).filterMap fun (k : Nat) => xs[((xs.size : Int) - 1 + (k : Int) * (-1)).toNat]?).toArray = xs.toList.reverse.toArray := by
  have e : ((List.range xs.size).filterMap fun (k : Nat) => xs[((xs.size : Int) - 1 + (k : Int) * (-1)).toNat]?) = ((List.range xs.size).map fun k => xs.size - 1 - k).filterMap (xs[·]?) := by
    rw [List.filterMap_map]
    refine fm_congr fun k hk => ?_
    rw [List.mem_range] at hk
    show xs[_]? = xs[xs.size - 1 - k]?
    congr 1
    omega
  rw [e, PySem.W.krv_range, List.filterMap_reverse, PySem.W.krv_all]
theorem back_parts {sl : Addr} {vs : Value} {n : Nat} {Q : Int × Int × Nat → Shared → Prop} (hs : s.heap.IsSliceOf sl .none .none vs) (ps : IsPart vs (some (-1))) (h : Q ((n : Int) - 1, -1, n) s) :
    wpAny (model prog w) A (Builtin.Slice.sliceApplied (.ref sl) (pure (n : Int))) Q E s := by
  obtain ⟨o, ho, _, hf⟩ := id hs
  unfold Builtin.Slice.sliceApplied Builtin.Slice.sliceFields
  refine wpAny_bind (wpAny_bind (wpAny_field ho hf (x := .none) rfl ?_)); refine wpAny_bind (wpAny_field ho hf (x := .none) rfl ?_)
  refine wpAny_bind (wpAny_field ho hf (x := vs) rfl (wpAny_pure ?_)); refine wpAny_bind (slicePart_ ps ?_)
  show wpAny _ _ (if ((-1 : Int) == 0) = true then _ else _) _ _ s
  rw [if_neg (by decide)]; refine wpAny_bind (slicePart_none (wpAny_bind (slicePart_none (wpAny_bind (wpAny_pure ?_)))))
  show wpAny _ _ (match Builtin.Slice.sliceAdjust none none (-1) (n : Int) with | (lo, hi) => pure (lo, (-1 : Int), Builtin.Slice.slicePlaces lo hi (-1))) _ _ s
  rw [(back_places n).1]; show wpAny _ _ (pure ((n : Int) - 1, (-1 : Int), Builtin.Slice.slicePlaces ((n : Int) - 1) (-1) (-1))) _ _ s
  rw [(back_places n).2]; exact wpAny_pure h
theorem back_item {t sl : Addr} {items : Array Value} {vs : Value} {Q : Value → Shared → Prop} (ht : IsTup s.heap t items) (hs : s.heap.IsSliceOf sl .none .none vs) (ps : IsPart vs (some (-1)))
    (h : Q (.ref s.heap.objs.size) { s with heap := s.heap.push { cls := .type "tuple", data := .seq items.toList.reverse.toArray } }) (hz : items.size ≤ sizeLine) : wpAny (model prog w) A (getItem (.ref t) (.ref sl)) Q E s := by
  have fit : sizeOk (.seq items.toList.reverse.toArray) := by
    show items.toList.reverse.toArray.size ≤ sizeLine
    rw [List.size_toArray, List.length_reverse, Array.length_toList]
    exact hz
  obtain ⟨o, ho, hcl, hf⟩ := id hs
  have ty : s.TypeIs (.ref sl) "slice" := ⟨o, ho, hcl⟩
  unfold getItem
  refine wpAny_holding ?_; refine wpAny_bind (wpAny_sequenceKey ht.typeIs (by decide) ?_)
  refine wpAny_bind (wpAny_callSpecial?_slot (name := Str.ofString "__getitem__") ht.typeIs PyProof.Rows.slot_tuple_getitem (wpAny_call_entry PyProof.Rows.slot_tuple_getitem ht.typeIs entry_tuple_getitem ?_ (args_tuple_getitem _ _)))
  show wpAny _ _ (Builtin.Tuple.tupleItemsOf (.ref t) >>= _) _ _ s; refine wpAny_bind (tupleItemsOf_ ht (wpAny_bind (wpAny_typeOf ty ?_)))
  rw [if_pos (by decide)]; refine wpAny_bind (back_parts hs ps ?_)
  show wpAny _ _ (if (((items.size : Int) - 1 == 0) && ((-1 : Int) == 1) && (items.size == items.size)) = true then _ else _) _ _ s
  rw [if_neg (by rw [Bool.and_eq_true, Bool.and_eq_true]; rintro ⟨⟨_, z⟩, _⟩; cases z), back_pick]
  first
    | exact wpAny_bind (m := Builtin.Tuple.tupleExact _) (wpAny_newObj_type (wpAny_pure ⟨_, rfl, wpAny_pure h⟩) fit)
    | exact wpAny_bind (wpAny_bind (m := Builtin.Tuple.tupleExact _) (wpAny_newObj_type (wpAny_pure (wpAny_pure ⟨_, rfl, wpAny_pure h⟩)) fit))
    | exact wpAny_bind (wpAny_bind (m := Builtin.Tuple.tupleExact _) (wpAny_newObj_type (wpAny_pure ⟨_, rfl, wpAny_pure h⟩) fit))
end
end My
namespace My
open PySem PySem.Spec PyProof.Rows L2
section
variable {X : Cx}
/-- t[::-1] of a tuple -/
def tRevT (K : PySem.W.Frag) (te : TE) : TE := fun σ H Q => te σ H fun x Ha => ∃ t zs, x = .ref t ∧ SqT K Ha t zs ∧ ∀ p, Ha p = none → Q (.ref p) (upd Ha p (.tup zs.reverse))
theorem pe_revT {e : Expr} {te : TE} {k : Nat} {pa pb pc pos : Pos} (he : PE X e te) : PE X (.Subscript e (.Slice none none (some (.UnaryOp .USub (.Constant (.int 1) k pa) pb)) pc) pos) (tRevT X.K te) := by
  refine ⟨fun pins s σ H Q I h => Subscript_ (thn (he.run pins s σ H _ I h) fun v sa ⟨x, Ha, Ia, ra, t, zs, ex, hx, q⟩ => ?_)⟩
  subst ex; cases ra
  have step : PO X (some (.UnaryOp .USub (.Constant (.int 1) k pa) pb)) (tPart (tUn (rU fun i => .int (-i)) (tC (.int 1)))) := po_some (pe_un un_neg pe_int)
  refine wpAny_Slice (thn (po_none.run pins sa σ Ha (fun o Hb => o = none ∧ Hb = Ha) Ia ⟨rfl, rfl⟩) fun vl sb ⟨ol, Hb, Ib, pl, zl, zb⟩ => ?_); subst zl zb
  refine thn (po_none.run pins sb σ Hb (fun o Hc => o = none ∧ Hc = Hb) Ib ⟨rfl, rfl⟩) fun vu sc ⟨ou, Hc, Ic, pu, zu, zc⟩ => ?_; subst zu zc
  refine thn (step.run pins sc σ Hc (fun o Hd => o = some (-1) ∧ Hd = Hc) Ic ⟨1, rfl, -1, rfl, rfl, rfl⟩) fun vs sd ⟨os, Hd, Id, ps, zs', zd⟩ => ?_; subst zs' zd
  cases pl; cases pu
  have Ie : Inv X pins σ Hd { sd with heap := sd.heap.push { cls := .type "slice", data := .fields #[.none, .none, vs] } } := Id.kept (t' := sd.toks) fun b ob z => Heap.get?_push_of_some _ z
  obtain ⟨its, r, ht, hz⟩ := Ie.tuple hx
  have len : its.toArray.size ≤ sizeLine := by rw [List.size_toArray, ← r.length]; exact hz
  refine tail_any (ops := [.ref t, .ref sd.heap.objs.size]) ht.typeIs (PyProof.Rows.slot_tuple_getitem.lookup) ?_ (by with_unfolding_all rfl)
  refine back_item ht (Heap.IsSliceOf.new _ .none .none vs) ps ?_ len
  refine ⟨.ref _, _, Ie.laid (t' := sd.toks) (o := .tup zs.reverse) (fun b ob z => Heap.get?_push_of_some _ z) (Nat.le_refl _) ?_, rfl, q _ (Ie.hok.fresh (Nat.le_refl _))⟩
  exact ⟨by rw [List.length_reverse]; exact hz, _, r.reverse, IsTup.new _ _⟩
end
end My

set_option Elab.async false
set_option linter.all false
set_option maxRecDepth 100000
set_option maxHeartbeats 1000000
/-! expressions over tuples of data -/
namespace My
open PySem L2
/-- the part of a list by its ends -/
def cutL {α : Type} (xs : List α) (lo hi : Option Int) : List α := (xs.drop (HT.sIx xs.length 0 lo)).take (HT.sIx xs.length xs.length hi - HT.sIx xs.length 0 lo)
theorem cutL_to {α : Type} (xs : List α) (n : Nat) : cutL xs none (some (n : Int)) = xs.take n := by
  unfold cutL
  rw [HT.sIx_none, HT.sIx_nat, List.drop_zero, Nat.sub_zero]
  by_cases h : n ≤ xs.length
  · rw [Nat.min_eq_left h]
  · rw [Nat.min_eq_right (by omega), List.take_length, List.take_of_length_le (by omega)]
theorem cutL_from {α : Type} (xs : List α) (n : Nat) : cutL xs (some (n : Int)) none = xs.drop n := by
  unfold cutL
  rw [HT.sIx_none, HT.sIx_nat]
  by_cases h : n ≤ xs.length
  · rw [Nat.min_eq_left h, List.take_of_length_le (by rw [List.length_drop]; omega)]
  · have e : min n xs.length = xs.length := Nat.min_eq_right (by omega)
    rw [e, Nat.sub_self, List.take_zero, List.drop_eq_nil_of_le (by omega)]
theorem cutL_init {α : Type} (xs : List α) (x : α) : cutL (xs ++ [x]) none (some (-1)) = xs := by
  unfold cutL
  have e : HT.sIx (xs ++ [x]).length (xs ++ [x]).length (some (-1)) = xs.length := by
    unfold HT.sIx
    simp only
    rw [if_pos (by decide), List.length_append, List.length_singleton]
    omega
  rw [HT.sIx_none, e, List.drop_zero, Nat.sub_zero, List.take_left]
section
variable {K : PySem.W.Frag} {σ : L2.St} {H : Hp} {ta tb te : TE} {d : PyData} {ds es : List PyData} {i : Int} {lo hi : Option Int} {tl th : TO} {Q : VK}
theorem evd_slA (h : EvD K te σ H (.tuple ds)) (h1 : EvO K tl σ H lo) (h2 : EvO K th σ H hi) : EvD K (tSl (rSlA K) te tl th) σ H (.tuple (cutL ds lo hi)) := fun H1 s1 Q q =>
  h H1 s1 _ fun x H2 s2 hx => h1 H2 (s1.trans s2) _ fun H3 s3 => h2 H3 (s1.trans (s2.trans s3)) _ fun H4 s4 => by
    obtain ⟨a, xs, rfl, hs, hxs⟩ := dp_tuple (Dp.go (s3.trans s4) hx)
    have hl := dpAll_len hxs
    refine ⟨a, xs, rfl, hs, fun e => ?_, fun _ p np => ?_⟩
    · have : cutL ds lo hi = ds := by
        unfold cutL
        rw [← hl, e.1, e.2, List.drop_zero, Nat.sub_zero, hl, List.take_length]
      rw [this] at q
      exact q _ H4 (s2.trans (s3.trans s4)) (.tup hs hxs)
    · refine q _ _ ((s2.trans (s3.trans s4)).trans (Same.new np _)) (.tup (SqT.of upd_same) (DpAll.go (Same.new np _) ?_))
      unfold cutL cutV
      rw [← hl]
      exact dpAll_take _ (dpAll_drop _ hxs)
theorem evd_catA (ha : EvD K ta σ H (.tuple ds)) (hb : EvD K tb σ H (.tuple es)) (hl : ds.length + es.length ≤ 100000) : EvD K (tOp (rCatA K) ta tb) σ H (.tuple (ds ++ es)) := fun H1 s1 Q q =>
  ha H1 s1 _ fun x H2 s2 hx => hb H2 (s1.trans s2) _ fun y H3 s3 hy => by
    obtain ⟨a, xs, rfl, hs, hxs⟩ := dp_tuple (Dp.go s3 hx)
    obtain ⟨b, ys, rfl, ht, hys⟩ := dp_tuple hy
    have l1 := dpAll_len hxs
    have l2 := dpAll_len hys
    refine ⟨a, b, xs, ys, rfl, rfl, hs, ht, sz (by omega), fun e => ?_, fun _ e => ?_, fun _ _ p np => ?_⟩
    · subst e
      cases hxs
      exact q _ H3 (s2.trans s3) (.tup ht hys)
    · subst e
      cases hys
      rw [List.append_nil] at q
      exact q _ H3 (s2.trans s3) (.tup hs hxs)
    · exact q _ _ ((s2.trans s3).trans (Same.new np _)) (.tup (SqT.of upd_same) (DpAll.go (Same.new np _) (dpAll_app hxs hys)))
theorem dpAll_atI {xs : List V} (h : DpAll K H xs ds) (hd : atI ds i = some d) : ∃ x, atI xs i = some x ∧ Dp K H x d := by
  unfold atI at hd ⊢
  rw [dpAll_len h]
  cases e : ixN ds.length i with
  | none => rw [e] at hd; cases hd
  | some j =>
    rw [e] at hd
    exact dpAll_at h hd
theorem evd_ixTg (h : EvD K ta σ H (.tuple ds)) (hi : EvD K tb σ H (.int i)) (hd : atI ds i = some d) : EvD K (tOp (rIxT K) ta tb) σ H d := fun H1 s1 Q q =>
  h H1 s1 _ fun x H2 s2 hx => hi H2 (s1.trans s2) _ fun y H3 s3 hy => by
    cases dp_i hy
    obtain ⟨a, xs, rfl, hs, hxs⟩ := dp_tuple (Dp.go s3 hx)
    obtain ⟨x, e1, e2⟩ := dpAll_atI hxs hd
    exact ⟨a, xs, i, x, rfl, rfl, hs, e1, q x H3 (s2.trans s3) e2⟩
theorem evd_mulS {z : Str} (h1 : EvD K ta σ H (.str z)) (h2 : EvD K tb σ H (.int i)) (h0 : 0 ≤ i) (h3 : i ≤ 1000) (hz : z.length ≤ 1000) : EvD K (tOp rMulS ta tb) σ H (.str (repS z i.toNat)) := fun H1 s1 Q q =>
  h1 H1 s1 _ fun x H2 s2 hx => h2 H2 (s1.trans s2) _ fun y H3 s3 hy => by
    cases dp_str hx
    cases dp_i hy
    exact ⟨z, i, rfl, rfl, h0, h3, hz, q _ H3 (s2.trans s3) (.str _)⟩
theorem evd_cell {n : Nat} {a : Addr} {ns : List Int} {k : Int} {E : XK} (h : σ[n]? = some (some (.ref a))) (hS : SqL K H a (ns.map V.int)) (h0 : 0 ≤ k) :
    EvD K (tCall (sp_cell K) [] E (tCons (tVar n) (tCons (tC (.int k)) tNil))) σ H (.int (cell ns k)) := fun H1 s1 Q q =>
  g_call (g_cons (g_var h (g_cons (g_c (g_nil (use_cell (L2.Same.seq s1 hS) h0 (q _ H1 (L2.Same.refl H1) (.int _)))))))) 
theorem evd_lenT (h : EvD K te σ H (.tuple ds)) : EvD K (tCB (rLen K) (tCons te tNil)) σ H (.int ds.length) := fun H1 s1 Q q =>
  h H1 s1 _ fun x H2 s2 hx => by
    obtain ⟨a, xs, rfl, hs, hxs⟩ := dp_tuple hx
    exact g_len (.inr hs) (q _ H2 s2 (by rw [dpAll_len hxs]; exact .int _))
theorem dpAll_rev : ∀ {xs : List V} {ds : List PyData}, DpAll K H xs ds → DpAll K H xs.reverse ds.reverse
  | _, _, .nil => .nil
  | _, _, .cons h r => by
    rw [List.reverse_cons, List.reverse_cons]
    exact dpAll_app (dpAll_rev r) (.cons h .nil)
theorem evd_revT (h : EvD K te σ H (.tuple ds)) : EvD K (tRevT K te) σ H (.tuple ds.reverse) := fun H1 s1 Q q =>
  h H1 s1 _ fun x H2 s2 hx => by
    obtain ⟨a, xs, rfl, hs, hxs⟩ := dp_tuple hx
    refine ⟨a, xs, rfl, hs, fun p np => q _ _ (s2.trans (Same.new np _)) (.tup (SqT.of upd_same) (DpAll.go (Same.new np _) ?_))⟩
    exact dpAll_rev hxs
theorem g_tyDd {R : Prop} {a : Addr} {m : BT} (h : Dd K H a m) (q : R) : IsD H a ∧ R := by
  obtain ⟨kvs, h1, _⟩ := h
  exact ⟨.inl ⟨kvs, .inl h1⟩, q⟩
/-- d.pop(k), there -/
def rDPop1 (x : V) (ty : TE) (σ : L2.St) (H : Hp) (Q : VK) : Prop := tDPop1 (fun _ H R => R x H) ty σ H Q
theorem g_dpop1 {td ty : TE} (q : td σ H fun x H1 => rDPop1 x ty σ H1 Q) : tDPop1 td ty σ H Q := q
theorem g_rDPop1 {a : Addr} {m : BT} {k : Int} {ty : TE} (h : Dd K H a m) (hy : ∀ R : VK, R (.int k) H → ty σ H R) (hk : (getA m k).isSome = true) (q : ∀ u H1, Oth a H H1 → Dd K H1 a (dropA m k) → Q u H1) : rDPop1 (.ref a) ty σ H Q := by
  obtain ⟨kvs, h1, h2⟩ := h
  refine ⟨a, rfl, .inl ⟨kvs, .inl h1⟩, hy _ ?_⟩
  have e := h2.isSome k
  rw [hk] at e
  obtain ⟨v, hv⟩ := Option.isSome_iff_exists.mp e
  exact ⟨kvs, .inl k, v, h1, rfl, hv, q v _ Oth.upd ⟨_, upd_same, h2.drop.map fun h _ => Dp.oth h1 Oth.upd h⟩⟩
theorem g_maxL {a : Addr} {ns : List Int} (h : SqL K H a (ns.map V.int)) (h0 : 0 < ns.length) (q : ∀ m, m ∈ ns → (∀ y, y ∈ ns → y ≤ m) → Q (.int m) H) : rMax K [.ref a] H Q := ⟨a, ns, rfl, h, h0, q⟩
theorem g_sortedI {a : Addr} {ns : List Int} (h : SqL K H a (ns.map V.int)) (q : ∀ (ns' : List Int) p H1, ns'.Perm ns → ns'.Pairwise (· ≤ ·) → H p = none → Same H H1 → H1 p = some (.lst (ns'.map V.int)) → Q (.ref p) H1) : rSortedI K [.ref a] H Q :=
  ⟨a, ns, rfl, h, fun ns' p hp hs np => q ns' p _ hp hs np (Same.new np _) upd_same⟩
end
section
variable {K : PySem.W.Frag} {σ : L2.St} {H : Hp} {Q : VK} {D : Ends} {t : TS} {te : TE} {tt : TT} {g : TG} {vs : List Nat} {ta : TA}
def wR2 (R : It → Hp → Prop) : List V → Hp → Prop := fun us He => iRng2 (fun _ H S => S us H) [] He R
theorem g_wR2 {R : It → Hp → Prop} (q : ta σ H (wR2 R)) : iRng2 ta σ H R := q
theorem g_lcR2k {j : Nat} {lo hi : Int} (Rel : Nat → V → Hp → Prop) (h1 : -100000 ≤ lo) (h2 : lo ≤ 100000) (h3 : -40000 ≤ hi) (h4 : hi ≤ 100000) (hn : (hi - lo).toNat ≤ 40000) (hw : ∀ x, wipe ((wipe σ vs).set j (some x)) vs = wipe σ vs) (hst : ∀ i y H1 H2, Still H1 H2 → Rel i y H1 → Rel i y H2)
    (he : ∀ (i : Nat) (H1 : Hp) (QE : VK), lo + (i : Int) < hi → Same H H1 → (∀ y H2, Same H1 H2 → Rel i y H2 → QE y H2) → te ((wipe σ vs).set j (some (.int (lo + (i : Int))))) H1 QE)
    (q : ∀ p ys H1, H p = none → Same H H1 → H1 p = some (.lst ys) → ys.length = (hi - lo).toNat → (∀ i y, ys[i]? = some y → Rel i y H1) → Q (.ref p) H1) :
    wR2 (lcR (gName j) tYes te vs σ Q) [.int lo, .int hi] H := by
  refine ⟨lo, hi, rfl, ⟨by omega, by omega, by omega, by omega⟩, g_lcW (walk_range (lo := lo) (n := (hi - lo).toNat)) Rel hn (fun _ _ => trivial) hst (fun i x H1 H2 QE hi' s y k => ?_) q⟩
  obtain ⟨rfl, rfl⟩ := y
  refine g_name ⟨hw _, he i H2 QE (by omega) s k⟩
end
end My

set_option Elab.async false
set_option linter.all false
set_option maxRecDepth 100000
set_option maxHeartbeats 1000000
/-! more of trees with something wrong -/
namespace My
open PySem L2
section
variable {m m' : BT} {w w' : Int} {P : PL} {n : Int}
theorem put_new_len {m : BT} {k : Int} {v : PyData} (h : getA m k = none) : (putA m k v).length = m.length + 1 := by
  unfold putA
  rw [any_getA, h, if_neg (by decide), List.length_append]
  rfl
theorem get_none {m : BT} {k : Int} (h : k ∉ keysA m) : getA m k = none := by
  cases e : getA m k with
  | none => rfl
  | some x => exact absurd (mem_keysA.mpr (by rw [e]; rfl)) h
theorem drop_len {m : BT} {k : Int} (nd : (keysA m).Nodup) (h : k ∈ keysA m) : (dropA m k).length < m.length := by
  unfold dropA
  obtain ⟨p, hp, rfl⟩ := List.mem_map.mp h
  exact List.length_filter_lt_length_iff_exists.mpr ⟨p, hp, by simp⟩
theorem Tree.form (T : Tree w P m) {p : Int × PyData} (hp : p ∈ m) : ∃ b : TB, p.2 = b.D ∧ okT 0 w b := by
  have hg := getA_of_mem T.blk.1 hp
  by_cases c : p.1 = 0
  · obtain ⟨b, h0, hok, _⟩ := T.root
    rw [c, h0] at hg
    exact ⟨b, (Option.some.inj hg).symm, hok⟩
  · obtain ⟨b, hb, hok⟩ := T.block (List.mem_map.mpr ⟨p, hp, rfl⟩) c
    rw [hb] at hg
    refine ⟨b, (Option.some.inj hg).symm, ?_, hok.2⟩
    have := hok.1
    omega
theorem root_low (T : Tree w P m) {k : Int} {h : PyData} {r : PL} {b : TB} (hb : getA m 0 = some b.D) (hlf : b.lf = false) (hps : b.ps = (k, h) :: r) (e : blockAt m' 0 = TB.D ⟨false, (k - 1, h) :: r⟩) (ha : ∀ k ∈ keysA m, k ≠ 0 → getA m' k = getA m k) : soundD m' w = false := by
  obtain ⟨b', rf, Lf, F⟩ := T.tf
  have eb : b' = b := D_inj (Option.some.inj (F.root.symm.trans hb))
  subst eb
  unfold soundD
  rw [e, toTB_D]
  have : soundL m' w (m'.length + 1) [0] [⟨false, (k - 1, h) :: r⟩] = false := by
    unfold soundL
    rw [all_br (L := [⟨false, (k - 1, h) :: r⟩]) (fun c hc => by rw [List.mem_singleton.mp hc]), if_pos rfl, rowT_one]
    cases hc : checkRow m' w [0] ((k - 1, h) :: r) with
    | none => rfl
    | some r3 =>
      obtain ⟨_, g2, _, _⟩ := checkRow_some hc
      have h1 := g2 (k - 1, h) List.mem_cons_self
      have hR := F.run
      cases hR with
      | stop h0 hall => rw [hall b' (List.mem_singleton.mpr rfl)] at hlf; cases hlf
      | next h0 hbr h2 hc' hR' =>
        obtain ⟨e1, g2', g3', _⟩ := checkRow_some hc'
        rw [rowT_one, hps] at g2' g3' e1
        have h2 := g2' (k, h) List.mem_cons_self
        have hn0 : numD h ≠ 0 := fun z => g3' (numD h) List.mem_cons_self (by rw [z]; exact List.mem_singleton.mpr rfl)
        have hin : numD h ∈ keysA m := F.only _ (hR'.sub (by rw [e1]; exact List.mem_append_right _ List.mem_cons_self))
        have eb : blockAt m' (numD h) = blockAt m (numD h) := by unfold blockAt; rw [ha _ hin hn0]
        dsimp only at h1 h2
        rw [eb] at h1
        unfold fitsD at h1 h2
        rw [Bool.and_eq_true, decide_eq_true_eq] at h1 h2
        have := h1.2.symm.trans h2.2
        omega
  rw [this, Bool.and_false]
/-- each block but the root as wide as a width asks -/
def asW (m : BT) (w : Int) : Bool := (keysA m).all fun n => !(decide (0 < n) && decide (((toTB (blockAt m n)).ps.length : Int) < halfI w))
theorem Tree.asW (T : Tree w P m) (hw : w ≤ w') : soundD m w' = asW m w' := by
  rw [Bool.eq_iff_iff, T.wide hw]
  unfold My.asW
  rw [List.all_eq_true]
  constructor
  · intro h n hn
    by_cases c : 0 < n
    · have := h n hn (by omega)
      rw [decide_eq_true c, decide_eq_false (by omega)]
      rfl
    · rw [decide_eq_false c]
      rfl
  · intro h n hn h0
    have h1 := h n hn
    have h2 := T.zero n hn
    rw [decide_eq_true (show 0 < n by omega), Bool.true_and, Bool.not_eq_true', decide_eq_false_iff_not] at h1
    omega
theorem not_nodup_ends {k0 kl : Int} {h0 : PyData} {mid : PL} : ¬ (numsT ((k0, h0) :: (mid ++ [(kl, h0)]))).Nodup := by
  show ¬ (numD h0 :: numsT (mid ++ [(kl, h0)])).Nodup
  rw [List.nodup_cons, numsT_app]
  intro z
  exact z.1 (List.mem_append_right _ (List.mem_singleton.mpr rfl))
/-- keys three apart -/
def threeK (first : Int) (n : Nat) : List Int := (List.range n).map fun k : Nat => first + 3 * (k : Int)
theorem three_next {first : Int} {n : Nat} {A C : List Int} {kl kc : Int} (h : threeK first n = A ++ kl :: kc :: C) : kc = kl + 3 ∧ kc ≤ first + 3 * (n : Int) - 3 := by
  have g : ∀ (i : Nat) (x : Int), (threeK first n)[i]? = some x → x = first + 3 * (i : Int) ∧ i < n := fun i x hx => by
    unfold threeK at hx
    rw [List.getElem?_map] at hx
    obtain ⟨j, hj, rfl⟩ := Option.map_eq_some_iff.mp hx
    have hj' := (List.getElem?_eq_some_iff.mp hj).1
    rw [List.length_range] at hj'
    rw [List.getElem?_range hj'] at hj
    cases Option.some.inj hj
    exact ⟨rfl, hj'⟩
  obtain ⟨e1, _⟩ := g A.length kl (by rw [h, List.getElem?_append_right (Nat.le_refl _), Nat.sub_self]; rfl)
  obtain ⟨e2, l2⟩ := g (A.length + 1) kc (by rw [h, List.getElem?_append_right (by omega), show A.length + 1 - A.length = 1 by omega]; rfl)
  omega
theorem three_last {first : Int} {n : Nat} {A : List Int} {kl : Int} (h : threeK first n = A ++ [kl]) : kl = first + 3 * (n : Int) - 3 := by
  have hl := congrArg List.length h
  unfold threeK at hl h
  rw [List.length_map, List.length_range, List.length_append, List.length_singleton] at hl
  have hx : ((List.range n).map fun k : Nat => first + 3 * (k : Int))[A.length]? = some kl := by rw [h, List.getElem?_append_right (Nat.le_refl _), Nat.sub_self]; rfl
  rw [List.getElem?_map, List.getElem?_range (by omega)] at hx
  have h9 : first + 3 * (A.length : Int) = kl := Option.some.inj hx
  omega
end
end My

set_option Elab.async false
set_option linter.all false
set_option maxRecDepth 100000
set_option maxHeartbeats 1000000
/-! tuples that are known to be plain (no dict of their own): they alone may be handed to dict(..) -/
namespace My
open PySem L2
theorem exists_list {α : Type} {n : Nat} {R : Nat → α → Prop} (h : ∀ j, j < n → ∃ x, R j x) : ∃ xs : List α, xs.length = n ∧ ∀ j x, xs[j]? = some x → R j x := by
  induction n with
  | zero => exact ⟨[], rfl, fun j x e => nomatch e⟩
  | succ n ih =>
    obtain ⟨xs, hl, hx⟩ := ih fun j hj => h j (by omega)
    obtain ⟨y, hy⟩ := h n (Nat.lt_succ_self n)
    refine ⟨xs ++ [y], by rw [List.length_append, hl]; rfl, fun j x e => ?_⟩
    by_cases c : j < xs.length
    · rw [List.getElem?_append_left c] at e
      exact hx j x e
    · rw [List.getElem?_append_right (by omega)] at e
      have e0 : j - xs.length = 0 := by
        have := (List.getElem?_eq_some_iff.mp e).1
        rw [List.length_singleton] at this
        omega
      rw [e0] at e
      cases Option.some.inj e
      rw [show j = n by omega]
      exact hy
/-- a plain tuple of these -/
def PlX (H : Hp) (a : Addr) (xs : List V) : Prop := ∃ o : Obj, o.dict = none ∧ H a = some (.frz o (.tup xs))
def PlT (H : Hp) (a : Addr) : Prop := ∃ xs, PlX H a xs
/-- tuple(x), the new one plain -/
def rTupF (K : PySem.W.Frag) : List V → Hp → VK → Prop := fun xs H Q => ∃ p ys, xs = [.ref p] ∧ ((SqL K H p ys ∧ ∀ l o, o.dict = none → H l = none → Q (.ref l) (upd H l (.frz o (.tup ys)))) ∨ (SqT K H p ys ∧ Q (.ref p) H))
section
open PySem.Spec PyProof.Rows
variable {X : Cx}
theorem my_tupF : CallR X (.type "tuple") (rTupF X.K) := by
  rintro pins s σ H _ us Q I rel ⟨p, ys, rfl, hl | hT⟩
  · obtain ⟨v, rfl, rv⟩ := vals1 rel
    cases rv
    obtain ⟨vals, rvals, plain, small⟩ := I.list hl.1
    refine call_tuple_list plain.isList (fun h2 keep => ?_) (by have := rvals.length; simp only [List.size_toArray]; omega)
    have I2 := I.kept (t' := s.toks) keep
    have made : ObjOk X.prog X.w (upd H h2.objs.size (.frz { cls := .type "tuple", data := .seq vals.toArray } (.tup ys))) (h2.push { cls := .type "tuple", data := .seq vals.toArray }) h2.objs.size (.frz { cls := .type "tuple", data := .seq vals.toArray } (.tup ys)) :=
      ⟨Heap.get?_push_size _ rfl, small, vals, rvals, IsTup.new _ _⟩
    exact ⟨.ref h2.objs.size, _, I2.laid (t' := s.toks) (fun _ _ z => Heap.get?_push_of_some _ z) (Nat.le_refl _) made, rfl, hl.2 _ _ rfl (I2.hok.fresh (Nat.le_refl _))⟩
  · obtain ⟨v, rfl, rv⟩ := vals1 rel
    cases rv
    obtain ⟨_, _, tup, _⟩ := I.tuple hT.1
    exact call_tuple_same tup ⟨.ref p, H, I, rfl, hT.2⟩
def rDictT (K : PySem.W.Frag) : List V → Hp → VK → Prop := fun xs H Q => ∃ (a : Addr) (ps : List Addr) (kvs : List (Key × V)), xs = [.ref a] ∧ PlX H a (ps.map V.ref) ∧ Paired (fun p kv => SqT K H p [kV kv.1, kv.2]) ps kvs ∧
    ∀ p, H p = none → Q (.ref p) (upd H p (.dK (mergeK [] kvs)))
theorem my_dictT (calm : X.calm = true) : CallR X (.type "dict") (rDictT X.K) := by
  rintro pins s σ H _ us Q I rel ⟨a, ps, kvs, rfl, ⟨o, plain, frozen⟩, pairs, k⟩
  obtain ⟨v, rfl, rv⟩ := vals1 rel
  cases rv
  obtain ⟨stands, small, vals, rvals, o', stands', cls, n, data⟩ := I.hok a _ frozen
  obtain rfl : o = o' := Option.some.inj (stands.symm.trans stands')
  cases refs_at rvals
  obtain ⟨prs, told, same, each⟩ := pairs_of I pairs
  have small' : ps.length ≤ sizeLine := by rw [List.length_map] at small; exact small
  obtain ⟨ks, lks, hks⟩ := exists_list (n := prs.length) (R := fun j (x : Value × Value) => ∃ b q, ps[j]? = some b ∧ prs[j]? = some q ∧ x.2 = q.2 ∧ IsTup s.heap b #[x.1, x.2] ∧ keyIs q.1 x.1 = true) (fun j hj => by
    obtain ⟨b, u, e1, e2, e3⟩ := each j prs[j] (List.getElem?_eq_getElem hj)
    exact ⟨(u, prs[j].2), b, prs[j], e1, List.getElem?_eq_getElem hj, rfl, e2, e3⟩)
  have arg := PySem.PairArg.tuple (prog := X.prog) (w := X.w) a (ps.map Value.ref).toArray (fun j => ps.getD j 0) ks
  refine PySem.call_dict_pairs (knd := mixKind X.prog X.w) (kvs := prs) arg (I.ok.hd calm) ⟨⟨o, n, stands, cls, plain, data⟩, by simp [same, lks], fun j key x hj => ?_⟩ ⟨lks.symm, fun i key x hr => ?_⟩ (by rw [lks, same]; exact small') fun h2 tk made keep => ?_
  · obtain ⟨b, q', e1, e2, e3, e4, e5⟩ := hks j _ hj
    have eb : ps.getD j 0 = b := by rw [List.getD_eq_getElem?_getD, e1]; rfl
    refine ⟨?_, .inl ?_⟩
    · simp [e1]
    · show PySem.Heap.IsTuple s.heap (ps.getD j 0) _
      rw [eb]
      exact e4
  · obtain ⟨b, q', e1, e2, e3, e4, e5⟩ := hks i _ hr
    refine ⟨q'.1, ?_, e5⟩
    rw [e2, show x = q'.2 from e3]
  · have merged_small : (mergeK [] kvs).length ≤ sizeLine := by
      have := length_mergeK kvs []
      have e := told.length
      rw [List.length_nil] at this
      omega
    have new : ObjOk X.prog X.w (upd H s.heap.objs.size (.dK (mergeK [] kvs))) h2 s.heap.objs.size (.dK (mergeK [] kvs)) := ⟨merged_small, beq_eq_false_iff_ne.mpr (Nat.ne_of_gt I.big), merged [] prs, KV.merge told .nil, made⟩
    exact ⟨.ref s.heap.objs.size, _, I.laid (t' := tk) (fun b ob z => keep b ob (by simp) z) (Nat.le_refl _) new, rfl, k _ (I.hok.fresh (Nat.le_refl _))⟩
end
end My
namespace My
open PySem L2
section
variable {K : PySem.W.Frag} {H H' : Hp} {a b : Addr} {xs : List V} {v : V} {m : BT} {k : Int} {d : PyData}
theorem PlX.seqT (h : PlX H a xs) : SqT K H a xs := by
  obtain ⟨o, _, e⟩ := h
  exact .inl (.inr ⟨o, e⟩)
theorem PlX.fx (f : Fx H H') (h : PlX H a xs) : PlX H' a xs := by
  obtain ⟨o, e1, e⟩ := h
  exact ⟨o, e1, f a _ trivial e⟩
theorem PlT.fx (f : Fx H H') (h : PlT H a) : PlT H' a := by
  obtain ⟨xs, h⟩ := h
  exact ⟨xs, h.fx f⟩
theorem PlX.t (h : PlX H a xs) : PlT H a := ⟨xs, h⟩
theorem g_tupF {Q : VK} (h : SqL K H a xs) (q : ∀ p H1, H p = none → Same H H1 → PlX H1 p xs → Q (.ref p) H1) : rTupF K [.ref a] H Q :=
  ⟨a, xs, rfl, .inl ⟨h, fun l o e n => q l _ n (Same.new n _) ⟨o, e, upd_same⟩⟩⟩
theorem g_tupFT {Q : VK} (h : SqT K H a xs) (q : Q (.ref a) H) : rTupF K [.ref a] H Q := ⟨a, xs, rfl, .inr ⟨h, q⟩⟩
theorem PlX.oth {kvs0 : List (Key × V)} (h0 : H a = some (.dK kvs0)) (e : Oth a H H') (h : PlX H b xs) : PlX H' b xs := by
  obtain ⟨o, e1, e2⟩ := h
  exact ⟨o, e1, e b _ (fun z => by rw [z, h0] at e2; cases e2) e2⟩
/-- what stands in a table of blocks: None, or a block whose pairs are a plain tuple -/
def PlW (K : PySem.W.Frag) (H : Hp) (v : V) (d : PyData) : Prop := (v = .non ∧ d = .none) ∨ ∃ (tb : TB) (t p : Addr) (ys : List V), d = tb.D ∧ v = .ref t ∧ SqT K H t [.str (wordT tb.lf), .ref p] ∧ PlX H p ys ∧ DpAll K H ys (rowD tb.ps)
theorem PlW.non : PlW K H .non .none := .inl ⟨rfl, rfl⟩
theorem PlW.blk {t p : Addr} {ys : List V} {lf : Bool} {P : PL} (h1 : SqT K H t [.str (wordT lf), .ref p]) (h2 : PlX H p ys) (h3 : DpAll K H ys (rowD P)) : PlW K H (.ref t) (TB.mk lf P).D := .inr ⟨⟨lf, P⟩, t, p, ys, rfl, rfl, h1, h2, h3⟩
theorem PlW.dp (h : PlW K H v d) : Dp K H v d := by
  rcases h with ⟨rfl, rfl⟩ | ⟨tb, t, p, ys, rfl, rfl, h1, h2, h3⟩
  · exact .non
  · exact .tup h1 (.cons (.str _) (.cons (.tup h2.seqT h3) .nil))
theorem PlW.at {tb : TB} (h : PlW K H v tb.D) : ∃ (t p : Addr) (ys : List V), v = .ref t ∧ SqT K H t [.str (wordT tb.lf), .ref p] ∧ PlX H p ys ∧ DpAll K H ys (rowD tb.ps) := by
  rcases h with ⟨_, h⟩ | ⟨tb', t, p, ys, e, rfl, h1, h2, h3⟩
  · cases h
  · cases D_inj e
    exact ⟨t, p, ys, rfl, h1, h2, h3⟩
theorem PlW.go (s : Same H H') (h : PlW K H v d) : PlW K H' v d := by
  rcases h with h | ⟨tb, t, p, ys, e1, e2, h1, h2, h3⟩
  · exact .inl h
  · exact .inr ⟨tb, t, p, ys, e1, e2, Same.seqT s h1, h2.fx (Fx.of s), DpAll.go s h3⟩
theorem PlW.fx (f : Fx H H') (s : strictD d = true) (h : PlW K H v d) : PlW K H' v d := by
  rcases h with h | ⟨tb, t, p, ys, e1, e2, h1, h2, h3⟩
  · exact .inl h
  · have s2 : strictAll (rowD tb.ps) = true := by
      rw [e1] at s
      unfold TB.D at s
      simp only [strictD, strictAll, Bool.and_eq_true] at s
      exact s.2.1
    exact .inr ⟨tb, t, p, ys, e1, e2, SqT.fx f h1, h2.fx f, DpAll.fx f s2 h3⟩
theorem PlW.oth {kvs0 : List (Key × V)} (h0 : H a = some (.dK kvs0)) (e : Oth a H H') (h : PlW K H v d) : PlW K H' v d := by
  rcases h with h | ⟨tb, t, p, ys, e1, e2, h1, h2, h3⟩
  · exact .inl h
  · exact .inr ⟨tb, t, p, ys, e1, e2, SqT.fx (e.keep fun o p z => by rw [h0] at z; cases z; exact p) h1, h2.oth h0 e, DpAll.oth h0 e h3⟩
inductive PlAll (K : PySem.W.Frag) (H : Hp) : List (Key × V) → BT → Prop
  | nil : PlAll K H [] []
  | cons {k : Int} {v : V} {d : PyData} {kvs : List (Key × V)} {m : BT} : PlW K H v d → PlAll K H kvs m → PlAll K H ((.inl k, v) :: kvs) ((k, d) :: m)
/-- a table of blocks -/
def Pd (K : PySem.W.Frag) (H : Hp) (a : Addr) (m : BT) : Prop := ∃ kvs, H a = some (.dK kvs) ∧ PlAll K H kvs m
section
variable {kvs : List (Key × V)} {n : BT}
theorem PlAll.dd (h : PlAll K H kvs m) : DdAll K H kvs m := by
  induction h with
  | nil => exact .nil
  | cons h r ih => exact .cons h.dp ih
theorem PlAll.map (f : ∀ {v d}, PlW K H v d → (∃ k, (k, d) ∈ m) → PlW K H' v d) (h : PlAll K H kvs m) : PlAll K H' kvs m := by
  induction h with
  | nil => exact .nil
  | cons h r ih => exact .cons (f h ⟨_, List.mem_cons_self⟩) (ih fun h ⟨k, e⟩ => f h ⟨k, List.mem_cons_of_mem _ e⟩)
theorem PlAll.go (e : Same H H') (h : PlAll K H kvs m) : PlAll K H' kvs m := h.map fun h _ => h.go e
theorem PlAll.val (h : PlAll K H kvs m) (k : Int) : (getA m k = none ∧ valV kvs (.inl k) = none) ∨ ∃ v d, getA m k = some d ∧ valV kvs (.inl k) = some v ∧ PlW K H v d := by
  induction h with
  | nil => exact .inl ⟨rfl, rfl⟩
  | @cons j v d kvs m h r ih =>
    rw [getA_cons]
    by_cases e : j = k
    · rw [if_pos e, valV_pos (congrArg Sum.inl e)]
      exact .inr ⟨v, d, rfl, rfl, h⟩
    · rw [if_neg e, valV_neg (fun z => e (Sum.inl.inj z))]
      exact ih
theorem PlAll.app {kvs2 : List (Key × V)} (h : PlAll K H kvs m) (h2 : PlAll K H kvs2 n) : PlAll K H (kvs ++ kvs2) (m ++ n) := by
  induction h with
  | nil => exact h2
  | cons a b ih => exact .cons a ih
theorem PlAll.put (h : PlAll K H kvs m) (hd : PlW K H v d) : PlAll K H (putK kvs (.inl k) v) (putA m k d) := by
  unfold putK putA
  rw [valV_any, any_getA, h.dd.isSome]
  split
  · rename_i c0
    clear c0
    induction h with
    | nil => exact .nil
    | @cons j w e kvs m a b ih =>
      rw [List.map_cons, List.map_cons]
      by_cases c : j = k
      · rw [if_pos (congrArg Sum.inl c), if_pos c]
        exact .cons hd ih
      · rw [if_neg (fun z => c (Sum.inl.inj z)), if_neg c]
        exact .cons a ih
  · exact h.app (.cons hd .nil)
theorem PlAll.drop (h : PlAll K H kvs m) : PlAll K H (dropK kvs (.inl k)) (dropA m k) := by
  unfold dropK dropA
  induction h with
  | nil => exact .nil
  | @cons j w e kvs m a b ih =>
    rw [List.filter_cons, List.filter_cons]
    by_cases c : j = k
    · rw [if_neg (by simp [c]), if_neg (by simp [c])]
      exact ih
    · rw [if_pos (by simp [c]), if_pos (by simp [c])]
      exact .cons a ih
theorem PlAll.at (h : PlAll K H kvs m) : ∀ {i : Nat} {k : Key} {v : V}, kvs[i]? = some (k, v) → ∃ n d, m[i]? = some (n, d) ∧ k = .inl n ∧ PlW K H v d := by
  induction h with
  | nil => intro i k v e; cases i <;> cases e
  | @cons n v0 d kvs m hd hr ih =>
    intro i k v e
    cases i with
    | zero =>
      cases e
      exact ⟨n, d, rfl, rfl, hd⟩
    | succ i => exact ih e
end
theorem Pd.dd (h : Pd K H b m) : Dd K H b m := by
  obtain ⟨kvs, e, h⟩ := h
  exact ⟨kvs, e, h.dd⟩
theorem Pd.go (s : Same H H') (h : Pd K H b m) : Pd K H' b m := by
  obtain ⟨kvs, e, h⟩ := h
  exact ⟨kvs, s _ _ e, h.go s⟩
theorem Pd.othLne (o : Oth a H H') (n : b ≠ a) (f : Fx H H') (s : ∀ p ∈ m, strictD p.2 = true) (h : Pd K H b m) : Pd K H' b m := by
  obtain ⟨kvs, e, h⟩ := h
  exact ⟨kvs, o _ _ n e, h.map fun h ⟨k, hk⟩ => h.fx f (s _ hk)⟩
theorem Pd.othL {xs0 : List V} (h0 : H a = some (.lst xs0)) (e : Oth a H H') (s : ∀ p ∈ m, strictD p.2 = true) (h : Pd K H b m) : Pd K H' b m := by
  have n : b ≠ a := fun z => by
    obtain ⟨kvs, e2, _⟩ := h
    rw [z, h0] at e2
    cases e2
  exact h.othLne e n (Fx.lst h0 e) s
theorem g_rDPutP {N : Hp → Prop} (h : Pd K H a m) (hd : PlW K H v d) (hl : m.length ≤ 100000) (q : ∀ H1, Oth a H H1 → Pd K H1 a (putA m k d) → N H1) : rDPut v (.ref a) (.int k) H N := by
  obtain ⟨kvs, h1, h2⟩ := h
  refine ⟨a, _, rfl, .inl ⟨kvs, .inl k, h1, rfl, Nat.lt_of_le_of_lt (by rw [h2.dd.len]; exact hl) (by decide), rfl⟩, q _ Oth.upd ⟨_, upd_same, ?_⟩⟩
  exact (h2.put hd).map fun h _ => h.oth h1 Oth.upd
theorem g_rDPop2P {Q : VK} {ty tx : TE} {σ : L2.St} {z : V} (h : Pd K H a m) (hy : ∀ R : VK, R (.int k) H → ty σ H R) (hx : ∀ R : VK, R z H → tx σ H R) (q : ∀ u H1, Oth a H H1 → Pd K H1 a (dropA m k) → Q u H1) : rDPop2 (.ref a) ty tx σ H Q := by
  obtain ⟨kvs, h1, h2⟩ := h
  refine ⟨a, rfl, .inl ⟨kvs, .inl h1⟩, hy _ (hx _ ⟨kvs, .inl k, h1, rfl, fun v e => ?_, fun e => ?_⟩)⟩
  · exact q v _ Oth.upd ⟨_, upd_same, h2.drop.map fun h _ => h.oth h1 Oth.upd⟩
  · have e2 : getA m k = none := by
      have := h2.dd.isSome k
      rw [e] at this
      cases e3 : getA m k with
      | none => rfl
      | some x => rw [e3] at this; cases this
    refine q z H (fun b o _ h => h) ?_
    rw [dropA_none e2]
    exact ⟨kvs, h1, h2⟩
theorem g_rDGetP {Q : VK} {tb : TB} (h : Pd K H a m) (e : getA m k = some tb.D) (q : ∀ t p ys, SqT K H t [.str (wordT tb.lf), .ref p] → PlX H p ys → DpAll K H ys (rowD tb.ps) → Q (.ref t) H) : rDGet (.ref a) (.int k) H Q := by
  obtain ⟨kvs, h1, h2⟩ := h
  rcases h2.val k with ⟨e1, _⟩ | ⟨v, d, e1, e2, hw⟩
  · rw [e] at e1
    cases e1
  · rw [e] at e1
    cases Option.some.inj e1
    obtain ⟨t, p, ys, rfl, k1, k2, k3⟩ := hw.at
    exact ⟨a, _, rfl, by rw [← e2]; exact DdAll.dget h1 k, q t p ys k1 k2 k3⟩
theorem g_dictPd {Q : VK} (h : Pd K H a m) (q : ∀ p H1, H p = none → Same H H1 → Pd K H1 p m → Q (.ref p) H1) : rDictD [.ref a] H Q := by
  obtain ⟨kvs, h1, h2⟩ := h
  exact g_dictD (.inl h1) fun p H1 np s e => q p H1 np s ⟨kvs, e, h2.go s⟩
theorem g_dnewPd {Q : VK} {σ : L2.St} (q : ∀ p H1, H p = none → Same H H1 → Pd K H1 p [] → Q (.ref p) H1) : tDNewK σ H Q := g_dnewK fun p H1 np s e => q p H1 np s ⟨[], e, .nil⟩
/-- dict(t) of a plain tuple of pairs of data -/
theorem mergeK_nil : ∀ {kvs acc : List (Key × V)}, mergeK acc kvs = kvs.foldl (fun a p => putK a p.1 p.2) acc := by
  intro kvs acc
  rfl
theorem row_pairs {ys : List V} {P : PL} (h : DpAll K H ys (rowD P)) : ∃ (ps : List Addr) (kvs : List (Key × V)), ys = ps.map V.ref ∧ Paired (fun p kv => SqT K H p [kV kv.1, kv.2]) ps kvs ∧ DdAll K H kvs P := by
  induction P generalizing ys with
  | nil =>
    cases h
    exact ⟨[], [], rfl, .nil, .nil⟩
  | cons q P ih =>
    cases h with
    | cons h1 h2 =>
      obtain ⟨ps, kvs, e, hp, hd⟩ := ih h2
      obtain ⟨ta, y, rfl, ht, hy⟩ := dp_pair h1
      exact ⟨ta :: ps, (.inl q.1, y) :: kvs, by rw [e]; rfl, .cons ht hp, .cons hy hd⟩
theorem merge_rise : ∀ {kvs acc : List (Key × V)} {P A : PL}, DdAll K H kvs P → DdAll K H acc A → (keysA (A ++ P)).Nodup → mergeK acc kvs = acc ++ kvs := by
  intro kvs
  induction kvs with
  | nil =>
    intro acc P A h1 h2 nd
    exact (List.append_nil _).symm
  | cons kv kvs ih =>
    intro acc P A h1 h2 nd
    cases h1 with
    | @cons k v d _ m hd hr =>
      have hn : getA A k = none := get_none fun z => by
        unfold keysA at nd z
        rw [List.map_append, List.nodup_append] at nd
        exact nd.2.2 k z k (by simp) rfl
      have e1 : putK acc (.inl k) v = acc ++ [(.inl k, v)] := by
        unfold putK
        rw [valV_any, h2.isSome, hn]
        rfl
      show mergeK (putK acc (.inl k) v) kvs = _
      rw [e1, ih hr (h2.app (.cons hd .nil)) (by rw [List.append_assoc]; exact nd), List.append_assoc]
      rfl
theorem g_dictT {Q : VK} {ys : List V} {P : PL} (h : PlX H a ys) (hd : DpAll K H ys (rowD P)) (nd : (keysA P).Nodup) (q : ∀ p H1, H p = none → Same H H1 → Dd K H1 p P → Q (.ref p) H1) : rDictT K [.ref a] H Q := by
  obtain ⟨ps, kvs, rfl, hp, hdd⟩ := row_pairs hd
  refine ⟨a, ps, kvs, rfl, h, hp, fun p np => ?_⟩
  rw [merge_rise hdd .nil nd]
  exact q p _ np (Same.new np _) ⟨_, upd_same, hdd.go (Same.new np _)⟩
/-! an object made -/
def mkK (C : Addr) (sp : Sp) (dvs : List V) (E : XK) (Q : VK) : List V → Hp → Prop := fun vs H1 => ∀ x dx, H1 x = none → H1 dx = none → dx ≠ x →
  sp (.ref x :: (vs ++ dvs)) (upd (upd H1 dx (.own x)) x (.ins C dx [])) (fun v H2 => v = .non ∧ Q (.ref x) H2) E
theorem g_make {C : Addr} {sp : Sp} {dvs : List V} {E : XK} {Q : VK} {t : TA} {σ : L2.St} (q : t σ H (mkK C sp dvs E Q)) : tMake C sp dvs E t σ H Q := q
theorem g_made {C : Addr} {sp : Sp} {dvs : List V} {E : XK} {Q : VK} {us : List V} (q : ∀ x dx H1, H x = none → H dx = none → Same H H1 → H1 x = some (.ins C dx []) → sp (.ref x :: (us ++ dvs)) H1 (fun v H2 => v = .non ∧ Q (.ref x) H2) E) : mkK C sp dvs E Q us H :=
  fun x dx nx ndx ne => q x dx _ nx ndx (fun b o h => by rw [upd_ne (ne_of_none h nx), upd_ne (ne_of_none h ndx)]; exact h) upd_same
/-! rows of plain tuples -/
def PlR (K : PySem.W.Frag) (H : Hp) (y : V) (r : PL) : Prop := ∃ (p : Addr) (zs : List V), y = .ref p ∧ PlX H p zs ∧ DpAll K H zs (rowD r)
def PlRows (K : PySem.W.Frag) (H : Hp) (ys : List V) (rows : List PL) : Prop := Paired (PlR K H) ys rows
theorem PlR.fx {y : V} {r : PL} (f : Fx H H') (s : smP r) (h : PlR K H y r) : PlR K H' y r := by
  obtain ⟨p, zs, e, h1, h2⟩ := h
  exact ⟨p, zs, e, h1.fx f, DpAll.fx f s.strict h2⟩
theorem PlR.go {y : V} {r : PL} (s : Same H H') (h : PlR K H y r) : PlR K H' y r := by
  obtain ⟨p, zs, e, h1, h2⟩ := h
  exact ⟨p, zs, e, h1.fx (Fx.of s), DpAll.go s h2⟩
theorem paired_map {α β : Type} {R S : α → β → Prop} : ∀ {as : List α} {bs : List β}, (∀ a b, b ∈ bs → R a b → S a b) → Paired R as bs → Paired S as bs
  | _, _, _, .nil => .nil
  | _, _, f, .cons h t => .cons (f _ _ List.mem_cons_self h) (paired_map (fun a b hb => f a b (List.mem_cons_of_mem _ hb)) t)
theorem paired_app {α β : Type} {R : α → β → Prop} : ∀ {as as2 : List α} {bs bs2 : List β}, Paired R as bs → Paired R as2 bs2 → Paired R (as ++ as2) (bs ++ bs2)
  | _, _, _, _, .nil, h => h
  | _, _, _, _, .cons a t, h => .cons a (paired_app t h)
theorem paired_len {α β : Type} {R : α → β → Prop} : ∀ {as : List α} {bs : List β}, Paired R as bs → as.length = bs.length
  | _, _, .nil => rfl
  | _, _, .cons _ t => by rw [List.length_cons, List.length_cons, paired_len t]
theorem PlRows.fx {ys : List V} {rows : List PL} (f : Fx H H') (s : ∀ r ∈ rows, smP r) (h : PlRows K H ys rows) : PlRows K H' ys rows := paired_map (fun _ _ hb h => h.fx f (s _ hb)) h
theorem PlRows.go {ys : List V} {rows : List PL} (s : Same H H') (h : PlRows K H ys rows) : PlRows K H' ys rows := paired_map (fun _ _ _ h => h.go s) h
theorem PlRows.dd {ys : List V} {rows : List PL} (h : PlRows K H ys rows) : DpAll K H ys (rowsD rows) := by
  unfold PlRows at h
  induction h with
  | nil => exact .nil
  | cons h t ih =>
    obtain ⟨p, zs, rfl, h1, h2⟩ := h
    exact .cons (.tup h1.seqT h2) ih
end
section
variable {K : PySem.W.Frag} {σ : L2.St} {H : Hp} {Q : VK} {te : TE} {tt : TT} {g : TG} {vs : List Nat}
variable {J : It} {n : Nat} {G : Hp → Prop} {Y : Nat → Hp → V → Hp → Prop}
/-- a comprehension of things that are told by R: behind i turns the list holds L i -/
theorem g_lcRW {α : Type} (R : Hp → V → α → Prop) (ok : α → Prop) (hR : ∀ H1 H2 y z, Fx H1 H2 → ok z → R H1 y z → R H2 y z) (w : Walk J n G Y) (L : Nat → List α) (hn : n ≤ 40000) (hG : ∀ H', Same H H' → G H') (h0 : L 0 = []) (hs : ∀ i, i ≤ n → ∀ z ∈ L i, ok z) (hl : ∀ i, i ≤ n → (L i).length ≤ i)
    (he : ∀ (i : Nat) (x : V) (H1 H2 : Hp) (QN : Hp → Prop) (QE : VK), i < n → Same H H1 → Y i H1 x H2 → (L (i + 1) = L i → ∀ H3, Same H1 H3 → QN H3) → (∀ y d H3, L (i + 1) = L i ++ [d] → Same H1 H3 → R H3 y d → QE y H3) →
      g x (wipe σ vs) H2 fun σ2 H3 => wipe σ2 vs = wipe σ vs ∧ tt σ2 H3 fun b H4 => if b = true then te σ2 H4 QE else QN H4)
    (q : ∀ p ys H1, H p = none → Same H H1 → H1 p = some (.lst ys) → Paired (R H1) ys (L n) → Q (.ref p) H1) : lcR g tt te vs σ Q J H := by
  intro Dl hD
  refine lc_it w (fun i H' => Same H H' ∧ ∃ ys, H' Dl = some (.lst ys) ∧ Paired (R H') ys (L i))
    ⟨Same.new hD _, [], upd_same, by rw [h0]; exact .nil⟩ (fun i H' _ p => hG H' p.1) (fun i x H1 H2 hi p y => ?_) (fun H' p => ?_)
  · obtain ⟨s, ys, e, hr⟩ := p
    refine he i x H1 H2 _ _ hi s y (fun eL H3 s3 => ?_) (fun z d H3 eL s3 dz => ?_)
    · refine ⟨s.trans s3, ys, s3 _ _ e, ?_⟩
      rw [eL]
      exact paired_map (fun a b hb h => hR _ _ _ _ (Fx.of s3) (hs i (by omega) b hb) h) hr
    · have ly := paired_len hr
      have ll := hl i (by omega)
      have e3 := s3 _ _ e
      have st := hs (i + 1) (by omega)
      rw [eL] at st
      have o : Oth Dl H3 (upd H3 Dl (.lst (ys ++ [z]))) := Oth.upd
      have f := Fx.lst e3 o
      refine ⟨ys, e3, Evl.sz_lt (by omega), o.same (s.trans s3) hD, ys ++ [z], upd_same, ?_⟩
      rw [eL]
      exact paired_app (paired_map (fun a b hb h => hR _ _ _ _ ((Fx.of s3).trans f) (st b (List.mem_append_left _ hb)) h) hr) (.cons (hR _ _ _ _ f (st d (List.mem_append_right _ (List.mem_singleton.mpr rfl))) dz) .nil)
  · obtain ⟨s, ys, e, hr⟩ := p
    exact q Dl ys H' hD s e hr
end
end My

set_option Elab.async false
set_option linter.all false
set_option maxRecDepth 100000
set_option maxHeartbeats 1000000
/-! trees by their depth: what stands in a block, and below it -/
namespace My
open PySem L2
/-- what a block holds one of: at the leaves a pair, above a number with what its block holds -/
def Item : Nat → Type
  | 0 => Int × PyData
  | d + 1 => Int × List (Item d)
def leavesI : (d : Nat) → Item d → PL
  | 0, p => [p]
  | d + 1, c => c.2.flatMap (leavesI d)
def leavesR (d : Nat) (R : List (Item d)) : PL := R.flatMap (leavesI d)
def firstP (P : PL) : Int := firstK ⟨true, P⟩
def pairI : (d : Nat) → Item d → Int × PyData
  | 0, p => p
  | d + 1, c => (firstP (leavesR d c.2), .int c.1)
def contR (d : Nat) (R : List (Item d)) : PL := R.map (pairI d)
def numsI : (d : Nat) → Item d → List Int
  | 0, _ => []
  | d + 1, c => c.1 :: c.2.flatMap (numsI d)
def numsR (d : Nat) (R : List (Item d)) : List Int := R.flatMap (numsI d)
def blkR (d : Nat) (R : List (Item d)) : TB := ⟨decide (d = 0), contR d R⟩
def repI (M : Int → Option PyData) : (d : Nat) → Item d → Prop
  | 0, _ => True
  | d + 1, c => M c.1 = some (blkR d c.2).D ∧ ∀ x ∈ c.2, repI M d x
def okI (w : Int) : (d : Nat) → Item d → Prop
  | 0, _ => True
  | d + 1, c => halfI w ≤ (c.2.length : Int) ∧ (c.2.length : Int) ≤ w ∧ ∀ x ∈ c.2, okI w d x
section
variable {d : Nat} {M M' : Int → Option PyData} {w : Int} {R S : List (Item d)}
theorem leavesR_app : leavesR d (R ++ S) = leavesR d R ++ leavesR d S := List.flatMap_append ..
theorem contR_app : contR d (R ++ S) = contR d R ++ contR d S := List.map_append ..
theorem numsR_app : numsR d (R ++ S) = numsR d R ++ numsR d S := List.flatMap_append ..
theorem leavesR_zero {R : List (Item 0)} : leavesR 0 R = R := by
  unfold leavesR
  induction R with
  | nil => rfl
  | cons p R ih => rw [List.flatMap_cons, ih]; rfl
theorem contR_zero {R : List (Item 0)} : contR 0 R = R := List.map_id R
theorem numsR_zero {R : List (Item 0)} : numsR 0 R = [] := by
  unfold numsR
  induction R with
  | nil => rfl
  | cons p R ih => rw [List.flatMap_cons, ih]; rfl
theorem leavesR_succ {R : List (Item (d + 1))} : leavesR (d + 1) R = (R.map fun c : Int × List (Item d) => leavesR d c.2).flatten := by
  unfold leavesR
  rw [List.flatMap_def]
  rfl
theorem repI.mono : ∀ {d : Nat} {x : Item d}, repI M d x → (∀ n ∈ numsI d x, M' n = M n) → repI M' d x
  | 0, _, _, _ => trivial
  | d + 1, c, h, e => by
    refine ⟨(e c.1 List.mem_cons_self).trans h.1, fun x hx => (h.2 x hx).mono fun n hn => e n ?_⟩
    exact List.mem_cons_of_mem _ (List.mem_flatMap.mpr ⟨x, hx, hn⟩)
/-- each thing holds a pair at least -/
theorem leavesI_ne (hw : 1 ≤ halfI w) : ∀ {d : Nat} {x : Item d}, okI w d x → leavesI d x ≠ []
  | 0, _, _ => fun z => nomatch z
  | d + 1, c, h => by
    have hne : c.2 ≠ [] := fun z => by
      have := h.1
      rw [z, List.length_nil] at this
      omega
    obtain ⟨x, hx⟩ := List.exists_mem_of_ne_nil _ hne
    intro z
    exact leavesI_ne hw (h.2.2 x hx) (List.flatMap_eq_nil_iff.mp z x hx)
theorem firstP_app {A B : PL} (h : A ≠ []) : firstP (A ++ B) = firstP A := by
  cases A with
  | nil => exact absurd rfl h
  | cons a A => rfl
/-- the key of a thing is its least one -/
theorem pairI_key : ∀ {d : Nat} {x : Item d}, (pairI d x).1 = firstP (leavesI d x)
  | 0, _ => rfl
  | _ + 1, _ => rfl
theorem contR_first (hw : 1 ≤ halfI w) (hR : R ≠ []) (ok : ∀ x ∈ R, okI w d x) : firstK ⟨true, contR d R⟩ = firstP (leavesR d R) := by
  cases R with
  | nil => exact absurd rfl hR
  | cons x R =>
    show (pairI d x).1 = firstP (leavesI d x ++ leavesR d R)
    rw [firstP_app (leavesI_ne hw (ok x List.mem_cons_self)), pairI_key]
end
theorem split_map {α β : Type} {f : α → β} : ∀ {rows : List (List β)} {R : List α}, rows.flatten = R.map f → ∃ Rs : List (List α), Rs.flatten = R ∧ Rs.map (List.map f) = rows
  | [], R, h => by
    have : R = [] := by
      cases R with
      | nil => rfl
      | cons a R => cases h
    exact ⟨[], by rw [this]; rfl, rfl⟩
  | r :: rows, R, h => by
    rw [List.flatten_cons] at h
    have hl := congrArg List.length h
    rw [List.length_append, List.length_map] at hl
    have h1 : r = (R.take r.length).map f := by
      rw [List.map_take, ← h, List.take_left]
    have h2 : rows.flatten = (R.drop r.length).map f := by
      rw [List.map_drop, ← h, List.drop_left]
    obtain ⟨Rs, e1, e2⟩ := split_map h2
    refine ⟨R.take r.length :: Rs, by rw [List.flatten_cons, e1, List.take_append_drop], ?_⟩
    rw [List.map_cons, e2, ← h1]
/-- from a walk down the levels to what stands below -/
theorem Run.items {m : BT} {w : Int} (hw : 3 ≤ w) {r rf : List Int} {L Lf : List TB} (h : Run m w r L rf Lf) (hb : ∀ b ∈ L, ∃ l, okT l w b) :
    ∃ (d : Nat) (R : List (Item d)) (s : List Int), contR d R = rowT L ∧ (∀ b ∈ L, b.lf = decide (d = 0)) ∧ (∀ x ∈ R, repI (getA m) d x ∧ okI w d x) ∧ leavesR d R = rowT Lf ∧ rf = r ++ s ∧ s.Perm (numsR d R) := by
  have h1w : 1 ≤ halfI w := by unfold halfI; omega
  induction h with
  | @stop r L h0 hl =>
    exact ⟨0, rowT L, [], contR_zero, fun b hb => by rw [hl b hb]; rfl, fun x _ => ⟨trivial, trivial⟩, leavesR_zero, by simp, List.Perm.of_eq (numsR_zero (R := rowT L)).symm⟩
  | @next r r' rf L Lf h0 hbr h2 hc hR ih =>
    obtain ⟨e1, g2, g3, g4⟩ := checkRow_some hc
    have hblk : ∀ p ∈ rowT L, isBlockD (halfI w) w (blockAt m (numD p.2)) = true ∧ firstK (toTB (blockAt m (numD p.2))) = p.1 := fun p hp => by
      have := g2 p hp
      unfold fitsD at this
      rw [Bool.and_eq_true, decide_eq_true_eq] at this
      exact this
    obtain ⟨d, R', s', c1, c2, c3, c4, c5, c6⟩ := ih fun b hb => by
      obtain ⟨p, hp, rfl⟩ := List.mem_map.mp hb
      exact ⟨halfI w, (isBlockD_iff.mp (hblk p hp).1).2⟩
    have hfl : ((nextL m (rowT L)).map (·.ps)).flatten = R'.map (pairI d) := by
      have : contR d R' = rowT (nextL m (rowT L)) := c1
      unfold rowT at this
      rw [List.flatMap_def] at this
      exact this.symm
    obtain ⟨Rs, f1, f2⟩ := split_map hfl
    have hheld : ∀ p ∈ rowT L, ∃ n, p.2 = .int n := fun p hp => by
      obtain ⟨b, hb', hpb⟩ := List.mem_flatMap.mp hp
      obtain ⟨l, hok⟩ := hb b hb'
      have h9 := (hok.2.2.1 p hpb).2
      rw [hbr b hb'] at h9
      unfold heldD at h9
      rw [if_neg (by decide +kernel)] at h9
      cases e : p.2 <;> rw [e] at h9 <;> first | exact ⟨_, rfl⟩ | cases h9
    have hlen : Rs.length = (rowT L).length := by
      have := congrArg List.length f2
      rw [List.length_map, List.length_map] at this
      rw [this]
      unfold nextL
      rw [List.length_map]
    -- each pair of the row with what its block holds
    have key : ∀ (P : PL) (Rs : List (List (Item d))), (∀ p ∈ P, isBlockD (halfI w) w (blockAt m (numD p.2)) = true ∧ firstK (toTB (blockAt m (numD p.2))) = p.1) → (∀ p ∈ P, ∃ n, p.2 = .int n) →
        Rs.map (List.map (pairI d)) = (nextL m P).map (·.ps) → (∀ x ∈ Rs.flatten, repI (getA m) d x ∧ okI w d x) → (∀ b ∈ nextL m P, b.lf = decide (d = 0)) →
        ∃ R : List (Item (d + 1)), contR (d + 1) R = P ∧ (∀ x ∈ R, repI (getA m) (d + 1) x ∧ okI w (d + 1) x) ∧ leavesR (d + 1) R = leavesR d Rs.flatten ∧ (numsT P ++ numsR d Rs.flatten).Perm (numsR (d + 1) R) := by
      intro P
      induction P with
      | nil =>
        intro Rs _ _ e _ _
        have : Rs = [] := by
          cases Rs with
          | nil => rfl
          | cons a Rs => cases e
        subst this
        exact ⟨[], rfl, (fun x h => nomatch h), rfl, List.Perm.refl _⟩
      | cons p P ihP =>
        intro Rs hB hH e hx hlf
        cases Rs with
        | nil => cases e
        | cons T Rs =>
          have e' : T.map (pairI d) = (toTB (blockAt m (numD p.2))).ps ∧ Rs.map (List.map (pairI d)) = (nextL m P).map (·.ps) := by
            unfold nextL at e
            rw [List.map_cons, List.map_cons, List.map_cons] at e
            exact List.cons.inj e
          obtain ⟨R, q1, q2, q3, q4⟩ := ihP Rs (fun p hp => hB p (List.mem_cons_of_mem _ hp)) (fun p hp => hH p (List.mem_cons_of_mem _ hp)) e'.2 (fun x hx' => hx x (by rw [List.flatten_cons]; exact List.mem_append_right _ hx')) (fun b hb => hlf b (List.mem_cons_of_mem _ hb))
          obtain ⟨b1, b2⟩ := hB p List.mem_cons_self
          obtain ⟨form, hok⟩ := isBlockD_iff.mp b1
          obtain ⟨n, en⟩ := hH p List.mem_cons_self
          have hT : ∀ x ∈ T, repI (getA m) d x ∧ okI w d x := fun x hx' => hx x (by rw [List.flatten_cons]; exact List.mem_append_left _ hx')
          have hlfT : (toTB (blockAt m (numD p.2))).lf = decide (d = 0) := hlf _ List.mem_cons_self
          have eblk : blkR d T = toTB (blockAt m (numD p.2)) := by
            unfold blkR contR
            rw [e'.1, ← hlfT]
          have lT : T.length = (toTB (blockAt m (numD p.2))).ps.length := by
            rw [← e'.1, List.length_map]
          have hTne : T ≠ [] := fun z => by
            have := hok.1
            rw [← lT, z, List.length_nil] at this
            omega
          refine ⟨((numD p.2, T) : Int × List (Item d)) :: R, ?_, fun x hx' => ?_, ?_, ?_⟩
          · show (firstP (leavesR d T), PyData.int (numD p.2)) :: contR (d + 1) R = p :: P
            rw [q1, ← contR_first h1w hTne (fun x hx' => (hT x hx').2)]
            have : firstK ⟨true, contR d T⟩ = p.1 := by
              rw [← b2]
              unfold contR
              rw [e'.1]
              rfl
            rw [this, en]
            show (p.1, PyData.int n) :: P = p :: P
            rw [← en]
          · rcases List.mem_cons.mp hx' with e9 | e9
            · subst e9
              refine ⟨⟨?_, fun x hx2 => (hT x hx2).1⟩, ?_, ?_, fun x hx2 => (hT x hx2).2⟩
              · show getA m (numD p.2) = some (blkR d T).D
                rw [eblk, ← form]
                exact blockAt_some b1
              · show halfI w ≤ (T.length : Int)
                rw [lT]
                exact hok.1
              · show (T.length : Int) ≤ w
                rw [lT]
                exact hok.2.1
            · exact q2 x e9
          · show leavesR d T ++ leavesR (d + 1) R = leavesR d (T ++ Rs.flatten)
            rw [q3, leavesR_app]
          · show (numD p.2 :: (numsT P ++ numsR d (T ++ Rs.flatten))).Perm ((numD p.2 :: numsR d T) ++ numsR (d + 1) R)
            rw [numsR_app, List.cons_append]
            refine List.Perm.cons _ ?_
            refine List.Perm.trans ?_ (List.Perm.append_left _ q4)
            rw [← List.append_assoc, ← List.append_assoc]
            exact List.Perm.append_right _ List.perm_append_comm
    obtain ⟨R, q1, q2, q3, q4⟩ := key (rowT L) Rs hblk hheld f2 (by rw [f1]; exact c3) c2
    rw [f1] at q3 q4
    refine ⟨d + 1, R, numsT (rowT L) ++ s', q1, fun b hb' => by rw [hbr b hb']; rfl, q2, by rw [q3, c4], by rw [c5, e1, List.append_assoc], ?_⟩
    exact List.Perm.trans (List.Perm.append_left _ c6) q4
/-- a sound tree, told by what stands in its blocks -/
structure TR (w : Int) (P : PL) (m : BT) (d : Nat) (R : List (Item d)) : Prop where
  blk : Blk m
  root : getA m 0 = some (blkR d R).D
  size : (R.length : Int) ≤ w
  two : d ≠ 0 → 2 ≤ R.length
  rep : ∀ x ∈ R, repI (getA m) d x
  ok : ∀ x ∈ R, okI w d x
  leaves : leavesR d R = P
  okp : okP true P
  smp : smP P
  nums : (numsR d R).Nodup
  pos : ∀ n ∈ numsR d R, 1 ≤ n
  all : ∀ k ∈ keysA m, k = 0 ∨ k ∈ numsR d R
theorem Tree.tr {w : Int} {P : PL} {m : BT} (T : Tree w P m) (hw : 3 ≤ w) (okp : okP true P) (smp : smP P) : ∃ d R, TR w P m d R := by
  obtain ⟨b, rf, Lf, F⟩ := T.tf
  obtain ⟨d, R, s, c1, c2, c3, c4, c5, c6⟩ := F.run.items hw (fun c hc => by rw [List.mem_singleton.mp hc]; exact ⟨0, F.ok⟩)
  rw [rowT_one] at c1
  have hlf : b.lf = decide (d = 0) := c2 b (List.mem_singleton.mpr rfl)
  have eb : b = blkR d R := by
    unfold blkR
    rw [c1, ← hlf]
  have lR : R.length = b.ps.length := by rw [← c1]; unfold contR; rw [List.length_map]
  obtain ⟨s2, e2, nd2, hs2⟩ := F.run.pre
  have es : s = s2 := List.append_cancel_left (c5.symm.trans e2)
  subst es
  have nn : (numsR d R).Nodup := c6.nodup_iff.mp nd2
  have hin : ∀ n ∈ numsR d R, n ∈ keysA m ∧ n ≠ 0 := fun n hn => by
    have hs := c6.mem_iff.mpr hn
    exact ⟨F.only n (by rw [c5]; exact List.mem_append_right _ hs), fun e => hs2 n hs (by rw [e]; exact List.mem_singleton.mpr rfl)⟩
  refine ⟨d, R, T.blk, by rw [← eb]; exact F.root, by rw [lR]; exact F.ok.2.1, fun hd => ?_, fun x hx => (c3 x hx).1, fun x hx => (c3 x hx).2, by rw [c4, F.row], okp, smp, nn, fun n hn => ?_, fun k hk => ?_⟩
  · rw [lR]
    rcases F.two with h | h
    · rw [hlf] at h; exact absurd (of_decide_eq_true h) hd
    · exact h
  · obtain ⟨h1, h2⟩ := hin n hn
    have := T.zero n h1
    omega
  · have := F.all k hk
    rw [c5] at this
    rcases List.mem_append.mp this with h | h
    · exact .inl (List.mem_singleton.mp h)
    · exact .inr (c6.mem_iff.mp h)
end My

set_option Elab.async false
set_option linter.all false
set_option maxRecDepth 100000
set_option maxHeartbeats 1000000
/-! how a tree changes: what the program's Change does, told of data -/
namespace My
open PySem L2
/-- the place of a key among rising ones -/
def placeN (ks : List Int) (key : Int) : Nat := (ks.filter fun k => decide (k ≤ key)).length - 1
def partsL {α : Type} (w : Int) (row : List α) : List (List α) := if (row.length : Int) ≤ w then [row] else [row.take (row.length / 2), row.drop (row.length / 2)]
structure Ch where
  after : BT
  newest : Int
/-- the least number behind k that no block has -/
def newF (m : BT) : Nat → Int → Int
  | 0, n => n
  | f + 1, n => if n ∈ keysA m then newF m f (n + 1) else n
def newN (m : BT) (k : Int) : Int := newF m m.length (k + 1)
def puts (a : BT) (ps : List (Int × PyData)) : BT := ps.foldl (fun a p => putA a p.1 p.2) a
/-- the numbers taken for the rows, with how far the new ones go -/
def newNs (m : BT) : Nat → Int → List Int × Int
  | 0, k => ([], k)
  | n + 1, k => let x := newN m k; let r := newNs m n x; (x :: r.1, r.2)
def fillP (m : BT) (w : Int) (lf : Bool) (row : PL) (nums : List Int) (c : Ch) : PL × Ch :=
  let rows := (partsL w row).filter fun r => !r.isEmpty
  let a1 := puts c.after ((nums.drop rows.length).map fun n => (n, .none))
  let nw := newNs m (rows.length - nums.length) c.newest
  let tk := (nums ++ nw.1).zip rows
  (tk.map fun t => (firstP t.2, .int t.1), ⟨puts a1 (tk.map fun t => (t.1, (TB.mk lf t.2).D)), nw.2⟩)
def rowsAt (m : BT) (P : PL) : PL := P.flatMap fun p => (toTB (blockAt m (numD p.2))).ps
def fillBelowP (m : BT) (w : Int) (lf : Bool) (above : PL) (key : Int) (row : PL) (c : Ch) : PL × Ch :=
  let at_ := placeN (keysT above) key
  let short := decide ((row.length : Int) < halfI w)
  let first := if short then at_ - 1 else at_
  let last := if short then first + 2 else at_ + 1
  let r := fillP m w lf (rowsAt m ((above.take at_).drop first) ++ row ++ rowsAt m ((above.take last).drop (at_ + 1))) (numsT ((above.take last).drop first)) c
  (above.take first ++ r.1 ++ above.drop last, r.2)
/-- what stands behind the changes -/
def ov (m : BT) (c : Ch) : Int → Option PyData := fun n => match getA c.after n with
  | some .none => none
  | some d => some d
  | none => getA m n
def heldP (P : PL) (key : Int) (held : PL) : PL := (P.filter fun p => decide (p.1 < key)) ++ held ++ P.filter fun p => decide (p.1 > key)
section
variable {m : BT} {k n : Int} {w : Int} {key : Int} {held : PL}
theorem newF_spec : ∀ (f : Nat) (n : Int), n ≤ newF m f n ∧ (∀ j, n ≤ j → j < newF m f n → j ∈ keysA m) ∧ (newF m f n ∉ keysA m ∨ newF m f n = n + f)
  | 0, n => ⟨Int.le_refl _, fun j h1 h2 => by have : j < n := h2; omega, .inr (by show n = n + ((0 : Nat) : Int); omega)⟩
  | f + 1, n => by
    unfold newF
    by_cases c : n ∈ keysA m
    · rw [if_pos c]
      obtain ⟨h1, h2, h3⟩ := newF_spec f (n + 1)
      refine ⟨by omega, fun j hj1 hj2 => ?_, ?_⟩
      · by_cases e : j = n
        · rw [e]; exact c
        · exact h2 j (by omega) hj2
      · rcases h3 with h3 | h3
        · exact .inl h3
        · exact .inr (by rw [h3]; push_cast; omega)
    · rw [if_neg c]
      exact ⟨Int.le_refl _, fun j h1 h2 => by omega, .inl c⟩
theorem newN_spec (nd : (keysA m).Nodup) : k < newN m k ∧ newN m k ∉ keysA m ∧ ∀ j, k < j → j < newN m k → j ∈ keysA m := by
  obtain ⟨h1, h2, h3⟩ := newF_spec (m := m) m.length (k + 1)
  refine ⟨by unfold newN; omega, ?_, fun j hj => h2 j (by omega)⟩
  rcases h3 with h3 | h3
  · exact h3
  · intro z
    -- all of k + 1 .. k + 1 + m.length stand there: too many
    have hs : ∀ x ∈ (List.range (m.length + 1)).map fun i : Nat => k + 1 + (i : Int), x ∈ keysA m := fun x hx => by
      obtain ⟨i, hi, rfl⟩ := List.mem_map.mp hx
      rw [List.mem_range] at hi
      by_cases c : i = m.length
      · rw [c, ← h3]; exact z
      · exact h2 _ (by omega) (by omega)
    have nd2 : ((List.range (m.length + 1)).map fun i : Nat => k + 1 + (i : Int)).Nodup := by
      rw [List.nodup_iff_pairwise_ne, List.pairwise_map]
      exact (List.nodup_iff_pairwise_ne.mp List.nodup_range).imp fun h e => h (by omega)
    have := nodup_sub_len nd2 hs
    unfold keysA at this
    rw [List.length_map, List.length_map, List.length_range] at this
    omega
/-- the free numbers up to one -/
def newL (m : BT) (k : Int) : List Int := ((List.range k.toNat).map fun i : Nat => (i : Int) + 1).filter fun n => decide (n ∉ keysA m)
theorem mem_newL : n ∈ newL m k ↔ 1 ≤ n ∧ n ≤ k ∧ n ∉ keysA m := by
  unfold newL
  rw [List.mem_filter, List.mem_map, decide_eq_true_eq]
  constructor
  · rintro ⟨⟨i, hi, rfl⟩, h⟩
    rw [List.mem_range] at hi
    exact ⟨by omega, by omega, h⟩
  · rintro ⟨h1, h2, h3⟩
    exact ⟨⟨(n - 1).toNat, by rw [List.mem_range]; omega, by omega⟩, h3⟩
theorem newL_pw : (newL m k).Pairwise (· < ·) := by
  unfold newL
  refine List.Pairwise.filter _ ?_
  rw [List.pairwise_map]
  exact List.pairwise_lt_range.imp fun h => by omega
theorem newL_nodup : (newL m k).Nodup := newL_pw.imp fun h e => by omega
theorem newL_zero : newL m 0 = [] := rfl
theorem newL_next (nd : (keysA m).Nodup) (hk : 0 ≤ k) : newL m (newN m k) = newL m k ++ [newN m k] := by
  obtain ⟨h1, h2, h3⟩ := newN_spec (k := k) nd
  have p : ∀ (a b : List Int), a.Pairwise (· < ·) → b.Pairwise (· < ·) → (∀ x, x ∈ a ↔ x ∈ b) → a = b := by
    intro a
    induction a with
    | nil =>
      intro b _ _ h
      cases b with
      | nil => rfl
      | cons y b => exact absurd ((h y).mpr List.mem_cons_self) (by simp)
    | cons x a ih =>
      intro b ha hb h
      cases b with
      | nil => exact absurd ((h x).mp List.mem_cons_self) (by simp)
      | cons y b =>
        rw [List.pairwise_cons] at ha hb
        have exy : x = y := by
          rcases List.mem_cons.mp ((h x).mp List.mem_cons_self) with e | e
          · exact e
          · rcases List.mem_cons.mp ((h y).mpr List.mem_cons_self) with e2 | e2
            · exact e2.symm
            · have := hb.1 x e; have := ha.1 y e2; omega
        subst exy
        rw [ih b ha.2 hb.2 fun z => ?_]
        constructor
        · intro hz
          rcases List.mem_cons.mp ((h z).mp (List.mem_cons_of_mem _ hz)) with e | e
          · have := ha.1 z hz; omega
          · exact e
        · intro hz
          rcases List.mem_cons.mp ((h z).mpr (List.mem_cons_of_mem _ hz)) with e | e
          · have := hb.1 z hz; omega
          · exact e
  refine p _ _ newL_pw ?_ fun x => ?_
  · rw [List.pairwise_append]
    refine ⟨newL_pw, by simp, fun a ha b hb => ?_⟩
    rw [List.mem_singleton.mp hb]
    have := (mem_newL.mp ha).2.1
    omega
  · rw [List.mem_append, List.mem_singleton, mem_newL, mem_newL]
    constructor
    · rintro ⟨q1, q2, q3⟩
      by_cases c : x ≤ k
      · exact .inl ⟨q1, c, q3⟩
      · by_cases c2 : x = newN m k
        · exact .inr c2
        · exact absurd (h3 x (by omega) (by omega)) q3
    · rintro (⟨q1, q2, q3⟩ | q)
      · exact ⟨q1, by omega, q3⟩
      · subst q
        exact ⟨by omega, Int.le_refl _, h2⟩
/-! rows, parts -/
theorem partsL_map {α β : Type} {f : α → β} {row : List α} : partsL w (row.map f) = (partsL w row).map (List.map f) := by
  unfold partsL
  rw [List.length_map]
  split
  · rfl
  · rw [List.map_cons, List.map_cons, List.map_nil, List.map_take, List.map_drop]
theorem partsL_ne {α : Type} {row : List α} (hw : 3 ≤ w) (h : row ≠ []) : ∀ r ∈ partsL w row, r ≠ [] := fun r hr => by
  unfold partsL at hr
  split at hr
  · rw [List.mem_singleton.mp hr]; exact h
  · rename_i c
    rcases List.mem_cons.mp hr with e | e
    · rw [e]
      intro z
      have := congrArg List.length z
      rw [List.length_take, List.length_nil] at this
      omega
    · rw [List.mem_singleton.mp e]
      intro z
      have := congrArg List.length z
      rw [List.length_drop, List.length_nil] at this
      omega
theorem partsL_flat {α : Type} {row : List α} : (partsL w row).flatten = row := by
  unfold partsL
  split
  · simp
  · simp
/-! what is held of a key, by the parts of a row -/
theorem heldP_mid {A B C : PL} (hA : ∀ p ∈ A, p.1 < key) (hC : ∀ p ∈ C, key < p.1) : heldP (A ++ B ++ C) key held = A ++ heldP B key held ++ C := by
  unfold heldP
  have a1 : A.filter (fun p => decide (p.1 < key)) = A := List.filter_eq_self.mpr fun p hp => decide_eq_true (hA p hp)
  have a2 : A.filter (fun p => decide (p.1 > key)) = [] := List.filter_eq_nil_iff.mpr fun p hp => by have := hA p hp; simp; omega
  have c1 : C.filter (fun p => decide (p.1 < key)) = [] := List.filter_eq_nil_iff.mpr fun p hp => by have := hC p hp; simp; omega
  have c2 : C.filter (fun p => decide (p.1 > key)) = C := List.filter_eq_self.mpr fun p hp => decide_eq_true (hC p hp)
  rw [List.filter_append, List.filter_append, List.filter_append, List.filter_append, a1, a2, c1, c2]
  simp [List.append_assoc]
/-! tables put one behind the other -/
theorem puts_get {a : BT} {ps : List (Int × PyData)} {n : Int} (h : n ∉ ps.map (·.1)) : getA (puts a ps) n = getA a n := by
  unfold puts
  induction ps generalizing a with
  | nil => rfl
  | cons p ps ih =>
    rw [List.map_cons, List.mem_cons, not_or] at h
    rw [List.foldl_cons, ih h.2, getA_put, if_neg h.1]
theorem puts_one {a : BT} {p : Int × PyData} : puts a [p] = putA a p.1 p.2 := rfl
theorem puts_two {a : BT} {p q : Int × PyData} : puts a [p, q] = putA (putA a p.1 p.2) q.1 q.2 := rfl
end
end My

set_option Elab.async false
set_option linter.all false
set_option maxRecDepth 100000
set_option maxHeartbeats 1000000
/-! a row of things put into blocks: SP tells what stands in a row behind the changes (Bel: the numbers that stood below it), SP.fill fills blocks with it, SP.beside puts what stays beside it -/
namespace My
open PySem L2
section
variable {m : BT} {w : Int} {d : Nat}
def nodeI {d : Nat} (n : Int) (R : List (Item d)) : Item (d + 1) := (n, R)
theorem numsR_cons {n : Int} {R : List (Item d)} {B : List (Item (d + 1))} : numsR (d + 1) (nodeI n R :: B) = n :: (numsR d R ++ numsR (d + 1) B) := rfl
theorem leavesR_cons {n : Int} {R : List (Item d)} {B : List (Item (d + 1))} : leavesR (d + 1) (nodeI n R :: B) = leavesR d R ++ leavesR (d + 1) B := rfl
theorem contR_cons {n : Int} {R : List (Item d)} {B : List (Item (d + 1))} : contR (d + 1) (nodeI n R :: B) = (firstP (leavesR d R), .int n) :: contR (d + 1) B := rfl
structure SP (m : BT) (w : Int) (d : Nat) (Bel : List Int) (L : PL) (S : List (Item d)) (c : Ch) : Prop where
  leaves : leavesR d S = L
  rep : ∀ x ∈ S, repI (ov m c) d x
  ok : ∀ x ∈ S, okI w d x
  nd : (numsR d S).Nodup
  inn : ∀ n, n ∈ numsR d S ↔ (n ∈ Bel ∨ n ∈ newL m c.newest) ∧ getA c.after n ≠ some .none
  keys : ∀ n ∈ keysA c.after, n ∈ Bel ∨ n ∈ newL m c.newest
  gone : ∀ n, getA c.after n = some .none → n ∈ Bel
  vals : ∀ p ∈ c.after, okD p.2
  low : 0 ≤ c.newest
  ndk : (keysA c.after).Nodup
/-! tables put one behind the other -/
theorem keysA_put_mem {a : BT} {k y : Int} {v : PyData} : y ∈ keysA (putA a k v) ↔ y ∈ keysA a ∨ y = k := by
  rw [mem_keysA, mem_keysA, getA_put]
  by_cases e : y = k
  · rw [if_pos e]; simp [e]
  · rw [if_neg e]; simp [e]
theorem puts_keys {y : Int} : ∀ {ps : List (Int × PyData)} {a : BT}, y ∈ keysA (puts a ps) ↔ y ∈ keysA a ∨ y ∈ ps.map (·.1)
  | [], a => by simp [puts]
  | p :: ps, a => by
    show y ∈ keysA (puts (putA a p.1 p.2) ps) ↔ _
    rw [puts_keys, keysA_put_mem, List.map_cons, List.mem_cons, or_assoc]
theorem puts_nodup : ∀ {ps : List (Int × PyData)} {a : BT}, (keysA a).Nodup → (keysA (puts a ps)).Nodup
  | [], a, h => h
  | p :: ps, a, h => puts_nodup (ps := ps) (a := putA a p.1 p.2) (nodup_put h)
theorem puts_all {P : Int × PyData → Prop} : ∀ {ps : List (Int × PyData)} {a : BT}, (∀ p ∈ a, P p) → (∀ p ∈ ps, P p) → ∀ p ∈ puts a ps, P p
  | [], a, h, _ => h
  | p :: ps, a, h, hp => puts_all (ps := ps) (a := putA a p.1 p.2) (all_put h (hp p List.mem_cons_self)) fun q hq => hp q (List.mem_cons_of_mem _ hq)
theorem puts_mem {n : Int} {v : PyData} : ∀ {ps : List (Int × PyData)} {a : BT}, (ps.map (·.1)).Nodup → (n, v) ∈ ps → getA (puts a ps) n = some v
  | [], a, _, h => nomatch h
  | p :: ps, a, nd, h => by
    rw [List.map_cons, List.nodup_cons] at nd
    show getA (puts (putA a p.1 p.2) ps) n = some v
    rcases List.mem_cons.mp h with e | e
    · subst e
      rw [puts_get nd.1, getA_put, if_pos rfl]
    · exact puts_mem nd.2 e
theorem newNs_spec (ndm : (keysA m).Nodup) : ∀ (r : Nat) (k : Int), 0 ≤ k → newL m (newNs m r k).2 = newL m k ++ (newNs m r k).1 ∧ 0 ≤ (newNs m r k).2 ∧ (newNs m r k).1.length = r
  | 0, k, h => ⟨by unfold newNs; simp, h, rfl⟩
  | r + 1, k, h => by
    obtain ⟨h1, _, _⟩ := newN_spec (k := k) ndm
    obtain ⟨e1, e2, e3⟩ := newNs_spec ndm r (newN m k) (by omega)
    refine ⟨?_, e2, ?_⟩
    · show newL m (newNs m r (newN m k)).2 = newL m k ++ (newN m k :: (newNs m r (newN m k)).1)
      rw [e1, newL_next ndm h, List.append_assoc]
      rfl
    · show ((newNs m r (newN m k)).1).length + 1 = r + 1
      rw [e3]
theorem zip_nums {d : Nat} : ∀ (Z : List (Int × List (Item d))), (numsR (d + 1) (Z.map fun t => nodeI t.1 t.2)).Perm (Z.map (·.1) ++ numsR d (Z.map (·.2)).flatten)
  | [] => List.Perm.refl _
  | t :: Z => by
    rw [List.map_cons, List.map_cons, List.map_cons, List.flatten_cons, numsR_cons, numsR_app, List.cons_append]
    refine List.Perm.cons _ ?_
    refine List.Perm.trans (List.Perm.append_left _ (zip_nums Z)) ?_
    rw [← List.append_assoc, ← List.append_assoc]
    exact List.Perm.append_right _ List.perm_append_comm
theorem zip_leaves {d : Nat} : ∀ (Z : List (Int × List (Item d))), leavesR (d + 1) (Z.map fun t => nodeI t.1 t.2) = leavesR d (Z.map (·.2)).flatten
  | [] => rfl
  | t :: Z => by
    rw [List.map_cons, List.map_cons, List.flatten_cons, leavesR_cons, leavesR_app, zip_leaves Z]
theorem zip_fst {α β : Type} : ∀ {A : List α} {B : List β}, B.length ≤ A.length → (A.zip B).map (·.1) = A.take B.length ∧ (A.zip B).map (·.2) = B
  | _, [], _ => by simp
  | [], b :: B, h => absurd h (by simp)
  | a :: A, b :: B, h => by
    obtain ⟨h1, h2⟩ := zip_fst (A := A) (B := B) (by simpa using h)
    rw [List.zip_cons_cons, List.map_cons, List.map_cons, h1, h2]
    exact ⟨rfl, rfl⟩
theorem partsL_size {α : Type} {S : List α} (hw : 3 ≤ w) (h1 : halfI w ≤ (S.length : Int)) (h2 : (S.length : Int) ≤ 2 * w) : ∀ r ∈ partsL w S, halfI w ≤ (r.length : Int) ∧ (r.length : Int) ≤ w := fun r hr => by
  unfold partsL at hr
  unfold halfI at h1 ⊢
  split at hr
  · rw [List.mem_singleton.mp hr]; exact ⟨h1, by assumption⟩
  · rename_i c
    rcases List.mem_cons.mp hr with e | e
    · rw [e, List.length_take]; omega
    · rw [List.mem_singleton.mp e, List.length_drop]; omega
theorem SP.smc {Bel : List Int} {L : PL} {S : List (Item d)} {c : Ch} (G : SP m w d Bel L S c) (sm : smP L) {T : List (Item d)} (hT : ∀ z ∈ T, z ∈ S) : smP (contR d T) := by
  intro p hp
  obtain ⟨z, hz, rfl⟩ := List.mem_map.mp hp
  cases d with
  | zero =>
    refine sm z ?_
    rw [← G.leaves, leavesR_zero]
    exact hT z hz
  | succ d => exact ⟨rfl, by simp [pairI, PyData.depth]⟩
theorem SP.fill (hw : 3 ≤ w) (ndm : (keysA m).Nodup) {Bel : List Int} {L : PL} {S : List (Item d)} {c : Ch} (G : SP m w d Bel L S c) {N : List Int}
    (hS1 : halfI w ≤ (S.length : Int)) (hS2 : (S.length : Int) ≤ 2 * w) (ndN : N.Nodup) (hN : ∀ n ∈ N, n ∈ keysA m ∧ n ∉ Bel) (hB : ∀ n ∈ Bel, n ∈ keysA m) (sm : smP L) :
    ∃ (c' : Ch) (mid : List (Item (d + 1))), fillP m w (decide (d = 0)) (contR d S) N c = (contR (d + 1) mid, c') ∧ SP m w (d + 1) (N ++ Bel) L mid c' ∧
      (mid.length = if (S.length : Int) ≤ w then 1 else 2) ∧ (mid.length ≤ N.length → c'.newest = c.newest) ∧
      (N.length ≤ mid.length → ∀ n, getA c'.after n = some .none → getA c.after n = some .none) := by
  have h1w : 1 ≤ halfI w := by unfold halfI; omega
  have Sne : S ≠ [] := fun z => by rw [z, List.length_nil] at hS1; omega
  obtain ⟨Ss, eSs⟩ : ∃ Ss, Ss = partsL w S := ⟨_, rfl⟩
  have hsz : ∀ r ∈ Ss, halfI w ≤ (r.length : Int) ∧ (r.length : Int) ≤ w := by rw [eSs]; exact partsL_size hw hS1 hS2
  have hfl : Ss.flatten = S := by rw [eSs]; exact partsL_flat
  have hr : Ss.length = if (S.length : Int) ≤ w then 1 else 2 := by
    rw [eSs]; unfold partsL; split <;> rfl
  have rows : (partsL w (contR d S)).filter (fun r => !r.isEmpty) = Ss.map (contR d) := by
    have e : partsL w (contR d S) = Ss.map (contR d) := by rw [eSs]; exact partsL_map
    rw [e]
    refine List.filter_eq_self.mpr fun r hr => ?_
    obtain ⟨T, hT, rfl⟩ := List.mem_map.mp hr
    have := (hsz T hT).1
    cases T with
    | nil => rw [List.length_nil] at this; omega
    | cons a T => rfl
  obtain ⟨nw, enw⟩ : ∃ nw, nw = newNs m (Ss.length - N.length) c.newest := ⟨_, rfl⟩
  obtain ⟨s1, s2, s3⟩ := newNs_spec ndm (Ss.length - N.length) c.newest G.low
  rw [← enw] at s1 s2 s3
  obtain ⟨Z, eZ⟩ : ∃ Z, Z = (N ++ nw.1).zip Ss := ⟨_, rfl⟩
  have hlen : Ss.length ≤ (N ++ nw.1).length := by rw [List.length_append, s3]; omega
  obtain ⟨z1, z2⟩ := zip_fst hlen
  rw [← eZ] at z1 z2
  obtain ⟨T, eT⟩ : ∃ T, T = Z.map (·.1) := ⟨_, rfl⟩
  have hT : T ++ N.drop Ss.length = N ++ nw.1 := by
    rw [eT, z1]
    by_cases q : N.length ≤ Ss.length
    · rw [List.drop_eq_nil_of_le q, List.append_nil, List.take_of_length_le (by rw [List.length_append, s3]; omega)]
    · have : nw.1 = [] := List.length_eq_zero_iff.mp (by rw [s3]; omega)
      rw [this, List.append_nil, List.take_append_drop]
  -- the numbers apart
  have hnew : (newL m c.newest ++ nw.1).Nodup := by rw [← s1]; exact newL_nodup
  rw [List.nodup_append] at hnew
  have newm : ∀ y ∈ nw.1, y ∉ keysA m ∧ y ∉ newL m c.newest := fun y hy =>
    ⟨(mem_newL.mp (s1 ▸ List.mem_append_right _ hy : y ∈ newL m nw.2)).2.2, fun z => hnew.2.2 y z y hy rfl⟩
  have ndNn : (T ++ N.drop Ss.length).Nodup := by
    rw [hT, List.nodup_append]
    exact ⟨ndN, hnew.2.1, fun a ha b hb e => (newm b hb).1 (e ▸ (hN a ha).1)⟩
  rw [List.nodup_append] at ndNn
  obtain ⟨ndT, ndG, hTG⟩ := ndNn
  have memT : ∀ y, (y ∈ T ∨ y ∈ N.drop Ss.length) ↔ (y ∈ N ∨ y ∈ nw.1) := fun y => by rw [← List.mem_append, hT, List.mem_append]
  have hTS : ∀ y, y ∈ N ∨ y ∈ nw.1 → y ∉ numsR d S := fun y hy z => by
    obtain ⟨h9, _⟩ := (G.inn y).mp z
    rcases hy with hy | hy
    · rcases h9 with h9 | h9
      · exact (hN y hy).2 h9
      · exact (mem_newL.mp h9).2.2 (hN y hy).1
    · rcases h9 with h9 | h9
      · exact (newm y hy).1 (hB y h9)
      · exact (newm y hy).2 h9
  -- what stands behind
  obtain ⟨a1, ea1⟩ : ∃ a1, a1 = puts c.after ((N.drop Ss.length).map fun n => (n, .none)) := ⟨_, rfl⟩
  obtain ⟨a2, ea2⟩ : ∃ a2, a2 = puts a1 (Z.map fun t => (t.1, (blkR d t.2).D)) := ⟨_, rfl⟩
  have mp1 : ((N.drop Ss.length).map fun n => ((n, .none) : Int × PyData)).map (·.1) = N.drop Ss.length := by
    rw [List.map_map]; exact List.map_id _
  have mp2 : (Z.map fun t => ((t.1, (blkR d t.2).D) : Int × PyData)).map (·.1) = T := by
    rw [List.map_map, eT]; rfl
  have get1 : ∀ t ∈ Z, getA a2 t.1 = some (blkR d t.2).D := fun t ht => by
    rw [ea2]
    exact puts_mem (by rw [mp2]; exact ndT) (List.mem_map.mpr ⟨t, ht, rfl⟩)
  have get2 : ∀ y ∈ N.drop Ss.length, getA a2 y = some .none := fun y hy => by
    rw [ea2, puts_get (by rw [mp2]; exact fun z => hTG y z y hy rfl), ea1]
    exact puts_mem (by rw [mp1]; exact ndG) (List.mem_map.mpr ⟨y, hy, rfl⟩)
  have get3 : ∀ y, y ∉ N → y ∉ nw.1 → getA a2 y = getA c.after y := fun y h1 h2 => by
    have h3 : ¬(y ∈ T ∨ y ∈ N.drop Ss.length) := fun z => by
      rcases (memT y).mp z with h | h
      · exact h1 h
      · exact h2 h
    rw [not_or] at h3
    rw [ea2, puts_get (by rw [mp2]; exact h3.1), ea1, puts_get (by rw [mp1]; exact h3.2)]
  have hZS : ∀ t ∈ Z, t.2 ∈ Ss := fun t ht => by rw [← z2]; exact List.mem_map.mpr ⟨t, ht, rfl⟩
  have hSS : ∀ t ∈ Z, ∀ x ∈ t.2, x ∈ S := fun t ht x hx => by rw [← hfl]; exact List.mem_flatten.mpr ⟨_, hZS t ht, hx⟩
  have hperm := zip_nums Z
  rw [z2, hfl, ← eT] at hperm
  have hmem : ∀ y, y ∈ numsR (d + 1) (Z.map fun t => nodeI t.1 t.2) ↔ y ∈ T ∨ y ∈ numsR d S := fun y => by rw [hperm.mem_iff, List.mem_append]
  have lZ : Z.length = Ss.length := by rw [← z2, List.length_map]
  refine ⟨⟨a2, nw.2⟩, Z.map fun t => nodeI t.1 t.2, ?_, ⟨?_, ?_, ?_, ?_, fun y => ?_, ?_, ?_, ?_, s2, ?_⟩, ?_, ?_, ?_⟩
  · -- fill
    unfold fillP
    rw [rows]
    dsimp only
    rw [List.length_map, ← enw, List.zip_map_right, ← eZ]
    have f1 : (Z.map (Prod.map id (contR d))).map (fun t => ((firstP t.2, .int t.1) : Int × PyData)) = contR (d + 1) (Z.map fun t => nodeI t.1 t.2) := by
      unfold contR
      rw [List.map_map, List.map_map]
      refine List.map_congr_left fun t ht => ?_
      have : firstP (contR d t.2) = firstP (leavesR d t.2) := contR_first h1w (fun z => by have := (hsz _ (hZS t ht)).1; rw [z, List.length_nil] at this; omega) fun x hx => G.ok x (hSS t ht x hx)
      show (firstP (contR d t.2), PyData.int t.1) = (firstP (leavesR d t.2), PyData.int t.1)
      rw [this]
    have f2 : (Z.map (Prod.map id (contR d))).map (fun t => (t.1, (TB.mk (decide (d = 0)) t.2).D)) = Z.map fun t => (t.1, (blkR d t.2).D) := by
      rw [List.map_map]; rfl
    show ((Z.map (Prod.map id (contR d))).map (fun t => ((firstP t.2, .int t.1) : Int × PyData)), Ch.mk (puts (puts c.after ((N.drop Ss.length).map fun n => (n, .none))) ((Z.map (Prod.map id (contR d))).map (fun t => (t.1, (TB.mk (decide (d = 0)) t.2).D)))) nw.2) = _
    rw [f1, f2, ← ea1, ← ea2]
  · rw [zip_leaves, z2, hfl, G.leaves]
  · intro x hx
    obtain ⟨t, ht, rfl⟩ := List.mem_map.mp hx
    refine ⟨?_, fun x hx => (G.rep x (hSS t ht x hx)).mono fun y hy => ?_⟩
    · show ov m _ t.1 = some (blkR d t.2).D
      unfold ov
      rw [get1 t ht]
      rfl
    · have hyS : y ∈ numsR d S := List.mem_flatMap.mpr ⟨x, hSS t ht x hx, hy⟩
      unfold ov
      rw [get3 y (fun z => hTS y (.inl z) hyS) (fun z => hTS y (.inr z) hyS)]
  · intro x hx
    obtain ⟨t, ht, rfl⟩ := List.mem_map.mp hx
    exact ⟨(hsz _ (hZS t ht)).1, (hsz _ (hZS t ht)).2, fun x hx => G.ok x (hSS t ht x hx)⟩
  · rw [hperm.nodup_iff, List.nodup_append]
    refine ⟨ndT, G.nd, fun a ha b hb e => hTS a ((memT a).mp (.inl ha)) (e ▸ hb)⟩
  · show y ∈ numsR (d + 1) (Z.map fun t => nodeI t.1 t.2) ↔ (y ∈ N ++ Bel ∨ y ∈ newL m nw.2) ∧ getA a2 y ≠ some .none
    rw [hmem, s1, List.mem_append, List.mem_append]
    constructor
    · rintro (h | h)
      · refine ⟨?_, ?_⟩
        · rcases (memT y).mp (.inl h) with h | h
          · exact .inl (.inl h)
          · exact .inr (.inr h)
        · rw [eT] at h
          obtain ⟨t, ht, rfl⟩ := List.mem_map.mp h
          rw [get1 t ht]
          exact fun z => nomatch z
      · obtain ⟨g1, g2⟩ := (G.inn y).mp h
        rw [get3 y (fun z => hTS y (.inl z) h) (fun z => hTS y (.inr z) h)]
        refine ⟨?_, g2⟩
        rcases g1 with g | g
        · exact .inl (.inr g)
        · exact .inr (.inl g)
    · rintro ⟨h1, h2⟩
      by_cases q : y ∈ N ∨ y ∈ nw.1
      · rcases (memT y).mpr q with h | h
        · exact .inl h
        · exact absurd (get2 y h) h2
      · rw [not_or] at q
        rw [get3 y q.1 q.2] at h2
        refine .inr ((G.inn y).mpr ⟨?_, h2⟩)
        rcases h1 with (h | h) | (h | h)
        · exact absurd h q.1
        · exact .inl h
        · exact .inr h
        · exact absurd h q.2
  · intro y hy
    show y ∈ N ++ Bel ∨ y ∈ newL m nw.2
    have hy : y ∈ keysA a2 := hy
    rw [ea2, puts_keys, mp2, ea1, puts_keys, mp1, or_assoc, or_comm (a := y ∈ N.drop Ss.length), memT] at hy
    rw [s1, List.mem_append, List.mem_append]
    rcases hy with h | h | h
    · rcases G.keys y h with g | g
      · exact .inl (.inr g)
      · exact .inr (.inl g)
    · exact .inl (.inl h)
    · exact .inr (.inr h)
  · intro y hy
    have hy : getA a2 y = some .none := hy
    rw [List.mem_append]
    by_cases q : y ∈ N
    · exact .inl q
    · by_cases q2 : y ∈ nw.1
      · rcases (memT y).mpr (.inr q2) with h | h
        · rw [eT] at h
          obtain ⟨t, ht, rfl⟩ := List.mem_map.mp h
          rw [get1 t ht] at hy
          exact nomatch hy
        · exact absurd (List.mem_of_mem_drop h) q
      · rw [get3 y q q2] at hy
        exact .inr (G.gone y hy)
  · show ∀ p ∈ a2, okD p.2
    rw [ea2, ea1]
    refine puts_all (P := fun p => okD p.2) (puts_all (P := fun p => okD p.2) G.vals fun p hp => ?_) fun p hp => ?_
    · obtain ⟨y, _, rfl⟩ := List.mem_map.mp hp
      exact ⟨rfl, by simp [PyData.depth]⟩
    · obtain ⟨t, ht, rfl⟩ := List.mem_map.mp hp
      exact okD_D (G.smc sm (hSS t ht))
  · show (keysA a2).Nodup
    rw [ea2, ea1]
    exact puts_nodup (puts_nodup G.ndk)
  · rw [List.length_map, lZ, hr]
  · rw [List.length_map, lZ]
    intro h
    show nw.2 = c.newest
    rw [enw, Nat.sub_eq_zero_of_le h]
    rfl
  · rw [List.length_map, lZ]
    intro h y hy
    have hy : getA a2 y = some .none := hy
    by_cases q : y ∈ N ∨ y ∈ nw.1
    · rcases (memT y).mpr q with h9 | h9
      · rw [eT] at h9
        obtain ⟨t, ht, rfl⟩ := List.mem_map.mp h9
        rw [get1 t ht] at hy
        exact nomatch hy
      · rw [List.drop_eq_nil_of_le h] at h9
        exact nomatch h9
    · rw [not_or] at q
      rw [get3 y q.1 q.2] at hy
      exact hy
end
end My

set_option Elab.async false
set_option linter.all false
set_option maxRecDepth 100000
set_option maxHeartbeats 1000000
/-! a key held otherwise, from the leaf up: holdP tells it of data, SP.run that it gives a row as SP tells -/
namespace My
open PySem L2
section
variable {m : BT} {w : Int} {d : Nat} {key : Int} {held : PL}
theorem ov_none {c : Ch} {n : Int} (h : n ∉ keysA c.after) : ov m c n = getA m n := by
  unfold ov
  rw [get_none h]
theorem SP.bel {Bel Bel' : List Int} {L : PL} {S : List (Item d)} {c : Ch} (G : SP m w d Bel L S c) (h : ∀ n, n ∈ Bel ↔ n ∈ Bel') : SP m w d Bel' L S c :=
  ⟨G.leaves, G.rep, G.ok, G.nd, fun n => by rw [G.inn n, h n], fun n hn => by rw [← h n]; exact G.keys n hn, fun n hn => (h n).mp (G.gone n hn), G.vals, G.low, G.ndk⟩
theorem SP.beside {Bel : List Int} {L : PL} {S : List (Item d)} {c : Ch} (G : SP m w d Bel L S c) {A B : List (Item d)} (hrep : ∀ x ∈ A ++ B, repI (getA m) d x) (hok : ∀ x ∈ A ++ B, okI w d x)
    (nd : (numsR d A ++ Bel ++ numsR d B).Nodup) (hin : ∀ y ∈ numsR d A ++ numsR d B, y ∈ keysA m) :
    SP m w d (numsR d A ++ Bel ++ numsR d B) (leavesR d A ++ L ++ leavesR d B) (A ++ S ++ B) c := by
  rw [List.append_assoc, List.nodup_append, List.nodup_append] at nd
  obtain ⟨ndA, ⟨ndBel, ndB, hBB⟩, hAB⟩ := nd
  have out : ∀ y ∈ numsR d A ++ numsR d B, y ∉ Bel ∧ y ∉ newL m c.newest := fun y hy => by
    refine ⟨fun z => ?_, fun z => (mem_newL.mp z).2.2 (hin y hy)⟩
    rcases List.mem_append.mp hy with h | h
    · exact hAB y h y (List.mem_append_left _ z) rfl
    · exact hBB y z y h rfl
  have outk : ∀ y ∈ numsR d A ++ numsR d B, y ∉ keysA c.after := fun y hy z => by
    rcases G.keys y z with h | h
    · exact (out y hy).1 h
    · exact (out y hy).2 h
  have outS : ∀ y ∈ numsR d A ++ numsR d B, y ∉ numsR d S := fun y hy z => by
    rcases ((G.inn y).mp z).1 with h | h
    · exact (out y hy).1 h
    · exact (out y hy).2 h
  have hrep' : ∀ x ∈ A ++ B, repI (ov m c) d x := fun x hx => (hrep x hx).mono fun y hy => ov_none (outk y (by rw [← numsR_app]; exact List.mem_flatMap.mpr ⟨x, hx, hy⟩))
  refine ⟨by rw [leavesR_app, leavesR_app, G.leaves], fun x hx => ?_, fun x hx => ?_, ?_, fun y => ?_, fun y hy => ?_, fun y hy => ?_, G.vals, G.low, G.ndk⟩
  · rw [List.append_assoc] at hx
    rcases List.mem_append.mp hx with h | h
    · exact hrep' x (List.mem_append_left _ h)
    · rcases List.mem_append.mp h with h | h
      · exact G.rep x h
      · exact hrep' x (List.mem_append_right _ h)
  · rw [List.append_assoc] at hx
    rcases List.mem_append.mp hx with h | h
    · exact hok x (List.mem_append_left _ h)
    · rcases List.mem_append.mp h with h | h
      · exact G.ok x h
      · exact hok x (List.mem_append_right _ h)
  · rw [numsR_app, numsR_app, List.append_assoc, List.nodup_append, List.nodup_append]
    refine ⟨ndA, ⟨G.nd, ndB, fun a ha b hb e => outS b (List.mem_append_right _ hb) (e ▸ ha)⟩, fun a ha b hb e => ?_⟩
    subst e
    rcases List.mem_append.mp hb with h | h
    · exact outS a (List.mem_append_left _ ha) h
    · exact hAB a ha a (List.mem_append_right _ h) rfl
  · rw [numsR_app, numsR_app]
    constructor
    · intro h
      rw [List.append_assoc] at h
      have side : y ∈ numsR d A ++ numsR d B → (y ∈ numsR d A ++ Bel ++ numsR d B ∨ y ∈ newL m c.newest) ∧ getA c.after y ≠ some .none := fun h => by
        refine ⟨.inl ?_, by rw [get_none (outk y h)]; exact fun z => nomatch z⟩
        rw [List.append_assoc]
        rcases List.mem_append.mp h with h | h
        · exact List.mem_append_left _ h
        · exact List.mem_append_right _ (List.mem_append_right _ h)
      rcases List.mem_append.mp h with h | h
      · exact side (List.mem_append_left _ h)
      · rcases List.mem_append.mp h with h | h
        · obtain ⟨g1, g2⟩ := (G.inn y).mp h
          refine ⟨?_, g2⟩
          rcases g1 with g | g
          · exact .inl (List.mem_append_left _ (List.mem_append_right _ g))
          · exact .inr g
        · exact side (List.mem_append_right _ h)
    · rintro ⟨h1, h2⟩
      rw [List.append_assoc]
      have mid : y ∈ Bel ∨ y ∈ newL m c.newest → y ∈ numsR d A ++ (numsR d S ++ numsR d B) := fun h => List.mem_append_right _ (List.mem_append_left _ ((G.inn y).mpr ⟨h, h2⟩))
      rcases h1 with h | h
      · rcases List.mem_append.mp h with h | h
        · rcases List.mem_append.mp h with h | h
          · exact List.mem_append_left _ h
          · exact mid (.inl h)
        · exact List.mem_append_right _ (List.mem_append_right _ h)
      · exact mid (.inr h)
  · rcases G.keys y hy with h | h
    · exact .inl (List.mem_append_left _ (List.mem_append_right _ h))
    · exact .inr h
  · exact List.mem_append_left _ (List.mem_append_right _ (G.gone y hy))
/-! the place of a key -/
theorem rise_split : ∀ {ks : List Int} {key : Int}, ks.Pairwise (· < ·) → (∀ k ∈ ks.take (ks.filter fun k => decide (k ≤ key)).length, k ≤ key) ∧ (∀ k ∈ ks.drop (ks.filter fun k => decide (k ≤ key)).length, key < k)
  | [], key, _ => ⟨(fun k h => nomatch h), (fun k h => nomatch h)⟩
  | k :: ks, key, h => by
    rw [List.pairwise_cons] at h
    by_cases c : k ≤ key
    · obtain ⟨h1, h2⟩ := rise_split (key := key) h.2
      rw [List.filter_cons, if_pos (decide_eq_true c), List.length_cons, List.take_succ_cons, List.drop_succ_cons]
      refine ⟨fun x hx => ?_, h2⟩
      rcases List.mem_cons.mp hx with e | e
      · rw [e]; exact c
      · exact h1 x e
    · have e : (k :: ks).filter (fun k => decide (k ≤ key)) = [] := List.filter_eq_nil_iff.mpr fun x hx => by
        rcases List.mem_cons.mp hx with e | e
        · rw [e]; simp; omega
        · have := h.1 x e; simp; omega
      rw [e, List.length_nil, List.take_zero, List.drop_zero]
      refine ⟨(fun k h => nomatch h), fun x hx => ?_⟩
      rcases List.mem_cons.mp hx with e | e
      · rw [e]; omega
      · have := h.1 x e; omega
theorem keysT_contR : ∀ {R : List (Item d)}, keysT (contR d R) = R.map fun x => firstP (leavesI d x)
  | [] => rfl
  | x :: R => by
    show (pairI d x).1 :: keysT (contR d R) = _
    rw [keysT_contR, pairI_key, List.map_cons]
theorem firstP_mem {P : PL} (h : P ≠ []) : ∃ p ∈ P, p.1 = firstP P := by
  cases P with
  | nil => exact absurd rfl h
  | cons p P => exact ⟨p, List.mem_cons_self, rfl⟩
theorem firstP_le {P : PL} (h : (keysT P).Pairwise (· < ·)) : ∀ p ∈ P, firstP P ≤ p.1 := by
  cases P with
  | nil => exact fun p h => nomatch h
  | cons q P =>
    intro p hp
    show q.1 ≤ p.1
    unfold keysT at h
    rw [List.map_cons, List.pairwise_cons] at h
    rcases List.mem_cons.mp hp with e | e
    · rw [e]; exact Int.le_refl _
    · have := h.1 p.1 (List.mem_map.mpr ⟨p, e, rfl⟩)
      omega
theorem contR_rise (hw : 1 ≤ halfI w) : ∀ {R : List (Item d)}, (∀ x ∈ R, okI w d x) → (keysT (leavesR d R)).Pairwise (· < ·) → (keysT (contR d R)).Pairwise (· < ·)
  | [], _, _ => List.Pairwise.nil
  | x :: R, ok, h => by
    have e : leavesR d (x :: R) = leavesI d x ++ leavesR d R := rfl
    rw [e, keysT_app, List.pairwise_append] at h
    have ih := contR_rise hw (fun y hy => ok y (List.mem_cons_of_mem _ hy)) h.2.1
    rw [keysT_contR, List.map_cons, List.pairwise_cons]
    rw [keysT_contR] at ih
    refine ⟨fun k hk => ?_, ih⟩
    obtain ⟨y, hy, rfl⟩ := List.mem_map.mp hk
    obtain ⟨p, hp, ep⟩ := firstP_mem (leavesI_ne hw (ok x List.mem_cons_self))
    obtain ⟨q, hq, eq⟩ := firstP_mem (leavesI_ne hw (ok y (List.mem_cons_of_mem _ hy)))
    rw [← ep, ← eq]
    exact h.2.2 p.1 (List.mem_map.mpr ⟨p, hp, rfl⟩) q.1 (List.mem_map.mpr ⟨q, List.mem_flatMap.mpr ⟨y, hy, hq⟩, rfl⟩)
/-- a row by the place of a key -/
theorem place_split (hw : 1 ≤ halfI w) {R : List (Item d)} (hR : R ≠ []) (ok : ∀ x ∈ R, okI w d x) (h : (keysT (leavesR d R)).Pairwise (· < ·)) :
    ∃ A x B, R = A ++ x :: B ∧ A.length = placeN (keysT (contR d R)) key ∧ (∀ p ∈ leavesR d A, p.1 < key) ∧ ∀ p ∈ leavesR d B, key < p.1 := by
  have hr := contR_rise hw ok h
  obtain ⟨c, ec⟩ : ∃ c, c = ((keysT (contR d R)).filter fun k => decide (k ≤ key)).length := ⟨_, rfl⟩
  obtain ⟨s1, s2⟩ := rise_split (key := key) hr
  rw [← ec] at s1 s2
  have lk : (keysT (contR d R)).length = R.length := by rw [keysT_contR, List.length_map]
  have hc : c ≤ R.length := by rw [← lk, ec]; exact List.length_filter_le ..
  have hat : placeN (keysT (contR d R)) key = c - 1 := by unfold placeN; rw [ec]
  have hR0 : R.length ≠ 0 := fun z => hR (List.length_eq_zero_iff.mp z)
  have hlt : c - 1 < R.length := by omega
  rw [keysT_contR, ← List.map_take] at s1
  rw [keysT_contR, ← List.map_drop] at s2
  refine ⟨R.take (c - 1), R[c - 1], R.drop (c - 1 + 1), ?_, ?_, fun p hp => ?_, fun p hp => ?_⟩
  · rw [List.getElem_cons_drop, List.take_append_drop]
  · rw [List.length_take, hat]; omega
  · have hc1 : c - 1 ≠ 0 := fun z => by rw [z] at hp; exact nomatch hp
    have e : R = R.take (c - 1) ++ (R[c - 1] :: R.drop (c - 1 + 1)) := by rw [List.getElem_cons_drop, List.take_append_drop]
    have h' := h
    rw [e, leavesR_app, keysT_app, List.pairwise_append] at h'
    obtain ⟨q, hq, eq⟩ := firstP_mem (leavesI_ne hw (ok _ (List.getElem_mem hlt)))
    have h9 := h'.2.2 p.1 (List.mem_map.mpr ⟨p, hp, rfl⟩) q.1 (List.mem_map.mpr ⟨q, List.mem_append_left _ hq, rfl⟩)
    have h8 := s1 (firstP (leavesI d R[c - 1])) (List.mem_map.mpr ⟨R[c - 1], by
      have : R.take c = R.take (c - 1) ++ [R[c - 1]] := by
        conv => lhs; rw [show c = (c - 1) + 1 by omega]
        rw [List.take_succ_eq_append_getElem hlt]
      rw [this]; exact List.mem_append_right _ (List.mem_singleton.mpr rfl), rfl⟩)
    rw [← eq] at h8
    omega
  · obtain ⟨x, hx, hpx⟩ := List.mem_flatMap.mp hp
    have hxR : x ∈ R := List.mem_of_mem_drop hx
    have hxd : x ∈ R.drop c := by
      by_cases q : c = 0
      · rw [q]; exact hxR
      · rw [show c - 1 + 1 = c by omega] at hx; exact hx
    have h8 := s2 (firstP (leavesI d x)) (List.mem_map.mpr ⟨x, hxd, rfl⟩)
    have hs : (keysT (leavesI d x)).Pairwise (· < ·) := by
      obtain ⟨A, B, e⟩ := List.append_of_mem hxR
      have h' := h
      rw [e, leavesR_app, keysT_app, List.pairwise_append] at h'
      have h2 := h'.2.1
      have e2 : leavesR d (x :: B) = leavesI d x ++ leavesR d B := rfl
      rw [e2, keysT_app, List.pairwise_append] at h2
      exact h2.1
    have := firstP_le hs p hpx
    omega
end
end My

set_option Elab.async false
set_option linter.all false
set_option maxRecDepth 100000
set_option maxHeartbeats 1000000
/-! a key held otherwise, from the leaf up: holdP tells it of data, run_hold that it gives a row as SP tells -/
namespace My
open PySem L2
section
variable {m : BT} {w : Int} {d : Nat} {key : Int} {held : PL}
theorem fillBelow_eq {lf : Bool} {X U V Z row : PL} {p : Int × PyData} {c : Ch} (hat : placeN (keysT (X ++ U ++ p :: V ++ Z)) key = (X ++ U).length)
    (h : (¬ (row.length : Int) < halfI w ∧ U = [] ∧ V = []) ∨ ((row.length : Int) < halfI w ∧ (U.length = 1 ∧ V = [] ∨ X = [] ∧ U = [] ∧ V.length = 1))) :
    fillBelowP m w lf (X ++ U ++ p :: V ++ Z) key row c =
      (X ++ (fillP m w lf (rowsAt m U ++ row ++ rowsAt m V) (numsT (U ++ p :: V)) c).1 ++ Z, (fillP m w lf (rowsAt m U ++ row ++ rowsAt m V) (numsT (U ++ p :: V)) c).2) := by
  have key1 : ∀ (first last : Nat), first = X.length → last = (X ++ U ++ p :: V).length →
      ((X ++ U ++ p :: V ++ Z).take ((X ++ U).length)).drop first = U ∧ ((X ++ U ++ p :: V ++ Z).take last).drop ((X ++ U).length + 1) = V ∧
      ((X ++ U ++ p :: V ++ Z).take last).drop first = U ++ p :: V ∧ (X ++ U ++ p :: V ++ Z).take first = X ∧ (X ++ U ++ p :: V ++ Z).drop last = Z := by
    rintro first last rfl rfl
    refine ⟨?_, ?_, ?_, ?_, ?_⟩
    · rw [List.append_assoc (X ++ U), List.take_left, List.drop_left]
    · rw [List.take_left, show X ++ U ++ p :: V = X ++ U ++ [p] ++ V by simp]
      exact List.drop_left' (by rw [List.length_append]; rfl)
    · rw [List.take_left, List.append_assoc X, List.drop_left]
    · rw [List.append_assoc, List.append_assoc, List.take_left]
    · exact List.drop_left
  unfold fillBelowP
  dsimp only
  rw [hat]
  rcases h with ⟨h1, rfl, rfl⟩ | ⟨h1, h2⟩
  · have e1 : decide ((row.length : Int) < halfI w) = false := decide_eq_false h1
    rw [e1]
    obtain ⟨k1, k2, k3, k4, k5⟩ := key1 (X ++ []).length ((X ++ []).length + 1) (by simp) (by simp)
    simp only [Bool.false_eq_true, if_false]
    rw [k1, k2, k3, k4, k5]
  · have e1 : decide ((row.length : Int) < halfI w) = true := decide_eq_true h1
    rw [e1]
    rcases h2 with ⟨h2, rfl⟩ | ⟨rfl, rfl, h2⟩
    · obtain ⟨k1, k2, k3, k4, k5⟩ := key1 ((X ++ U).length - 1) ((X ++ U).length - 1 + 2) (by simp; omega) (by simp; omega)
      simp only [if_true]
      rw [k1, k2, k3, k4, k5]
    · obtain ⟨k1, k2, k3, k4, k5⟩ := key1 ((([] : PL) ++ []).length - 1) ((([] : PL) ++ []).length - 1 + 2) (by simp) (by simp; omega)
      simp only [if_true]
      rw [k1, k2, k3, k4, k5]
theorem rowsAt_one {n : Int} {k : Int} {R : List (Item d)} (h : getA m n = some (blkR d R).D) : rowsAt m [(k, .int n)] = contR d R := by
  show (toTB (blockAt m n)).ps ++ [] = _
  rw [blockAt_of h, toTB_D, List.append_nil]
  rfl
theorem rowsAt_nil : rowsAt m [] = [] := rfl
def holdP (m : BT) (w key : Int) (held : PL) : Nat → PL → PL × Ch
  | 0, ps => (heldP ps key held, ⟨[], 0⟩)
  | d + 1, ps =>
    let r := holdP m w key held d (toTB (blockAt m (numD (ps.getD (placeN (keysT ps) key) (0, .none)).2))).ps
    fillBelowP m w (decide (d = 0)) ps key r.1 r.2
theorem heldP_len {P : PL} (h : (keysT P).Pairwise (· < ·)) : (heldP P key held).length + 1 ≥ P.length + held.length ∧ (heldP P key held).length ≤ P.length + held.length := by
  have e : ∀ {P : PL}, (keysT P).Pairwise (· < ·) → (P.filter fun p => decide (p.1 < key)).length + (P.filter fun p => decide (p.1 > key)).length + 1 ≥ P.length ∧ (P.filter fun p => decide (p.1 < key)).length + (P.filter fun p => decide (p.1 > key)).length ≤ P.length := by
    intro P
    induction P with
    | nil => exact fun _ => ⟨by simp, by simp⟩
    | cons p P ih =>
      intro h
      unfold keysT at h
      rw [List.map_cons, List.pairwise_cons] at h
      obtain ⟨h1, h2⟩ := ih h.2
      rw [List.filter_cons, List.filter_cons, List.length_cons]
      by_cases a : p.1 < key
      · rw [if_pos (decide_eq_true a), if_neg (by simp; omega), List.length_cons]
        omega
      · by_cases b : p.1 > key
        · rw [if_neg (by simpa using a), if_pos (decide_eq_true b), List.length_cons]
          omega
        · have e1 : P.filter (fun p => decide (p.1 > key)) = P := List.filter_eq_self.mpr fun q hq => by
            have := h.1 q.1 (List.mem_map.mpr ⟨q, hq, rfl⟩)
            exact decide_eq_true (by omega)
          have e0 : P.filter (fun p => decide (p.1 < key)) = [] := List.filter_eq_nil_iff.mpr fun q hq => by
            have := h.1 q.1 (List.mem_map.mpr ⟨q, hq, rfl⟩)
            simp; omega
          rw [if_neg (by simpa using a), if_neg (by simpa using b), e1, e0, List.length_nil]
          omega
  obtain ⟨h1, h2⟩ := e h
  unfold heldP
  rw [List.length_append, List.length_append]
  omega
theorem heldP_sm {P : PL} (h1 : smP P) (h2 : smP held) : smP (heldP P key held) := fun p hp => by
  unfold heldP at hp
  rcases List.mem_append.mp hp with h | h
  · rcases List.mem_append.mp h with h | h
    · exact h1 p (List.mem_filter.mp h).1
    · exact h2 p h
  · exact h1 p (List.mem_filter.mp h).1
theorem smP_app {A B : PL} : smP (A ++ B) ↔ smP A ∧ smP B :=
  ⟨fun h => ⟨fun p hp => h p (List.mem_append_left _ hp), fun p hp => h p (List.mem_append_right _ hp)⟩, fun h p hp => (List.mem_append.mp hp).elim (h.1 p) (h.2 p)⟩
/-- what stands in the blocks of a part of a tree -/
structure IN (m : BT) (w : Int) (d : Nat) (R : List (Item d)) : Prop where
  rep : ∀ x ∈ R, repI (getA m) d x
  ok : ∀ x ∈ R, okI w d x
  nd : (numsR d R).Nodup
  mem : ∀ y ∈ numsR d R, y ∈ keysA m
  rise : (keysT (leavesR d R)).Pairwise (· < ·)
  sm : smP (leavesR d R)
theorem IN.app {A B : List (Item d)} (h : IN m w d (A ++ B)) : IN m w d A ∧ IN m w d B := by
  obtain ⟨h1, h2, h3, h4, h5, h6⟩ := h
  rw [numsR_app] at h3 h4
  rw [leavesR_app] at h5 h6
  rw [keysT_app] at h5
  rw [List.nodup_append] at h3
  rw [List.pairwise_append] at h5
  rw [smP_app] at h6
  exact ⟨⟨fun x hx => h1 x (List.mem_append_left _ hx), fun x hx => h2 x (List.mem_append_left _ hx), h3.1, fun y hy => h4 y (List.mem_append_left _ hy), h5.1, h6.1⟩,
    ⟨fun x hx => h1 x (List.mem_append_right _ hx), fun x hx => h2 x (List.mem_append_right _ hx), h3.2.1, fun y hy => h4 y (List.mem_append_right _ hy), h5.2.1, h6.2⟩⟩
theorem IN.node {n : Int} {R : List (Item d)} (h : IN m w (d + 1) [nodeI n R]) : IN m w d R ∧ getA m n = some (blkR d R).D ∧ halfI w ≤ (R.length : Int) ∧ (R.length : Int) ≤ w ∧ n ∈ keysA m ∧ n ∉ numsR d R := by
  obtain ⟨h1, h2, h3, h4, h5, h6⟩ := h
  have e1 : numsR (d + 1) [nodeI n R] = n :: numsR d R := by
    rw [numsR_cons]
    show n :: (numsR d R ++ []) = _
    rw [List.append_nil]
  have e2 : leavesR (d + 1) [nodeI n R] = leavesR d R := by
    rw [leavesR_cons]
    exact List.append_nil _
  rw [e1] at h3 h4
  rw [e2] at h5 h6
  rw [List.nodup_cons] at h3
  obtain ⟨a1, a2⟩ := h1 (nodeI n R) (List.mem_singleton.mpr rfl)
  obtain ⟨b1, b2, b3⟩ := h2 (nodeI n R) (List.mem_singleton.mpr rfl)
  exact ⟨⟨a2, b3, h3.2, fun y hy => h4 y (List.mem_cons_of_mem _ hy), h5, h6⟩, a1, b1, b2, h4 n List.mem_cons_self, h3.1⟩
end
end My

set_option Elab.async false
set_option linter.all false
set_option maxRecDepth 100000
set_option maxHeartbeats 1000000
/-! run_hold: all levels below the root -/
namespace My
open PySem L2
section
variable {m : BT} {w : Int} {d : Nat} {key : Int} {held : PL}
theorem up_step (hw : 3 ≤ w) (ndm : (keysA m).Nodup) {A Y B : List (Item (d + 1))} (I : IN m w (d + 1) (A ++ Y ++ B)) {N Bel : List Int} {L : PL} {S : List (Item d)} {c : Ch} (G : SP m w d Bel L S c)
    (hS1 : halfI w ≤ (S.length : Int)) (hS2 : (S.length : Int) ≤ 2 * w) (hY : ∀ y, y ∈ numsR (d + 1) Y ↔ y ∈ N ++ Bel) (nd : (N ++ Bel).Nodup)
    (hL : leavesR (d + 1) A ++ L ++ leavesR (d + 1) B = heldP (leavesR (d + 1) (A ++ Y ++ B)) key held) (sm : smP L) :
    ∃ (c' : Ch) (mid : List (Item (d + 1))), fillP m w (decide (d = 0)) (contR d S) N c = (contR (d + 1) mid, c') ∧
      SP m w (d + 1) (numsR (d + 1) (A ++ Y ++ B)) (heldP (leavesR (d + 1) (A ++ Y ++ B)) key held) (A ++ mid ++ B) c' ∧
      (mid.length = if (S.length : Int) ≤ w then 1 else 2) ∧ (mid.length ≤ N.length → c'.newest = c.newest) ∧
      (N.length ≤ mid.length → ∀ n, getA c'.after n = some .none → getA c.after n = some .none) := by
  have ndI := I.nd
  have hin := I.mem
  rw [numsR_app, numsR_app, List.append_assoc, List.nodup_append, List.nodup_append] at ndI
  rw [numsR_app, numsR_app] at hin
  obtain ⟨ndA, ⟨ndY, ndB, hYB⟩, hAY⟩ := ndI
  have nd' := nd
  rw [List.nodup_append] at nd'
  obtain ⟨c', mid, f1, f2, f3, f4, f5⟩ := G.fill hw ndm (N := N) hS1 hS2 nd'.1
    (fun n hn => ⟨hin n (List.mem_append_left _ (List.mem_append_right _ ((hY n).mpr (List.mem_append_left _ hn)))), fun z => nd'.2.2 n hn n z rfl⟩)
    (fun n hn => hin n (List.mem_append_left _ (List.mem_append_right _ ((hY n).mpr (List.mem_append_right _ hn))))) sm
  refine ⟨c', mid, f1, ?_, f3, f4, f5⟩
  have b := f2.beside (A := A) (B := B) (fun x hx => I.rep x (by
      rw [List.append_assoc]
      rcases List.mem_append.mp hx with h | h
      · exact List.mem_append_left _ h
      · exact List.mem_append_right _ (List.mem_append_right _ h))) (fun x hx => I.ok x (by
      rw [List.append_assoc]
      rcases List.mem_append.mp hx with h | h
      · exact List.mem_append_left _ h
      · exact List.mem_append_right _ (List.mem_append_right _ h)))
    (by
      rw [List.append_assoc, List.nodup_append, List.nodup_append]
      refine ⟨ndA, ⟨nd, ndB, fun a ha b hb => hYB a ((hY a).mpr ha) b hb⟩, fun a ha b hb => hAY a ha b ?_⟩
      rcases List.mem_append.mp hb with h | h
      · exact List.mem_append_left _ ((hY b).mpr h)
      · exact List.mem_append_right _ h)
    (fun y hy => hin y (by
      rcases List.mem_append.mp hy with h | h
      · exact List.mem_append_left _ (List.mem_append_left _ h)
      · exact List.mem_append_right _ h))
  rw [← hL]
  refine b.bel fun y => ?_
  have hy2 := hY y
  rw [List.mem_append] at hy2
  rw [numsR_app, numsR_app]
  simp only [List.mem_append, hy2]
structure HP (m : BT) (w key : Int) (held : PL) (d : Nat) (R R' : List (Item d)) (c : Ch) : Prop where
  sp : SP m w d (numsR d R) (heldP (leavesR d R) key held) R' c
  len : R.length ≤ R'.length + 1 ∧ R'.length ≤ R.length + 1
  put : held ≠ [] → R.length ≤ R'.length ∧ ∀ n, getA c.after n ≠ some .none
  drop : held = [] → R'.length ≤ R.length ∧ c.newest = 0
theorem contR_len {R : List (Item d)} : (contR d R).length = R.length := List.length_map ..
theorem numsT_one {k n : Int} : numsT [(k, .int n)] = [n] := rfl
theorem run_hold (hw : 3 ≤ w) (ndm : (keysA m).Nodup) (sh : smP held) (hl : held.length ≤ 1) : ∀ (d : Nat) (R : List (Item d)), IN m w d R → (d ≠ 0 → 2 ≤ R.length) →
    ∃ R' c, holdP m w key held d (contR d R) = (contR d R', c) ∧ HP m w key held d R R' c
  | 0, R, I, _ => by
    obtain ⟨R', eR'⟩ : ∃ R' : List (Item 0), R' = heldP R key held := ⟨_, rfl⟩
    have a : contR 0 R = R := contR_zero
    have b : contR 0 R' = R' := contR_zero
    have hr := I.rise
    have a2 : leavesR 0 R = R := leavesR_zero
    rw [a2] at hr
    have h1 : R'.length + 1 ≥ R.length + held.length := by rw [eR']; exact (heldP_len hr).1
    have h2 : R'.length ≤ R.length + held.length := by rw [eR']; exact (heldP_len hr).2
    have a3 : leavesR 0 R' = heldP (leavesR 0 R) key held := by rw [a2, ← eR']; exact leavesR_zero
    have a4 : numsR 0 R' = [] := numsR_zero
    have a5 : numsR 0 R = [] := numsR_zero
    refine ⟨R', ⟨[], 0⟩, ?_, ⟨⟨a3, fun _ _ => trivial, fun _ _ => trivial, ?_, fun n => ?_, fun n hn => (nomatch hn), fun n hn => (nomatch hn), fun p hp => (nomatch hp), Int.le_refl _, List.nodup_nil⟩, ⟨by omega, by omega⟩, fun hh => ⟨?_, fun n z => nomatch z⟩, fun hh => ⟨?_, rfl⟩⟩⟩
    · show (heldP (contR 0 R) key held, (⟨[], 0⟩ : Ch)) = (contR 0 R', ⟨[], 0⟩)
      rw [b, eR']
      exact congrArg (fun z : PL => (heldP z key held, (⟨[], 0⟩ : Ch))) a
    · rw [a4]; exact List.nodup_nil
    · rw [a4, a5]
      constructor
      · exact fun h => nomatch h
      · rintro ⟨h | h, _⟩
        · exact nomatch h
        · exact nomatch h
    · have : held.length ≠ 0 := fun z => hh (List.length_eq_zero_iff.mp z)
      omega
    · rw [hh, List.length_nil] at h2
      exact h2
  | d + 1, R, I, h2 => by
    have h1w : 2 ≤ halfI w := by unfold halfI; omega
    have hR2 := h2 (by omega)
    have Rne : R ≠ [] := fun z => by rw [z, List.length_nil] at hR2; omega
    obtain ⟨A, x, B, eR, hat, hA, hB⟩ := place_split (key := key) (by omega) Rne I.ok I.rise
    obtain ⟨n, Rc, ex⟩ : ∃ n Rc, x = nodeI n Rc := ⟨x.1, x.2, rfl⟩
    subst ex
    subst eR
    have I2 : IN m w (d + 1) (A ++ ([nodeI n Rc] ++ B)) := I
    obtain ⟨IA, IxB⟩ := I2.app
    obtain ⟨Ix, IB⟩ := IxB.app
    obtain ⟨Ic, gn, hc1, hc2, nk, nc⟩ := Ix.node
    obtain ⟨R', c, e1, H⟩ := run_hold hw ndm sh hl d Rc Ic fun _ => by omega
    have smL : smP (heldP (leavesR d Rc) key held) := heldP_sm Ic.sm sh
    have eps : contR (d + 1) (A ++ nodeI n Rc :: B) = contR (d + 1) A ++ (firstP (leavesR d Rc), .int n) :: contR (d + 1) B := by rw [contR_app, contR_cons]
    have lA : (contR (d + 1) A).length = A.length := contR_len
    have ehold : holdP m w key held (d + 1) (contR (d + 1) (A ++ nodeI n Rc :: B)) = fillBelowP m w (decide (d = 0)) (contR (d + 1) (A ++ nodeI n Rc :: B)) key (contR d R') c := by
      show (fillBelowP m w (decide (d = 0)) (contR (d + 1) (A ++ nodeI n Rc :: B)) key (holdP m w key held d (toTB (blockAt m (numD ((contR (d + 1) (A ++ nodeI n Rc :: B)).getD (placeN (keysT (contR (d + 1) (A ++ nodeI n Rc :: B))) key) (0, .none)).2))).ps).1 (holdP m w key held d (toTB (blockAt m (numD ((contR (d + 1) (A ++ nodeI n Rc :: B)).getD (placeN (keysT (contR (d + 1) (A ++ nodeI n Rc :: B))) key) (0, .none)).2))).ps).2) = _
      have e9 : (contR (d + 1) (A ++ nodeI n Rc :: B)).getD (placeN (keysT (contR (d + 1) (A ++ nodeI n Rc :: B))) key) (0, .none) = (firstP (leavesR d Rc), .int n) := by
        rw [← hat, eps, ← lA, List.getD_eq_getElem?_getD, List.getElem?_append_right (Nat.le_refl _), Nat.sub_self]
        rfl
      rw [e9]
      show fillBelowP m w (decide (d = 0)) _ key (holdP m w key held d (toTB (blockAt m n)).ps).1 (holdP m w key held d (toTB (blockAt m n)).ps).2 = _
      rw [blockAt_of gn, toTB_D]
      show fillBelowP m w (decide (d = 0)) _ key (holdP m w key held d (contR d Rc)).1 (holdP m w key held d (contR d Rc)).2 = _
      rw [e1]
    rw [ehold]
    have lv : leavesR (d + 1) (A ++ nodeI n Rc :: B) = leavesR (d + 1) A ++ leavesR d Rc ++ leavesR (d + 1) B := by rw [leavesR_app, leavesR_cons, List.append_assoc]
    have hm := heldP_mid (B := leavesR d Rc) (held := held) hA hB
    have nnc : ([n] ++ numsR d Rc).Nodup := by
      rw [List.singleton_append, List.nodup_cons]
      exact ⟨nc, Ic.nd⟩
    by_cases short : (R'.length : Int) < halfI w
    · -- too short: with the block beside it
      have hh : held = [] := by
        by_cases q : held = []
        · exact q
        · have := (H.put q).1
          omega
      obtain ⟨dr1, dr2⟩ := H.drop hh
      rcases List.eq_nil_or_concat A with eA | ⟨A0, a, eA⟩
      · -- the one behind
        subst eA
        cases B with
        | nil => rw [List.nil_append, List.length_cons, List.length_nil] at hR2; omega
        | cons b B0 =>
          obtain ⟨nb, Rb, eb⟩ : ∃ nb Rb, b = nodeI nb Rb := ⟨b.1, b.2, rfl⟩
          subst eb
          have IB' : IN m w (d + 1) ([nodeI nb Rb] ++ B0) := IB
          obtain ⟨Ib, IB0⟩ := IB'.app
          obtain ⟨Ibc, gb, hb1, hb2, bk, bc⟩ := Ib.node
          have ndAll := I.nd
          have eall : numsR (d + 1) ([] ++ nodeI n Rc :: nodeI nb Rb :: B0) = n :: (numsR d Rc ++ (nb :: (numsR d Rb ++ numsR (d + 1) B0))) := rfl
          rw [eall, List.nodup_cons, List.nodup_append, List.nodup_cons, List.nodup_append] at ndAll
          obtain ⟨q1, q2, ⟨q3, q4, q5, q6⟩, q7⟩ := ndAll
          have G2 := H.sp.beside (A := []) (B := Rb) (fun x hx => Ibc.rep x hx) (fun x hx => Ibc.ok x hx) (by
              show ([] ++ numsR d Rc ++ numsR d Rb).Nodup
              rw [List.nil_append, List.nodup_append]
              exact ⟨q2, q4, fun a ha b hb => q7 a ha b (List.mem_cons_of_mem _ (List.mem_append_left _ hb))⟩) (fun y hy => Ibc.mem y hy)
          have I3 : IN m w (d + 1) ([] ++ [nodeI n Rc, nodeI nb Rb] ++ B0) := I
          have Y1 : leavesR (d + 1) ([nodeI n Rc, nodeI nb Rb]) = leavesR d Rc ++ leavesR d Rb := by
            show leavesR d Rc ++ (leavesR d Rb ++ []) = _
            rw [List.append_nil]
          have up := up_step (key := key) (held := held) hw ndm I3 (N := [n, nb]) G2 (by rw [List.nil_append, List.length_append]; omega) (by rw [List.nil_append, List.length_append]; omega)
            (fun y => by
              show y ∈ n :: (numsR d Rc ++ (nb :: (numsR d Rb ++ []))) ↔ y ∈ [n, nb] ++ ([] ++ numsR d Rc ++ numsR d Rb)
              simp only [List.mem_cons, List.mem_append, List.not_mem_nil]
              grind)
            (by
              show (n :: nb :: ([] ++ numsR d Rc ++ numsR d Rb)).Nodup
              rw [List.nil_append, List.nodup_cons, List.nodup_cons, List.nodup_append]
              refine ⟨fun z => ?_, fun z => ?_, q2, q4, fun a ha b hb => q7 a ha b (List.mem_cons_of_mem _ (List.mem_append_left _ hb))⟩
              · rcases List.mem_cons.mp z with z | z
                · exact q1 (List.mem_append_right _ (z ▸ List.mem_cons_self))
                · rcases List.mem_append.mp z with z | z
                  · exact q1 (List.mem_append_left _ z)
                  · exact q1 (List.mem_append_right _ (List.mem_cons_of_mem _ (List.mem_append_left _ z)))
              · rcases List.mem_append.mp z with z | z
                · exact q7 nb z nb List.mem_cons_self rfl
                · exact q3 (List.mem_append_left _ z))
            (by
              show [] ++ ([] ++ heldP (leavesR d Rc) key held ++ leavesR d Rb) ++ leavesR (d + 1) B0 = heldP (leavesR d Rc ++ (leavesR d Rb ++ leavesR (d + 1) B0)) key held
              have := heldP_mid (key := key) (held := held) (A := []) (B := leavesR d Rc) (C := leavesR d Rb ++ leavesR (d + 1) B0) (fun p h => nomatch h) hB
              rw [List.nil_append, List.nil_append] at this
              rw [this, List.nil_append, List.nil_append, List.append_assoc])
            (by
              show smP ([] ++ heldP (leavesR d Rc) key held ++ leavesR d Rb)
              rw [List.nil_append, smP_app]
              exact ⟨smL, Ibc.sm⟩)
          obtain ⟨c', mid, f1, f2, f3, f4, f5⟩ := up
          have fb := fillBelow_eq (m := m) (w := w) (key := key) (lf := decide (d = 0)) (X := []) (U := []) (V := [(firstP (leavesR d Rb), .int nb)]) (Z := contR (d + 1) B0) (row := contR d R') (p := (firstP (leavesR d Rc), .int n)) (c := c)
            (by rw [eps] at hat; exact hat.symm) (.inr ⟨by rw [contR_len]; exact short, .inr ⟨rfl, rfl, rfl⟩⟩)
          have ea : [] ++ contR d R' ++ contR d Rb = contR d (R' ++ Rb) := by rw [List.nil_append, contR_app]
          rw [rowsAt_one gb, rowsAt_nil, ea] at fb
          have f1' : fillP m w (decide (d = 0)) (contR d (R' ++ Rb)) [n, nb] c = (contR (d + 1) mid, c') := f1
          have fb' : fillBelowP m w (decide (d = 0)) (contR (d + 1) ([] ++ nodeI n Rc :: nodeI nb Rb :: B0)) key (contR d R') c = ([] ++ (fillP m w (decide (d = 0)) (contR d (R' ++ Rb)) [n, nb] c).1 ++ contR (d + 1) B0, (fillP m w (decide (d = 0)) (contR d (R' ++ Rb)) [n, nb] c).2) := fb
          rw [fb', f1']
          have hmid : 1 ≤ mid.length ∧ mid.length ≤ 2 := by rw [f3]; split <;> omega
          refine ⟨[] ++ mid ++ B0, c', ?_, f2, ?_, fun q => absurd hh q, fun _ => ⟨?_, by rw [f4 hmid.2]; exact dr2⟩⟩
          · rw [List.nil_append, List.nil_append, contR_app]
          · simp only [List.nil_append, List.length_append, List.length_cons]
            omega
          · simp only [List.nil_append, List.length_append, List.length_cons]
            omega
      · -- the one before
        rw [List.concat_eq_append] at eA
        subst eA
        obtain ⟨na, Ra, ea⟩ : ∃ na Ra, a = nodeI na Ra := ⟨a.1, a.2, rfl⟩
        subst ea
        obtain ⟨IA0, Ia⟩ := IA.app
        obtain ⟨Iac, ga, ha1, ha2, ak, ac⟩ := Ia.node
        have e0 : A0 ++ [nodeI na Ra] ++ nodeI n Rc :: B = A0 ++ [nodeI na Ra, nodeI n Rc] ++ B := by simp
        have I3 : IN m w (d + 1) (A0 ++ [nodeI na Ra, nodeI n Rc] ++ B) := e0 ▸ I
        have IY := (I3.app.1).app.2
        have ndAll := IY.nd
        have eall : numsR (d + 1) [nodeI na Ra, nodeI n Rc] = na :: (numsR d Ra ++ (n :: (numsR d Rc ++ []))) := rfl
        rw [eall, List.append_nil, List.nodup_cons, List.nodup_append, List.nodup_cons] at ndAll
        obtain ⟨q1, q2, ⟨q3, q4⟩, q7⟩ := ndAll
        have G2 := H.sp.beside (A := Ra) (B := []) (fun x hx => Iac.rep x (by rw [List.append_nil] at hx; exact hx)) (fun x hx => Iac.ok x (by rw [List.append_nil] at hx; exact hx)) (by
            show (numsR d Ra ++ numsR d Rc ++ []).Nodup
            rw [List.append_nil, List.nodup_append]
            exact ⟨q2, q4, fun a ha b hb => q7 a ha b (List.mem_cons_of_mem _ hb)⟩) (fun y hy => Iac.mem y (by
            have hy : y ∈ numsR d Ra ++ [] := hy
            rw [List.append_nil] at hy; exact hy))
        have eS : Ra ++ R' ++ [] = Ra ++ R' := List.append_nil _
        have up := up_step (key := key) (held := held) hw ndm I3 (N := [na, n]) G2 (by rw [eS, List.length_append]; omega) (by rw [eS, List.length_append]; omega)
          (fun y => by
            show y ∈ na :: (numsR d Ra ++ (n :: (numsR d Rc ++ []))) ↔ y ∈ [na, n] ++ (numsR d Ra ++ numsR d Rc ++ [])
            simp only [List.mem_cons, List.mem_append, List.not_mem_nil]
            grind)
          (by
            show (na :: n :: (numsR d Ra ++ numsR d Rc ++ [])).Nodup
            rw [List.append_nil, List.nodup_cons, List.nodup_cons, List.nodup_append]
            refine ⟨fun z => ?_, fun z => ?_, q2, q4, fun a ha b hb => q7 a ha b (List.mem_cons_of_mem _ hb)⟩
            · rcases List.mem_cons.mp z with z | z
              · exact q1 (List.mem_append_right _ (z ▸ List.mem_cons_self))
              · rcases List.mem_append.mp z with z | z
                · exact q1 (List.mem_append_left _ z)
                · exact q1 (List.mem_append_right _ (List.mem_cons_of_mem _ z))
            · rcases List.mem_append.mp z with z | z
              · exact q7 n z n List.mem_cons_self rfl
              · exact q3 z)
          (by
            have e8 : leavesR (d + 1) (A0 ++ [nodeI na Ra, nodeI n Rc] ++ B) = (leavesR (d + 1) A0 ++ leavesR d Ra) ++ leavesR d Rc ++ leavesR (d + 1) B := by
              rw [leavesR_app, leavesR_app]
              show leavesR (d + 1) A0 ++ (leavesR d Ra ++ (leavesR d Rc ++ [])) ++ leavesR (d + 1) B = _
              simp only [List.append_nil, List.append_assoc]
            have e7 : leavesR (d + 1) (A0 ++ [nodeI na Ra]) = leavesR (d + 1) A0 ++ leavesR d Ra := by
              rw [leavesR_app]
              show leavesR (d + 1) A0 ++ (leavesR d Ra ++ []) = _
              rw [List.append_nil]
            rw [e7] at hm
            rw [e8, hm]
            show leavesR (d + 1) A0 ++ (leavesR d Ra ++ heldP (leavesR d Rc) key held ++ []) ++ leavesR (d + 1) B = _
            simp only [List.append_nil, List.append_assoc])
          (by
            show smP (leavesR d Ra ++ heldP (leavesR d Rc) key held ++ [])
            rw [List.append_nil, smP_app]
            exact ⟨Iac.sm, smL⟩)
        obtain ⟨c', mid, f1, f2, f3, f4, f5⟩ := up
        rw [eS] at f1
        have eX : contR (d + 1) (A0 ++ [nodeI na Ra]) = contR (d + 1) A0 ++ [(firstP (leavesR d Ra), .int na)] := by rw [contR_app]; rfl
        have eT : contR (d + 1) (A0 ++ [nodeI na Ra] ++ nodeI n Rc :: B) = contR (d + 1) A0 ++ [(firstP (leavesR d Ra), .int na)] ++ [(firstP (leavesR d Rc), .int n)] ++ contR (d + 1) B := by
          rw [eps, eX]
          simp
        have fb := fillBelow_eq (m := m) (w := w) (key := key) (lf := decide (d = 0)) (X := contR (d + 1) A0) (U := [(firstP (leavesR d Ra), .int na)]) (V := []) (Z := contR (d + 1) B) (row := contR d R') (p := (firstP (leavesR d Rc), .int n)) (c := c)
          (by rw [← eT, ← hat, ← eX, contR_len]) (.inr ⟨by rw [contR_len]; exact short, .inl ⟨rfl, rfl⟩⟩)
        have ea : contR d Ra ++ contR d R' ++ [] = contR d (Ra ++ R') := by rw [List.append_nil, contR_app]
        rw [rowsAt_one ga, rowsAt_nil, ea] at fb
        rw [eT]
        have fb' : fillBelowP m w (decide (d = 0)) (contR (d + 1) A0 ++ [(firstP (leavesR d Ra), .int na)] ++ [(firstP (leavesR d Rc), .int n)] ++ contR (d + 1) B) key (contR d R') c = (contR (d + 1) A0 ++ (fillP m w (decide (d = 0)) (contR d (Ra ++ R')) [na, n] c).1 ++ contR (d + 1) B, (fillP m w (decide (d = 0)) (contR d (Ra ++ R')) [na, n] c).2) := fb
        rw [fb', f1]
        have hmid : 1 ≤ mid.length ∧ mid.length ≤ 2 := by rw [f3]; split <;> omega
        rw [e0]
        refine ⟨A0 ++ mid ++ B, c', ?_, f2, ?_, fun q => absurd hh q, fun _ => ⟨?_, by rw [f4 hmid.2]; exact dr2⟩⟩
        · rw [contR_app, contR_app]
        · simp only [List.length_append, List.length_cons, List.length_nil]
          omega
        · simp only [List.length_append, List.length_cons, List.length_nil]
          omega
    · -- long enough
      have I3 : IN m w (d + 1) (A ++ [nodeI n Rc] ++ B) := by
        rw [List.append_assoc]
        exact I2
      have e0 : A ++ nodeI n Rc :: B = A ++ [nodeI n Rc] ++ B := by simp
      have up := up_step (key := key) (held := held) hw ndm I3 (N := [n]) H.sp (by omega) (by have := H.len.2; omega)
        (fun y => by
          show y ∈ n :: (numsR d Rc ++ []) ↔ y ∈ [n] ++ numsR d Rc
          rw [List.append_nil]
          rfl) nnc (by rw [← e0, lv, hm]) smL
      obtain ⟨c', mid, f1, f2, f3, f4, f5⟩ := up
      have fb := fillBelow_eq (m := m) (w := w) (key := key) (lf := decide (d = 0)) (X := contR (d + 1) A) (U := []) (V := []) (Z := contR (d + 1) B) (row := contR d R') (p := (firstP (leavesR d Rc), .int n)) (c := c)
        (by rw [eps] at hat; rw [List.append_nil, lA, hat]; simp) (.inl ⟨by rw [contR_len]; exact short, rfl, rfl⟩)
      have ea : [] ++ contR d R' ++ [] = contR d R' := by rw [List.append_nil, List.nil_append]
      rw [rowsAt_nil, ea] at fb
      have eT : contR (d + 1) (A ++ nodeI n Rc :: B) = contR (d + 1) A ++ [] ++ [(firstP (leavesR d Rc), .int n)] ++ contR (d + 1) B := by
        rw [eps]
        simp
      rw [eT]
      have fb' : fillBelowP m w (decide (d = 0)) (contR (d + 1) A ++ [] ++ [(firstP (leavesR d Rc), .int n)] ++ contR (d + 1) B) key (contR d R') c = (contR (d + 1) A ++ (fillP m w (decide (d = 0)) (contR d R') [n] c).1 ++ contR (d + 1) B, (fillP m w (decide (d = 0)) (contR d R') [n] c).2) := by
        exact fb
      rw [fb', f1]
      have hmid : 1 ≤ mid.length ∧ mid.length ≤ 2 := by rw [f3]; split <;> omega
      rw [e0]
      refine ⟨A ++ mid ++ B, c', ?_, f2, ?_, fun q => ⟨?_, fun y hy => (H.put q).2 y (f5 hmid.1 y hy)⟩, fun q => ?_⟩
      · rw [contR_app, contR_app]
      · simp only [List.length_append, List.length_cons, List.length_nil]
        omega
      · simp only [List.length_append, List.length_cons, List.length_nil]
        omega
      · obtain ⟨p1, p2⟩ := H.drop q
        have : mid.length = 1 := by rw [f3, if_pos (by omega)]
        refine ⟨?_, by rw [f4 (by rw [this]; exact Nat.le_refl _)]; exact p2⟩
        simp only [List.length_append, List.length_cons, List.length_nil]
        omega
end
end My

set_option Elab.async false
set_option linter.all false
set_option maxRecDepth 100000
set_option maxHeartbeats 1000000
/-! the root, and the whole: TR.hold -/
namespace My
open PySem L2
section
variable {m : BT} {w : Int} {d : Nat} {key : Int} {held : PL}
/-- what stands at a number behind the changes, None where nothing does -/
def nowD (m : BT) (c : Ch) (n : Int) : PyData := match getA c.after n with
  | some x => x
  | none => optD (getA m n)
def rootP (m : BT) (w : Int) (lf : Bool) (row : PL) (c : Ch) : Ch :=
  if w < (row.length : Int) then
    let r := fillP m w lf row [] c
    ⟨putA r.2.after 0 (TB.mk false r.1).D, r.2.newest⟩
  else if lf = false ∧ row.length = 1 then
    let n := numD (row.getD 0 (0, .none)).2
    ⟨putA (putA c.after n .none) 0 (toTB (nowD m c n)).D, c.newest⟩
  else ⟨putA c.after 0 (TB.mk lf row).D, c.newest⟩
theorem repI.some : ∀ {d : Nat} {x : Item d} {M : Int → Option PyData}, repI M d x → ∀ n ∈ numsI d x, ∃ b : TB, M n = .some b.D
  | 0, _, _, _ => fun n hn => nomatch hn
  | d + 1, c, M, h => fun n hn => by
    rcases List.mem_cons.mp hn with e | e
    · rw [e]; exact ⟨_, h.1⟩
    · obtain ⟨x, hx, hn'⟩ := List.mem_flatMap.mp e
      exact (h.2 x hx).some n hn'
/-- what stands behind the changes, the root among it -/
structure FR (m : BT) (w : Int) (P : PL) (d : Nat) (R : List (Item d)) (c : Ch) (Bel : List Int) : Prop where
  root : getA c.after 0 = some (blkR d R).D
  size : (R.length : Int) ≤ w
  two : d ≠ 0 → 2 ≤ R.length
  rep : ∀ x ∈ R, repI (ov m c) d x
  ok : ∀ x ∈ R, okI w d x
  leaves : leavesR d R = P
  nd : (numsR d R).Nodup
  inn : ∀ n, n ∈ numsR d R ↔ (n ∈ Bel ∨ n ∈ newL m c.newest) ∧ getA c.after n ≠ some .none
  keys : ∀ n ∈ keysA c.after, n = 0 ∨ n ∈ Bel ∨ n ∈ newL m c.newest
  gone : ∀ n, getA c.after n = some .none → n ∈ Bel
  vals : ∀ p ∈ c.after, okD p.2
  low : 0 ≤ c.newest
  ndk : (keysA c.after).Nodup
theorem SP.final {Bel : List Int} {L : PL} {S : List (Item d)} {c : Ch} (G : SP m w d Bel L S c) (h0 : (0 : Int) ∉ Bel) (size : (S.length : Int) ≤ w) (two : d ≠ 0 → 2 ≤ S.length) (sm : smP L) :
    FR m w L d S ⟨putA c.after 0 (blkR d S).D, c.newest⟩ Bel := by
  have n0 : ∀ n, n ∈ Bel ∨ n ∈ newL m c.newest → n ≠ 0 := fun n h e => by
    subst e
    rcases h with h | h
    · exact h0 h
    · have := (mem_newL.mp h).1
      omega
  have gt : ∀ n, n ≠ 0 → getA (putA c.after 0 (blkR d S).D) n = getA c.after n := fun n h => by rw [getA_put, if_neg h]
  refine ⟨by rw [getA_put, if_pos rfl], size, two, fun x hx => (G.rep x hx).mono fun n hn => ?_, G.ok, G.leaves, G.nd, fun n => ?_, fun n hn => ?_, fun n hn => ?_, all_put (P := fun p => okD p.2) G.vals (okD_D (G.smc sm fun _ h => h)), G.low, nodup_put G.ndk⟩
  · have h := n0 n ((G.inn n).mp (List.mem_flatMap.mpr ⟨x, hx, hn⟩)).1
    unfold ov
    dsimp only
    rw [gt n h]
  · rw [G.inn n]
    constructor
    · rintro ⟨h1, h2⟩
      exact ⟨h1, by dsimp only; rw [gt n (n0 n h1)]; exact h2⟩
    · rintro ⟨h1, h2⟩
      dsimp only at h2
      rw [gt n (n0 n h1)] at h2
      exact ⟨h1, h2⟩
  · rcases keysA_put_mem.mp hn with h | h
    · exact .inr (G.keys n h)
    · exact .inl h
  · dsimp only at hn
    by_cases q : n = 0
    · rw [q, getA_put, if_pos rfl] at hn
      exact nomatch hn
    · rw [gt n q] at hn
      exact G.gone n hn
theorem okP_heldP {lf : Bool} {P : PL} (h : okP lf P) (hh : held = [] ∨ ∃ v, held = [(key, v)] ∧ isKeyD (.int key) = true ∧ heldD (wordT lf) v = true) : okP lf (heldP P key held) := by
  have s1 : (keysT (P.filter fun p => decide (p.1 < key))).Pairwise (· < ·) := h.2.sublist (List.filter_sublist.map _)
  have s2 : (keysT (P.filter fun p => decide (p.1 > key))).Pairwise (· < ·) := h.2.sublist (List.filter_sublist.map _)
  have m1 : ∀ a ∈ keysT (P.filter fun p => decide (p.1 < key)), a < key := fun a ha => by
    obtain ⟨p, hp, rfl⟩ := List.mem_map.mp ha
    exact of_decide_eq_true (List.mem_filter.mp hp).2
  have m2 : ∀ a ∈ keysT (P.filter fun p => decide (p.1 > key)), key < a := fun a ha => by
    obtain ⟨p, hp, rfl⟩ := List.mem_map.mp ha
    exact of_decide_eq_true (List.mem_filter.mp hp).2
  refine ⟨fun p hp => ?_, ?_⟩
  · unfold heldP at hp
    rcases List.mem_append.mp hp with hp | hp
    · rcases List.mem_append.mp hp with hp | hp
      · exact h.1 p (List.mem_filter.mp hp).1
      · rcases hh with e | ⟨v, e, k1, k2⟩
        · rw [e] at hp; exact nomatch hp
        · rw [e] at hp
          rw [List.mem_singleton.mp hp]
          exact ⟨k1, k2⟩
    · exact h.1 p (List.mem_filter.mp hp).1
  · unfold heldP
    rw [keysT_app, keysT_app, List.append_assoc, List.pairwise_append]
    refine ⟨s1, ?_, fun a ha b hb => ?_⟩
    · rw [List.pairwise_append]
      refine ⟨?_, s2, fun a ha b hb => ?_⟩
      · rcases hh with e | ⟨v, e, k1, k2⟩
        · rw [e]; exact List.Pairwise.nil
        · rw [e]; exact List.pairwise_singleton _ _
      · rcases hh with e | ⟨v, e, k1, k2⟩
        · rw [e] at ha; exact nomatch ha
        · rw [e] at ha
          rw [List.mem_singleton.mp ha]
          exact m2 b hb
    · have := m1 a ha
      rcases List.mem_append.mp hb with hb | hb
      · rcases hh with e | ⟨v, e, k1, k2⟩
        · rw [e] at hb; exact nomatch hb
        · rw [e] at hb
          rw [List.mem_singleton.mp hb]
          exact this
      · have := m2 b hb
        omega
theorem TR.inn {P : PL} {R : List (Item d)} (T : TR w P m d R) : IN m w d R :=
  ⟨T.rep, T.ok, T.nums, fun y hy => by
    obtain ⟨x, hx, hn⟩ := List.mem_flatMap.mp hy
    obtain ⟨b, e⟩ := (T.rep x hx).some y hn
    exact mem_keysA.mpr (by rw [e]; rfl), by rw [T.leaves]; exact T.okp.2, by rw [T.leaves]; exact T.smp⟩
theorem TR.val {P : PL} {R : List (Item d)} (T : TR w P m d R) {n : Int} (h : n ∈ keysA m) : ∃ b : TB, getA m n = some b.D := by
  rcases T.all n h with e | e
  · rw [e]; exact ⟨_, T.root⟩
  · obtain ⟨x, hx, hn⟩ := List.mem_flatMap.mp e
    exact (T.rep x hx).some n hn
/-- a key held otherwise: the whole -/
theorem TR.hold (hw : 3 ≤ w) {P : PL} {R : List (Item d)} (T : TR w P m d R) (sh : smP held) (hl : held.length ≤ 1) :
    ∃ (d' : Nat) (R' : List (Item d')) (c : Ch), rootP m w (decide (d = 0)) (holdP m w key held d (contR d R)).1 (holdP m w key held d (contR d R)).2 = c ∧
      FR m w (heldP P key held) d' R' c (numsR d R) ∧ (held ≠ [] → ∀ n, getA c.after n ≠ some .none) ∧ (held = [] → c.newest = 0) := by
  have h1w : 2 ≤ halfI w := by unfold halfI; omega
  have h3w : halfI w * 2 ≤ w + 1 := by unfold halfI; omega
  obtain ⟨S, c, e, H⟩ := run_hold (key := key) hw T.blk.1 sh hl d R T.inn T.two
  have h0 : (0 : Int) ∉ numsR d R := fun z => by have := T.pos 0 z; omega
  have smL : smP (heldP (leavesR d R) key held) := by rw [T.leaves]; exact heldP_sm T.smp sh
  have lS : (contR d S).length = S.length := contR_len
  have gone0 : ∀ {a : BT} {b : TB}, (∀ n, getA a n ≠ some .none) → ∀ n, getA (putA a 0 b.D) n ≠ some .none := fun {a b} h n => by
    rw [getA_put]
    split
    · exact fun z => nomatch z
    · exact h n
  rw [e]
  unfold rootP
  dsimp only
  rw [lS]
  have SPc := H.sp
  rw [T.leaves] at SPc smL
  by_cases big : w < (S.length : Int)
  · rw [if_pos big]
    have hlen := H.len.2
    have hsz := T.size
    obtain ⟨c', mid, f1, f2, f3, f4, f5⟩ := SPc.fill hw T.blk.1 (N := []) (by omega) (by omega) List.nodup_nil (fun n hn => nomatch hn) (fun n hn => T.inn.mem n hn) smL
    rw [f1]
    have hput : held ≠ [] := fun q => by have := (H.drop q).1; omega
    have hm2 : mid.length = 2 := by rw [f3, if_neg (by omega)]
    refine ⟨d + 1, mid, _, rfl, ?_, fun q => gone0 fun n z => (H.put q).2 n (f5 (by simp) n z), fun q => absurd q hput⟩
    exact (f2.bel (Bel' := numsR d R) fun n => by rw [List.nil_append]).final h0 (by omega) (fun _ => by omega) smL
  · rw [if_neg big]
    by_cases one : decide (d = 0) = false ∧ S.length = 1
    · rw [if_pos one]
      cases d with
      | zero => exact absurd one.1 (by decide)
      | succ d =>
      have hR2 := T.two (by omega)
      have hdrop : held = [] := by
        by_cases q : held = []
        · exact q
        · have := (H.put q).1; omega
      obtain ⟨x, ex⟩ := List.length_eq_one_iff.mp one.2
      obtain ⟨n, Rc, e2⟩ : ∃ n Rc, x = nodeI n Rc := ⟨x.1, x.2, rfl⟩
      subst e2
      subst ex
      have hnew := (H.drop hdrop).2
      have hnl : newL m c.newest = [] := by rw [hnew]; rfl
      have enum : numsR (d + 1) [nodeI n Rc] = n :: numsR d Rc := by
        show n :: (numsR d Rc ++ []) = _
        rw [List.append_nil]
      have hnd := SPc.nd
      rw [enum, List.nodup_cons] at hnd
      obtain ⟨a1, a2⟩ := SPc.rep _ (List.mem_singleton.mpr rfl)
      obtain ⟨b1, b2, b3⟩ := SPc.ok _ (List.mem_singleton.mpr rfl)
      have b1 : halfI w ≤ (Rc.length : Int) := b1
      have b2 : (Rc.length : Int) ≤ w := b2
      have nB : n ∈ numsR (d + 1) R := by
        have := ((SPc.inn n).mp (by rw [enum]; exact List.mem_cons_self)).1
        rw [hnl] at this
        rcases this with h | h
        · exact h
        · exact nomatch h
      have gt : ∀ y, y ≠ n → getA (putA c.after n .none) y = getA c.after y := fun y h => by rw [getA_put, if_neg h]
      have G2 : SP m w d (numsR (d + 1) R) (heldP P key held) Rc ⟨putA c.after n .none, c.newest⟩ := by
        refine ⟨?_, fun x hx => (a2 x hx).mono fun y hy => ?_, b3, hnd.2, fun y => ?_, fun y hy => ?_, fun y hy => ?_, all_put (P := fun p => okD p.2) SPc.vals ⟨rfl, by simp [PyData.depth]⟩, SPc.low, nodup_put SPc.ndk⟩
        · rw [← SPc.leaves]
          show _ = leavesR d Rc ++ []
          rw [List.append_nil]
        · have hyn : y ≠ n := fun z => hnd.1 (z ▸ List.mem_flatMap.mpr ⟨x, hx, hy⟩)
          unfold ov
          dsimp only
          rw [gt y hyn]
        · have := SPc.inn y
          rw [enum, List.mem_cons] at this
          by_cases q : y = n
          · subst q
            dsimp only
            rw [getA_put, if_pos rfl]
            exact ⟨fun z => absurd z hnd.1, fun z => absurd rfl z.2⟩
          · dsimp only
            rw [gt y q, ← this]
            exact ⟨.inr, fun z => z.resolve_left q⟩
        · rcases keysA_put_mem.mp hy with h | h
          · exact SPc.keys y h
          · exact .inl (h ▸ nB)
        · by_cases q : y = n
          · exact q ▸ nB
          · dsimp only at hy
            rw [gt y q] at hy
            exact SPc.gone y hy
      have ename : numD ((contR (d + 1) [nodeI n Rc]).getD 0 (0, .none)).2 = n := rfl
      have enow : toTB (nowD m c n) = blkR d Rc := by
        have a1 : ov m c n = some (blkR d Rc).D := a1
        have : nowD m c n = (blkR d Rc).D := by
          unfold ov at a1
          unfold nowD
          cases g : getA c.after n with
          | none =>
            rw [g] at a1
            dsimp only at a1 ⊢
            rw [a1]
            rfl
          | some x =>
            rw [g] at a1
            dsimp only at a1 ⊢
            cases x <;> first | exact Option.some.inj a1 | exact nomatch a1
        rw [this, toTB_D]
      rw [ename, enow]
      refine ⟨d, Rc, _, rfl, G2.final h0 b2 (fun _ => by omega) smL, fun q => absurd hdrop q, fun _ => hnew⟩
    · rw [if_neg one]
      refine ⟨d, S, _, rfl, SPc.final h0 (by omega) (fun hd => ?_) smL, fun q => gone0 (H.put q).2, fun q => (H.drop q).2⟩
      have h2 := T.two hd
      have h4 := H.len.1
      have h5 : S.length ≠ 1 := fun z => one ⟨decide_eq_false hd, z⟩
      omega
/-- a table of just these changes is a sound tree -/
theorem TR.next (hw : 3 ≤ w) {P : PL} {R : List (Item d)} (T : TR w P m d R) {d' : Nat} {R' : List (Item d')} {c : Ch} (F : FR m w (heldP P key held) d' R' c (numsR d R)) {m' : BT}
    (hh : held = [] ∨ ∃ v, held = [(key, v)] ∧ isKeyD (.int key) = true ∧ heldD (wordT true) v = true) (sh : smP held) (hb : Blk m') (hg : ∀ n, getA m' n = ov m c n) : TR w (heldP P key held) m' d' R' := by
  have h0 : (0 : Int) ∉ numsR d R := fun z => by have := T.pos 0 z; omega
  have eg : getA m' = ov m c := funext hg
  refine ⟨hb, ?_, F.size, F.two, by rw [eg]; exact F.rep, F.ok, F.leaves, okP_heldP T.okp hh, heldP_sm T.smp sh, F.nd, fun n hn => ?_, fun k hk => ?_⟩
  · rw [hg]
    unfold ov
    rw [F.root]
    rfl
  · rcases ((F.inn n).mp hn).1 with h | h
    · exact T.pos n h
    · exact (mem_newL.mp h).1
  · have hs := mem_keysA.mp hk
    rw [hg] at hs
    by_cases q : k = 0
    · exact .inl q
    · refine .inr ((F.inn k).mpr ?_)
      unfold ov at hs
      cases g : getA c.after k with
      | none =>
        rw [g] at hs
        rcases T.all k (mem_keysA.mpr hs) with h | h
        · exact absurd h q
        · exact ⟨.inl h, fun z => nomatch z⟩
      | some x =>
        rw [g] at hs
        have hx : x ≠ .none := fun z => by rw [z] at hs; exact nomatch hs
        refine ⟨(F.keys k (mem_keysA.mpr (by rw [g]; rfl))).resolve_left q, fun z => hx (Option.some.inj z)⟩
end
end My

set_option Elab.async false
set_option linter.all false
set_option maxRecDepth 100000
set_option maxHeartbeats 1000000
/-! from the leaf up, as the program goes: upP, that stops where a branch stays; up_whole: what it tells is what TR.hold's changes tell -/
namespace My
open PySem L2
section
open scoped Classical
variable {m : BT} {w : Int} {d : Nat} {key : Int} {held : PL}
/-- the number below a row in which a key is looked for -/
def childN (key : Int) (ps : PL) : Int := numD (ps.getD (placeN (keysT ps) key) (0, .none)).2
def psAt (m : BT) (n : Int) : PL := (toTB (blockAt m n)).ps
/-- the numbers below, down to the leaf -/
def wayP (m : BT) (key : Int) : Nat → PL → List Int
  | 0, _ => []
  | d + 1, ps => childN key ps :: wayP m key d (psAt m (childN key ps))
/-- the leaf's pairs -/
def leafP (m : BT) (key : Int) : Nat → PL → PL
  | 0, ps => ps
  | d + 1, ps => leafP m key d (psAt m (childN key ps))
/-- the numbers above the leaf, from below -/
def revN (m : BT) (key : Int) : Nat → Int → PL → List Int
  | 0, _, _ => []
  | d + 1, n, ps => revN m key d (childN key ps) (psAt m (childN key ps)) ++ [n]
theorem revN_way : ∀ {d : Nat} {n : Int} {ps : PL}, (n :: wayP m key d ps).dropLast.reverse = revN m key d n ps
  | 0, _, _ => rfl
  | d + 1, n, ps => by
    show (n :: (childN key ps :: wayP m key d (psAt m (childN key ps))).dropLast).reverse = _
    rw [List.reverse_cons, revN_way]
    rfl
noncomputable def upP (m : BT) (w key : Int) : List Int → Bool → PL → Ch → Ch
  | [], lf, row, c => rootP m w lf row c
  | n :: ns, lf, row, c =>
    let r := fillBelowP m w lf (psAt m n) key row c
    if r.1 = psAt m n then r.2 else upP m w key ns false r.1 r.2
/-- what is told of changes: those that are some -/
noncomputable def toldA (m a : BT) : BT := a.filter fun p => decide (p.2 ≠ optD (getA m p.1))
theorem toldA_put {a : BT} {n : Int} {v : PyData} (h : n ∉ keysA a) (hv : v = optD (getA m n)) : toldA m (putA a n v) = toldA m a := by
  have : (getA a n).isSome = false := by rw [get_none h]; rfl
  unfold putA
  rw [any_getA, this, if_neg (by simp)]
  unfold toldA
  rw [List.filter_append]
  have e : [((n, v) : Int × PyData)].filter (fun p => decide (p.2 ≠ optD (getA m p.1))) = [] := by
    rw [List.filter_cons, if_neg (by simp [hv]), List.filter_nil]
  rw [e, List.append_nil]
theorem up_path (hw : 3 ≤ w) (ndm : (keysA m).Nodup) (sh : smP held) (hl : held.length ≤ 1) : ∀ (d : Nat) (R : List (Item d)) (n0 : Int), getA m n0 = some (blkR d R).D → IN m w d R → (d ≠ 0 → 2 ≤ R.length) →
    (∀ ns, upP m w key (revN m key d n0 (contR d R) ++ ns) true (heldP (leafP m key d (contR d R)) key held) ⟨[], 0⟩ = upP m w key ns (decide (d = 0)) (holdP m w key held d (contR d R)).1 (holdP m w key held d (contR d R)).2) ∨
    ∃ ce, d ≠ 0 ∧ (∀ ns, upP m w key (revN m key d n0 (contR d R) ++ ns) true (heldP (leafP m key d (contR d R)) key held) ⟨[], 0⟩ = ce) ∧ (holdP m w key held d (contR d R)).1 = contR d R ∧
      toldA m (holdP m w key held d (contR d R)).2.after = toldA m ce.after ∧ (holdP m w key held d (contR d R)).2.newest = ce.newest
  | 0, R, n0, _, _, _ => .inl fun ns => rfl
  | d + 1, R, n0, g0, I, h2 => by
    have h1w : 2 ≤ halfI w := by unfold halfI; omega
    have hR2 := h2 (by omega)
    have Rne : R ≠ [] := fun z => by rw [z, List.length_nil] at hR2; omega
    obtain ⟨A, x, B, eR, hat, hA, hB⟩ := place_split (key := key) (by omega) Rne I.ok I.rise
    obtain ⟨n, Rc, ex⟩ : ∃ n Rc, x = nodeI n Rc := ⟨x.1, x.2, rfl⟩
    subst ex
    subst eR
    have I2 : IN m w (d + 1) (A ++ ([nodeI n Rc] ++ B)) := I
    obtain ⟨IA, IxB⟩ := I2.app
    obtain ⟨Ix, IB⟩ := IxB.app
    obtain ⟨Ic, gn, hc1, hc2, nk, nc⟩ := Ix.node
    have eps : contR (d + 1) (A ++ nodeI n Rc :: B) = contR (d + 1) A ++ (firstP (leavesR d Rc), .int n) :: contR (d + 1) B := by rw [contR_app, contR_cons]
    have lA : (contR (d + 1) A).length = A.length := contR_len
    have e9 : (contR (d + 1) (A ++ nodeI n Rc :: B)).getD (placeN (keysT (contR (d + 1) (A ++ nodeI n Rc :: B))) key) (0, .none) = (firstP (leavesR d Rc), .int n) := by
      rw [← hat, eps, ← lA, List.getD_eq_getElem?_getD, List.getElem?_append_right (Nat.le_refl _), Nat.sub_self]
      rfl
    have eN : childN key (contR (d + 1) (A ++ nodeI n Rc :: B)) = n := by
      unfold childN
      rw [e9]
      rfl
    have eP : psAt m n = contR d Rc := by
      unfold psAt
      rw [blockAt_of gn, toTB_D]
      rfl
    have eP0 : psAt m n0 = contR (d + 1) (A ++ nodeI n Rc :: B) := by
      unfold psAt
      rw [blockAt_of g0, toTB_D]
      rfl
    obtain ⟨T, eT⟩ : ∃ T, T = contR (d + 1) (A ++ nodeI n Rc :: B) := ⟨_, rfl⟩
    rw [← eT] at e9 eN eP0 eps ⊢
    have ehold : holdP m w key held (d + 1) T = fillBelowP m w (decide (d = 0)) T key (holdP m w key held d (contR d Rc)).1 (holdP m w key held d (contR d Rc)).2 := by
      show fillBelowP m w (decide (d = 0)) T key (holdP m w key held d (psAt m (childN key T))).1 (holdP m w key held d (psAt m (childN key T))).2 = _
      rw [eN, eP]
    have eleaf : leafP m key (d + 1) T = leafP m key d (contR d Rc) := by
      show leafP m key d (psAt m (childN key T)) = _
      rw [eN, eP]
    have erev : revN m key (d + 1) n0 T = revN m key d n (contR d Rc) ++ [n0] := by
      show revN m key d (childN key T) (psAt m (childN key T)) ++ [n0] = _
      rw [eN, eP]
    obtain ⟨R', c, e1, H⟩ := run_hold (key := key) hw ndm sh hl d Rc Ic fun _ => by omega
    rcases up_path hw ndm sh hl d Rc n gn Ic fun _ => by omega with h | ⟨ce, hd, h, h4, h5, h6⟩
    · by_cases q : (holdP m w key held (d + 1) T).1 = T
      · refine .inr ⟨(holdP m w key held (d + 1) T).2, by omega, fun ns => ?_, q, rfl, rfl⟩
        rw [eleaf, erev, List.append_assoc, h]
        show (if (fillBelowP m w (decide (d = 0)) (psAt m n0) key (holdP m w key held d (contR d Rc)).1 (holdP m w key held d (contR d Rc)).2).1 = psAt m n0 then _ else _) = _
        rw [eP0, ← ehold, if_pos q]
      · refine .inl fun ns => ?_
        rw [eleaf, erev, List.append_assoc, h]
        show (if (fillBelowP m w (decide (d = 0)) (psAt m n0) key (holdP m w key held d (contR d Rc)).1 (holdP m w key held d (contR d Rc)).2).1 = psAt m n0 then _ else _) = _
        rw [eP0, ← ehold, if_neg q]
        rfl
    · have lc : (contR d Rc).length = Rc.length := contR_len
      have cne : contR d Rc ≠ [] := fun z => by rw [z, List.length_nil] at lc; omega
      have long : ¬ ((contR d Rc).length : Int) < halfI w := by
        have : halfI w ≤ ((contR d Rc).length : Int) := by rw [lc]; exact hc1
        exact Int.not_lt.mpr this
      have fb := fillBelow_eq (m := m) (w := w) (key := key) (lf := decide (d = 0)) (X := contR (d + 1) A) (U := []) (V := []) (Z := contR (d + 1) B) (row := contR d Rc) (p := (firstP (leavesR d Rc), .int n)) (c := c)
        (by rw [← eT, eps] at hat; rw [List.append_nil, lA, hat]; simp) (.inl ⟨long, rfl, rfl⟩)
      have ea : [] ++ contR d Rc ++ [] = contR d Rc := by rw [List.append_nil, List.nil_append]
      rw [rowsAt_nil, ea] at fb
      have eT2 : T = contR (d + 1) A ++ [] ++ [(firstP (leavesR d Rc), .int n)] ++ contR (d + 1) B := by
        rw [eps]
        simp
      have f1 : fillP m w (decide (d = 0)) (contR d Rc) [n] c = ([(firstP (contR d Rc), .int n)], ⟨putA c.after n (blkR d Rc).D, c.newest⟩) := by
        have e : partsL w (contR d Rc) = [contR d Rc] := by unfold partsL; rw [if_pos (by omega)]
        have e2 : (!(contR d Rc).isEmpty) = true := by cases h : contR d Rc with | nil => exact absurd h cne | cons a r => rfl
        unfold fillP
        rw [e]
        simp only [List.filter_cons, e2, if_true, List.filter_nil]
        rfl
      have efirst : firstP (contR d Rc) = firstP (leavesR d Rc) := contR_first (by omega) (fun z => by rw [z, List.length_nil] at hc1; omega) Ic.ok
      have fb' : fillBelowP m w (decide (d = 0)) (contR (d + 1) A ++ [] ++ [(firstP (leavesR d Rc), .int n)] ++ contR (d + 1) B) key (contR d Rc) c = (contR (d + 1) A ++ (fillP m w (decide (d = 0)) (contR d Rc) [n] c).1 ++ contR (d + 1) B, (fillP m w (decide (d = 0)) (contR d Rc) [n] c).2) := fb
      rw [← eT2, f1, efirst] at fb'
      rw [e1] at h4 h5 h6
      have h4 : contR d R' = contR d Rc := h4
      have eh : holdP m w key held (d + 1) T = (T, ⟨putA c.after n (blkR d Rc).D, c.newest⟩) := by
        rw [ehold, e1]
        show fillBelowP m w (decide (d = 0)) T key (contR d R') c = _
        rw [h4, fb']
        refine Prod.ext ?_ rfl
        show contR (d + 1) A ++ [(firstP (leavesR d Rc), .int n)] ++ contR (d + 1) B = T
        rw [eps]
        simp
      have nout : n ∉ keysA c.after := fun z => by
        rcases H.sp.keys n z with z | z
        · exact nc z
        · exact (mem_newL.mp z).2.2 nk
      rw [eh]
      refine .inr ⟨ce, by omega, fun ns => ?_, rfl, ?_, h6⟩
      · rw [eleaf, erev, List.append_assoc, h]
      · show toldA m (putA c.after n (blkR d Rc).D) = _
        rw [toldA_put nout (by rw [gn]; rfl)]
        exact h5
/-- the program's way: what it tells -/
theorem up_whole (hw : 3 ≤ w) {P : PL} {R : List (Item d)} (T : TR w P m d R) (sh : smP held) (hl : held.length ≤ 1) :
    toldA m (upP m w key (revN m key d 0 (contR d R)) true (heldP (leafP m key d (contR d R)) key held) ⟨[], 0⟩).after =
      toldA m (rootP m w (decide (d = 0)) (holdP m w key held d (contR d R)).1 (holdP m w key held d (contR d R)).2).after := by
  rcases up_path (key := key) hw T.blk.1 sh hl d R 0 T.root T.inn T.two with h | ⟨ce, hd, h, h4, h5, h6⟩
  · have := h []
    rw [List.append_nil] at this
    rw [this]
    rfl
  · have := h []
    rw [List.append_nil] at this
    rw [this]
    obtain ⟨S, c, e, H⟩ := run_hold (key := key) hw T.blk.1 sh hl d R T.inn T.two
    rw [e] at h4 h5 h6 ⊢
    dsimp only at h4 h5 ⊢
    have l1 : (contR d S).length = R.length := by rw [h4, contR_len]
    have h2 := T.two hd
    have hz := T.size
    unfold rootP
    rw [if_neg (by omega), if_neg (by rintro ⟨_, z⟩; omega)]
    dsimp only
    have n0 : (0 : Int) ∉ keysA c.after := fun z => by
      rcases H.sp.keys 0 z with z | z
      · have := T.pos 0 z; omega
      · have := (mem_newL.mp z).1; omega
    rw [toldA_put n0 (by rw [T.root, h4]; rfl), h5]
end
end My

set_option Elab.async false
set_option linter.all false
set_option maxRecDepth 100000
set_option maxHeartbeats 1000000
/-! what is told of changes: the table behind it, the numbers, what is found of a key -/
namespace My
open PySem L2
section
open scoped Classical
variable {m : BT} {w : Int} {d : Nat} {key : Int} {held : PL}
theorem getA_nodup {a : BT} (nd : (keysA a).Nodup) {p : Int × PyData} (h : p ∈ a) : getA a p.1 = some p.2 := by
  induction a with
  | nil => exact nomatch h
  | cons q a ih =>
    unfold keysA at nd
    rw [List.map_cons, List.nodup_cons] at nd
    rw [getA_cons]
    rcases List.mem_cons.mp h with e | e
    · rw [e, if_pos rfl]
    · rw [if_neg fun z : q.1 = p.1 => nd.1 (by rw [z]; exact List.mem_map.mpr ⟨p, e, rfl⟩)]
      exact ih nd.2 e
theorem told_nodup {a : BT} (nd : (keysA a).Nodup) : (keysA (toldA m a)).Nodup := nd.sublist (List.filter_sublist.map _)
theorem told_get {a : BT} (nd : (keysA a).Nodup) {n : Int} : getA (toldA m a) n = match getA a n with
    | some v => if v = optD (getA m n) then none else some v
    | none => none := by
  cases g : getA a n with
  | none =>
    refine get_none fun z => ?_
    obtain ⟨p, hp, e⟩ := List.mem_map.mp z
    have : n ∈ keysA a := List.mem_map.mpr ⟨p, (List.mem_filter.mp hp).1, e⟩
    rw [mem_keysA, g] at this
    exact nomatch this
  | some v =>
    dsimp only
    by_cases q : v = optD (getA m n)
    · rw [if_pos q]
      refine get_none fun z => ?_
      obtain ⟨p, hp, e⟩ := List.mem_map.mp z
      obtain ⟨h1, h2⟩ := List.mem_filter.mp hp
      have h3 := getA_nodup nd h1
      rw [e, g] at h3
      have h4 := of_decide_eq_true h2
      rw [e, ← Option.some.inj h3] at h4
      exact h4 q
    · rw [if_neg q]
      have hp : (n, v) ∈ toldA m a := List.mem_filter.mpr ⟨getA_mem g, decide_eq_true q⟩
      exact getA_nodup (told_nodup nd) hp
/-- as the law puts them down -/
def layB (a : BT) (n : Int) (v : PyData) : BT := match v with
  | .none => dropA a n
  | v => putA (dropA a n) n v
def behindA (m t : BT) : BT := t.foldl (fun a p => layB a p.1 p.2) m
theorem getA_layB {a : BT} {n j : Int} {v : PyData} : getA (layB a n v) j = if j = n then (match v with | .none => none | v => some v) else getA a j := by
  unfold layB
  by_cases e : j = n
  · rw [if_pos e]
    cases v <;> simp [getA_put, getA_drop, e]
  · rw [if_neg e]
    cases v <;> simp [getA_put, getA_drop, e]
theorem Blk.layB {a : BT} {n : Int} {v : PyData} (h : Blk a) (hv : okD v) : Blk (layB a n v) := by
  unfold My.layB
  cases v <;> first | exact h.drop | exact h.drop.put hv
theorem behind_get : ∀ {t m : BT} {n : Int}, (keysA t).Nodup → getA (behindA m t) n = match getA t n with
    | some .none => none
    | some v => some v
    | none => getA m n
  | [], m, n, _ => rfl
  | p :: t, m, n, nd => by
    unfold keysA at nd
    rw [List.map_cons, List.nodup_cons] at nd
    show getA (behindA (layB m p.1 p.2) t) n = _
    rw [behind_get nd.2, getA_cons]
    by_cases e : p.1 = n
    · have : getA t n = none := get_none (e ▸ nd.1)
      rw [this, if_pos e]
      dsimp only
      rw [getA_layB, if_pos e.symm]
      cases p.2 <;> rfl
    · rw [if_neg e]
      cases getA t n with
      | none =>
        dsimp only
        rw [getA_layB, if_neg fun z => e z.symm]
      | some v => cases v <;> rfl
theorem behind_blk : ∀ {t m : BT}, Blk m → (∀ p ∈ t, okD p.2) → Blk (behindA m t)
  | [], m, h, _ => h
  | p :: t, m, h, hp => behind_blk (t := t) (m := layB m p.1 p.2) (h.layB (hp p List.mem_cons_self)) fun q hq => hp q (List.mem_cons_of_mem _ hq)
theorem ov_told {c : Ch} (nd : (keysA c.after).Nodup) (hm : ∀ n, getA m n ≠ some .none) {n : Int} : getA (behindA m (toldA m c.after)) n = ov m c n := by
  rw [behind_get (told_nodup nd), told_get nd]
  unfold ov
  cases g : getA c.after n with
  | none => rfl
  | some v =>
    dsimp only
    by_cases q : v = optD (getA m n)
    · rw [if_pos q]
      dsimp only
      cases gm : getA m n with
      | none =>
        rw [gm] at q
        rw [q]
        rfl
      | some x =>
        rw [gm] at q
        have q : v = x := q
        subst q
        have hx := hm n
        rw [gm] at hx
        cases v <;> first | rfl | exact absurd rfl hx
    · rw [if_neg q]
      all_goals (cases v <;> rfl)
/-- the table behind is a sound tree of what is due -/
theorem TR.behind (hw : 3 ≤ w) {P : PL} {R : List (Item d)} (T : TR w P m d R) {d' : Nat} {R' : List (Item d')} {c : Ch} (F : FR m w (heldP P key held) d' R' c (numsR d R))
    (hh : held = [] ∨ ∃ v, held = [(key, v)] ∧ isKeyD (.int key) = true ∧ heldD (wordT true) v = true) (sh : smP held) : TR w (heldP P key held) (behindA m (toldA m c.after)) d' R' :=
  T.next hw F hh sh (behind_blk T.blk fun p hp => F.vals p (List.mem_filter.mp hp).1) fun n => ov_told F.ndk fun n z => by
    obtain ⟨b, e⟩ := T.val (mem_keysA.mpr (by rw [z]; rfl))
    rw [e] at z
    exact nomatch z
/-! the numbers -/
/-- the new numbers told are the least that were free -/
theorem FR.news {P : PL} {R : List (Item d)} (T : TR w P m d R) {d' : Nat} {R' : List (Item d')} {c : Ch} {P' : PL} (F : FR m w P' d' R' c (numsR d R)) {n : Int} :
    (n ∈ keysA (toldA m c.after) ∧ n ∉ keysA m) ↔ n ∈ newL m c.newest := by
  have hm0 : (0 : Int) ∈ keysA m := mem_keysA.mpr (by rw [T.root]; rfl)
  constructor
  · rintro ⟨h1, h2⟩
    have h3 : n ∈ keysA c.after := (List.filter_sublist.map _).subset h1
    rcases F.keys n h3 with h | h | h
    · exact absurd (h ▸ hm0) h2
    · exact absurd (T.inn.mem n h) h2
    · exact h
  · intro h
    have h2 := (mem_newL.mp h).2.2
    refine ⟨?_, h2⟩
    have gm : getA m n = none := get_none h2
    have hn : getA c.after n ≠ some .none := fun z => h2 (T.inn.mem n (F.gone n z))
    have hin := (F.inn n).mpr ⟨.inr h, hn⟩
    obtain ⟨x, hx, hnx⟩ := List.mem_flatMap.mp hin
    obtain ⟨b, e⟩ := (F.rep x hx).some n hnx
    rw [mem_keysA, told_get F.ndk]
    unfold ov at e
    cases g : getA c.after n with
    | none =>
      rw [g, gm] at e
      exact nomatch e
    | some v =>
      dsimp only
      rw [if_neg, Option.isSome_some]
      intro z
      rw [gm] at z
      exact hn (by rw [g, z]; rfl)
/-- rising rows of the same numbers are one -/
theorem rise_ext : ∀ {a b : List Int}, a.Pairwise (· < ·) → b.Pairwise (· < ·) → (∀ x, x ∈ a ↔ x ∈ b) → a = b
  | [], [], _, _, _ => rfl
  | [], y :: b, _, _, h => absurd ((h y).mpr List.mem_cons_self) (by simp)
  | x :: a, [], _, _, h => absurd ((h x).mp List.mem_cons_self) (by simp)
  | x :: a, y :: b, ha, hb, h => by
    rw [List.pairwise_cons] at ha hb
    have exy : x = y := by
      rcases List.mem_cons.mp ((h x).mp List.mem_cons_self) with e | e
      · exact e
      · rcases List.mem_cons.mp ((h y).mpr List.mem_cons_self) with e2 | e2
        · exact e2.symm
        · have := hb.1 x e; have := ha.1 y e2; omega
    subst exy
    rw [rise_ext ha.2 hb.2 fun z => ?_]
    constructor
    · intro hz
      rcases List.mem_cons.mp ((h z).mp (List.mem_cons_of_mem _ hz)) with e | e
      · have := ha.1 z hz; omega
      · exact e
    · intro hz
      rcases List.mem_cons.mp ((h z).mpr (List.mem_cons_of_mem _ hz)) with e | e
      · have := hb.1 z hz; omega
      · exact e
theorem newL_more {k j : Int} (h : 0 ≤ k) (hj : k ≤ j) : newL m j = newL m k ++ (newL m j).filter (fun n => decide (k < n)) := by
  refine rise_ext newL_pw ?_ fun x => ?_
  · rw [List.pairwise_append]
    refine ⟨newL_pw, newL_pw.filter _, fun a ha b hb => ?_⟩
    have h1 := (mem_newL.mp ha).2.1
    have h2 := of_decide_eq_true (List.mem_filter.mp hb).2
    omega
  · rw [List.mem_append, List.mem_filter, mem_newL, mem_newL, decide_eq_true_eq]
    constructor
    · rintro ⟨h1, h2, h3⟩
      by_cases q : x ≤ k
      · exact .inl ⟨h1, q, h3⟩
      · exact .inr ⟨⟨h1, h2, h3⟩, by omega⟩
    · rintro (⟨h1, h2, h3⟩ | ⟨h, _⟩)
      · exact ⟨h1, by omega, h3⟩
      · exact h
/-- the newest is no further than all numbers there are -/
theorem newest_le (ndm : (keysA m).Nodup) {k : Int} (h : 0 ≤ k) : k ≤ (m.length : Int) + ((newL m k).length : Int) := by
  have nd : ((List.range k.toNat).map fun i : Nat => (i : Int) + 1).Nodup := by
    rw [List.nodup_iff_pairwise_ne, List.pairwise_map]
    exact (List.nodup_iff_pairwise_ne.mp List.nodup_range).imp fun h e => h (by omega)
  have hs : ∀ x ∈ (List.range k.toNat).map (fun i : Nat => (i : Int) + 1), x ∈ keysA m ++ newL m k := fun x hx => by
    obtain ⟨i, hi, rfl⟩ := List.mem_map.mp hx
    rw [List.mem_range] at hi
    by_cases q : (i : Int) + 1 ∈ keysA m
    · exact List.mem_append_left _ q
    · exact List.mem_append_right _ (mem_newL.mpr ⟨by omega, by omega, q⟩)
  have := nodup_sub_len nd hs
  rw [List.length_map, List.length_range, List.length_append] at this
  unfold keysA at this
  rw [List.length_map] at this
  omega
/-- the law's free numbers begin with the new ones -/
theorem newL_take (ndm : (keysA m).Nodup) {k j : Int} (h : 0 ≤ k) (hj : (m.length : Int) + ((newL m k).length : Int) ≤ j) : (newL m j).take (newL m k).length = newL m k := by
  rw [newL_more (m := m) h (j := j) (by have := newest_le ndm h; omega), List.take_left]
/-- gone and new never both -/
theorem FR.apart {P : PL} {R : List (Item d)} {d' : Nat} {R' : List (Item d')} {c : Ch} {P' : PL} (F : FR m w P' d' R' c (numsR d R)) (h1 : held ≠ [] → ∀ n, getA c.after n ≠ some .none) (h2 : held = [] → c.newest = 0) :
    (∀ n, getA (toldA m c.after) n ≠ some .none) ∨ newL m c.newest = [] := by
  by_cases q : held = []
  · rw [h2 q]; exact .inr rfl
  · refine .inl fun n z => ?_
    rw [told_get F.ndk] at z
    cases g : getA c.after n with
    | none => rw [g] at z; exact nomatch z
    | some v =>
      rw [g] at z
      dsimp only at z
      split at z
      · exact nomatch z
      · exact h1 q n (by rw [g, Option.some.inj z])
/-- what is told is other than what was -/
theorem told_other {a : BT} {p : Int × PyData} (h : p ∈ toldA m a) : p.2 ≠ optD (getA m p.1) := of_decide_eq_true (List.mem_filter.mp h).2
/-! what is found of a key -/
theorem leaf_mid (hw : 3 ≤ w) : ∀ {d : Nat} {R : List (Item d)}, IN m w d R → (d ≠ 0 → 2 ≤ R.length) → ∃ A B, leavesR d R = A ++ leafP m key d (contR d R) ++ B ∧ (∀ p ∈ A, p.1 < key) ∧ ∀ p ∈ B, key < p.1
  | 0, R, I, _ => ⟨[], [], by
      have a : contR 0 R = R := contR_zero
      have b : leavesR 0 R = R := leavesR_zero
      rw [b, List.append_nil, List.nil_append]
      exact a.symm, (fun p h => nomatch h), (fun p h => nomatch h)⟩
  | d + 1, R, I, h2 => by
    have h1w : 2 ≤ halfI w := by unfold halfI; omega
    have hR2 := h2 (by omega)
    have Rne : R ≠ [] := fun z => by rw [z, List.length_nil] at hR2; omega
    obtain ⟨A, x, B, eR, hat, hA, hB⟩ := place_split (key := key) (by omega) Rne I.ok I.rise
    obtain ⟨n, Rc, ex⟩ : ∃ n Rc, x = nodeI n Rc := ⟨x.1, x.2, rfl⟩
    subst ex
    subst eR
    have I2 : IN m w (d + 1) (A ++ ([nodeI n Rc] ++ B)) := I
    obtain ⟨IA, IxB⟩ := I2.app
    obtain ⟨Ix, IB⟩ := IxB.app
    obtain ⟨Ic, gn, hc1, hc2, nk, nc⟩ := Ix.node
    obtain ⟨A', B', e, hA', hB'⟩ := leaf_mid hw Ic fun _ => by omega
    have eps : contR (d + 1) (A ++ nodeI n Rc :: B) = contR (d + 1) A ++ (firstP (leavesR d Rc), .int n) :: contR (d + 1) B := by rw [contR_app, contR_cons]
    have lA : (contR (d + 1) A).length = A.length := contR_len
    have eN : childN key (contR (d + 1) (A ++ nodeI n Rc :: B)) = n := by
      unfold childN
      rw [← hat, eps, ← lA, List.getD_eq_getElem?_getD, List.getElem?_append_right (Nat.le_refl _), Nat.sub_self]
      rfl
    have eP : psAt m n = contR d Rc := by
      unfold psAt
      rw [blockAt_of gn, toTB_D]
      rfl
    have eleaf : leafP m key (d + 1) (contR (d + 1) (A ++ nodeI n Rc :: B)) = leafP m key d (contR d Rc) := by
      show leafP m key d (psAt m (childN key _)) = _
      rw [eN, eP]
    refine ⟨leavesR (d + 1) A ++ A', B' ++ leavesR (d + 1) B, ?_, fun p hp => ?_, fun p hp => ?_⟩
    · rw [eleaf, leavesR_app, leavesR_cons, e]
      simp only [List.append_assoc]
    · rcases List.mem_append.mp hp with h | h
      · exact hA p h
      · exact hA' p h
    · rcases List.mem_append.mp hp with h | h
      · exact hB' p h
      · exact hB p h
theorem getA_mid {A B C : PL} (hA : ∀ p ∈ A, p.1 < key) (hC : ∀ p ∈ C, key < p.1) : getA (A ++ B ++ C) key = getA B key := by
  have app : ∀ {A B : PL}, (∀ p ∈ A, p.1 ≠ key) → getA (A ++ B) key = getA B key := by
    intro A B h
    induction A with
    | nil => rfl
    | cons p A ih =>
      rw [List.cons_append, getA_cons, if_neg (h p List.mem_cons_self)]
      exact ih fun q hq => h q (List.mem_cons_of_mem _ hq)
  have app2 : ∀ {B C : PL}, (∀ p ∈ C, p.1 ≠ key) → getA (B ++ C) key = getA B key := by
    intro B C h
    induction B with
    | nil =>
      rw [List.nil_append]
      refine get_none fun z => ?_
      obtain ⟨p, hp, e⟩ := List.mem_map.mp z
      exact h p hp e
    | cons p B ih =>
      rw [List.cons_append, getA_cons, getA_cons, ih]
  rw [app2 fun p hp => by have := hC p hp; omega, app fun p hp => by have := hA p hp; omega]
/-- the value of a key, by its leaf -/
theorem TR.value (hw : 3 ≤ w) {P : PL} {R : List (Item d)} (T : TR w P m d R) : getA (leafP m key d (contR d R)) key = getA P key := by
  obtain ⟨A, B, e, hA, hB⟩ := leaf_mid hw (key := key) T.inn T.two
  rw [← T.leaves, e, getA_mid hA hB]
end
end My

set_option Elab.async false
set_option linter.all false
set_option maxRecDepth 100000
set_option maxHeartbeats 1000000
/-! promises for the changing of trees -/
namespace My
open PySem L2
section
variable {m : BT} {w : Int} {d : Nat} {key : Int}
def placeQ (ks : List Int) (key : Int) : Nat → Nat
  | 0 => 0
  | n + 1 => if ks.getD n 0 ≤ key then n else placeQ ks key n
theorem placeQ_count {ks : List Int} (hs : ks.Pairwise (· < ·)) (key : Int) : ∀ n, n ≤ ks.length → placeQ ks key n = ((ks.take n).filter fun k => decide (k ≤ key)).length - 1
  | 0, _ => rfl
  | n + 1, h => by
    have hn : n < ks.length := h
    have ih := placeQ_count hs key n (by omega)
    have eg : ks.getD n 0 = ks[n] := by rw [List.getD_eq_getElem?_getD, List.getElem?_eq_getElem hn]; rfl
    have et : ks.take (n + 1) = ks.take n ++ [ks[n]] := by rw [List.take_add_one, List.getElem?_eq_getElem hn]; rfl
    show (if ks.getD n 0 ≤ key then n else placeQ ks key n) = _
    rw [eg, et, List.filter_append, List.length_append]
    by_cases c : ks[n] ≤ key
    · have all : (ks.take n).filter (fun k => decide (k ≤ key)) = ks.take n := by
        refine List.filter_eq_self.mpr fun k hk => decide_eq_true ?_
        obtain ⟨i, hi, rfl⟩ := List.getElem_of_mem hk
        rw [List.length_take] at hi
        rw [List.getElem_take]
        have := List.pairwise_iff_getElem.mp hs i n (by omega) hn (by omega)
        omega
      rw [if_pos c, all, List.filter_cons, if_pos (decide_eq_true c), List.length_take]
      simp only [List.filter_nil, List.length_singleton]
      omega
    · rw [if_neg c, ih, List.filter_cons, if_neg (by simpa using c)]
      rfl
theorem placeN_eq {ks : List Int} (hs : ks.Pairwise (· < ·)) : placeN ks key = placeQ ks key ks.length := by
  rw [placeQ_count hs key _ (Nat.le_refl _), List.take_length]
  rfl
/-- each thing at a depth holds more than that many pairs -/
theorem okI_deep (hw : 3 ≤ w) : ∀ {d : Nat} {x : Item d}, okI w d x → d + 1 ≤ (leavesI d x).length
  | 0, _, _ => Nat.le_refl _
  | d + 1, c, h => by
    have h2 : 2 ≤ c.2.length := by
      have := h.1
      unfold halfI at this
      omega
    obtain ⟨n, R⟩ := c
    match R, h2, h.2.2 with
    | x :: y :: R, _, hx =>
      have a := okI_deep hw (hx x (by simp))
      have b := okI_deep hw (hx y (by simp))
      show d + 1 + 1 ≤ (leavesI d x ++ (leavesI d y ++ leavesR d R)).length
      rw [List.length_append, List.length_append]
      omega
theorem TR.deep (hw : 3 ≤ w) {P : PL} {R : List (Item d)} (T : TR w P m d R) : d ≤ P.length := by
  by_cases q : d = 0
  · omega
  · have h2 := T.two q
    match R, h2, T.ok, T.leaves with
    | x :: R, _, hx, e =>
      have a := okI_deep hw (hx x (by simp))
      rw [← e]
      show d ≤ (leavesI d x ++ leavesR d R).length
      rw [List.length_append]
      omega
/-- a part of a tree below a block: what the way goes through -/
structure AT (m : BT) (w : Int) (d : Nat) (n : Int) (R : List (Item d)) : Prop where
  root : getA m n = some (blkR d R).D
  inn : IN m w d R
  two : d ≠ 0 → 2 ≤ R.length
  size : (R.length : Int) ≤ w
theorem TR.at {P : PL} {R : List (Item d)} (T : TR w P m d R) : AT m w d 0 R := ⟨T.root, T.inn, T.two, T.size⟩
/-- a step down -/
theorem AT.child (hw : 3 ≤ w) {n : Int} {R : List (Item (d + 1))} (X : AT m w (d + 1) n R) : ∃ Rc, AT m w d (childN key (contR (d + 1) R)) Rc ∧ psAt m (childN key (contR (d + 1) R)) = contR d Rc ∧
    ∃ f, (contR (d + 1) R)[placeN (keysT (contR (d + 1) R)) key]? = some (f, .int (childN key (contR (d + 1) R))) := by
  have h1w : 2 ≤ halfI w := by unfold halfI; omega
  have hR2 := X.two (by omega)
  have Rne : R ≠ [] := fun z => by rw [z, List.length_nil] at hR2; omega
  obtain ⟨A, x, B, eR, hat, hA, hB⟩ := place_split (key := key) (by omega) Rne X.inn.ok X.inn.rise
  obtain ⟨k, Rc, ex⟩ : ∃ k Rc, x = nodeI k Rc := ⟨x.1, x.2, rfl⟩
  subst ex
  subst eR
  have I2 : IN m w (d + 1) (A ++ ([nodeI k Rc] ++ B)) := X.inn
  obtain ⟨IA, IxB⟩ := I2.app
  obtain ⟨Ix, IB⟩ := IxB.app
  obtain ⟨Ic, gn, hc1, hc2, nk, nc⟩ := Ix.node
  have eps : contR (d + 1) (A ++ nodeI k Rc :: B) = contR (d + 1) A ++ (firstP (leavesR d Rc), .int k) :: contR (d + 1) B := by rw [contR_app, contR_cons]
  have lA : (contR (d + 1) A).length = A.length := contR_len
  have e8 : (contR (d + 1) (A ++ nodeI k Rc :: B))[placeN (keysT (contR (d + 1) (A ++ nodeI k Rc :: B))) key]? = some (firstP (leavesR d Rc), .int k) := by
    rw [← hat, eps, ← lA, List.getElem?_append_right (Nat.le_refl _), Nat.sub_self]
    rfl
  have eN : childN key (contR (d + 1) (A ++ nodeI k Rc :: B)) = k := by
    unfold childN
    rw [List.getD_eq_getElem?_getD, e8]
    rfl
  rw [eN]
  refine ⟨Rc, ⟨gn, Ic, fun _ => by omega, hc2⟩, ?_, _, e8⟩
  unfold psAt
  rw [blockAt_of gn, toTB_D]
  rfl
theorem AT.rise (hw : 3 ≤ w) {n : Int} {R : List (Item d)} (X : AT m w d n R) : (keysT (contR d R)).Pairwise (· < ·) := contR_rise (by unfold halfI; omega) X.inn.ok X.inn.rise
end
def sp_place (K : PySem.W.Frag) : Sp := fun vs H Q _ => ∃ (a : Addr) (xs : List V) (P : PL) (key : Int), vs = [.ref a, .int key] ∧ (SqL K H a xs ∨ SqT K H a xs) ∧ DpAll K H xs (rowD P) ∧ (keysT P).Pairwise (· < ·) ∧ P.length ≤ 1000 ∧ Q (.int (placeN (keysT P) key : Nat)) H
def sp_parts (K : PySem.W.Frag) : Sp := fun vs H Q _ => ∃ (a : Addr) (xs : List V) (P : PL) (w : Int), vs = [.ref a, .int w] ∧ SqL K H a xs ∧ DpAll K H xs (rowD P) ∧ 3 ≤ w ∧ P.length ≤ 1000 ∧
  ∀ p ys H', Same H H' → H' p = some (.lst ys) → PlRows K H' ys (partsL w P) → Q (.ref p) H'
def sp_way (K : PySem.W.Frag) : Sp := fun vs H Q _ => ∃ (b : Addr) (m : BT) (key w : Int) (d : Nat) (R : List (Item d)), vs = [.ref b, .int key] ∧ Dd K H b m ∧ AT m w d 0 R ∧ 3 ≤ w ∧ w ≤ 1000 ∧ d ≤ 90000 ∧
  ∀ p H', H p = none → Same H H' → H' p = some (.lst ((0 :: wayP m key d (contR d R)).map V.int)) → Q (.ref p) H'
end My

set_option Elab.async false
set_option linter.all false
set_option maxRecDepth 100000
set_option maxHeartbeats 1000000
/-! the levels of a tree, told of its things -/
namespace My
open PySem L2
section
variable {m : BT} {w : Int} {d : Nat} {key : Int} {P : PL}
structure LV (m : BT) (w : Int) (P : PL) (d : Nat) (Rs : List (List (Item d))) : Prop where
  ne : Rs ≠ []
  fne : d ≠ 0 → Rs.flatten ≠ []
  rep : ∀ x ∈ Rs.flatten, repI (getA m) d x
  ok : ∀ x ∈ Rs.flatten, okI w d x
  leaves : leavesR d Rs.flatten = P
def lvL (d : Nat) (Rs : List (List (Item d))) : List TB := Rs.map (blkR d)
theorem lvL_row {Rs : List (List (Item d))} : rowT (lvL d Rs) = contR d Rs.flatten := by
  unfold rowT lvL contR
  induction Rs with
  | nil => rfl
  | cons R Rs ih =>
    rw [List.map_cons, List.flatMap_cons, ih, List.flatten_cons, List.map_append]
    rfl
theorem TR.lv {R : List (Item d)} (T : TR w P m d R) : LV m w P d [R] := by
  have e : [R].flatten = R := by simp
  refine ⟨by simp, fun h z => ?_, by rw [e]; exact T.rep, by rw [e]; exact T.ok, by rw [e]; exact T.leaves⟩
  rw [e] at z
  have := T.two h
  rw [z, List.length_nil] at this
  omega
theorem leaves_ge (hw : 3 ≤ w) {R : List (Item d)} (ok : ∀ x ∈ R, okI w d x) : R.length ≤ (leavesR d R).length := by
  induction R with
  | nil => exact Nat.zero_le _
  | cons x R ih =>
    have h1 := okI_deep hw (ok x List.mem_cons_self)
    have h2 := ih fun y hy => ok y (List.mem_cons_of_mem _ hy)
    show R.length + 1 ≤ (leavesI d x ++ leavesR d R).length
    rw [List.length_append]
    omega
theorem LV.row_len (hw : 3 ≤ w) {Rs : List (List (Item d))} (V : LV m w P d Rs) : (rowT (lvL d Rs)).length ≤ P.length := by
  rw [lvL_row, contR_len, ← V.leaves]
  exact leaves_ge hw V.ok
/-- a level down -/
def belI {d : Nat} (c : Item (d + 1)) : List (Item d) := Prod.snd (show Int × List (Item d) from c)
def nextR (d : Nat) (Rs : List (List (Item (d + 1)))) : List (List (Item d)) := Rs.flatten.map belI
theorem LV.next (hw : 3 ≤ w) {Rs : List (List (Item (d + 1)))} (V : LV m w P (d + 1) Rs) : LV m w P d (nextR d Rs) ∧ (rowT (lvL (d + 1) Rs)).map (fun q => blockAt m (numD q.2)) = lsD (lvL d (nextR d Rs)) ∧
    (∀ q ∈ rowT (lvL (d + 1) Rs), ∃ n, q.2 = .int n ∧ (getA m n).isSome = true) ∧ (nextR d Rs).length ≤ P.length := by
  have h2w : 2 ≤ halfI w := by unfold halfI; omega
  obtain ⟨R, eR⟩ : ∃ R, R = Rs.flatten := ⟨_, rfl⟩
  have fne := V.fne (by omega)
  have rep := V.rep
  have ok := V.ok
  have lv := V.leaves
  have hl := leaves_ge hw V.ok
  rw [lvL_row]
  unfold nextR
  rw [← eR] at fne rep ok lv hl ⊢
  refine ⟨⟨fun z => fne (List.map_eq_nil_iff.mp z), fun _ z => ?_, fun x hx => ?_, fun x hx => ?_, ?_⟩, ?_, fun q hq => ?_, ?_⟩
  · obtain ⟨c, hc⟩ := List.exists_mem_of_ne_nil _ fne
    obtain ⟨n, T⟩ := c
    have h := (ok _ hc).1
    have h : halfI w ≤ (T.length : Int) := h
    have : T = [] := List.flatten_eq_nil_iff.mp z T (List.mem_map.mpr ⟨_, hc, rfl⟩)
    rw [this, List.length_nil] at h
    omega
  · obtain ⟨T, hT, hx⟩ := List.mem_flatten.mp hx
    obtain ⟨c, hc, rfl⟩ := List.mem_map.mp hT
    exact (rep _ hc).2 x hx
  · obtain ⟨T, hT, hx⟩ := List.mem_flatten.mp hx
    obtain ⟨c, hc, rfl⟩ := List.mem_map.mp hT
    exact (ok _ hc).2.2 x hx
  · rw [← lv]
    clear lv fne rep ok hl eR
    induction R with
    | nil => rfl
    | cons c R ih =>
      rw [List.map_cons, List.flatten_cons, leavesR_app, ih]
      rfl
  · unfold lsD lvL contR
    rw [List.map_map, List.map_map, List.map_map]
    refine List.map_congr_left fun c hc => ?_
    show blockAt m c.1 = (blkR d c.2).D
    exact blockAt_of (rep c hc).1
  · obtain ⟨c, hc, rfl⟩ := List.mem_map.mp hq
    exact ⟨c.1, rfl, by rw [(rep c hc).1]; rfl⟩
  · rw [List.length_map, ← lv]
    exact hl
theorem LV.all_br {Rs : List (List (Item d))} (V : LV m w P d Rs) : ((lvL d Rs).all fun b => decide (wordT b.lf = Str.ofString "branch")) = decide (d ≠ 0) := by
  have e : ∀ b ∈ lvL d Rs, decide (wordT b.lf = Str.ofString "branch") = decide (d ≠ 0) := fun b hb => by
    obtain ⟨R, hR, rfl⟩ := List.mem_map.mp hb
    show decide (wordT (decide (d = 0)) = Str.ofString "branch") = _
    by_cases q : d = 0
    · rw [decide_eq_true q, decide_eq_false (p := d ≠ 0) (fun z => z q)]
      decide +kernel
    · rw [decide_eq_false q, decide_eq_true (p := d ≠ 0) q]
      decide +kernel
  have hne : lvL d Rs ≠ [] := fun z => V.ne (List.map_eq_nil_iff.mp z)
  by_cases q : d ≠ 0
  · rw [decide_eq_true q] at e ⊢
    exact List.all_eq_true.mpr e
  · rw [decide_eq_false q] at e ⊢
    obtain ⟨b, hb⟩ := List.exists_mem_of_ne_nil _ hne
    cases h : (lvL d Rs).all fun b => decide (wordT b.lf = Str.ofString "branch") with
    | false => rfl
    | true => exact (e b hb).symm.trans (List.all_eq_true.mp h b hb) |>.symm
end
def sp_listed (K : PySem.W.Frag) : Sp := fun vs H Q _ => ∃ (b : Addr) (m : BT) (w : Int) (P : PL) (d : Nat) (R : List (Item d)), vs = [.ref b] ∧ Dd K H b m ∧ TR w P m d R ∧ 3 ≤ w ∧ P.length ≤ 20000 ∧
  ∀ p ys H', H p = none → Same H H' → H' p = some (.lst ys) → DpAll K H' ys (rowD P) → Q (.ref p) H'
end My

set_option Elab.async false
set_option linter.all false
set_option maxRecDepth 100000
set_option maxHeartbeats 1000000
/-! a Change in the heap: its fields, its promises -/
namespace My
open PySem L2
def chF (b a : Addr) (w n : Int) : List (Str × V) := putF "_newest" (.int n) (putF "_after" (.ref a) (putF "_width" (.int w) (putF "_blocks" (.ref b) [])))
theorem ch_wb : ¬ (("_blocks" : Str) = "_width") := by decide +kernel
theorem ch_ab : ¬ (("_blocks" : Str) = "_after") := by decide +kernel
theorem ch_nb : ¬ (("_blocks" : Str) = "_newest") := by decide +kernel
theorem ch_aw : ¬ (("_width" : Str) = "_after") := by decide +kernel
theorem ch_nw : ¬ (("_width" : Str) = "_newest") := by decide +kernel
theorem ch_na : ¬ (("_after" : Str) = "_newest") := by decide +kernel
theorem chF_blocks (b a : Addr) (w n : Int) : (chF b a w n).lookup ("_blocks" : Str) = some (.ref b) := by
  unfold chF
  rw [lookup_putF, if_neg ch_nb, lookup_putF, if_neg ch_ab, lookup_putF, if_neg ch_wb, lookup_putF, if_pos rfl]
theorem chF_width (b a : Addr) (w n : Int) : (chF b a w n).lookup ("_width" : Str) = some (.int w) := by
  unfold chF
  rw [lookup_putF, if_neg ch_nw, lookup_putF, if_neg ch_aw, lookup_putF, if_pos rfl]
theorem chF_after (b a : Addr) (w n : Int) : (chF b a w n).lookup ("_after" : Str) = some (.ref a) := by
  unfold chF
  rw [lookup_putF, if_neg ch_na, lookup_putF, if_pos rfl]
theorem chF_newest (b a : Addr) (w n : Int) : (chF b a w n).lookup ("_newest" : Str) = some (.int n) := by
  unfold chF
  rw [lookup_putF, if_pos rfl]
theorem chF_no (b a : Addr) (w n : Int) {f : Str} (h1 : ¬ f = "_newest") (h2 : ¬ f = "_after") (h3 : ¬ f = "_width") (h4 : ¬ f = "_blocks") : (chF b a w n).lookup f = none := by
  unfold chF
  rw [lookup_putF, if_neg h1, lookup_putF, if_neg h2, lookup_putF, if_neg h3, lookup_putF, if_neg h4]
  all_goals rfl
theorem putF_cons (f g : Str) (v u : V) (fs : List (Str × V)) : putF f v ((g, u) :: fs) = if g = f then (g, v) :: fs else (g, u) :: putF f v fs := rfl
theorem chF_eq (b a : Addr) (w n : Int) : chF b a w n = ([("_blocks", V.ref b), ("_width", V.int w), ("_after", V.ref a), ("_newest", V.int n)] : List (Str × V)) := by
  have e1 : putF "_blocks" (.ref b) [] = ([("_blocks", V.ref b)] : List (Str × V)) := rfl
  have e2 : putF "_width" (.int w) [] = ([("_width", V.int w)] : List (Str × V)) := rfl
  have e3 : putF "_after" (.ref a) [] = ([("_after", V.ref a)] : List (Str × V)) := rfl
  have e4 : putF "_newest" (.int n) [] = ([("_newest", V.int n)] : List (Str × V)) := rfl
  have f2 : putF "_width" (.int w) [("_blocks", V.ref b)] = ([("_blocks", V.ref b), ("_width", V.int w)] : List (Str × V)) := by
    rw [putF_cons, if_neg ch_wb, e2]
  have f3 : putF "_after" (.ref a) [("_blocks", V.ref b), ("_width", V.int w)] = ([("_blocks", V.ref b), ("_width", V.int w), ("_after", V.ref a)] : List (Str × V)) := by
    rw [putF_cons, if_neg ch_ab, putF_cons, if_neg ch_aw, e3]
  unfold chF
  rw [e1, f2, f3, putF_cons, if_neg ch_nb, putF_cons, if_neg ch_nw, putF_cons, if_neg ch_na, e4]
theorem chF_put (b a : Addr) (w n k : Int) : putF "_newest" (.int k) (chF b a w n) = chF b a w k := by
  rw [chF_eq, chF_eq, putF_cons, if_neg ch_nb, putF_cons, if_neg ch_nw, putF_cons, if_neg ch_na, putF_cons, if_pos rfl]
/-- a Change stands at p -/
def ChO (C : Addr) (H : Hp) (p b a : Addr) (w n : Int) : Prop := ∃ dx, H p = some (.ins C dx (chF b a w n))
def rFld (K : PySem.W.Frag) (f : Str) (x : V) (H1 : Hp) (Q : VK) : Prop := ∃ a C dx fs v, x = V.ref a ∧ H1 a = some (HO.ins C dx fs) ∧ Cls K C ∧ NoAttr K C f ∧ List.lookup f fs = some v ∧ Q v H1
def rSFld (K : PySem.W.Frag) (f : Str) (y x : V) (H2 : Hp) (N : Hp → Prop) : Prop := ∃ a C dx fs, x = V.ref a ∧ H2 a = some (HO.ins C dx fs) ∧ Cls K C ∧ NoAttr K C f ∧ fs.length < 1000 ∧ N (upd H2 a (HO.ins C dx (putF f y fs)))
def rMeth (C : Addr) (m : Str) (x : V) (H1 : Hp) (X : Prop) : Prop := ∃ a dx fs, x = V.ref a ∧ H1 a = some (HO.ins C dx fs) ∧ List.lookup m fs = none ∧ X
section
variable {K : PySem.W.Frag} {σ : L2.St} {H : Hp} {Q : VK} {D : Ends} {ta tv : TE} {f : Str} {C p b a : Addr} {w n : Int} {t : TA} {m : Str} {sp : Sp} {dvs : List V} {E : XK}
theorem g_tFld (q : ta σ H fun x H1 => rFld K f x H1 Q) : tFld K ta f σ H Q := q
theorem g_sFld (q : tv σ H fun y H1 => ta σ H1 fun x H2 => rSFld K f y x H2 (D.nx σ)) : sFld K ta tv f D σ H := q
theorem g_tMeth (q : ta σ H fun x H1 => rMeth C m x H1 (t σ H1 fun vs H2 => sp (x :: (vs ++ dvs)) H2 Q E)) : tMeth C m sp dvs E ta t σ H Q := q
theorem ChO.blocks (h : ChO C H p b a w n) (cl : Cls K C) (na : NoAttr K C "_blocks") (q : Q (.ref b) H) : rFld K "_blocks" (.ref p) H Q := by
  obtain ⟨dx, h⟩ := h
  exact ⟨p, C, dx, _, _, rfl, h, cl, na, chF_blocks .., q⟩
theorem ChO.width (h : ChO C H p b a w n) (cl : Cls K C) (na : NoAttr K C "_width") (q : Q (.int w) H) : rFld K "_width" (.ref p) H Q := by
  obtain ⟨dx, h⟩ := h
  exact ⟨p, C, dx, _, _, rfl, h, cl, na, chF_width .., q⟩
theorem ChO.after (h : ChO C H p b a w n) (cl : Cls K C) (na : NoAttr K C "_after") (q : Q (.ref a) H) : rFld K "_after" (.ref p) H Q := by
  obtain ⟨dx, h⟩ := h
  exact ⟨p, C, dx, _, _, rfl, h, cl, na, chF_after .., q⟩
theorem ChO.newest (h : ChO C H p b a w n) (cl : Cls K C) (na : NoAttr K C "_newest") (q : Q (.int n) H) : rFld K "_newest" (.ref p) H Q := by
  obtain ⟨dx, h⟩ := h
  exact ⟨p, C, dx, _, _, rfl, h, cl, na, chF_newest .., q⟩
theorem ChO.put {k : Int} {N : Hp → Prop} (h : ChO C H p b a w n) (cl : Cls K C) (na : NoAttr K C "_newest") (q : ∀ H1, Oth p H H1 → ChO C H1 p b a w k → N H1) : rSFld K "_newest" (.int k) (.ref p) H N := by
  obtain ⟨dx, h⟩ := h
  refine ⟨p, C, dx, _, rfl, h, cl, na, by rw [chF_eq]; show 4 < 1000; decide, ?_⟩
  rw [chF_put]
  exact q _ Oth.upd ⟨dx, upd_same⟩
theorem ChO.meth {X : Prop} (h : ChO C H p b a w n) (h1 : ¬ m = "_newest") (h2 : ¬ m = "_after") (h3 : ¬ m = "_width") (h4 : ¬ m = "_blocks") (q : X) : rMeth C m (.ref p) H X := by
  obtain ⟨dx, h⟩ := h
  exact ⟨p, dx, _, rfl, h, chF_no _ _ _ _ h1 h2 h3 h4, q⟩
theorem ChO.oth {H' : Hp} {c : Addr} (h : ChO C H p b a w n) (o : Oth c H H') (hn : p ≠ c) : ChO C H' p b a w n := by
  obtain ⟨dx, h⟩ := h
  exact ⟨dx, o _ _ hn h⟩
theorem ChO.go {H' : Hp} (h : ChO C H p b a w n) (s : Same H H') : ChO C H' p b a w n := by
  obtain ⟨dx, h⟩ := h
  exact ⟨dx, s _ _ h⟩
/-- a Change's own field changes no data -/
theorem ChO.fx {H' : Hp} (h : ChO C H p b a w n) (o : Oth p H H') : Fx H H' := by
  obtain ⟨dx, h⟩ := h
  exact o.keep fun ob hp z => by
    rw [h] at z
    cases Option.some.inj z
    exact hp
end
def sp_Change_init (K : PySem.W.Frag) (C : Addr) : Sp := fun vs H Q _ => ∃ (p dx b : Addr) (w : Int), vs = [.ref p, .ref b, .int w] ∧ H p = some (.ins C dx []) ∧
  ∀ a H', H a = none → a ≠ p → Oth p H H' → ChO C H' p b a w 0 → H' a = some (.dK []) → Q .non H'
def sp_Change_new_number (K : PySem.W.Frag) (C : Addr) : Sp := fun vs H Q _ => ∃ (p b a : Addr) (w n : Int) (m : BT), vs = [.ref p] ∧ ChO C H p b a w n ∧ Dd K H b m ∧ (keysA m).Nodup ∧
  ∀ H', Oth p H H' → ChO C H' p b a w (newN m n) → Q (.int (newN m n)) H'
end My
namespace My
open PySem L2
def sp_Change_told (K : PySem.W.Frag) (C : Addr) : Sp := fun vs H Q _ => ∃ (p b a : Addr) (w : Int) (c : Ch) (m : BT), vs = [.ref p] ∧ ChO C H p b a w c.newest ∧ Dd K H b m ∧ Pd K H a c.after ∧ (∀ q ∈ m, okD q.2) ∧ (∀ q ∈ c.after, okD q.2) ∧ c.after.length ≤ 90000 ∧ b ≠ a ∧ (keysA c.after).Nodup ∧
  ∀ t H', H t = none → Same H H' → Pd K H' t (toldA m c.after) → Q (.ref t) H'
end My
namespace My
open PySem L2
theorem neDK {X : Cx} {K : PySem.W.Frag} (e : X.K = K) (hu : X.A.units + 64 < cLine) : OpR X (compareOp .NotEq) (rNeD K) := e ▸ op_neD hu
theorem fldK {X : Cx} {K : PySem.W.Frag} {o : Expr} {f : Str} {pos : Pos} {ta : TE} (e : X.K = K) (h : PE X o ta) (hb : attributeBase o f X.env (eval o X.env) = eval o X.env) : PE X (.Attribute o f pos) (tFld K ta f) := e ▸ pe_fld h hb
end My
namespace My
open PySem L2
theorem DdAll.at {K : PySem.W.Frag} {H : Hp} {kvs : List (Key × V)} {m : BT} (h : DdAll K H kvs m) : ∀ {i : Nat} {k : Key} {v : V}, kvs[i]? = some (k, v) → ∃ n d, m[i]? = some (n, d) ∧ k = .inl n ∧ Dp K H v d := by
  induction h with
  | nil => intro i k v e; cases i <;> cases e
  | @cons n v0 d kvs m hd hr ih =>
    intro i k v e
    cases i with
    | zero =>
      cases e
      exact ⟨n, d, rfl, rfl, hd⟩
    | succ i => exact ih e
open scoped Classical in
theorem toldA_take {m a : BT} {i : Nat} {n : Int} {d : PyData} (nd : (keysA a).Nodup) (h : a[i]? = some (n, d)) :
    toldA m (a.take (i + 1)) = if d = optD (getA m n) then toldA m (a.take i) else putA (toldA m (a.take i)) n d := by
  have et : a.take (i + 1) = a.take i ++ [(n, d)] := by rw [List.take_add_one, h]; rfl
  rw [et]
  unfold toldA
  rw [List.filter_append, List.filter_cons]
  by_cases c : d = optD (getA m n)
  · rw [if_neg (by simpa using c), if_pos c, List.filter_nil, List.append_nil]
  · rw [if_pos (by simpa using c), if_neg c, List.filter_nil]
    have e2 : (keysA (a.take (i + 1))).Nodup := nd.sublist ((List.take_sublist _ _).map _)
    rw [et] at e2
    unfold keysA at e2
    rw [List.map_append, List.nodup_append] at e2
    have hn : n ∉ keysA ((a.take i).filter fun p => decide (p.2 ≠ optD (getA m p.1))) := fun z => by
      refine e2.2.2 n ((List.filter_sublist.map _).subset z) n (by simp) rfl
    unfold putA
    rw [any_getA, get_none hn]
    rfl
end My
namespace My
open PySem L2
theorem shaped_ok {d : PyData} (h : okD d) : SeqAt.shaped d = true := by
  unfold SeqAt.shaped
  rw [strict_lay h.1, Bool.true_and, decide_eq_true_eq]
  have := h.2
  omega
end My

set_option Elab.async false
set_option linter.all false
set_option maxRecDepth 100000
set_option maxHeartbeats 1000000
/-! a Change and its table, as both change; walks of pairs and backwards -/
namespace My
open PySem L2
def Oth2 (p a : Addr) (H H' : Hp) : Prop := ∀ b o, b ≠ p → b ≠ a → H b = some o → H' b = some o
/-- lists, tuples and what is held still -/
def seqO : HO → Prop
  | .lst _ => True
  | .tup _ => True
  | .frz _ _ => True
  | _ => False
/-- a Change at p, its blocks at b, its table at a -/
structure CS (K : PySem.W.Frag) (C : Addr) (H : Hp) (p b a : Addr) (w : Int) (m : BT) (c : Ch) : Prop where
  ob : ChO C H p b a w c.newest
  bl : Pd K H b m
  af : Pd K H a c.after
  ne : b ≠ a
  okm : Blk m
  okc : ∀ q ∈ c.after, okD q.2
  ndc : (keysA c.after).Nodup
section
variable {K : PySem.W.Frag} {H H' H2 : Hp} {C p b a l : Addr} {w k : Int} {m : BT} {c : Ch} {xs : List V} {d : PyData}
theorem Oth2.refl : Oth2 p a H H := fun _ _ _ _ h => h
theorem Oth2.trans (f : Oth2 p a H H') (g : Oth2 p a H' H2) : Oth2 p a H H2 := fun b o n1 n2 h => g b o n1 n2 (f b o n1 n2 h)
theorem Oth2.of (s : Same H H') : Oth2 p a H H' := fun b o _ _ h => s b o h
theorem Oth2.lf (o : Oth p H H') : Oth2 p a H H' := fun b u n _ h => o b u n h
theorem Oth2.rt (o : Oth a H H') : Oth2 p a H H' := fun b u _ n h => o b u n h
theorem CS.keep {P : HO → Prop} (h : CS K C H p b a w m c) (hp : ∀ C dx fs, ¬ P (.ins C dx fs)) (hd : ∀ kvs, ¬ P (.dK kvs)) (o : Oth2 p a H H') : Keep P H H' := fun u ob pu hu => by
  obtain ⟨dx, e⟩ := h.ob
  obtain ⟨kvs, e2, _⟩ := h.af
  refine o u ob (fun z => ?_) (fun z => ?_) hu
  · rw [z, e] at hu
    cases Option.some.inj hu
    exact hp _ _ _ pu
  · rw [z, e2] at hu
    cases Option.some.inj hu
    exact hd _ pu
theorem CS.fx (h : CS K C H p b a w m c) (o : Oth2 p a H H') : Fx H H' := h.keep (fun _ _ _ z => z) (fun _ z => z) o
theorem CS.seqL (h : CS K C H p b a w m c) (o : Oth2 p a H H') (hl : SqL K H l xs) : SqL K H' l xs := keep_seqL (P := seqO) (fun _ => trivial) (fun _ _ => trivial) (h.keep (fun _ _ _ z => z) (fun _ z => z) o) hl
theorem CS.lst (h : CS K C H p b a w m c) (o : Oth2 p a H H') (hl : H l = some (.lst xs)) : H' l = some (.lst xs) := (h.keep (P := seqO) (fun _ _ _ z => z) (fun _ z => z) o) l _ trivial hl
theorem CS.pa (h : CS K C H p b a w m c) : p ≠ a := fun z => by
  obtain ⟨dx, e⟩ := h.ob
  obtain ⟨kvs, e2, _⟩ := h.af
  rw [z, e2] at e
  cases e
theorem CS.pb (h : CS K C H p b a w m c) : b ≠ p := fun z => by
  obtain ⟨dx, e⟩ := h.ob
  obtain ⟨kvs, e2, _⟩ := h.bl
  rw [← z, e2] at e
  cases e
theorem CS.free (h : CS K C H' p b a w m c) (o : Oth2 p a H H') (n : H' l = none) : H l = none := by
  cases e : H l with
  | none => rfl
  | some ob =>
    have n1 : l ≠ p := fun z => by
      obtain ⟨dx, e⟩ := h.ob
      rw [z, e] at n
      cases n
    have n2 : l ≠ a := fun z => by
      obtain ⟨kvs, e2, _⟩ := h.af
      rw [z, e2] at n
      cases n
    rw [o _ _ n1 n2 e] at n
    cases n
theorem CS.go (s : Same H H') (h : CS K C H p b a w m c) : CS K C H' p b a w m c := ⟨h.ob.go s, h.bl.go s, h.af.go s, h.ne, h.okm, h.okc, h.ndc⟩
theorem CS.str (h : CS K C H p b a w m c) : ∀ q ∈ m, strictD q.2 = true := fun q hq => (h.okm.2 q hq).1
theorem CS.put (h : CS K C H p b a w m c) (o : Oth a H H') (hd : Pd K H' a (putA c.after k d)) (hok : okD d) : CS K C H' p b a w m ⟨putA c.after k d, c.newest⟩ :=
  ⟨h.ob.oth o h.pa, Pd.othLne o h.ne (h.fx (Oth2.rt o)) h.str h.bl, hd, h.ne, h.okm, all_put (P := fun q => okD q.2) h.okc hok, nodup_put h.ndc⟩
theorem CS.num {n : Int} (h : CS K C H p b a w m c) (o : Oth p H H') (hC : ChO C H' p b a w n) : CS K C H' p b a w m ⟨c.after, n⟩ :=
  ⟨hC, Pd.othLne o h.pb (h.fx (Oth2.lf o)) h.str h.bl, Pd.othLne o (Ne.symm h.pa) (h.fx (Oth2.lf o)) (fun q hq => (h.okc q hq).1) h.af, h.ne, h.okm, h.okc, h.ndc⟩
end
/-- behind a list that changes -/
theorem CS.oL {K : PySem.W.Frag} {H H' : Hp} {C p b a l : Addr} {w : Int} {m : BT} {c : Ch} {xs : List V} (h : CS K C H p b a w m c) (e : H l = some (.lst xs)) (o : Oth l H H') : CS K C H' p b a w m c := by
  have pl : p ≠ l := fun z => by
    obtain ⟨dx, e2⟩ := h.ob
    rw [z, e] at e2
    cases e2
  exact ⟨h.ob.oth o pl, Pd.othL e o h.str h.bl, Pd.othL e o (fun q hq => (h.okc q hq).1) h.af, h.ne, h.okm, h.okc, h.ndc⟩
theorem g_cat {H : Hp} {Q : VK} {l b : Addr} {xs zs : List V} (h : H l = some (.lst xs)) (h2 : H b = some (.lst zs)) (hl : xs.length + zs.length ≤ 100000) (q : ∀ p H1, H p = none → Same H H1 → H1 p = some (.lst (xs ++ zs)) → Q (.ref p) H1) : rCat (.ref l) (.ref b) H Q :=
  ⟨l, b, xs, zs, rfl, rfl, h, h2, sz hl, fun p hp => q p _ hp (Same.new hp _) upd_same⟩
section
variable {K : PySem.W.Frag} {σ : L2.St} {H : Hp} {D : Ends} {t u : TS} {g : TG} {ta : TA} {a b : Addr} {xs ys : List V}
def wZ (K : PySem.W.Frag) (R : It → Hp → Prop) : List V → Hp → Prop := fun vs H1 => ∃ a b xs ys, vs = [.ref a, .ref b] ∧ SqL K H1 a xs ∧ SqL K H1 b ys ∧ R (Itz K a b) H1
theorem g_wZ {R : It → Hp → Prop} (q : ta σ H (wZ K R)) : iZip K ta σ H R := q
def wV (K : PySem.W.Frag) (R : It → Hp → Prop) : List V → Hp → Prop := fun vs H1 => ∃ a xs, vs = [.ref a] ∧ SqL K H1 a xs ∧ R (Itv K a xs.length) H1
theorem g_wV {R : It → Hp → Prop} (q : ta σ H (wV K R)) : iRev K ta σ H R := q
/-- over two lists together -/
theorem g_forZk {n : Nat} (hn : n = min xs.length ys.length) (Pv : Nat → L2.St → Hp → Prop) (hx : SqL K H a xs) (hy : SqL K H b ys) (h0 : Pv 0 σ H) (hl : ∀ i σ' H', i ≤ n → Pv i σ' H' → SqL K H' a xs ∧ SqL K H' b ys)
    (hs : ∀ i x y σ' H' T H2, xs[i]? = some x → ys[i]? = some y → Pv i σ' H' → H' T = none → Same H' H2 → H2 T = some (.tup [x, y]) → g (.ref T) σ' H2 fun σ2 H2 => t { D with nx := Pv (i + 1), ct := Pv (i + 1), bk := D.nx } σ2 H2)
    (hd : ∀ σ' H', Pv n σ' H' → D.nx σ' H') : wZ K (forR g t D σ) [.ref a, .ref b] H :=
  ⟨a, b, xs, ys, rfl, hx, hy, g_forW (walk_zip hn) Pv h0 hl (fun i v σ' H' H2 hi hp hy => by
    obtain ⟨T, x, y, rfl, hT, rfl, e1, e2⟩ := hy
    exact hs i x y σ' H' T _ e1 e2 hp hT (Same.new hT _) upd_same) hd⟩
/-- a list from its end -/
theorem g_forVk (Pv : Nat → L2.St → Hp → Prop) (hx : SqL K H a xs) (h0 : Pv 0 σ H) (hl : ∀ i σ' H', i ≤ xs.length → Pv i σ' H' → SqL K H' a xs)
    (hs : ∀ i x σ' H', i < xs.length → xs[xs.length - 1 - i]? = some x → Pv i σ' H' → g x σ' H' fun σ2 H2 => t { D with nx := Pv (i + 1), ct := Pv (i + 1), bk := D.nx } σ2 H2)
    (hd : ∀ σ' H', Pv xs.length σ' H' → D.nx σ' H') : wV K (forR g t D σ) [.ref a] H :=
  ⟨a, xs, rfl, hx, g_forW walk_rev Pv h0 hl (fun i v σ' H' H2 hi hp hy => by
    obtain ⟨rfl, e⟩ := hy
    exact hs i v σ' _ hi e hp) hd⟩
end
end My
namespace My
open PySem L2
section
variable {K : PySem.W.Frag} {σ : L2.St} {H : Hp} {Q : VK} {te : TE} {tt : TT} {g : TG} {vs : List Nat}
variable {J : It} {n : Nat} {G : Hp → Prop} {Y : Nat → Hp → V → Hp → Prop}
/-- a comprehension of data over any walk: behind i turns the list holds L i -/
theorem g_lcDW (w : Walk J n G Y) (L : Nat → List PyData) (hn : n ≤ 40000) (hG : ∀ H', Same H H' → G H') (h0 : L 0 = []) (hs : ∀ i, i ≤ n → strictAll (L i) = true) (hl : ∀ i, i ≤ n → (L i).length ≤ i)
    (he : ∀ (i : Nat) (x : V) (H1 H2 : Hp) (QN : Hp → Prop) (QE : VK), i < n → Same H H1 → Y i H1 x H2 → (L (i + 1) = L i → ∀ H3, Same H1 H3 → QN H3) → (∀ y d H3, L (i + 1) = L i ++ [d] → Same H1 H3 → Dp K H3 y d → QE y H3) →
      g x (wipe σ vs) H2 fun σ2 H3 => wipe σ2 vs = wipe σ vs ∧ tt σ2 H3 fun b H4 => if b = true then te σ2 H4 QE else QN H4)
    (q : ∀ p ys H1, H p = none → Same H H1 → H1 p = some (.lst ys) → DpAll K H1 ys (L n) → Q (.ref p) H1) : lcR g tt te vs σ Q J H := by
  intro Dl hD
  refine lc_it w (fun i H' => Same H H' ∧ ∃ ys, H' Dl = some (.lst ys) ∧ DpAll K H' ys (L i))
    ⟨Same.new hD _, [], upd_same, by rw [h0]; exact .nil⟩ (fun i H' _ p => hG H' p.1) (fun i x H1 H2 hi p y => ?_) (fun H' p => ?_)
  · obtain ⟨s, ys, e, hr⟩ := p
    refine he i x H1 H2 _ _ hi s y (fun eL H3 s3 => ?_) (fun z d H3 eL s3 dz => ?_)
    · refine ⟨s.trans s3, ys, s3 _ _ e, ?_⟩
      rw [eL]
      exact DpAll.go s3 hr
    · have ly := dpAll_len hr
      have ll := hl i (by omega)
      have e3 := s3 _ _ e
      have st := hs (i + 1) (by omega)
      rw [eL] at st
      have o : Oth Dl H3 (upd H3 Dl (.lst (ys ++ [z]))) := Oth.upd
      refine ⟨ys, e3, Evl.sz_lt (by omega), o.same (s.trans s3) hD, ys ++ [z], upd_same, ?_⟩
      rw [eL]
      exact DpAll.othL e3 o st (dpAll_app (DpAll.go s3 hr) (.cons dz .nil))
  · obtain ⟨s, ys, e, hr⟩ := p
    exact q Dl ys H' hD s e hr
end
/-! the numbers taken, from the end -/
theorem newNs_snoc {m : BT} : ∀ (n : Nat) (k : Int), newNs m (n + 1) k = ((newNs m n k).1 ++ [newN m (newNs m n k).2], newN m (newNs m n k).2)
  | 0, k => rfl
  | n + 1, k => by
    show (newN m k :: (newNs m (n + 1) (newN m k)).1, (newNs m (n + 1) (newN m k)).2) = (newN m k :: (newNs m n (newN m k)).1 ++ [newN m (newNs m n (newN m k)).2], newN m (newNs m n (newN m k)).2)
    rw [newNs_snoc n]
    rfl
theorem newNs_len {m : BT} : ∀ (n : Nat) (k : Int), (newNs m n k).1.length = n
  | 0, _ => rfl
  | n + 1, k => by
    show (newN m k :: (newNs m n (newN m k)).1).length = _
    rw [List.length_cons, newNs_len n]
theorem puts_snoc {a : BT} {ps : List (Int × PyData)} {p : Int × PyData} : puts a (ps ++ [p]) = putA (puts a ps) p.1 p.2 := by
  unfold puts
  rw [List.foldl_append]
  rfl
theorem putA_len {a : BT} {k : Int} {v : PyData} : (putA a k v).length ≤ a.length + 1 := by
  unfold putA
  split
  · rw [List.length_map]; omega
  · rw [List.length_append, List.length_singleton]; omega
theorem puts_len : ∀ {ps : List (Int × PyData)} {a : BT}, (puts a ps).length ≤ a.length + ps.length
  | [], a => Nat.le_refl _
  | p :: ps, a => by
    have h1 := puts_len (ps := ps) (a := putA a p.1 p.2)
    have h2 := putA_len (a := a) (k := p.1) (v := p.2)
    show (puts (putA a p.1 p.2) ps).length ≤ _
    rw [List.length_cons]
    omega
/-- the parts that hold a pair -/
def rowsP (w : Int) (P : PL) : List PL := (partsL w P).filter fun r => !r.isEmpty
theorem rowsP_len {w : Int} {P : PL} : (rowsP w P).length ≤ 2 := by
  unfold rowsP
  refine Nat.le_trans (List.length_filter_le ..) ?_
  unfold partsL
  split <;> simp
theorem rowsP_sub {w : Int} {P r : PL} (h : r ∈ partsL w P) : ∀ p ∈ r, p ∈ P := fun p hp => by
  have : p ∈ (partsL w P).flatten := List.mem_flatten.mpr ⟨r, h, hp⟩
  rwa [partsL_flat] at this
theorem rowsP_sm {w : Int} {P r : PL} (sm : smP P) (h : r ∈ rowsP w P) : smP r := fun p hp => sm p (rowsP_sub (List.mem_filter.mp h).1 p hp)
theorem fillP_eq {m : BT} {w : Int} {lf : Bool} {P : PL} {N : List Int} {c : Ch} : fillP m w lf P N c =
    ((((N ++ (newNs m ((rowsP w P).length - N.length) c.newest).1).zip (rowsP w P)).map fun t => (firstP t.2, .int t.1)),
      ⟨puts (puts c.after ((N.drop (rowsP w P).length).map fun n => (n, .none))) (((N ++ (newNs m ((rowsP w P).length - N.length) c.newest).1).zip (rowsP w P)).map fun t => (t.1, (TB.mk lf t.2).D)), (newNs m ((rowsP w P).length - N.length) c.newest).2⟩) := rfl
theorem fillP_len {m : BT} {w : Int} {lf : Bool} {P : PL} {N : List Int} {c : Ch} : (fillP m w lf P N c).2.after.length ≤ c.after.length + N.length + 2 ∧ (fillP m w lf P N c).1.length ≤ 2 := by
  rw [fillP_eq]
  dsimp only
  have h0 := rowsP_len (w := w) (P := P)
  constructor
  · refine Nat.le_trans puts_len ?_
    have h1 := puts_len (a := c.after) (ps := (N.drop (rowsP w P).length).map fun n => ((n, .none) : Int × PyData))
    rw [List.length_map, List.length_drop] at h1
    rw [List.length_map, List.length_zip]
    omega
  · rw [List.length_map, List.length_zip]
    omega
theorem dp_rows {K : PySem.W.Frag} {H : Hp} {xs : List V} {rows : List PL} (h : DpAll K H xs (rowsD rows)) {i : Nat} {x : V} (hx : xs[i]? = some x) : ∃ r ta zs, rows[i]? = some r ∧ x = .ref ta ∧ SqT K H ta zs ∧ DpAll K H zs (rowD r) := by
  obtain ⟨r, hr, hd⟩ := dpAll_at' (f := fun r : PL => PyData.tuple (rowD r)) h hx
  obtain ⟨ta, zs, rfl, ht, hz⟩ := dp_tuple hd
  exact ⟨r, ta, zs, hr, rfl, ht, hz⟩
theorem g_yes {σ : L2.St} {H : Hp} {te : TE} {QE : VK} {QN : Hp → Prop} (h : te σ H QE) : tYes σ H fun b H4 => if b = true then te σ H4 QE else QN H4 := by
  show if true = true then te σ H QE else QN H
  rw [if_pos rfl]
  exact h
/-- a value's truth, K by name -/
def tTruM (K : PySem.W.Frag) (ta : TE) : TT := fun σ H Q => ta σ H fun x H1 => ∃ k, TruV K x H1 k ∧ Q k H1
theorem pt_truK {X : Cx} {K : PySem.W.Frag} {a : Expr} {ta : TE} (e : X.K = K) (ha : PE X a ta) (he : ∀ whole, isTrue a X.env whole = (do let v ← whole; standAt a.pos; holding [v] (truthy v))) : PT X a (tTruM K ta) := e ▸ pt_truth ha he
def sp_Change_fill (K : PySem.W.Frag) (C : Addr) : Sp := fun vs H Q _ => ∃ (p b a : Addr) (w : Int) (m : BT) (c : Ch) (lf : Bool) (r l : Addr) (xs : List V) (P : PL) (N : List Int), vs = [.ref p, .str (wordT lf), .ref r, .ref l] ∧ CS K C H p b a w m c ∧
  SqL K H r xs ∧ DpAll K H xs (rowD P) ∧ smP P ∧ H l = some (.lst (N.map V.int)) ∧ 3 ≤ w ∧ P.length ≤ 1000 ∧ N.length ≤ 1000 ∧ c.after.length ≤ 80000 ∧
  ∀ q ys H', H q = none → Oth2 p a H H' → H' q = some (.lst ys) → DpAll K H' ys (rowD (fillP m w lf P N c).1) → CS K C H' p b a w m (fillP m w lf P N c).2 → Q (.ref q) H'
end My

set_option Elab.async false
set_option linter.all false
set_option maxRecDepth 100000
set_option maxHeartbeats 1000000
/-! a Change's filling and holding: what each asks and gives -/
namespace My
open PySem L2
theorem g_slA {K : PySem.W.Frag} {H : Hp} {Q : VK} {a : Addr} {xs : List V} {lo hi : Option Int} (h : SqT K H a xs) (q : ∀ p H1, Same H H1 → SqT K H1 p (cutV xs lo hi) → Q (.ref p) H1) : rSlA K (.ref a) lo hi H Q :=
  ⟨a, xs, rfl, h, fun hw => q a H (L2.Same.refl H) (by
    have e : cutV xs lo hi = xs := by
      unfold cutV
      rw [hw.1, hw.2, List.drop_zero, Nat.sub_zero, List.take_length]
    rw [e]
    exact h), fun _ p hp => q p _ (Same.new hp _) (SqT.of upd_same)⟩
theorem cut_mid (xs : List V) (a b : Nat) : cutV xs (some (a : Int)) (some (b : Int)) = (xs.take b).drop a := by rw [cut_both, List.drop_take]
theorem dpAll_mid {K : PySem.W.Frag} {H : Hp} {xs : List V} {P : PL} (h : DpAll K H xs (rowD P)) (a b : Nat) : DpAll K H ((xs.take b).drop a) (rowD ((P.take b).drop a)) := by
  unfold rowD
  rw [List.map_drop, List.map_take]
  exact dpAll_drop _ (dpAll_take _ h)
theorem dpAll_ints {K : PySem.W.Frag} {H : Hp} : ∀ {xs : List V} {N : List Int}, DpAll K H xs (N.map PyData.int) → xs = N.map V.int
  | [], [], _ => rfl
  | _, n :: N, .cons h r => by rw [dp_i h, dpAll_ints r]; rfl
  | _ :: _, [], h => nomatch h
section
variable {m : BT} {w : Int} {d : Nat} {key : Int} {held : PL}
/-- a row names blocks of no more than so many pairs -/
def NB (m : BT) (k : Nat) (P : PL) : Prop := ∀ q ∈ P, ∃ (n : Int) (b : TB), q.2 = .int n ∧ getA m n = some b.D ∧ b.ps.length ≤ k ∧ smP b.ps
theorem NB.sub {k : Nat} {P P' : PL} (h : NB m k P) (hs : ∀ q ∈ P', q ∈ P) : NB m k P' := fun q hq => h q (hs q hq)
theorem NB.rows {k : Nat} : ∀ {P : PL}, NB m k P → (rowsAt m P).length ≤ P.length * k ∧ smP (rowsAt m P)
  | [], _ => ⟨Nat.zero_le _, fun p hp => nomatch hp⟩
  | q :: P, h => by
    obtain ⟨h1, h2⟩ := NB.rows (P := P) fun r hr => h r (List.mem_cons_of_mem _ hr)
    obtain ⟨n, b, e1, e2, e3, e4⟩ := h q List.mem_cons_self
    have e : (toTB (blockAt m (numD q.2))).ps = b.ps := by
      rw [e1]
      show (toTB (blockAt m n)).ps = _
      rw [blockAt_of e2, toTB_D]
    show ((toTB (blockAt m (numD q.2))).ps ++ rowsAt m P).length ≤ _ ∧ smP ((toTB (blockAt m (numD q.2))).ps ++ rowsAt m P)
    rw [e, List.length_append, List.length_cons, Nat.add_mul]
    exact ⟨by omega, smP_app.mpr ⟨e4, h2⟩⟩
theorem NB.lsD {k : Nat} : ∀ {P : PL}, NB m k P → ((P.map fun q => blockAt m (numD q.2)) = lsD (P.map fun q => toTB (blockAt m (numD q.2))))
  | [], _ => rfl
  | q :: P, h => by
    obtain ⟨n, b, e1, e2, e3, e4⟩ := h q List.mem_cons_self
    have e : blockAt m (numD q.2) = (toTB (blockAt m (numD q.2))).D := by
      rw [e1]
      show blockAt m n = (toTB (blockAt m n)).D
      rw [blockAt_of e2, toTB_D]
    show blockAt m (numD q.2) :: _ = (toTB (blockAt m (numD q.2))).D :: _
    rw [← e]
    congr 1
    exact NB.lsD fun r hr => h r (List.mem_cons_of_mem _ hr)
theorem NB.row {P : PL} : rowT (P.map fun q => toTB (blockAt m (numD q.2))) = rowsAt m P := by
  unfold rowT rowsAt
  rw [List.flatMap_map]
theorem NB.int {k : Nat} {P : PL} (h : NB m k P) : ∀ q ∈ P, ∃ n, q.2 = .int n ∧ (getA m n).isSome = true := fun q hq => by
  obtain ⟨n, b, e1, e2, _⟩ := h q hq
  exact ⟨n, e1, by rw [e2]; rfl⟩
end
def firstN (w : Int) (PA : PL) (key : Int) (P : PL) : Nat := if (P.length : Int) < halfI w then placeN (keysT PA) key - 1 else placeN (keysT PA) key
def lastN (w : Int) (PA : PL) (key : Int) (P : PL) : Nat := if (P.length : Int) < halfI w then placeN (keysT PA) key - 1 + 2 else placeN (keysT PA) key + 1
def midP (m : BT) (w : Int) (PA : PL) (key : Int) (P : PL) : PL := rowsAt m ((PA.take (placeN (keysT PA) key)).drop (firstN w PA key P)) ++ P ++ rowsAt m ((PA.take (lastN w PA key P)).drop (placeN (keysT PA) key + 1))
theorem fillBelowP_eq {m : BT} {w : Int} {lf : Bool} {PA P : PL} {key : Int} {c : Ch} : fillBelowP m w lf PA key P c =
    (PA.take (firstN w PA key P) ++ (fillP m w lf (midP m w PA key P) (numsT ((PA.take (lastN w PA key P)).drop (firstN w PA key P))) c).1 ++ PA.drop (lastN w PA key P),
      (fillP m w lf (midP m w PA key P) (numsT ((PA.take (lastN w PA key P)).drop (firstN w PA key P))) c).2) := by
  unfold fillBelowP midP firstN lastN
  by_cases q : (P.length : Int) < halfI w
  · simp only [if_pos q, decide_eq_true q, if_true]
  · simp only [if_neg q, decide_eq_false q]
    rfl
theorem numsT_len {P : PL} : (numsT P).length = P.length := List.length_map ..
theorem mid_len {PA : PL} {a b : Nat} : ((PA.take b).drop a).length ≤ b - a := by rw [List.length_drop, List.length_take]; omega
theorem last_first {w : Int} {PA P : PL} {key : Int} : lastN w PA key P - firstN w PA key P ≤ 2 ∧ placeN (keysT PA) key - firstN w PA key P ≤ 1 ∧ lastN w PA key P - (placeN (keysT PA) key + 1) ≤ 1 ∧ firstN w PA key P ≤ lastN w PA key P := by
  unfold firstN lastN
  split <;> omega
theorem fillBelowP_len {m : BT} {w : Int} {lf : Bool} {PA P : PL} {key : Int} {c : Ch} : (fillBelowP m w lf PA key P c).2.after.length ≤ c.after.length + 4 ∧ (fillBelowP m w lf PA key P c).1.length ≤ PA.length + 2 := by
  rw [fillBelowP_eq]
  dsimp only
  obtain ⟨h1, h2⟩ := fillP_len (m := m) (w := w) (lf := lf) (P := midP m w PA key P) (N := numsT ((PA.take (lastN w PA key P)).drop (firstN w PA key P))) (c := c)
  have h3 := mid_len (PA := PA) (a := firstN w PA key P) (b := lastN w PA key P)
  obtain ⟨l1, l2, l3, l4⟩ := last_first (w := w) (PA := PA) (P := P) (key := key)
  rw [numsT_len] at h1
  rw [List.length_append, List.length_append, List.length_take, List.length_drop]
  omega
theorem fillP_sm {m : BT} {w : Int} {lf : Bool} {P : PL} {N : List Int} {c : Ch} : smP (fillP m w lf P N c).1 := fun p hp => by
  obtain ⟨t, _, rfl⟩ := List.mem_map.mp hp
  exact ⟨rfl, by simp [PyData.depth]⟩
theorem fillBelowP_sm {m : BT} {w : Int} {lf : Bool} {PA P : PL} {key : Int} {c : Ch} (h : smP PA) : smP (fillBelowP m w lf PA key P c).1 := by
  rw [fillBelowP_eq]
  exact smP_app.mpr ⟨smP_app.mpr ⟨fun p hp => h p (List.mem_of_mem_take hp), fillP_sm⟩, fun p hp => h p (List.mem_of_mem_drop hp)⟩
theorem rowsP_all {w : Int} {P : PL} (hw : 3 ≤ w) (h : P ≠ []) : rowsP w P = partsL w P := List.filter_eq_self.mpr fun r hr => by
  have := partsL_ne hw h r hr
  cases r with
  | nil => exact absurd rfl this
  | cons a r => rfl
theorem fillP_two {m : BT} {w : Int} {lf : Bool} {P : PL} {c : Ch} (hw : 3 ≤ w) (h : w < (P.length : Int)) : (fillP m w lf P [] c).1.length = 2 := by
  have hne : P ≠ [] := fun z => by rw [z, List.length_nil] at h; omega
  rw [fillP_eq, rowsP_all hw hne]
  dsimp only
  have e : (partsL w P).length = 2 := by
    unfold partsL
    rw [if_neg (by omega)]
    rfl
  rw [List.length_map, List.length_zip, List.nil_append, newNs_len, e]
  rfl
theorem g_andTJ {σ : L2.St} {H : Hp} {tu : TT} {QB : Bool → Hp → Prop} {k b : Bool} (h : k = true → ∀ Q : Bool → Hp → Prop, Q b H → tu σ H Q) (q : QB (k && b) H) : andK tu σ QB k H := by
  cases k
  · exact q
  · exact h rfl _ q
def rDGet2 (x : V) (ty tx : TE) (σ : L2.St) (H : Hp) (Q : VK) : Prop := ∃ a, x = .ref a ∧ IsD H a ∧ ty σ H fun y H2 => tx σ H2 fun z H3 => ∃ o, DGet H3 a y o ∧ Q (o.getD z) H3
theorem g_dget2 {td ty tx : TE} {σ : L2.St} {H : Hp} {Q : VK} (q : td σ H fun x H1 => rDGet2 x ty tx σ H1 Q) : tDGet2 td ty tx σ H Q := q
theorem g_rDGet1P {K : PySem.W.Frag} {ty : TE} {σ : L2.St} {H : Hp} {Q : VK} {a : Addr} {m : BT} {k : Int} (h : Pd K H a m) (hy : ∀ R : VK, R (.int k) H → ty σ H R) (q : ∀ v, PlW K H v (optD (getA m k)) → Q v H) : rDGet1 (.ref a) ty σ H Q := by
  obtain ⟨kvs, h1, h2⟩ := h
  refine ⟨a, rfl, .inl ⟨kvs, .inl h1⟩, hy _ ⟨_, DdAll.dget h1 k, ?_⟩⟩
  rcases h2.val k with ⟨e1, e2⟩ | ⟨v, d', e1, e2, hd⟩
  · rw [e2]
    refine q _ ?_
    rw [e1]
    exact .non
  · rw [e2]
    refine q _ ?_
    rw [e1]
    exact hd
theorem g_rDGet2P {K : PySem.W.Frag} {ty tx : TE} {σ : L2.St} {H : Hp} {Q : VK} {a : Addr} {m m' : BT} {k : Int} (h : Pd K H a m) (hy : ∀ R : VK, R (.int k) H → ty σ H R) (hx : ∀ R : VK, (∀ z, PlW K H z (optD (getA m' k)) → R z H) → tx σ H R) (q : ∀ v, PlW K H v ((getA m k).getD (optD (getA m' k))) → Q v H) : rDGet2 (.ref a) ty tx σ H Q := by
  obtain ⟨kvs, h1, h2⟩ := h
  refine ⟨a, rfl, .inl ⟨kvs, .inl h1⟩, hy _ (hx _ fun z hz => ⟨_, DdAll.dget h1 k, ?_⟩)⟩
  rcases h2.val k with ⟨e1, e2⟩ | ⟨v, d, e1, e2, hv⟩
  · rw [e2]
    exact q _ (by rw [e1]; exact hz)
  · rw [e2]
    exact q _ (by rw [e1]; exact hv)
/-- tuple(x) of a list or of a plain tuple: a plain tuple -/
theorem g_tupFO {K : PySem.W.Frag} {H : Hp} {Q : VK} {a : Addr} {xs : List V} (h : SqL K H a xs ∨ PlX H a xs) (q : ∀ p H1, Same H H1 → PlX H1 p xs → Q (.ref p) H1) : rTupF K [.ref a] H Q :=
  h.elim (fun h => g_tupF h fun p H1 _ s e => q p H1 s e) fun h => g_tupFT h.seqT (q a H (L2.Same.refl H) h)
def sp_Change_fill_below (K : PySem.W.Frag) (C : Addr) : Sp := fun vs H Q _ => ∃ (p b a : Addr) (w : Int) (m : BT) (c : Ch) (lf : Bool) (ab r : Addr) (key : Int) (zs xs : List V) (PA P : PL), vs = [.ref p, .ref ab, .int key, .str (wordT lf), .ref r] ∧ CS K C H p b a w m c ∧
  SqT K H ab zs ∧ DpAll K H zs (rowD PA) ∧ smP PA ∧ (keysT PA).Pairwise (· < ·) ∧ PA.length ≤ 70 ∧ NB m 70 PA ∧ H r = some (.lst xs) ∧ DpAll K H xs (rowD P) ∧ smP P ∧ P.length ≤ 100 ∧ 3 ≤ w ∧ c.after.length ≤ 80000 ∧
  ∀ q ys H', H q = none → Oth2 p a H H' → H' q = some (.lst ys) → DpAll K H' ys (rowD (fillBelowP m w lf PA key P c).1) → CS K C H' p b a w m (fillBelowP m w lf PA key P c).2 → Q (.ref q) H'
def sp_Change_fill_root (K : PySem.W.Frag) (C : Addr) : Sp := fun vs H Q _ => ∃ (p b a : Addr) (w : Int) (m : BT) (c : Ch) (lf : Bool) (r : Addr) (xs : List V) (P : PL), vs = [.ref p, .str (wordT lf), .ref r] ∧ CS K C H p b a w m c ∧
  H r = some (.lst xs) ∧ DpAll K H xs (rowD P) ∧ smP P ∧ P.length ≤ 100 ∧ 3 ≤ w ∧ c.after.length ≤ 80000 ∧
  (lf = false → P.length = 1 → ∃ (k n : Int) (b : TB), P = [(k, .int n)] ∧ nowD m c n = b.D ∧ (b.lf = true ∨ b.ps.length ≠ 1) ∧ smP b.ps) ∧
  ∀ H', Oth2 p a H H' → CS K C H' p b a w m (rootP m w lf P c) → Q .non H'
end My

set_option Elab.async false
set_option linter.all false
set_option maxRecDepth 100000
set_option maxHeartbeats 1000000
/-! the way of a Change from the leaf up, told of data -/
namespace My
open PySem L2
theorem g_popO {H : Hp} {Q : VK} {l : Addr} {xs : List V} {y : V} (h : H l = some (.lst (xs ++ [y]))) (q : ∀ H1, Oth l H H1 → H1 l = some (.lst xs) → Q y H1) : rPop (.ref l) [] H Q := by
  refine ⟨l, xs ++ [y], y, rfl, rfl, h, ?_, ?_⟩
  · rw [List.length_append, List.length_singleton, Nat.add_sub_cancel, List.getElem?_append_right (Nat.le_refl _), Nat.sub_self]
    rfl
  · rw [List.dropLast_concat]
    exact q _ Oth.upd upd_same
theorem row_inj : ∀ {P P' : PL}, rowD P = rowD P' → P = P'
  | [], [], _ => rfl
  | [], _ :: _, h => nomatch h
  | _ :: _, [], h => nomatch h
  | p :: P, q :: P', h => by
    have h' : pairD p :: rowD P = pairD q :: rowD P' := h
    obtain ⟨h1, h2⟩ := List.cons.inj h'
    have h3 : [PyData.int p.1, p.2] = [PyData.int q.1, q.2] := PyData.tuple.inj h1
    obtain ⟨h4, h5⟩ := List.cons.inj h3
    obtain ⟨h6, _⟩ := List.cons.inj h5
    rw [row_inj h2, Prod.ext (PyData.int.inj h4) h6]
theorem shaped_row {P : PL} (sm : smP P) : SeqAt.shaped (.tuple (rowD P)) = true := by
  have h : okD (.tuple (rowD P)) := by
    refine okD_tup fun d hd => ?_
    obtain ⟨p, hp, rfl⟩ := List.mem_map.mp hd
    refine ⟨pairD_strict (sm p hp).1, ?_⟩
    have := (sm p hp).2
    unfold pairD
    simp only [PyData.depth, PyData.depthAll]
    omega
  exact shaped_ok h
section
variable {m : BT} {w : Int} {d : Nat} {key : Int} {held : PL}
theorem IN.smc {R : List (Item d)} (I : IN m w d R) : smP (contR d R) := by
  intro p hp
  obtain ⟨z, hz, rfl⟩ := List.mem_map.mp hp
  cases d with
  | zero =>
    refine I.sm z ?_
    rw [leavesR_zero]
    exact hz
  | succ d => exact ⟨rfl, by simp [pairI, PyData.depth]⟩
theorem AT.nb {n : Int} {R : List (Item (d + 1))} (X : AT m w (d + 1) n R) (hw : w ≤ 64) : NB m 70 (contR (d + 1) R) := fun q hq => by
  obtain ⟨z, hz, rfl⟩ := List.mem_map.mp hq
  obtain ⟨A, B, e⟩ := List.append_of_mem hz
  have I2 : IN m w (d + 1) (A ++ ([nodeI z.1 z.2] ++ B)) := by
    have := X.inn
    rw [e] at this
    exact this
  obtain ⟨Ic, gn, hc1, hc2, nk, nc⟩ := (I2.app.2.app.1).node
  refine ⟨z.1, blkR d z.2, rfl, gn, ?_, Ic.smc⟩
  show (contR d z.2).length ≤ 70
  rw [contR_len]
  omega
theorem AT.len {n : Int} {R : List (Item d)} (X : AT m w d n R) (hw : w ≤ 64) : (contR d R).length ≤ 70 := by
  rw [contR_len]
  have := X.size
  omega
theorem AT.ps {n : Int} {R : List (Item d)} (X : AT m w d n R) : psAt m n = contR d R := by
  unfold psAt
  rw [blockAt_of X.root, toTB_D]
  rfl
/-- the way, place by place: with j further down there are j levels more -/
theorem AT.path (hw : 3 ≤ w) : ∀ {d : Nat} {n : Int} {R : List (Item d)}, AT m w d n R → ∀ j i, j + i = d →
    ∃ (nj : Int) (Rj : List (Item i)), (n :: wayP m key d (contR d R))[j]? = some nj ∧ AT m w i nj Rj ∧ ∀ i', i = i' + 1 → (n :: wayP m key d (contR d R))[j + 1]? = some (childN key (psAt m nj))
  | d, n, R, X, 0, i, h => by
    have e : i = d := by omega
    subst e
    refine ⟨n, R, rfl, X, fun i' e => ?_⟩
    subst e
    rw [X.ps]
    rfl
  | 0, n, R, X, j + 1, i, h => by omega
  | d + 1, n, R, X, j + 1, i, h => by
    obtain ⟨Rc, Xc, ec, _⟩ := X.child hw (key := key)
    obtain ⟨nj, Rj, h1, h2, h3⟩ := Xc.path hw (d := d) j i (by omega)
    have e : wayP m key (d + 1) (contR (d + 1) R) = childN key (contR (d + 1) R) :: wayP m key d (contR d Rc) := by
      show childN key (contR (d + 1) R) :: wayP m key d (psAt m (childN key (contR (d + 1) R))) = _
      rw [ec]
    rw [e]
    exact ⟨nj, Rj, by rw [List.getElem?_cons_succ]; exact h1, h2, fun i' e => by rw [List.getElem?_cons_succ]; exact h3 i' e⟩
theorem way_len : ∀ {d : Nat} {ps : PL}, (wayP m key d ps).length = d
  | 0, _ => rfl
  | d + 1, ps => by
    show (childN key ps :: wayP m key d (psAt m (childN key ps))).length = _
    rw [List.length_cons, way_len]
theorem leaf_last {d : Nat} {n : Int} {ps : PL} : ps = psAt m n → leafP m key d ps = psAt m ((n :: wayP m key d ps).getD d 0) := by
  induction d generalizing n ps with
  | zero => exact fun h => h
  | succ d ih =>
    intro h
    show leafP m key d (psAt m (childN key ps)) = psAt m ((childN key ps :: wayP m key d (psAt m (childN key ps))).getD d 0)
    exact ih rfl
theorem holdP_len : ∀ {d : Nat} {ps : PL}, (holdP m w key held d ps).2.after.length ≤ 4 * d
  | 0, _ => Nat.le_refl _
  | d + 1, ps => by
    have h := holdP_len (d := d) (ps := (toTB (blockAt m (numD (ps.getD (placeN (keysT ps) key) (0, .none)).2))).ps)
    have h2 := (fillBelowP_len (m := m) (w := w) (lf := decide (d = 0)) (PA := ps) (P := (holdP m w key held d (toTB (blockAt m (numD (ps.getD (placeN (keysT ps) key) (0, .none)).2))).ps).1) (key := key) (c := (holdP m w key held d (toTB (blockAt m (numD (ps.getD (placeN (keysT ps) key) (0, .none)).2))).ps).2)).1
    show (fillBelowP m w (decide (d = 0)) ps key _ _).2.after.length ≤ _
    omega
theorem rootP_len {lf : Bool} {row : PL} {c : Ch} : (rootP m w lf row c).after.length ≤ c.after.length + 4 := by
  unfold rootP
  split
  · have h1 := (fillP_len (m := m) (w := w) (lf := lf) (P := row) (N := []) (c := c)).1
    rw [List.length_nil] at h1
    refine Nat.le_trans putA_len ?_
    omega
  · split
    · refine Nat.le_trans putA_len ?_
      have := putA_len (a := c.after) (k := numD (row.getD 0 (0, .none)).2) (v := .none)
      omega
    · refine Nat.le_trans putA_len ?_
      omega
theorem upP_len : ∀ {ns : List Int} {lf : Bool} {row : PL} {c : Ch}, (upP m w key ns lf row c).after.length ≤ c.after.length + 4 * ns.length + 4
  | [], lf, row, c => by
    have := rootP_len (m := m) (w := w) (lf := lf) (row := row) (c := c)
    show (rootP m w lf row c).after.length ≤ _
    rw [List.length_nil]
    omega
  | n :: ns, lf, row, c => by
    have h2 := (fillBelowP_len (m := m) (w := w) (lf := lf) (PA := psAt m n) (P := row) (key := key) (c := c)).1
    unfold upP
    dsimp only
    rw [List.length_cons]
    split
    · omega
    · have := upP_len (ns := ns) (lf := false) (row := (fillBelowP m w lf (psAt m n) key row c).1) (c := (fillBelowP m w lf (psAt m n) key row c).2)
      omega
theorem upP_yes {n : Int} {ns : List Int} {lf : Bool} {row : PL} {c : Ch} (h : (fillBelowP m w lf (psAt m n) key row c).1 = psAt m n) : upP m w key (n :: ns) lf row c = (fillBelowP m w lf (psAt m n) key row c).2 := by
  unfold upP
  dsimp only
  rw [if_pos h]
theorem upP_no {n : Int} {ns : List Int} {lf : Bool} {row : PL} {c : Ch} (h : (fillBelowP m w lf (psAt m n) key row c).1 ≠ psAt m n) :
    upP m w key (n :: ns) lf row c = upP m w key ns false (fillBelowP m w lf (psAt m n) key row c).1 (fillBelowP m w lf (psAt m n) key row c).2 := by
  conv => lhs; unfold upP
  dsimp only
  rw [if_neg h]
/-- a level up -/
theorem holdP_succ {n : Int} {i : Nat} {ps : PL} (h : n = childN key ps) : holdP m w key held (i + 1) ps = fillBelowP m w (decide (i = 0)) ps key (holdP m w key held i (psAt m n)).1 (holdP m w key held i (psAt m n)).2 := by
  subst h
  rfl
/-- what stands at a level is a row of no more than one pair more -/
theorem AT.row (hw : 3 ≤ w) (hw2 : w ≤ 64) (ndm : (keysA m).Nodup) (sh : smP held) (hl : held.length ≤ 1) {n : Int} {R : List (Item d)} (X : AT m w d n R) :
    smP (holdP m w key held d (psAt m n)).1 ∧ (holdP m w key held d (psAt m n)).1.length ≤ 100 := by
  rw [X.ps]
  obtain ⟨S, c, e, H⟩ := run_hold (key := key) hw ndm sh hl d R X.inn X.two
  rw [e]
  have h1 := H.len
  have h2 := X.size
  refine ⟨H.sp.smc (heldP_sm X.inn.sm sh) fun _ h => h, ?_⟩
  show (contR d S).length ≤ 100
  rw [contR_len]
  omega
/-- the row left at the root: where it is one pair, the block it names -/
theorem TR.one (hw : 3 ≤ w) {P : PL} {R : List (Item d)} (T : TR w P m d R) (sh : smP held) (hl : held.length ≤ 1) (hd : decide (d = 0) = false) (h1 : (holdP m w key held d (psAt m 0)).1.length = 1) :
    ∃ (k n : Int) (b : TB), (holdP m w key held d (psAt m 0)).1 = [(k, .int n)] ∧ nowD m (holdP m w key held d (psAt m 0)).2 n = b.D ∧ (b.lf = true ∨ b.ps.length ≠ 1) ∧ smP b.ps := by
  rw [T.at.ps] at h1 ⊢
  obtain ⟨S, c, e, H⟩ := run_hold (key := key) hw T.blk.1 sh hl d R T.inn T.two
  rw [e] at h1 ⊢
  dsimp only at h1 ⊢
  have hd' : d ≠ 0 := of_decide_eq_false hd
  obtain ⟨d', rfl⟩ : ∃ d', d = d' + 1 := ⟨d - 1, by omega⟩
  rw [contR_len] at h1
  match S, h1, H with
  | [x], _, H =>
    obtain ⟨n, Rc, ex⟩ : ∃ n Rc, x = nodeI n Rc := ⟨x.1, x.2, rfl⟩
    subst ex
    have hr := (H.sp.rep _ (List.mem_singleton.mpr rfl)).1
    have hr : ov m c n = some (blkR d' Rc).D := hr
    have ho := H.sp.ok _ (List.mem_singleton.mpr rfl)
    have ho1 : halfI w ≤ (Rc.length : Int) := ho.1
    have smL : smP (heldP (leavesR (d' + 1) R) key held) := heldP_sm T.inn.sm sh
    refine ⟨firstP (leavesR d' Rc), n, blkR d' Rc, rfl, ?_, .inr ?_, ?_⟩
    · unfold ov at hr
      unfold nowD
      cases g : getA c.after n with
      | none =>
        rw [g] at hr
        dsimp only at hr ⊢
        rw [hr]
        rfl
      | some v =>
        rw [g] at hr
        cases v <;> first | (cases hr; rfl) | cases hr | exact Option.some.inj hr
    · show (contR d' Rc).length ≠ 1
      rw [contR_len]
      unfold halfI at ho1
      omega
    · show smP (contR d' Rc)
      cases d' with
      | zero =>
        have e1 : leavesR 1 [nodeI n Rc] = Rc := by
          rw [leavesR_cons]
          have : leavesR 0 Rc = Rc := leavesR_zero
          rw [this]
          exact List.append_nil _
        have := H.sp.leaves
        rw [e1] at this
        have e2 : contR 0 Rc = Rc := contR_zero
        rw [e2, this]
        exact smL
      | succ d' =>
        intro p hp
        obtain ⟨z, hz, rfl⟩ := List.mem_map.mp hp
        exact ⟨rfl, by simp [pairI, PyData.depth]⟩
/-- the changes of a whole request -/
noncomputable def reqC (m : BT) (w key : Int) (held : PL) (d : Nat) (ps : PL) : Ch := upP m w key (revN m key d 0 ps) true (heldP (leafP m key d ps) key held) ⟨[], 0⟩
/-- what a request tells -/
def Told (m : BT) (w : Int) (P : PL) (key : Int) (held : PL) (d : Nat) (R : List (Item d)) (t : BT) : Prop := ∃ (d' : Nat) (R' : List (Item d')) (c : Ch), t = toldA m c.after ∧ FR m w (heldP P key held) d' R' c (numsR d R) ∧
  (held ≠ [] → ∀ n, getA c.after n ≠ some .none) ∧ (held = [] → c.newest = 0)
theorem TR.told (hw : 3 ≤ w) {P : PL} {R : List (Item d)} (T : TR w P m d R) (sh : smP held) (hl : held.length ≤ 1) : Told m w P key held d R (toldA m (reqC m w key held d (contR d R)).after) := by
  obtain ⟨d', R', c, e, F, h1, h2⟩ := T.hold (key := key) hw sh hl
  refine ⟨d', R', c, ?_, F, h1, h2⟩
  unfold reqC
  rw [up_whole hw T sh hl, e]
end
def sp_Change_hold (K : PySem.W.Frag) (C : Addr) : Sp := fun vs H Q _ => ∃ (p b a : Addr) (w : Int) (m : BT) (PP : PL) (d : Nat) (R : List (Item d)) (key : Int) (h : Addr) (xs : List V) (held : PL), vs = [.ref p, .int key, .ref h] ∧ CS K C H p b a w m ⟨[], 0⟩ ∧ TR w PP m d R ∧
  H h = some (.lst xs) ∧ DpAll K H xs (rowD held) ∧ smP held ∧ held.length ≤ 1 ∧ 3 ≤ w ∧ w ≤ 64 ∧ PP.length ≤ 15000 ∧
  ∀ H', Oth2 p a H H' → CS K C H' p b a w m (reqC m w key held d (contR d R)) → Q .non H'
theorem Oth2.same {H0 H1 H2 : Hp} {p a : Addr} (o : Oth2 p a H1 H2) (s : Same H0 H1) (np : H0 p = none) (na : H0 a = none) : Same H0 H2 := fun b ob h => o b ob (ne_of_none h np) (ne_of_none h na) (s b ob h)
theorem CS.start {K : PySem.W.Frag} {H H' : Hp} {C p b a dx : Addr} {w : Int} {m : BT} (hb : Pd K H b m) (hm : Blk m) (hp : H p = some (.ins C dx [])) (o : Oth p H H') (hC : ChO C H' p b a w 0) (ha : H' a = some (.dK [])) (na : H a = none) : CS K C H' p b a w m ⟨[], 0⟩ := by
  have npb : b ≠ p := fun z => by
    obtain ⟨kvs, e, _⟩ := hb
    rw [z, hp] at e
    cases e
  have nba : b ≠ a := fun z => by
    obtain ⟨kvs, e, _⟩ := hb
    rw [z, na] at e
    cases e
  have f : Fx H H' := o.keep fun ob hpo z => by
    rw [hp] at z
    cases Option.some.inj z
    exact hpo
  exact ⟨hC, hb.othLne o npb f (fun q hq => (hm.2 q hq).1), ⟨[], ha, .nil⟩, nba, hm, (fun q hq => nomatch hq), List.nodup_nil⟩
theorem reqC_len {m : BT} {w : Int} {d : Nat} {key : Int} {held P : PL} {R : List (Item d)} (hw : 3 ≤ w) (T : TR w P m d R) (hP : P.length ≤ 15000) : (reqC m w key held d (contR d R)).after.length ≤ 90000 := by
  have h1 := T.deep hw
  unfold reqC
  refine Nat.le_trans upP_len ?_
  rw [← revN_way, List.length_reverse, List.length_dropLast, List.length_cons, way_len]
  show 0 + 4 * (d + 1 - 1) + 4 ≤ 90000
  omega
def sp_put_in (K : PySem.W.Frag) : Sp := fun vs H Q _ => ∃ (b : Addr) (m : BT) (w : Int) (PP : PL) (d : Nat) (R : List (Item d)) (key : Int) (v : V) (x : PyData), vs = [.ref b, .int w, .int key, v] ∧ Pd K H b m ∧ TR w PP m d R ∧ Dp K H v x ∧ strictD x = true ∧ PyData.depth x ≤ 5 ∧ 3 ≤ w ∧ w ≤ 64 ∧ PP.length ≤ 15000 ∧
  ∀ t T H', H t = none → Same H H' → Pd K H' t T → Told m w PP key [(key, x)] d R T → Q (.ref t) H'
def sp_drop_from (K : PySem.W.Frag) : Sp := fun vs H Q _ => ∃ (b : Addr) (m : BT) (w : Int) (PP : PL) (d : Nat) (R : List (Item d)) (key : Int), vs = [.ref b, .int w, .int key] ∧ Pd K H b m ∧ TR w PP m d R ∧ 3 ≤ w ∧ w ≤ 64 ∧ PP.length ≤ 15000 ∧
  ∀ t T H', H t = none → Same H H' → Pd K H' t T → Told m w PP key [] d R T → Q (.ref t) H'
/-- the value of a key by a row, or None -/
def valP (P : PL) (key : Int) : PyData := optD (getA P key)
def sp_value_in (K : PySem.W.Frag) : Sp := fun vs H Q _ => ∃ (b : Addr) (m : BT) (w : Int) (PP : PL) (d : Nat) (R : List (Item d)) (key : Int), vs = [.ref b, .int key] ∧ Pd K H b m ∧ TR w PP m d R ∧ 3 ≤ w ∧ w ≤ 64 ∧ PP.length ≤ 15000 ∧
  ∀ v H', Same H H' → Dp K H' v (valP PP key) → Q v H'
end My

set_option Elab.async false
set_option linter.all false
set_option maxRecDepth 100000
set_option maxHeartbeats 1000000
/-! enumerate(t) of a tuple t: the library's Begins and Draws, brought to the hand layer's turns -/
namespace MyE
open PySem PySem.Spec PyProof.Rows L2
/-- the two objects that enumerate(v) makes -/
def enumO (a : Addr) : Obj := { cls := .type "enumerate", data := .fields #[.none, .bool false, .ref a, rawInt 0, .none, .none] }
set_option maxHeartbeats 2000000 in
theorem one_new {v : Value} {ob : Obj} {G : Heap → Prop} (B : Begins v ob G) : Meets (Builtin.«enumerate.__new__» ⟨[.type "enumerate", v], []⟩)
    (fun _ R s => G s.heap ∧ R (.ok (.ret (.ref (s.heap.push ob).objs.size))) { s with heap := (s.heap.push ob).push (enumO s.heap.objs.size) }) := by
  refine .of_wp fun prog w A R s ⟨hG, hR⟩ => ?_
  obtain ⟨H0, g0, d0, t0, o0⟩ := s
  have known := sub_enumerate
  have begun : ∀ {A' : Around} {E Q : Value → Shared → Prop}, Q (.ref H0.objs.size) ⟨H0.push ob, g0, d0, t0, o0⟩ → wpAny (model prog w) A' (pyIter v) Q E ⟨H0, g0, d0, t0, o0⟩ := fun q => B.iter prog w _ _ ⟨H0, g0, d0, t0, o0⟩ _ hG q
  wp_walk using begun
  refine wpAny_stack_any fun _ => wpAny_pure ?_
  split
  case h_1 k _ _ _ _ _ => cases (k == Value.type "enumerate") <;> (wp_walk using begun; exact ⟨_, rfl, hR⟩)
  case h_2 => (wp_walk using begun; exact ⟨_, rfl, hR⟩)
theorem one_call {prog : Program} {w : World} {A : Around} {E : Value → Shared → Prop} {s : Shared} {v : Value} {ob : Obj} {G : Heap → Prop} {Q : Value → Shared → Prop} (B : Begins v ob G) (hG : G s.heap)
    (k : ∀ h2 : Heap, h2.get? (s.heap.objs.size + 1) = some (enumO s.heap.objs.size) → h2.get? s.heap.objs.size = some ob → (∀ c u, s.heap.get? c = some u → h2.get? c = some u) → Q (.ref (s.heap.objs.size + 1)) { s with heap := h2 }) :
    wpAny (model prog w) A (call (.type "enumerate") [v]) Q E s := by
  have size1 : (s.heap.push ob).objs.size = s.heap.objs.size + 1 := Heap.size_push ..
  have there : ((s.heap.push ob).push (enumO s.heap.objs.size)).get? (s.heap.objs.size + 1) = some (enumO s.heap.objs.size) := size1 ▸ Heap.get?_push_size (s.heap.push ob) (o := enumO s.heap.objs.size) rfl
  refine callType_new F.called_enumerate (by decide) (F.typeCall_enumerate_1 _) (F.newCall_enumerate_1 _) (fun obj => F.args_object_init_2 obj _) F.entry_enumerate_new (one_new B) ⟨hG, ?_⟩
  show _ ∧ _
  rw [size1]
  exact ⟨⟨_, there, rfl⟩, k _ there (Heap.get?_push_of_some _ (Heap.get?_push_size _ B.free)) fun c u z => Heap.get?_push_of_some _ (Heap.get?_push_of_some _ z)⟩
def IteT (K : PySem.W.Frag) (a : Addr) : It where
  go := fun i H => ∃ xs y, SqT K H a xs ∧ xs[i]? = some y
  yld := fun i H v H' => ∃ c y, v = .ref c ∧ H c = none ∧ H' = upd H c (.tup [.int (i : Nat), y]) ∧ ∀ xs, SqT K H a xs → xs[i]? = some y
  stop := fun i H => ∃ xs : List V, SqT K H a xs ∧ i = xs.length
/-- how the two objects stand ahead of turn i -/
def En (a e it : Addr) (i : Nat) (h : Heap) : Prop := (∃ old, IsEnum h e it (i : Int) old) ∧ h.IsTupleIter it a i ∧ e ≠ it ∧ e ≠ a ∧ a ≠ it
theorem two {b e it : Addr} (h : b ∈ [e, it]) : b = e ∨ b = it := by simpa using h
theorem En.there {a e it : Addr} {i : Nat} {h : Heap} (st : En a e it i h) : e < h.objs.size ∧ it < h.objs.size := by
  obtain ⟨⟨old, h1⟩, ⟨o, h2, _⟩, _⟩ := st
  exact ⟨Heap.lt_size h1, Heap.lt_size h2⟩
theorem turn_enumT {P : Program} {w : World} {K : PySem.W.Frag} {elts : List Expr} {kk : Nat} {tpos : Pos} (a e it : Addr) : Turn P w K (.Tuple elts kk tpos) (IteT K a) [e, it] e (En a e it) where
  mem := List.mem_cons_self
  obj := fun i h ⟨⟨_, h1⟩, ⟨o, h2, _, h3⟩, _⟩ b hb => (two hb).elim (fun z => z ▸ ⟨_, h1, fun _ q => nomatch q⟩) fun z => z ▸ ⟨o, h2, fun _ q => by rw [h3] at q; cases q⟩
  keep := fun i h h' ⟨⟨old, h1⟩, ⟨o, h2, r⟩, ne⟩ k => ⟨⟨old, k e (by simp) _ h1⟩, ⟨o, k it (by simp) o h2, r⟩, ne⟩
  item := by
    rintro X rfl rfl rfl calm i pins s σ H E I hf st ⟨xs, y, hxs, hy⟩
    obtain ⟨le, li⟩ := st.there
    obtain ⟨⟨old, h1⟩, h2, n1, n2, n3⟩ := st
    obtain ⟨vals, rel, tup, hz⟩ := I.tuple hxs
    obtain ⟨u, hu, ru⟩ := rel.get hy
    have D := Draws.tuple (prog := X.prog) (w := X.w) (A := X.A.in1) (I.ok.hd calm) it a n3 vals.toArray
    refine wpAny_pyNext_enum_itemC D h1 ⟨h2, tup⟩ (by simpa using (List.getElem?_eq_some_iff.mp hu).1) n1 (by simp [n1, n2]) fun x h3 tk hx out st3 pair sz3 keep3 => ?_
    obtain rfl : x = u := by
      have hx' : vals[i]? = some x := by simpa using hx
      exact Option.some.inj (hx'.symm.trans hu)
    refine ⟨_, rfl, wpAny_letOwnedTupleGo_enum (s := { s with heap := h3, toks := tk + 1 }) out fun h4 en4 same4 => ?_⟩
    have other : ∀ (b : Addr) (ob : Obj), ¬ b ∈ [e, it] → s.heap.get? b = some ob → h4.get? b = some ob := fun b ob nb z => by
      have nb1 : b ≠ e := fun q => nb (by simp [q])
      have nb2 : b ≠ it := fun q => nb (by simp [q])
      exact (same4.2 b nb1).trans (keep3 b ob nb1 nb2 z)
    have fresh : ObjOk X.prog X.w (upd H s.heap.objs.size (.tup [.int (i : Nat), y])) h4 s.heap.objs.size (.tup [.int (i : Nat), y]) :=
      ⟨Nat.le_trans (show 2 ≤ 100000 by decide) (by decide), [.int i tk, x], .cons ⟨_, rfl⟩ (.cons ru .nil), _, (same4.2 _ (Nat.ne_of_gt le)).trans pair, rfl, _, rfl⟩
    refine ⟨.ref s.heap.objs.size, _, I.turnedNew (t' := tk + 1) (ch := [e, it]) other hf (Nat.le_refl _) fresh, rfl, ⟨_, y, rfl, I.hok.fresh (Nat.le_refl _), rfl, fun ys hys => I.tuple_inj hys hxs ▸ hy⟩, ?_, fun b hb => ?_⟩
    · obtain ⟨o, ho, r⟩ := st3.1
      exact ⟨⟨x, by push_cast; exact en4⟩, ⟨o, (same4.2 it (Ne.symm n1)).trans ho, r⟩, n1, n2, n3⟩
    · rw [upd_ne ((two hb).elim (fun z => z ▸ Nat.ne_of_lt le) fun z => z ▸ Nat.ne_of_lt li)]
      exact (hf b hb).1
  done := by
    rintro X rfl rfl rfl calm i pins s σ H E I hf ⟨⟨old, h1⟩, h2, n1, n2, n3⟩ ⟨xs, hxs, hl⟩
    obtain ⟨vals, rel, tup, hz⟩ := I.tuple hxs
    have D := Draws.tuple (prog := X.prog) (w := X.w) (A := X.A.in1) (I.ok.hd calm) it a n3 vals.toArray
    have all : i = vals.toArray.size := by rw [hl, rel.length, List.size_toArray]
    obtain ⟨c0, c1, _, c3, c4, c5⟩ := hf it (by simp)
    exact wpAny_pyNext_enum_endD D h1 ⟨all ▸ h2, tup⟩ fun h3 ext => ⟨rfl, I.turned (t' := s.toks) (fun b ob nb z => ext b ob nb z) c0 c1 c3 c4 c5⟩
  self := fun A i s Q E ⟨⟨_, h1⟩, _⟩ k => wpAny_pyIter_enum h1 k
def iEnumT (K : PySem.W.Frag) (ta : TA) : TI := fun σ H R => ta σ H fun vs Ha => ∃ a xs, vs = [.ref a] ∧ SqT K Ha a xs ∧ R (IteT K a) Ha
theorem pi_enumT {X : Cx} {e : Expr} {ta : TA} {p pos tpos : Pos} {elts : List Expr} {kk : Nat} (hg : Gl X "enumerate") (hm : X.mg "enumerate" = none) (ha : PA X [e] ta) (hs : starEach [e] X.env = [(false, eval e X.env)] := by rfl) :
    PI X (.Tuple elts kk tpos) (.Call (.Name "enumerate" p) [e] [] pos) (iEnumT X.K ta) := by
  constructor
  intro pins s σ H R I h
  refine Call_ (ld_blt I hg hm boot_enumerate (PyProof.Rows.callWith_type1 (thn (ha.run pos pins s σ H _ I h) ?_) hs rfl))
  rintro us s1 ⟨_, Ha, Ia, rel, a, xs, rfl, hxs, q⟩
  obtain ⟨u, rfl, ru⟩ := vals1 rel
  cases ru
  obtain ⟨vals, _, tup, _⟩ := Ia.tuple hxs
  obtain ⟨_, held, _⟩ := id tup
  have la := Heap.lt_size held
  refine one_call (begins_tuple a vals.toArray) tup fun h2 z1 z2 keep => wpAny_pyIter_enum (i := 0) (old := .none) (it := s1.heap.objs.size) z1 ?_
  refine ⟨_, [s1.heap.objs.size + 1, s1.heap.objs.size], _, _, Ha, rfl, Ia.kept (t' := s1.toks) keep, turn_enumT a (s1.heap.objs.size + 1) s1.heap.objs.size, ⟨⟨.none, z1⟩, ⟨_, z2, rfl, rfl⟩, Nat.succ_ne_self _, Nat.ne_of_gt (Nat.lt_succ_of_lt la), Nat.ne_of_lt la⟩, fun b hb => ?_, q⟩
  have le : s1.heap.objs.size ≤ b := (two hb).elim (fun z => z ▸ Nat.le_succ _) fun z => z ▸ Nat.le_refl _
  exact Ia.fpOk le (Ia.hok.fresh le)
theorem walk_enumT {K : PySem.W.Frag} {a : Addr} {xs : List V} : Walk (IteT K a) xs.length (fun H => SqT K H a xs) (YPair (fun i => some (.int (i : Nat))) (fun i => xs[i]?)) where
  goes := fun i _ hi q => ⟨xs, xs[i], q, List.getElem?_eq_getElem hi⟩
  stops := fun _ q => ⟨xs, q, rfl⟩
  yields := fun i H v H' _ q ⟨c, y, z1, z2, z3, z4⟩ => ⟨c, .int (i : Nat), y, z1, z2, z3, rfl, z4 xs q⟩
theorem walk_revT {K : PySem.W.Frag} {a : Addr} {xs : List V} : Walk (RT.ItvT K a xs.length) xs.length (fun H => SqT K H a xs) (fun i H x H' => H' = H ∧ xs[xs.length - 1 - i]? = some x) where
  goes := fun i _ hi q => ⟨hi, xs, _, q, List.getElem?_eq_getElem (show xs.length - 1 - i < xs.length by omega)⟩
  stops := fun _ _ => Nat.le_refl _
  yields := fun _ _ _ _ _ q y => ⟨y.1, y.2 xs q⟩
end MyE

set_option Elab.async false
set_option linter.all false
set_option maxRecDepth 100000
set_option maxHeartbeats 1000000
/-! the law's own walk of a tree, told of data -/
namespace My
open PySem L2
/-! isinstance of plain things; walks of tuples -/
section
variable {K : PySem.W.Frag} {σ : L2.St} {H : Hp} {Q : VK} {D : Ends} {t : TS} {g : TG} {ta : TA} {te : TE} {a : Addr} {xs : List V}
theorem g_isiI {i : Int} (q : Q (.bl true) H) : rIsi K [.int i, .ty "int"] H Q := g_isi (.ty "int") (.base (.int i)) (kit_ty (by decide +kernel)) q
theorem g_isiIB {i : Int} (q : Q (.bl false) H) : rIsi K [.int i, .ty "bool"] H Q := g_isi (.ty "bool") (.base (.int i)) (kit_ty (by decide +kernel)) q
theorem g_isiS {z : Str} (q : Q (.bl true) H) : rIsi K [.str z, .ty "str"] H Q := g_isi (.ty "str") (.base (.str z)) (kit_ty (by decide +kernel)) q
def wET (K : PySem.W.Frag) (R : It → Hp → Prop) : List V → Hp → Prop := fun vs H1 => ∃ a xs, vs = [.ref a] ∧ SqT K H1 a xs ∧ R (MyE.IteT K a) H1
theorem g_wET {R : It → Hp → Prop} (q : ta σ H (wET K R)) : MyE.iEnumT K ta σ H R := q
theorem g_forETk (Pv : Nat → L2.St → Hp → Prop) (hx : SqT K H a xs) (h0 : Pv 0 σ H) (hl : ∀ i σ' H', i ≤ xs.length → Pv i σ' H' → SqT K H' a xs)
    (hs : ∀ i x σ' H' T H2, xs[i]? = some x → Pv i σ' H' → H' T = none → Same H' H2 → H2 T = some (.tup [.int (i : Int), x]) → g (.ref T) σ' H2 fun σ2 H2 => t { D with nx := Pv (i + 1), ct := Pv (i + 1), bk := D.nx } σ2 H2)
    (hd : ∀ σ' H', Pv xs.length σ' H' → D.nx σ' H') : wET K (forR g t D σ) [.ref a] H :=
  ⟨a, xs, rfl, hx, g_forW MyE.walk_enumT Pv h0 hl (fun i v σ' H' H2 hi hp hy => by
    obtain ⟨T, x, y, rfl, hT, rfl, e1, e2⟩ := hy
    cases Option.some.inj e1
    exact hs i y σ' H' T _ e2 hp hT (Same.new hT _) upd_same) hd⟩
def wVA (K : PySem.W.Frag) (R : It → Hp → Prop) : VK := fun v H1 => ∃ (a : Addr) (xs : List V), v = .ref a ∧ ((SqL K H1 a xs ∧ R (Itv K a xs.length) H1) ∨ (SqT K H1 a xs ∧ R (RT.ItvT K a xs.length) H1))
theorem g_wVA {R : It → Hp → Prop} (q : te σ H (wVA K R)) : RT.iRevA K te σ H R := q
theorem g_forVTk (Pv : Nat → L2.St → Hp → Prop) (hx : SqT K H a xs) (h0 : Pv 0 σ H) (hl : ∀ i σ' H', i ≤ xs.length → Pv i σ' H' → SqT K H' a xs)
    (hs : ∀ i x σ' H', i < xs.length → xs[xs.length - 1 - i]? = some x → Pv i σ' H' → g x σ' H' fun σ2 H2 => t { D with nx := Pv (i + 1), ct := Pv (i + 1), bk := D.nx } σ2 H2)
    (hd : ∀ σ' H', Pv xs.length σ' H' → D.nx σ' H') : wVA K (forR g t D σ) (.ref a) H :=
  ⟨a, xs, rfl, .inr ⟨hx, g_forW MyE.walk_revT Pv h0 hl (fun i v σ' H' H2 hi hp hy => by
    obtain ⟨rfl, e⟩ := hy
    exact hs i v σ' _ hi e hp) hd⟩⟩
end
theorem dpAll_snoc {K : PySem.W.Frag} {H : Hp} {xs : List V} {ds : List PyData} {d : PyData} (h : DpAll K H xs (ds ++ [d])) : ∃ ys y, xs = ys ++ [y] ∧ DpAll K H ys ds ∧ Dp K H y d := by
  induction ds generalizing xs with
  | nil =>
    obtain ⟨y, rfl, hy⟩ := dpAll_one h
    exact ⟨[], y, rfl, .nil, hy⟩
  | cons e ds ih =>
    cases h with
    | cons h1 h2 =>
      obtain ⟨ys, y, rfl, h3, h4⟩ := ih h2
      exact ⟨_ :: ys, y, rfl, .cons h1 h3, h4⟩
/-! what is still to be walked -/
structure Nd where
  h : Nat
  n : Int
  R : List (Item h)
def leavesN (S : List Nd) : PL := S.flatMap fun e => leavesR e.h e.R
def numsN (S : List Nd) : List Int := S.flatMap fun e => e.n :: numsR e.h e.R
def kidN {d : Nat} (c : Item (d + 1)) : Nd := ⟨d, Prod.fst (show Int × List (Item d) from c), Prod.snd (show Int × List (Item d) from c)⟩
def kidsN {d : Nat} (R : List (Item (d + 1))) : List Nd := R.map kidN
def entN (d : Nat) (e : Nd) : PyData := .tuple [.int e.n, .int ((d : Int) - (e.h : Int)), if e.n = 0 then .none else .int (firstP (leavesR e.h e.R))]
structure OkN (m : BT) (w : Int) (d : Nat) (e : Nd) : Prop where
  at_ : AT m w e.h e.n e.R
  half : e.n = 0 ∨ halfI w ≤ (e.R.length : Int)
  le : e.h ≤ d
section
variable {m : BT} {w : Int} {d : Nat} {P : PL}
theorem leavesN_cons {e : Nd} {S : List Nd} : leavesN (e :: S) = leavesR e.h e.R ++ leavesN S := rfl
theorem numsN_cons {e : Nd} {S : List Nd} : numsN (e :: S) = e.n :: (numsR e.h e.R ++ numsN S) := rfl
theorem leavesN_app {A B : List Nd} : leavesN (A ++ B) = leavesN A ++ leavesN B := List.flatMap_append ..
theorem numsN_app {A B : List Nd} : numsN (A ++ B) = numsN A ++ numsN B := List.flatMap_append ..
theorem kids_leaves {d : Nat} {R : List (Item (d + 1))} : leavesN (kidsN R) = leavesR (d + 1) R := by
  induction R with
  | nil => rfl
  | cons c R ih =>
    show leavesI (d + 1) c ++ leavesN (kidsN R) = leavesI (d + 1) c ++ leavesR (d + 1) R
    rw [ih]
theorem kids_nums {d : Nat} {R : List (Item (d + 1))} : numsN (kidsN R) = numsR (d + 1) R := by
  induction R with
  | nil => rfl
  | cons c R ih =>
    show numsI (d + 1) c ++ numsN (kidsN R) = numsI (d + 1) c ++ numsR (d + 1) R
    rw [ih]
theorem kid_ok (hw : 3 ≤ w) {h : Nat} {n : Int} {R : List (Item (h + 1))} (X : AT m w (h + 1) n R) (hd : h + 1 ≤ d) : ∀ e ∈ kidsN R, OkN m w d e := fun e he => by
  obtain ⟨z, hz, rfl⟩ := List.mem_map.mp he
  obtain ⟨k, Rc, ez⟩ : ∃ k Rc, z = nodeI k Rc := ⟨z.1, z.2, rfl⟩
  subst ez
  obtain ⟨A, B, e⟩ := List.append_of_mem hz
  have I2 : IN m w (h + 1) (A ++ ([nodeI k Rc] ++ B)) := by
    have := X.inn
    rw [e] at this
    exact this
  obtain ⟨Ic, gn, hc1, hc2, nk, nc⟩ := (I2.app.2.app.1).node
  have h1w : 2 ≤ halfI w := by unfold halfI; omega
  exact ⟨⟨gn, Ic, fun _ => by show 2 ≤ Rc.length; omega, hc2⟩, .inr hc1, by show h ≤ d; omega⟩
/-- how many blocks there are -/
theorem TR.count {R : List (Item d)} (T : TR w P m d R) : m.length = (numsR d R).length + 1 := by
  have h0 : (0 : Int) ∉ numsR d R := fun z => by have := T.pos 0 z; omega
  have nd : (0 :: numsR d R).Nodup := List.nodup_cons.mpr ⟨h0, T.nums⟩
  have h1 := nodup_sub_len T.blk.1 (l2 := 0 :: numsR d R) fun k hk => by
    rcases T.all k hk with e | e
    · rw [e]; exact List.mem_cons_self
    · exact List.mem_cons_of_mem _ e
  have h2 := nodup_sub_len nd (l2 := keysA m) fun k hk => by
    rcases List.mem_cons.mp hk with e | e
    · rw [e]; exact mem_keysA.mpr (by rw [T.root]; rfl)
    · exact T.inn.mem k e
  have e : (keysA m).length = m.length := List.length_map ..
  rw [List.length_cons] at h1 h2
  omega
theorem TR.nd0 {R : List (Item d)} (T : TR w P m d R) : (0 :: numsR d R).Nodup := List.nodup_cons.mpr ⟨fun z => by have := T.pos 0 z; omega, T.nums⟩
end
/-- pairs as a law's walk asks them: values are texts, numbers below -/
def strP (P : PL) : Prop := ∀ p ∈ P, ∃ z, p.2 = .str z
theorem AT.kind {m : BT} {w : Int} {d : Nat} {n : Int} {R : List (Item d)} (X : AT m w d n R) (hs : d = 0 → strP (contR d R)) : ∀ p ∈ contR d R, (d = 0 → ∃ z, p.2 = .str z) ∧ (d ≠ 0 → ∃ k, p.2 = .int k) := fun p hp => by
  refine ⟨fun h => hs h p hp, fun h => ?_⟩
  obtain ⟨z, _, rfl⟩ := List.mem_map.mp hp
  cases d with
  | zero => exact absurd rfl h
  | succ d => exact ⟨z.1, rfl⟩
def sp_l_whole : Sp := fun vs H Q _ => ∃ i : Int, vs = [.int i] ∧ Q (.bl true) H
def sp_l_good (K : PySem.W.Frag) : Sp := fun vs H Q _ => ∃ (v : V) (tb : TB) (l u : Int), vs = [v, .int l, .int u] ∧ Dp K H v tb.D ∧ l ≤ (tb.ps.length : Int) ∧ (tb.ps.length : Int) ≤ u ∧ tb.ps.length ≤ 1000 ∧ (keysT tb.ps).Pairwise (· < ·) ∧
  (∀ p ∈ tb.ps, (tb.lf = true → ∃ z, p.2 = .str z) ∧ (tb.lf = false → ∃ k, p.2 = .int k)) ∧ ∀ H', Same H H' → Q (.bl true) H'
def sp_l_row_of (K : PySem.W.Frag) : Sp := fun vs H Q _ => ∃ (b : Addr) (w : Int) (m : BT) (P : PL) (d : Nat) (R : List (Item d)), vs = [.ref b, .int w] ∧ Dd K H b m ∧ TR w P m d R ∧ strP P ∧ 3 ≤ w ∧ w ≤ 64 ∧ P.length ≤ 15000 ∧ m.length ≤ 90000 ∧
  ∀ q ys H', H q = none → Same H H' → H' q = some (.lst ys) → DpAll K H' ys (rowD P) → Q (.ref q) H'
/-- what is held of a key: a row of one pair, or of none -/
def heldV (key : Int) (x : PyData) : PL := match x with
  | .none => []
  | x => [(key, x)]
def sp_l_held (K : PySem.W.Frag) : Sp := fun vs H Q _ => ∃ (r : Addr) (xs : List V) (P : PL) (key : Int) (v : V) (x : PyData), vs = [.ref r, .int key, v] ∧ SqL K H r xs ∧ DpAll K H xs (rowD P) ∧ smP P ∧ P.length ≤ 15000 ∧ Dp K H v x ∧ strictD x = true ∧ PyData.depth x ≤ 5 ∧
  ∀ q ys H', H q = none → Same H H' → H' q = some (.lst ys) → DpAll K H' ys (rowD (heldP P key (heldV key x))) → Q (.ref q) H'
def sp_l_numbered (K : PySem.W.Frag) : Sp := fun vs H Q _ => ∃ (b t : Addr) (m T : BT) (w : Int) (P : PL) (key : Int) (held : PL) (d : Nat) (R : List (Item d)), vs = [.ref b, .ref t] ∧ Dd K H b m ∧ Dd K H t T ∧ TR w P m d R ∧ Told m w P key held d R T ∧ 3 ≤ w ∧ m.length ≤ 15000 ∧ T.length ≤ 15000 ∧
  ∀ H', Same H H' → Q (.bl true) H'
def sp_l_behind (K : PySem.W.Frag) : Sp := fun vs H Q _ => ∃ (b t : Addr) (m T : BT), vs = [.ref b, .ref t] ∧ Dd K H b m ∧ Dd K H t T ∧ (keysA T).Nodup ∧ Blk m ∧ (∀ p ∈ T, okD p.2) ∧ m.length ≤ 15000 ∧ T.length ≤ 15000 ∧
  ∀ o H', H o = none → Same H H' → Dd K H' o (behindA m T) → Q (.ref o) H'
def sp_l_listed (K : PySem.W.Frag) : Sp := fun vs H Q _ => ∃ (b r : Addr) (xs : List V) (key w : Int) (m : BT) (P : PL) (d : Nat) (R : List (Item d)), vs = [.ref b, .ref r, .int key] ∧ Pd K H b m ∧ SqL K H r xs ∧ DpAll K H xs (rowD P) ∧ TR w P m d R ∧ strP P ∧ 3 ≤ w ∧ w ≤ 64 ∧ P.length ≤ 15000 ∧
  ∀ H', Same H H' → Q (.bl true) H'
/-! the signs of the law's values -/
def someL : List Nat := ((Str.ofString " !\"#$&'()*+,-./0123456789:;<=>?@ABCDEFGHIJKLMNOPQRSTUVWXYZ[\\]^_`") ++ (Str.ofString "abcdefghijklmnopqrstuvwxyz{|}~")).cps.toList
theorem someL_len : someL.length = 94 := by decide +kernel
theorem someL_ok : someL.all signOk = true := by decide +kernel
def signsF (f : Nat → Int) (n : Nat) : List Nat := (List.range n).map fun k : Nat => someL.getD (f k % 94).toNat 0
theorem signsF_len (f : Nat → Int) (n : Nat) : (signsF f n).length = n := by unfold signsF; rw [List.length_map, List.length_range]
theorem signsF_ok (f : Nat → Int) (n : Nat) : (signsF f n).all signOk = true := by
  rw [List.all_eq_true]
  intro x hx
  obtain ⟨k, _, rfl⟩ := List.mem_map.mp hx
  have h1 := Int.emod_nonneg (f k) (show (94 : Int) ≠ 0 by decide)
  have h2 := Int.emod_lt_of_pos (f k) (show (0 : Int) < 94 by decide)
  have h3 : (f k % 94).toNat < someL.length := by rw [someL_len]; omega
  rw [List.getD_eq_getElem?_getD, List.getElem?_eq_getElem h3]
  exact List.all_eq_true.mp someL_ok _ (List.getElem_mem h3)
theorem bits_small {a : Int} (h1 : 0 ≤ a) (h2 : a ≤ 100000) : Builtin.Int.intBits a ≤ 10000000 := by
  unfold Builtin.Int.intBits
  split
  · exact Nat.zero_le _
  · rename_i h
    have hne : a ≠ 0 := fun z => h (by rw [z]; rfl)
    have : a.natAbs.log2 < 20 := by
      rw [Nat.log2_lt (by omega)]
      omega
    omega
theorem smallMul {a b : Int} (h1 : 0 ≤ a) (h2 : a ≤ 100) (h3 : 0 ≤ b) (h4 : b ≤ 100000) : IntMulOk a b := mulBits (bits_small h1 (by omega)) (bits_small h3 h4)
def sp_l_value_by : Sp := fun vs H Q _ => ∃ c : Int, vs = [.int c] ∧ Builtin.Int.intBits c ≤ 9000000 ∧ ∀ z H', Same H H' → isValD (.str z) = true → Q (.str z) H'
theorem strok_val {z : Str} (h : isValD (.str z) = true) : PyData.strOk z = true := by
  have h' : (decide (z.length ≤ 60) && z.cps.toList.all signOk) = true := h
  rw [Bool.and_eq_true] at h'
  unfold PyData.strOk
  rw [← Array.all_toList, List.all_eq_true]
  intro c hc
  have := List.all_eq_true.mp h'.2 c hc
  unfold signOk at this
  rw [Bool.and_eq_true, decide_eq_true_eq, decide_eq_true_eq] at this
  exact decide_eq_true (by omega)
theorem held_strict {lf : Bool} {d : PyData} (h : heldD (wordT lf) d = true) : strictD d = true := by
  unfold heldD at h
  split at h
  · cases d <;> first | (simp only [strictD]; exact strok_val h) | cases h
  · cases d <;> first | rfl | cases h
end My

set_option Elab.async false
set_option linter.all false
set_option maxRecDepth 100000
set_option maxHeartbeats 1000000
/-! tables behind, numbers: counts -/
namespace My
open PySem L2
theorem dropA_len {a : BT} {n : Int} : (dropA a n).length ≤ a.length := List.length_filter_le ..
theorem layB_none {a : BT} {n : Int} : layB a n .none = dropA a n := rfl
theorem layB_some {a : BT} {n : Int} {v : PyData} (h : v ≠ .none) : layB a n v = putA (dropA a n) n v := by
  unfold layB
  cases v <;> first | rfl | exact absurd rfl h
theorem dp_some {K : PySem.W.Frag} {H : Hp} {z : V} {v : PyData} (h : Dp K H z v) (hv : v ≠ .none) : decide (z = V.non) = false := by
  rw [Dp.notNone h]
  cases v <;> first | rfl | exact absurd rfl hv
theorem dp_none {K : PySem.W.Frag} {H : Hp} {z : V} (h : Dp K H z .none) : z = .non := by
  cases h
  rfl
theorem dp_same {K : PySem.W.Frag} {H : Hp} {v v2 : V} {d : PyData} (h : Dp K H v d) (h2 : Dp K H v2 d) (hs : v = .non ∨ ∃ z, v = .str z) : v2 = v := by
  rcases hs with rfl | ⟨z, rfl⟩
  · cases h
    cases h2
    rfl
  · cases h
    cases h2
    rfl
theorem heldV_some {key : Int} {x : PyData} (h : x ≠ .none) : heldV key x = [(key, x)] := by
  unfold heldV
  cases x <;> first | rfl | exact absurd rfl h
theorem layB_len {a : BT} {n : Int} {v : PyData} : (layB a n v).length ≤ a.length + 1 := by
  have h1 := dropA_len (a := a) (n := n)
  cases v with
  | none =>
    show (dropA a n).length ≤ _
    omega
  | _ =>
    refine Nat.le_trans (show _ ≤ (dropA a n).length + 1 from putA_len) ?_
    omega
theorem behind_len' : ∀ {t m : BT}, (behindA m t).length ≤ m.length + t.length
  | [], m => Nat.le_refl _
  | p :: t, m => by
    have h1 := behind_len' (t := t) (m := layB m p.1 p.2)
    have h2 := layB_len (a := m) (n := p.1) (v := p.2)
    show (behindA (layB m p.1 p.2) t).length ≤ _
    rw [List.length_cons]
    omega
theorem behind_len {t m : BT} {i : Nat} : (behindA m (t.take i)).length ≤ m.length + i := by
  refine Nat.le_trans behind_len' ?_
  rw [List.length_take]
  omega
/-! the numbers of what is told -/
section
variable {m T : BT} {w : Int} {d : Nat} {P held : PL} {key : Int} {R : List (Item d)}
theorem notin_dec {n : Int} : (!(getA m n).isSome) = decide (n ∉ keysA m) := by
  cases h : (getA m n).isSome with
  | true => rw [decide_eq_false (p := n ∉ keysA m) (fun z => z (mem_keysA.mpr h))]; rfl
  | false => rw [decide_eq_true (p := n ∉ keysA m) (fun z => by rw [mem_keysA.mp z] at h; cases h)]; rfl
/-- the numbers told that no block had -/
def newsA (m T : BT) : List Int := (keysA T).filter fun n => decide (n ∉ keysA m)
def isGone (T : BT) (n : Int) : Bool := match getA T n with
  | some .none => true
  | _ => false
theorem isGone_some {n : Int} {v : PyData} (h : getA T n = some v) (hv : v ≠ .none) : isGone T n = false := by
  unfold isGone
  rw [h]
  cases v <;> first | rfl | exact absurd rfl hv
theorem isGone_none {n : Int} (h : getA T n = some .none) : isGone T n = true := by
  unfold isGone
  rw [h]
theorem isGone_not {n : Int} (h : getA T n ≠ some .none) : ¬ isGone T n = true := by
  cases g : getA T n with
  | none => unfold isGone; rw [g]; simp
  | some v => rw [isGone_some g fun z => h (by rw [g, z])]; simp
def goneA (T : BT) : List Int := (keysA T).filter (isGone T)
theorem Told.nd (h : Told m w P key held d R T) : (keysA T).Nodup := by
  obtain ⟨d', R', c, rfl, F, _, _⟩ := h
  exact told_nodup F.ndk
theorem Told.ok (h : Told m w P key held d R T) : ∀ p ∈ T, okD p.2 := by
  obtain ⟨d', R', c, rfl, F, _, _⟩ := h
  exact fun p hp => F.vals p (List.mem_filter.mp hp).1
theorem Told.other (h : Told m w P key held d R T) : ∀ p ∈ T, p.2 ≠ optD (getA m p.1) := by
  obtain ⟨d', R', c, rfl, F, _, _⟩ := h
  exact fun p hp => told_other hp
theorem perm_rise {a b : List Int} (hp : a.Perm b) (ha : a.Pairwise (· ≤ ·)) (na : a.Nodup) (hb : b.Pairwise (· < ·)) : a = b := by
  refine rise_ext ?_ hb fun x => hp.mem_iff
  rw [List.pairwise_iff_getElem] at ha ⊢
  rw [List.nodup_iff_pairwise_ne, List.pairwise_iff_getElem] at na
  intro i j hi hj hij
  have h1 := ha i j hi hj hij
  have h2 := na i j hi hj hij
  omega
/-- the new ones, sorted, are the least that were free -/
theorem Told.news (h : Told m w P key held d R T) (X : TR w P m d R) : ∃ k, 0 ≤ k ∧ (newsA m T).Perm (newL m k) ∧ (newL m k).length ≤ T.length := by
  obtain ⟨d', R', c, rfl, F, _, _⟩ := h
  have nd : (newsA m (toldA m c.after)).Nodup := (told_nodup F.ndk).filter _
  have hp : (newsA m (toldA m c.after)).Perm (newL m c.newest) := by
    rw [List.perm_ext_iff_of_nodup nd newL_nodup]
    intro n
    unfold newsA
    rw [List.mem_filter, decide_eq_true_eq]
    exact F.news X
  refine ⟨c.newest, F.low, hp, ?_⟩
  rw [← hp.length_eq]
  unfold newsA
  refine Nat.le_trans (List.length_filter_le ..) ?_
  unfold keysA
  rw [List.length_map]
  exact Nat.le_refl _
theorem Told.apart (h : Told m w P key held d R T) (X : TR w P m d R) : goneA T = [] ∨ newsA m T = [] := by
  obtain ⟨d', R', c, rfl, F, h1, h2⟩ := h
  rcases F.apart (P := P) h1 h2 with q | q
  · exact .inl (List.filter_eq_nil_iff.mpr fun n _ => isGone_not (q n))
  · refine .inr (List.filter_eq_nil_iff.mpr fun n hn => ?_)
    have : ¬ (n ∈ keysA (toldA m c.after) ∧ n ∉ keysA m) := fun z => by
      have := (F.news X).mp z
      rw [q] at this
      cases this
    simp only [decide_eq_true_eq]
    exact fun z => this ⟨hn, z⟩
/-- the table behind what is told -/
theorem Told.tr (hw : 3 ≤ w) (h : Told m w P key held d R T) (X : TR w P m d R) (hh : held = [] ∨ ∃ v, held = [(key, v)] ∧ isKeyD (.int key) = true ∧ heldD (wordT true) v = true) (sh : smP held) :
    ∃ (d' : Nat) (R' : List (Item d')), TR w (heldP P key held) (behindA m T) d' R' := by
  obtain ⟨d', R', c, rfl, F, _, _⟩ := h
  exact ⟨d', R', X.behind hw F hh sh⟩
end
theorem dpAll_intsI {K : PySem.W.Frag} {H : Hp} : ∀ (N : List Int), DpAll K H (N.map V.int) (N.map PyData.int)
  | [] => .nil
  | n :: N => .cons (.int n) (dpAll_intsI N)
/-- a comprehension over range(lo, hi) with a test: the numbers that meet it -/
theorem g_lcR2F {K : PySem.W.Frag} {σ : L2.St} {H : Hp} {Q : VK} {tt : TT} {te : TE} {vs : List Nat} {j : Nat} {lo hi : Int} (f : Int → Bool) (hn : 0 ≤ lo ∧ lo ≤ 100000 ∧ 0 ≤ hi ∧ hi ≤ 40000)
    (ht : ∀ (n : Int) (H' : Hp) (QB : Bool → Hp → Prop), Same H H' → QB (f n) H' → tt ((wipe σ vs).set j (some (.int n))) H' QB)
    (he : ∀ (n : Int) (H' : Hp) (QE : VK), Same H H' → QE (.int n) H' → te ((wipe σ vs).set j (some (.int n))) H' QE)
    (hw : ∀ x, wipe ((wipe σ vs).set j (some x)) vs = wipe σ vs)
    (q : ∀ p H1, H p = none → Same H H1 → H1 p = some (.lst ((((List.range (hi - lo).toNat).map fun i : Nat => lo + (i : Int)).filter f).map V.int)) → Q (.ref p) H1) :
    wR2 (lcR (gName j) tt te vs σ Q) [.int lo, .int hi] H := by
  have hlen : (hi - lo).toNat ≤ 40000 := by omega
  refine ⟨lo, hi, rfl, ⟨by omega, by omega, by omega, by omega⟩, g_lcDW (K := K) (walk_range (lo := lo) (n := (hi - lo).toNat)) (fun i => ((((List.range i).map fun i : Nat => lo + (i : Int)).filter f).map PyData.int)) hlen (fun _ _ => trivial) rfl (fun i _ => strictAll_iff.mpr fun y hy => ?_) (fun i _ => ?_) (fun i x H1 H2 QN QE hi' s y kn ke => ?_) (fun p ys H1 n1 s1 e1 d1 => ?_)⟩
  · obtain ⟨_, _, rfl⟩ := List.mem_map.mp hy
    rfl
  · rw [List.length_map]
    refine Nat.le_trans (List.length_filter_le ..) ?_
    rw [List.length_map, List.length_range]
    exact Nat.le_refl _
  · obtain ⟨rfl, rfl⟩ := y
    have et : (List.range (i + 1)).map (fun i : Nat => lo + (i : Int)) = (List.range i).map (fun i : Nat => lo + (i : Int)) ++ [lo + (i : Int)] := by
      rw [List.range_succ, List.map_append]
      rfl
    refine g_name ⟨hw _, ht (lo + (i : Int)) H2 _ s ?_⟩
    cases hf : f (lo + (i : Int)) with
    | true =>
      refine iteT (he _ H2 _ s (ke _ (.int (lo + (i : Int))) _ ?_ (L2.Same.refl _) (.int _)))
      rw [et, List.filter_append, List.filter_cons, if_pos hf, List.map_append]
      rfl
    | false =>
      refine iteF (kn ?_ _ (L2.Same.refl _))
      rw [et, List.filter_append, List.filter_cons, if_neg (by rw [hf]; decide)]
      simp
  · have e := dpAll_ints d1
    subst e
    exact q p H1 n1 s1 e1
theorem newL_free {m : BT} {x : Int} : ((List.range x.toNat).map fun i : Nat => (1 : Int) + (i : Int)).filter (fun n => !(getA m n).isSome) = newL m x := by
  have e1 : ((List.range x.toNat).map fun i : Nat => (1 : Int) + (i : Int)) = ((List.range x.toNat).map fun i : Nat => (i : Int) + 1) := List.map_congr_left fun i _ => Int.add_comm _ _
  rw [e1]
  unfold newL
  exact List.filter_congr fun n _ => notin_dec
theorem g_forR2k {σ : L2.St} {H : Hp} {D : Ends} {t : TS} {j : Nat} {lo hi : Int} (Pv : Nat → L2.St → Hp → Prop) (hn : 0 ≤ lo ∧ lo ≤ 100000 ∧ 0 ≤ hi ∧ hi ≤ 1000000) (h0 : Pv 0 σ H)
    (hs : ∀ (i : Nat) σ' H', lo + (i : Int) < hi → Pv i σ' H' → t { D with nx := Pv (i + 1), ct := Pv (i + 1), bk := D.nx } (σ'.set j (some (.int (lo + (i : Int))))) H') (hd : ∀ σ' H', Pv (hi - lo).toNat σ' H' → D.nx σ' H') : wR2 (forR (gName j) t D σ) [.int lo, .int hi] H :=
  ⟨lo, hi, rfl, ⟨by omega, by omega, by omega, by omega⟩, g_forW (walk_range (lo := lo) (n := (hi - lo).toNat)) Pv h0 (fun _ _ _ _ _ => trivial) (fun i x σ' H1 H2 hi' hp y => by
    obtain ⟨rfl, rfl⟩ := y
    exact hs i σ' _ (by omega) hp) hd⟩
/-! what the law's walk has in hand -/
section
variable {m : BT} {w : Int} {d : Nat} {P : PL}
theorem entN_strict {e : Nd} : strictD (entN d e) = true := by
  unfold entN
  split <;> rfl
theorem entsN_strict {S : List Nd} : strictAll ((S.map (entN d)).reverse) = true := strictAll_iff.mpr fun y hy => by
  obtain ⟨e, _, rfl⟩ := List.mem_map.mp (List.mem_reverse.mp hy)
  exact entN_strict
theorem nums_ge : ∀ {S : List Nd}, S.length ≤ (numsN S).length
  | [] => Nat.le_refl _
  | e :: S => by
    have := nums_ge (S := S)
    rw [numsN_cons, List.length_cons, List.length_cons, List.length_append]
    omega
theorem word_leaf0 {h : Nat} : decide (V.str (wordT (decide (h = 0))) = V.str (Str.ofString "leaf")) = decide (h = 0) := by
  by_cases c : h = 0
  · rw [decide_eq_true c]; decide +kernel
  · rw [decide_eq_false c]; decide +kernel
theorem kids_len {d : Nat} {R : List (Item (d + 1))} : (kidsN R).length = R.length := List.length_map ..
end
theorem seenD_move {K : PySem.W.Frag} {H H' : Hp} {a c : Addr} {r : List Int} (h : Dd K H a (seenD r)) (o : Oth c H H') (n : a ≠ c) : Dd K H' a (seenD r) := by
  obtain ⟨kvs, h1, h2⟩ := h
  refine ⟨kvs, o _ _ n h1, h2.map fun {v d} hv hk => ?_⟩
  obtain ⟨k, hk⟩ := hk
  obtain ⟨j, _, e⟩ := List.mem_map.mp hk
  cases e
  cases hv
  exact .bl _
end My

set_option Elab.async false
set_option linter.all false
set_option maxRecDepth 100000
set_option maxHeartbeats 1000000
/-! counts of blocks and of what is told -/
namespace My
open PySem L2
section
variable {m T : BT} {w : Int} {d : Nat} {P held : PL} {key : Int} {R : List (Item d)}
theorem numsI_le (hw : 3 ≤ w) : ∀ {d : Nat} {x : Item d}, okI w d x → (numsI d x).length + 1 ≤ (leavesI d x).length
  | 0, x, _ => Nat.le_refl _
  | d + 1, c, h => by
    obtain ⟨n, R, rfl⟩ : ∃ n R, c = nodeI n R := ⟨c.1, c.2, rfl⟩
    have h1 : halfI w ≤ (R.length : Int) := h.1
    have h2 : ∀ x ∈ R, okI w d x := h.2.2
    have key : ∀ R : List (Item d), (∀ x ∈ R, okI w d x) → (numsR d R).length + R.length ≤ (leavesR d R).length := by
      intro R
      induction R with
      | nil => exact fun _ => Nat.le_refl _
      | cons x R ih =>
        intro h
        have a := numsI_le hw (h x List.mem_cons_self)
        have b := ih fun y hy => h y (List.mem_cons_of_mem _ hy)
        show (numsI d x ++ numsR d R).length + (R.length + 1) ≤ (leavesI d x ++ leavesR d R).length
        rw [List.length_append, List.length_append]
        omega
    have := key R h2
    show (n :: numsR d R).length + 1 ≤ (leavesR d R).length
    rw [List.length_cons]
    unfold halfI at h1
    omega
theorem numsR_le (hw : 3 ≤ w) {R : List (Item d)} (h : ∀ x ∈ R, okI w d x) : (numsR d R).length + R.length ≤ (leavesR d R).length := by
  induction R with
  | nil => exact Nat.le_refl _
  | cons x R ih =>
    have a := numsI_le hw (h x List.mem_cons_self)
    have b := ih fun y hy => h y (List.mem_cons_of_mem _ hy)
    show (numsI d x ++ numsR d R).length + (R.length + 1) ≤ (leavesI d x ++ leavesR d R).length
    rw [List.length_append, List.length_append]
    omega
theorem TR.m_le (hw : 3 ≤ w) (X : TR w P m d R) : m.length ≤ P.length + 1 := by
  rw [X.count]
  have := numsR_le hw X.ok
  rw [X.leaves] at this
  omega
theorem Told.len (hw : 3 ≤ w) (h : Told m w P key held d R T) (X : TR w P m d R) (hl : held.length ≤ 1) : T.length ≤ 2 * P.length + 2 := by
  obtain ⟨d', R', c, rfl, F, _, _⟩ := h
  have h1 := numsR_le hw X.ok
  have h2 := numsR_le hw F.ok
  rw [X.leaves] at h1
  rw [F.leaves] at h2
  have h3 := (heldP_len (P := P) (key := key) (held := held) X.okp.2).2
  have hsub : ∀ n ∈ keysA (toldA m c.after), n ∈ (0 : Int) :: (numsR d R ++ numsR d' R') := fun n hn => by
    have hn' : n ∈ keysA c.after := (List.filter_sublist.map _).subset hn
    rcases F.keys n hn' with e | e | e
    · rw [e]; exact List.mem_cons_self
    · exact List.mem_cons_of_mem _ (List.mem_append_left _ e)
    · by_cases g : getA c.after n = some .none
      · exact List.mem_cons_of_mem _ (List.mem_append_left _ (F.gone n g))
      · exact List.mem_cons_of_mem _ (List.mem_append_right _ ((F.inn n).mpr ⟨.inr e, g⟩))
  have := nodup_sub_len (told_nodup F.ndk) hsub
  unfold keysA at this
  rw [List.length_map, List.length_cons, List.length_append] at this
  have h4 : R.length = 0 → P.length = 0 := fun z => by
    rw [← X.leaves, List.length_eq_zero_iff.mp z]
    rfl
  have h5 : R'.length = 0 → (heldP P key held).length = 0 := fun z => by
    rw [← F.leaves, List.length_eq_zero_iff.mp z]
    rfl
  omega
theorem strP_heldP {x : PyData} (h : strP P) (hx : x = .none ∨ ∃ z, x = .str z) : strP (heldP P key (heldV key x)) := fun p hp => by
  unfold heldP at hp
  rcases List.mem_append.mp hp with hp | hp
  · rcases List.mem_append.mp hp with hp | hp
    · exact h p (List.mem_filter.mp hp).1
    · rcases hx with rfl | ⟨z, rfl⟩
      · exact nomatch hp
      · have hp : p ∈ [(key, PyData.str z)] := hp
        rw [List.mem_singleton.mp hp]
        exact ⟨z, rfl⟩
  · exact h p (List.mem_filter.mp hp).1
end
theorem three_pw {first : Int} {n : Nat} : (threeK first n).Pairwise (· < ·) := by
  unfold threeK
  rw [List.pairwise_map, List.pairwise_iff_getElem]
  intro i j hi hj hij
  rw [List.getElem_range, List.getElem_range]
  omega
/-- the row that the law makes -/
def rowV (first : Int) (z : Int) : PL := (List.range z.toNat).map fun k : Nat => (first + 3 * (k : Int), PyData.str (repS "v" ((k : Int) % 3).toNat))
theorem rowV_val (k : Nat) : isValD (.str (repS "v" ((k : Int) % 3).toNat)) = true := by
  have h : ((k : Int) % 3).toNat = 0 ∨ ((k : Int) % 3).toNat = 1 ∨ ((k : Int) % 3).toNat = 2 := by omega
  rcases h with h | h | h <;> rw [h] <;> decide +kernel
theorem rowV_keys {first z : Int} : keysT (rowV first z) = threeK first z.toNat := by
  unfold rowV keysT threeK
  rw [List.map_map]
  rfl
theorem rowV_len {first z : Int} : (rowV first z).length = z.toNat := by unfold rowV; simp
theorem rowV_ok {first z : Int} (h1 : -100000 ≤ first) (h2 : first ≤ 100000) (h3 : z ≤ 100000) : okP true (rowV first z) := by
  have hKB : (1000000 : Int) < KB := by decide +kernel
  refine ⟨fun p hp => ?_, by rw [rowV_keys]; exact three_pw⟩
  obtain ⟨k, hk, rfl⟩ := List.mem_map.mp hp
  rw [List.mem_range] at hk
  refine ⟨?_, ?_⟩
  · show (decide (-KB < first + 3 * (k : Int)) && decide (first + 3 * (k : Int) < KB)) = true
    rw [decide_eq_true (by omega), decide_eq_true (by omega)]
    rfl
  · unfold heldD
    rw [if_pos (by decide +kernel)]
    exact rowV_val k
theorem rowV_sm {first z : Int} : smP (rowV first z) := fun p hp => by
  obtain ⟨k, hk, rfl⟩ := List.mem_map.mp hp
  refine ⟨?_, by simp [PyData.depth]⟩
  simp only [strictD]
  exact strok_val (rowV_val k)
theorem rowV_str {first z : Int} : strP (rowV first z) := fun p hp => by
  obtain ⟨k, hk, rfl⟩ := List.mem_map.mp hp
  exact ⟨_, rfl⟩
theorem keyD_iff {k : Int} (h1 : -KB < k) (h2 : k < KB) : isKeyD (.int k) = true := by
  show (decide (-KB < k) && decide (k < KB)) = true
  rw [decide_eq_true h1, decide_eq_true h2]
  rfl
theorem rowD_fit {P : PL} (sm : smP P) : ∀ dd ∈ rowD P, PyData.canLay0 dd = true ∧ PyData.depth dd ≤ 10 := fun dd hdd => by
  obtain ⟨p, hp, rfl⟩ := List.mem_map.mp hdd
  refine ⟨strict_lay (pairD_strict (sm p hp).1), ?_⟩
  have := (sm p hp).2
  unfold pairD
  simp only [PyData.depth, PyData.depthAll]
  omega
end My

set_option Elab.async false
set_option linter.all false
set_option maxRecDepth 100000
set_option maxHeartbeats 1000000
/-! sorted(d) of a dict whose keys are whole numbers, any number of them; statements that are never come to -/
namespace My
open PySem PySem.Spec PyProof.Rows L2
def rSortedD : List V → Hp → VK → Prop := fun xs H Q => ∃ (a : Addr) (kvs : List (Key × V)) (ks : List Int), xs = [.ref a] ∧ Rd H a (.dK kvs) ∧ kvs.map (·.1) = ks.map Sum.inl ∧
  ∀ (ys : List Int) (p : Addr), ys.Perm ks → ys.Pairwise (· ≤ ·) → H p = none → Q (.ref p) (upd H p (.lst (ys.map V.int)))
theorem keys_ints {acc : List Value} {ks : List Int} {vs : List (Key × Value)} (hk : vs.map (·.1) = ks.map Sum.inl) (hl : acc.length = ks.length) (h : ∀ (j : Nat) (v : Value), acc[j]? = some v → ∃ k x, vs[j]? = some (k, x) ∧ keyIs k v = true) : IntsAre acc ks :=
  ints_each hl fun j v e => by
    obtain ⟨k, x, e1, e2⟩ := h j v e
    have e3 : (ks.map (Sum.inl : Int → Key))[j]? = some k := by rw [← hk, List.getElem?_map, e1]; rfl
    rw [List.getElem?_map] at e3
    obtain ⟨y, hy, rfl⟩ := Option.map_eq_some_iff.mp e3
    rcases keyIs_shape e2 with ⟨i, t, z, ev⟩ | ⟨i, t, z, ev⟩ <;> cases z
    exact ⟨y, t, hy, ev⟩
theorem my_sortedD {X : Cx} (calm : X.calm = true) : CallR X (.builtin "sorted") rSortedD := by
  rintro pins s σ H _ us Q I rel ⟨a, kvs, ks, rfl, hd, hks, q⟩
  obtain ⟨v, rfl, rv⟩ := vals1 rel
  cases rv
  obtain ⟨small, plain, vs, rvs, dict⟩ := dk_rd I.hok hd
  obtain ⟨ep, table⟩ := dict.dictAt
  have hkeys : vs.map (·.1) = ks.map Sum.inl := rvs.keys.symm.trans hks
  have size_vs : vs.length = ks.length := by simpa using congrArg List.length hkeys
  have size_kv : vs.length ≤ sizeLine := by have e := rvs.length; omega
  refine Calls.call_function_entry kind_sorted plain_sorted entry_sorted (args_sorted1 _) ?_
  unfold Builtin.«sorted»
  refine wpAny_bind (m := checkCount "sorted" 1 1 _) (wpAny_pure (wpAny_bind (PySem.W.kdu_collect (A := X.A.in1) (PySem.W.kdl_dict (knd := mixKind X.prog X.w) (kvs := vs) (ep := ep) plain) (I.ok.hd calm) table size_kv fun h2 tk acc keep told => ?_)))
  have size_acc : acc.toList.length = ks.length := by rw [Array.length_toList, told.1, size_vs]
  have whole := keys_ints hkeys size_acc fun j v e => told.2 j v (by rw [← Array.getElem?_toList]; exact e)
  have small2 : acc.toList.length ≤ sizeLine := by omega
  have I2 : Inv X pins σ H { s with heap := h2, toks := tk } := I.kept keep
  refine wpAny_bind (wpAny_newList ?_ (by simpa using small2))
  have stands : (h2.push (seqObj "list" acc.toList.toArray 0)).get? h2.objs.size = some (seqObj "list" acc.toList.toArray 0) := Heap.get?_push_size _ rfl
  show wpAny _ _ _ _ _ { s with heap := h2.push (seqObj "list" acc.toList.toArray 0), toks := tk }
  refine wpAny_bind (wpAny_holding (wpAny_call_entry slot_list_sort ⟨_, stands, rfl⟩ entry_list_sort
    (SrtO.list_sort_ord (s := { s with heap := h2.push (seqObj "list" acc.toList.toArray 0), toks := tk }) SrtO.swo_int stands small2 (fun two => SrtO.ints_sortable whole two) fun out sorted perm => ⟨_, rfl, ?_⟩) (args_list_sort _)))
  obtain ⟨k1, k2, k3⟩ := SrtO.ints_out whole sorted perm
  obtain ⟨ep2, behind⟩ := sortedHeap_at (vs := acc.toList) (out := out.toArray) stands
  have small3 : ((out.map SrtO.iv).map V.int).length ≤ sizeLine := by
    rw [List.length_map, k2.length_eq]
    omega
  have made : ObjOk X.prog X.w (upd H h2.objs.size (.lst ((out.map SrtO.iv).map V.int))) _ h2.objs.size (.lst ((out.map SrtO.iv).map V.int)) := ⟨small3, out, ep2, vals_of_ints k1, behind⟩
  refine wpAny_pure ⟨_, rfl, .ref h2.objs.size, _, I2.laid (t' := tk) (fun b u z => ?_) (Nat.le_refl _) made, rfl, q _ _ k2 k3 (I2.hok.fresh (Nat.le_refl _))⟩
  have lb := Heap.lt_size z
  exact (sortedHeap_old (Nat.ne_of_lt lb) (by rw [size_push']; exact Nat.lt_succ_of_lt lb)).trans (Heap.get?_push_of_some _ z)
theorem g_sortedDd {K : PySem.W.Frag} {H : Hp} {Q : VK} {a : Addr} {m : BT} (h : Dd K H a m) (q : ∀ (ys : List Int) p H1, ys.Perm (keysA m) → ys.Pairwise (· ≤ ·) → H p = none → Same H H1 → H1 p = some (.lst (ys.map V.int)) → Q (.ref p) H1) : rSortedD [.ref a] H Q := by
  obtain ⟨kvs, e, hd⟩ := h
  refine ⟨a, kvs, keysA m, rfl, .inl e, ?_, fun ys p h1 h2 hp => q ys p _ h1 h2 hp (Same.new hp _) upd_same⟩
  clear e q
  induction hd with
  | nil => rfl
  | @cons n v d kvs m _ _ ih =>
    show Sum.inl n :: kvs.map (·.1) = Sum.inl n :: (keysA m).map Sum.inl
    rw [ih]
/-- a statement that is never come to -/
def tNever : TS := fun _ _ _ => False
theorem ps_never {X : Cx} {st : Stmt} : PS X st tNever := ⟨fun _ _ _ _ _ _ h => h.elim⟩
end My

set_option Elab.async false
set_option linter.all false
set_option maxRecDepth 100000
set_option maxHeartbeats 1000000
/-! {**d, k: v}: a dict shown anew with one entry more -/
namespace MyD
open PySem PySem.Spec PyProof.Rows L2
section
variable {prog : Program} {w : World} {K : Type} [DecidableEq K] {knd : PySem.KeyKind prog w K} {A : Around} {E : Value → Shared → Prop} {s : Shared}
/-- one entry comes into a dict whose entries are found by the hash alone -/
theorem one_in {d : Addr} {kvs : List (K × Value)} {k : K} {key v : Value} {Q : Unit → Shared → Prop} (is : knd.is k key = true) (hd : s.heap.DictOf knd d kvs) (few : kvs.length ≤ sizeLine)
    (done : ∀ h', h'.DictOf knd d (stored kvs k v) → Heap.SameBut d s.heap h' → Q () { s with heap := h' }) :
    wpAny (model prog w) A (dictPut d (knd.hash k) key v) Q E s := by
  obtain ⟨x, t, p, at_d, exact_, data, keyed, paired, once⟩ := hd
  have small : t.size ≤ sizeLine := by
    have e : t.toList.length = kvs.length := paired.length
    rw [Array.length_toList] at e
    omega
  have where_ : (t.findIdx? fun e => knd.is k e.key) = kvs.findIdx? fun kv => decide (kv.1 = k) := by
    have e := Pairs.findIdx paired k
    cases t
    simpa using e
  unfold dictPut
  refine wpAny_bind (wpAny_dictFind_of is at_d data keyed ?_)
  cases found : t.findIdx? fun e => knd.is k e.key with
  | none =>
    have fresh : k ∉ kvs.map Prod.fst := not_mem_of_findIdx_none (where_ ▸ found)
    have new : stored kvs k v = kvs ++ [(k, v)] := by
      refine if_neg fun any => ?_
      obtain ⟨q, hq, e⟩ := List.any_eq_true.mp any
      exact fresh (List.mem_map.mpr ⟨q, hq, of_decide_eq_true e⟩)
    have wide : Pairs knd (t.push ⟨knd.hash k, key, v⟩).toList (kvs ++ [(k, v)]) := by
      rw [Array.toList_push]
      exact Pairs.append paired is _ v
    have twice : ((kvs ++ [(k, v)]).map Prod.fst).Nodup := by
      rw [List.map_append]
      refine List.nodup_append.mpr ⟨once, by simp, fun a ha b hb => ?_⟩
      rw [List.map_cons, List.map_nil, List.mem_singleton] at hb
      intro ab
      subst ab
      exact fresh (by have e : a = k := hb; exact e ▸ ha)
    show wpAny _ _ (updateDictKeys d _) _ _ _
    exact wpAny_updateDictKeys at_d data (done _ ⟨_, _, _, Heap.get?_update_self _ at_d (Obj.isFreed_of_dict (Obj.data_mapDictKeys data _)), exact_.mapDictKeys _, Obj.data_mapDictKeys data _, keyed.push is v, new ▸ wide, new ▸ twice⟩ (Heap.SameBut.update ..)) small
  | some i =>
    have old : stored kvs k v = kvs.map fun q => if q.1 = k then (q.1, v) else q := if_pos (any_of_findIdx_some (where_ ▸ found))
    have same : (t.modify i fun e => { e with val := v }).toList = t.toList.modify i fun e => { e with val := v } := by
      cases t
      simp
    have here_ : (t.toList.findIdx? fun e => knd.is k e.key) = some i := by
      rw [← found]
      cases t
      simp
    have wide := Pairs.modify paired once here_ v
    show wpAny _ _ (updateDict d _) _ _ _
    exact wpAny_updateDict at_d data (done _ ⟨_, _, _, Heap.get?_update_self _ at_d (Obj.isFreed_of_dict (Obj.data_mapDict data _)), exact_.mapDict _, Obj.data_mapDict data _, keyed.modify i v, old ▸ same ▸ wide, old ▸ (keys_map_store kvs k v).symm ▸ once⟩ (Heap.SameBut.update ..)) (by simp)
theorem fold_in {d o : Addr} {kvs more : List (K × Value)} {Q : Unit → Shared → Prop} (two : d ≠ o) (plain : (o == sysModules) = false)
    (hd : s.heap.DictOf knd d kvs) (ho : s.heap.DictOf knd o more) (few : kvs.length + more.length ≤ sizeLine)
    (done : ∀ h', h'.DictOf knd d (merged kvs more) → h'.DictOf knd o more → Heap.SameBut d s.heap h' → Q () { s with heap := h' }) :
    wpAny (model prog w) A (mergeMapping d (.ref o) false) Q E s := by
  unfold mergeMapping
  refine wpAny_bind (wpAny_isInstance ho.typeIs isSubtype_dict_dict ?_)
  rw [if_pos rfl]
  refine wpAny_bind (wpAny_specialOf ho.typeIs PySem.F.slot_dict_iter.lookup (wpAny_bind (wpAny_pure ?_)))
  simp only [beq_self_eq_true, plain, Bool.false_eq_true, if_false]
  obtain ⟨xd, ed, pd, d1, d2, d3, d4, d5, d6⟩ := id hd
  obtain ⟨xo, eo, po, o1, o2, o3, o4, o5, o6⟩ := id ho
  refine wpAny_bind (wpAny_dictEntries d1 d3 ?_)
  have turn : ∀ rows : List Nat, ∀ i h', rows = (List.range eo.size).drop i → i ≤ eo.size → h'.DictOf knd d (merged kvs (more.take i)) → h'.get? o = some xo → Heap.SameBut d s.heap h' →
      wpAny (model prog w) A (forIn rows PUnit.unit fun i (_ : PUnit) => (do
          let l ← dictEntries o
          match l[i]? with
            | some e => do
              holding [e.key, e.val] (dictPut d e.hash e.key e.val)
              let z ← dictEpoch o
              if (z != po) = true then do
                  (unsupported "dict.changed-during-merge" : Sem PUnit)
                  pure (ForInStep.yield PUnit.unit)
                else pure (ForInStep.yield PUnit.unit)
            | _ => do
              (unsupported "dict.changed-during-merge" : Sem PUnit)
              pure (ForInStep.yield PUnit.unit) : Sem (ForInStep PUnit))) (fun _ s' => ∃ h', s' = { s with heap := h' } ∧ h'.DictOf knd d (merged kvs more) ∧ h'.get? o = some xo ∧ Heap.SameBut d s.heap h') E { s with heap := h' } := by
    intro rows
    induction rows with
    | nil =>
      intro i h' hr hi hm hg hs
      rw [List.forIn_nil]
      have e := congrArg List.length hr
      rw [List.length_drop, List.length_range, List.length_nil] at e
      have e2 : i = eo.size := by omega
      have e3 : more.take i = more := List.take_of_length_le (by rw [← Pairs.length o5, Array.length_toList]; omega)
      exact wpAny_pure ⟨h', rfl, e3 ▸ hm, hg, hs⟩
    | cons j rows ih =>
      intro i h' hr hi hm hg hs
      have lt : i < eo.size := by
        rcases Nat.lt_or_ge i eo.size with g | g
        · exact g
        · rw [List.drop_eq_nil_of_le (by rw [List.length_range]; exact g)] at hr
          exact nomatch hr
      rw [List.drop_eq_getElem_cons (by rw [List.length_range]; exact lt), List.getElem_range] at hr
      obtain ⟨rfl, hr2⟩ := List.cons.inj hr
      have ml : j < more.length := by rw [← Pairs.length o5, Array.length_toList]; exact lt
      obtain ⟨k0, key0, hash0⟩ := o4 eo[j] (Array.getElem_mem lt)
      obtain ⟨ek, ev⟩ := Pairs.get? o5 (i := j) (e := eo[j]) (k := more[j].1) (v := more[j].2) (by simp [lt]) (List.getElem?_eq_getElem ml)
      have kk := knd.inj _ _ _ key0 ek
      subst kk
      rw [List.forIn_cons]
      refine wpAny_bind (wpAny_bind (wpAny_dictEntries hg o3 ?_))
      rw [Array.getElem?_eq_getElem lt]
      show wpAny _ _ (holding [eo[j].key, eo[j].val] (dictPut d eo[j].hash eo[j].key eo[j].val) >>= _) _ _ _
      rw [hash0, ev]
      have tk : (more.take j).length = j := by rw [List.length_take]; omega
      refine wpAny_bind (wpAny_holding (one_in ek hm (by have e := merged_length_le kvs (more.take j); omega) fun h2 m2 s2 => ?_))
      have g2 : h2.get? o = some xo := (s2.2 o two.symm).trans hg
      refine wpAny_bind (wpAny_dictEpoch g2 o3 ?_)
      rw [if_neg (by simp)]
      exact wpAny_pure (ih (j + 1) h2 hr2 lt (by rw [merged_take_succ kvs more j more[j] (List.getElem?_eq_getElem ml)]; exact m2) g2 (hs.trans s2))
  have walk : wpAny (model prog w) A (do
      let l ← dictEntries o
      let ep ← dictEpoch o
      forIn (List.range l.size) PUnit.unit fun i (_ : PUnit) => (do
          let l ← dictEntries o
          match l[i]? with
            | some e => do
              holding [e.key, e.val] (dictPut d e.hash e.key e.val)
              let z ← dictEpoch o
              if (z != ep) = true then do
                  (unsupported "dict.changed-during-merge" : Sem PUnit)
                  pure (ForInStep.yield PUnit.unit)
                else pure (ForInStep.yield PUnit.unit)
            | _ => do
              (unsupported "dict.changed-during-merge" : Sem PUnit)
              pure (ForInStep.yield PUnit.unit) : Sem (ForInStep PUnit))
      pure ()) Q E s := by
    refine wpAny_bind (wpAny_dictEntries o1 o3 (wpAny_bind (wpAny_dictEpoch o1 o3 (wpAny_bind ?_))))
    refine wpAny_mono (turn _ 0 s.heap rfl (Nat.zero_le _) hd o1 (Heap.SameBut.refl _ _)) (fun _ s' z => ?_) fun _ _ z => z
    obtain ⟨h', rfl, a1, a2, a3⟩ := z
    exact wpAny_pure (done h' a1 ⟨xo, eo, po, a2, o2, o3, o4, o5, o6⟩ a3)
  split
  · refine wpAny_bind (wpAny_dictEntries o1 o3 ?_)
    refine wpAny_bind (wpAny_of_eq (a := PUnit.unit) ?_ walk)
    rw [← Array.forIn_toList]
    refine forIn_yield_id _ fun e he c => ?_
    obtain ⟨k, is, _⟩ := o4 e (Array.mem_toList_iff.mp he)
    have by_value := knd.byValue k _ is
    cases ee : e.key with
    | ref a => rw [ee] at by_value; exact nomatch by_value
    | _ => rfl
  · exact walk
end
/-- {**e, k: v} -/
def tSpread (te tk tv : TE) : TE := fun σ H Q => ∀ d, H d = none → te σ (upd H d (.dK [])) fun x H1 => ∃ (a : Addr) (kvs : List (Key × V)), x = .ref a ∧ a ≠ d ∧ H1 d = some (.dK []) ∧ Rd H1 a (.dK kvs) ∧
  ∀ p, upd H1 d (.dK kvs) p = none → tk σ (upd (upd H1 d (.dK kvs)) p (.dK [])) fun y H2 => tv σ H2 fun z H3 => H3 p = some (.dK []) ∧ H3 d = some (.dK kvs) ∧ kvs.length < 100000 ∧ ∃ key : Key, y = kV key ∧
    Q (.ref d) (upd (upd H3 p (.dK [(key, z)])) d (.dK (putK kvs key z)))
theorem pe_spread {X : Cx} {pos : Pos} {e k v : Expr} {te tk tv : TE} (he : PE X e te) (hk : PE X k tk) (hv : PE X v tv) : PE X (.Dict [none, some k] [e, v] pos) (tSpread te tk tv) := by
  constructor
  intro pins s σ H Q I q
  have free0 : H s.heap.objs.size = none := I.hok.fresh (Nat.le_refl _)
  have I1 : L2.Inv X pins σ (upd H s.heap.objs.size (.dK [])) { s with heap := s.heap.push { cls := .type "dict", data := .dict #[] }, toks := s.toks } :=
    I.laid (fun _ _ old => Heap.get?_push_of_some _ old) (Nat.le_refl _) (dk_empty s.heap I.big)
  rw [arm_eval_Dict]
  refine wpAny_bind (wpAny_standAt ?_)
  show wpAny _ _ (dictDisplay [(none, do let x ← eval e X.env; standAt pos; pure x), (some (eval k X.env), do let x ← eval v X.env; standAt pos; pure x)]) _ _ s
  unfold dictDisplay
  simp only [List.forIn_cons, List.forIn_nil, pure_bind, bind_assoc, List.isEmpty_nil, if_true]
  refine wpAny_bind (wpAny_alloc ?_)
  refine wpAny_bind (wpAny_holding (wpAny_bind (thn (he.run pins _ σ _ _ I1 (q _ free0)) fun u s1 z => ?_)))
  obtain ⟨x, H1, I2, rx, a, kvs, rfl, ne, e1, e2, q2⟩ := z
  cases rx
  obtain ⟨zz, plain, vs, rv, dd⟩ := dk_rd I2.hok e2
  obtain ⟨z0, hd, vs0, r0, d0⟩ := dk_of I2.hok e1
  cases r0
  refine wpAny_bind (wpAny_standAt (wpAny_pure ?_))
  refine wpAny_bind (wpAny_onRaise (wpAny_tryCatch (wpAny_onRaise (wpAny_holding (fold_in (knd := mixKind X.prog X.w) (Ne.symm ne) plain d0 dd (by have := rv.length; rw [List.length_nil]; omega) fun h2 m1 m2 sb => ?_)))))
  have m3 : Heap.DictOf (mixKind X.prog X.w) h2 s.heap.objs.size vs := by
    obtain ⟨_, _, _, _, _, _, _, _, once⟩ := dd
    rw [merged_nil_of_nodup vs once] at m1
    exact m1
  have new1 : ∃ q, h2.get? s.heap.objs.size = some q := let ⟨q, _, _, hq, _⟩ := m3; ⟨q, hq⟩
  have I3 : L2.Inv X pins σ (upd H1 s.heap.objs.size (.dK kvs)) { s1 with heap := h2, toks := s1.toks } := d_write I2 (by rw [e1]; exact True.intro) sb new1 (dk_new zz hd rv m3)
  simp only [List.nil_append, List.length_singleton, Nat.reduceBEq, Bool.false_eq_true, if_false, pure_bind, List.isEmpty_cons]
  have n3 := I3.hok.fresh (Nat.le_refl h2.objs.size)
  have I4 := I3.laid (a := h2.objs.size) (o := .dK []) (h' := h2.push { cls := .type "dict", data := .dict #[] }) (t' := s1.toks) (fun _ _ q => Heap.get?_push_of_some _ q) (Nat.le_refl _) (dk_empty h2 I3.big)
  have q3 := q2 h2.objs.size n3
  have pairs_ : PPs X pos [some k] [v] [(tk, tv)] := pps_cons hk hv pps_nil
  refine wpAny_bind (wpAny_bind (wpAny_holding (wpAny_subDict (knd := mixKind X.prog X.w) (Nat.le_of_ble_eq_true rfl) ?_)))
  refine thn (pairs_.run pins _ σ _ (fun ps H3 => match ps with
    | [(y, z)] => H3 h2.objs.size = some (.dK []) ∧ H3 s.heap.objs.size = some (.dK kvs) ∧ kvs.length < 100000 ∧ ∃ key : Key, y = kV key ∧
      Q (.ref s.heap.objs.size) (upd (upd H3 h2.objs.size (.dK [(key, z)])) s.heap.objs.size (.dK (putK kvs key z)))
    | _ => False) I4 q3) fun ws s3 z => ?_
  obtain ⟨ps, H3, I5, rel, q4⟩ := z
  rcases ps with _ | ⟨⟨y, z⟩, _ | ⟨_, _⟩⟩
  · exact q4.elim
  case cons.cons => exact q4.elim
  obtain ⟨f1, f2, f3, key, ey, q5⟩ := q4
  subst ey
  obtain ⟨rs, carried, rk⟩ := carries_of (P := X.prog) (w := X.w) (kvs := [(key, z)]) rel
  obtain ⟨z1, hp, vs1, r1, p0⟩ := dk_of I5.hok f1
  cases r1
  refine ⟨rs, carried, p0, fun h4 m4 sb4 => ?_⟩
  have new4 : ∃ q, h4.get? h2.objs.size = some q := let ⟨q, _, _, hq, _⟩ := m4; ⟨q, hq⟩
  have one : rs.length = 1 := rk.length.symm
  have I6 : L2.Inv X pins σ (upd H3 h2.objs.size (.dK [(key, z)])) { s3 with heap := h4, toks := s3.toks + ws.length } :=
    d_write I5 (by rw [f1]; exact True.intro) sb4 new4 (dk_new (by rw [sizeLine_eq]; exact Nat.le_of_ble_eq_true rfl) hp (KV.merge rk .nil) m4)
  have apart : h2.objs.size ≠ s.heap.objs.size := fun e => by
    rw [e, upd_same] at n3
    exact nomatch n3
  have f4 : upd H3 h2.objs.size (.dK [(key, z)]) s.heap.objs.size = some (.dK kvs) := by
    rw [upd_ne apart.symm]
    exact f2
  have f5 : upd H3 h2.objs.size (.dK [(key, z)]) h2.objs.size = some (.dK [(key, z)]) := upd_same
  obtain ⟨z6, hd6, vs6, r6, dd6⟩ := dk_of I6.hok f4
  obtain ⟨z7, hd7, vs7, r7, dd7⟩ := dk_of I6.hok f5
  have l6 : vs6.length = kvs.length := r6.length.symm
  have l7 : vs7.length = 1 := r7.length.symm
  refine wpAny_bind (wpAny_onRaise (wpAny_holding (fold_in (knd := mixKind X.prog X.w) apart.symm hd7 dd6 dd7 (by rw [sizeLine_eq]; omega) fun h5 m5 m6 sb5 => wpAny_pure (wpAny_pure ?_))))
  have new5 : ∃ q, h5.get? s.heap.objs.size = some q := let ⟨q, _, _, hq, _⟩ := m5; ⟨q, hq⟩
  have small : (putK kvs key z).length ≤ sizeLine := by
    have := length_putK kvs key z
    rw [sizeLine_eq]
    omega
  exact ⟨.ref s.heap.objs.size, _, d_write I6 (by rw [f4]; exact True.intro) sb5 new5 (dk_new small hd6 (KV.merge r7 r6) m5), rfl, q5⟩
/-- o.m(e, ..), a method that may raise -/
def tMethX (C : Addr) (m : Str) (sp : Sp) (E : L2.St → XK) (ta : TE) (t : TA) : TE := fun σ H Q => ta σ H fun x H1 => ∃ a dx fs, x = .ref a ∧ H1 a = some (.ins C dx fs) ∧ fs.lookup m = none ∧ t σ H1 fun vs H2 => sp (x :: vs) H2 Q (E σ)
theorem pe_methX {X : Cx} {CT : CXT} {k : Nat} {C g : Addr} {fd : FuncData} {ps : List Str} {sp : Sp} {E : L2.St → XK} {m : Str} {o e : Expr} {es : List Expr} {ta : TE} {t : TA} {apos pos : Pos} {pl : Sem Bool}
    (he : PE X o ta) (c : Cls X.K C) (hm : Meth X.K C m g) (F : FnOk X.prog X.w X.K X.mg X.base CT k g fd ps sp) (hr : Room k X.A) (hb : Binds X.K fd ps []) (hx : ∀ σ, PassesAt CT X σ (E σ)) (ha : PA X (e :: es) t)
    (one : starEach (e :: es) X.env = (false, eval e X.env) :: starEach es X.env := by rfl) (plain : (backTo pos (starEach es X.env)).any (·.1) = false := by rfl)
    (reads : eval (.Call (.Attribute o m apos) (e :: es) [] pos) X.env = (do
      let a ← eval o X.env
      standAt apos.atName
      let (f, first) ← holding [a] (getMethod a m pl)
      callWith pos f first (backTo pos (starEach (e :: es) X.env)) (backToKw pos (keywordEach [] X.env))) := by rfl) :
    PE X (.Call (.Attribute o m apos) (e :: es) [] pos) (tMethX C m sp E ta t) := by
  constructor
  intro pins s σ H Q I h
  refine PySem.W.methodCall_KW (pl := pl) (thn (he.run pins s σ H _ I h) fun u s1 z => ?_) reads
  obtain ⟨x, H1, I1, rx, a, dx, fs, rfl, ea, l, q⟩ := z
  cases rx
  refine getmeth_ok I1 ea c hm l (PySem.W.callWith_K (first := [.ref a]) (h₀ := X.base) I.ok.mod.kin hm.kp (thn (ha.run pos pins s1 σ H1 _ I1 q) fun us s2 z => ?_) one plain)
  obtain ⟨vs, H2, I2, r, q2⟩ := z
  exact ⟨I2.kIn, run_fnS (us := .ref a :: us) (vs := .ref a :: vs) F hr hb (hx σ) I2 (.cons rfl r) q2⟩
/-- a class of the text that is an error's is met by an except of its own name -/
theorem met_own {K : PySem.W.Frag} {S : Addr} (base : PySem.W.subIn K (.ref S) (.type "BaseException") = some true) (is : PySem.W.isClsIn K S = true) (ty : PySem.W.typeIn K (.ref S) = some (.type "type")) (self : PySem.W.subIn K (.ref S) (.ref S) = some true) :
    PySem.W.exmOne K (.ref S) (.ref S) = some true := by
  have known : (PySem.W.clsIn K S).isSome = true := is
  unfold PySem.W.exmOne PySem.W.kitCls
  simp [base, ty, known, self]
/-- a written tuple, known plain -/
def tTupF (t : TA) : TE := fun σ H Q => t σ H fun xs H1 => xs.length ≤ sizeLine ∧ ∀ p o, o.dict = none → H1 p = none → Q (.ref p) (upd H1 p (.frz o (.tup xs)))
theorem pe_tupF {X : Cx} {pos : Pos} {es : List Expr} {t : TA} {x1} (h : PA X es t) : PE X (.Tuple es x1 pos) (tTupF t) := by
  constructor
  intro pins s σ H Q I hq
  refine wpAny_Tuple_spliced (thn (h.run pos pins s σ H _ I hq) fun us s1 z => ?_)
  obtain ⟨xs, H1, I1, rel, small, q⟩ := z
  refine ⟨by rw [← rel.length]; exact small, ?_⟩
  have new := I1.hok.fresh (Nat.le_refl s1.heap.objs.size)
  have made : ObjOk X.prog X.w (upd H1 s1.heap.objs.size (.frz { cls := .type "tuple", data := .seq us.toArray } (.tup xs))) (s1.heap.push { cls := .type "tuple", data := .seq us.toArray }) s1.heap.objs.size (.frz { cls := .type "tuple", data := .seq us.toArray } (.tup xs)) := ⟨Heap.get?_push_size _ rfl, small, us, rel, IsTup.new _ _⟩
  exact ⟨.ref s1.heap.objs.size, _, I1.laid (t' := s1.toks) (fun _ _ e => Heap.get?_push_of_some _ e) (Nat.le_refl _) made, rfl, q _ _ rfl new⟩
theorem g_tupE {H : Hp} {Q : VK} {σ : L2.St} (q : ∀ p H2, H p = none → Same H H2 → My.PlX H2 p [] → Q (.ref p) H2) : tTupF tNil σ H Q :=
  ⟨Nat.zero_le _, fun p o ho hp => q p _ hp (My.Same.new hp _) ⟨o, ho, upd_same⟩⟩
/-- {**d, k: v} of a table of plain blocks that has no k -/
theorem g_spreadP {K : PySem.W.Frag} {H : Hp} {Q : VK} {te tk tv : TE} {σ : L2.St} {b : Addr} {m : My.BT} {k : Int} {d : PyData} (h : My.Pd K H b m) (few : m.length < 100000)
    (he : ∀ (H' : Hp) (R : VK), R (.ref b) H' → te σ H' R) (hk : ∀ (H' : Hp) (R : VK), R (.int k) H' → tk σ H' R)
    (hv : ∀ (H' : Hp) (R : VK), (∀ z H2, Same H' H2 → My.PlW K H2 z d → R z H2) → tv σ H' R)
    (q : ∀ p H1, H p = none → Same H H1 → My.Pd K H1 p (My.putA m k d) → Q (.ref p) H1) : tSpread te tk tv σ H Q := by
  intro p np
  refine he _ _ ?_
  obtain ⟨kvs, hb, hm⟩ := h
  have ne : b ≠ p := fun e => by rw [e, np] at hb; exact nomatch hb
  have hb1 : upd H p (.dK []) b = some (.dK kvs) := by rw [upd_ne ne]; exact hb
  refine ⟨b, kvs, rfl, ne, upd_same, .inl hb1, fun p2 np2 => hk _ _ (hv _ _ fun z H2 s2 hz => ?_)⟩
  have ne2 : p2 ≠ p := fun e => by rw [e, upd_same] at np2; exact nomatch np2
  have hp2 : H2 p2 = some (.dK []) := s2 _ _ upd_same
  have hp : H2 p = some (.dK kvs) := s2 _ _ (by rw [upd_ne ne2.symm]; exact upd_same)
  have free2 : H p2 = none := by rw [upd_ne ne2, upd_ne ne2] at np2; exact np2
  have low : Same H H2 := fun c o hc => by
    have c1 : c ≠ p := fun e => by rw [e, np] at hc; exact nomatch hc
    have c2 : c ≠ p2 := fun e => by rw [e, free2] at hc; exact nomatch hc
    exact s2 c o (by rw [upd_ne c2, upd_ne c1, upd_ne c1]; exact hc)
  have up : Same H (upd (upd H2 p2 (.dK [(.inl k, z)])) p (.dK (putK kvs (.inl k) z))) := fun c o hc => by
    have c1 : c ≠ p := fun e => by rw [e, np] at hc; exact nomatch hc
    have c2 : c ≠ p2 := fun e => by rw [e, free2] at hc; exact nomatch hc
    rw [upd_ne c1, upd_ne c2]
    exact low c o hc
  have hz2 : My.PlW K (upd H2 p2 (.dK [(.inl k, z)])) z d := hz.oth hp2 My.Oth.upd
  have hz3 : My.PlW K (upd (upd H2 p2 (.dK [(.inl k, z)])) p (.dK (putK kvs (.inl k) z))) z d := hz2.oth (by rw [upd_ne ne2.symm]; exact hp) My.Oth.upd
  exact ⟨hp2, hp, by rw [hm.dd.len]; exact few, .inl k, rfl, q p _ np up ⟨_, upd_same, (hm.go up).put hz3⟩⟩
end MyD

set_option Elab.async false
set_option linter.all false
set_option maxRecDepth 100000
set_option maxHeartbeats 1000000
/-! a store told of data: its blocks, what waits, its deeds -/
namespace My
open PySem L2
/-- a leaf of no pairs -/
def noneTB : TB := ⟨true, []⟩
/-- the blocks with a root -/
def rootA (m : BT) : BT := if (getA m 0).isSome = true then m else putA m 0 noneTB.D
def sp_check_width : Sp := fun vs H Q _ => ∃ z : Int, vs = [.int z] ∧ 3 ≤ z ∧ z ≤ 64 ∧ Q .non H
def sp_check_room : Sp := fun vs H Q _ => ∃ z : Int, vs = [.int z] ∧ 1 ≤ z ∧ z ≤ 1000 ∧ Q .non H
def sp_check_key : Sp := fun vs H Q _ => ∃ k : Int, vs = [.int k] ∧ isKeyV (.int k) = true ∧ Q .non H
def sp_check_value : Sp := fun vs H Q _ => ∃ z : Str, vs = [.str z] ∧ isValV (.str z) = true ∧ z.length ≤ 1000 ∧ ∀ H', Same H H' → Q .non H'
def sp_rooted (K : PySem.W.Frag) : Sp := fun vs H Q _ => ∃ (b : Addr) (m : BT), vs = [.ref b] ∧ Pd K H b m ∧ m.length < 100000 ∧ ∀ p H', Same H H' → Pd K H' p (rootA m) → Q (.ref p) H'
/-- an entry of a log as it lies there, its block plain -/
def EntW (K : PySem.W.Frag) (H : Hp) (v : V) : Ent → Prop
  | some p => ∃ t y, v = .ref t ∧ SqT K H t [.str "block", .int p.1, y] ∧ PlW K H y p.2
  | none => ∃ t, v = .ref t ∧ SqT K H t [.str "kept"]
/-- what a store does to its disk -/
inductive Act where
  | log (e : Ent)
  | write (n : Int) (d : PyData)
  | clear
def ActW (K : PySem.W.Frag) (H : Hp) (v : V) : Act → Prop
  | .log e => ∃ t y, v = .ref t ∧ SqT K H t [.str "log", y] ∧ EntW K H y e
  | .write n d => ∃ t y, v = .ref t ∧ SqT K H t [.str "write", .int n, y] ∧ PlW K H y d
  | .clear => ∃ t, v = .ref t ∧ SqT K H t [.str "clear"]
def Act.strict : Act → Prop
  | .log (some p) => strictD p.2 = true
  | .write _ d => strictD d = true
  | _ => True
/-- what a store is -/
structure Sto where
  w : Int
  room : Int
  logged : Int
  m : BT
  wait : List Int
  deeds : List Act
/-- a Store at p: its blocks at b, its deeds at l, what waits at u -/
structure StS (K : PySem.W.Frag) (C : Addr) (H : Hp) (p b l u : Addr) (s : Sto) : Prop where
  ob : ∃ dx, H p = some (.ins C dx [("_blocks", .ref b), ("deeds", .ref l), ("_width", .int s.w), ("_room", .int s.room), ("_logged", .int s.logged), ("_waiting", .ref u)])
  bl : Pd K H b s.m
  de : ∃ vs, H l = some (.lst vs) ∧ Paired (ActW K H) vs s.deeds
  wa : Dd K H u (seenD s.wait)
  ne : b ≠ u
  okm : Blk s.m
  okd : ∀ e ∈ s.deeds, e.strict
  nd : s.wait.Nodup
section
variable {K : PySem.W.Frag} {H H' H2 : Hp} {C p b l u : Addr} {s : Sto} {v : V}
theorem EntW.go {e : Ent} (q : Same H H') (h : EntW K H v e) : EntW K H' v e := by
  cases e with
  | none =>
    obtain ⟨t, h1, h2⟩ := h
    exact ⟨t, h1, Evl.ex_t q h2⟩
  | some p =>
    obtain ⟨t, y, h1, h2, h3⟩ := h
    exact ⟨t, y, h1, Evl.ex_t q h2, h3.go q⟩
theorem EntW.fx {e : Ent} (f : Fx H H') (st : ∀ p, e = some p → strictD p.2 = true) (h : EntW K H v e) : EntW K H' v e := by
  cases e with
  | none =>
    obtain ⟨t, h1, h2⟩ := h
    exact ⟨t, h1, SqT.fx f h2⟩
  | some p =>
    obtain ⟨t, y, h1, h2, h3⟩ := h
    exact ⟨t, y, h1, SqT.fx f h2, h3.fx f (st p rfl)⟩
theorem ActW.fx {e : Act} (f : Fx H H') (st : e.strict) (h : ActW K H v e) : ActW K H' v e := by
  cases e with
  | log e =>
    obtain ⟨t, y, h1, h2, h3⟩ := h
    exact ⟨t, y, h1, SqT.fx f h2, h3.fx f fun p z => by subst z; exact st⟩
  | write n d =>
    obtain ⟨t, y, h1, h2, h3⟩ := h
    exact ⟨t, y, h1, SqT.fx f h2, h3.fx f st⟩
  | clear =>
    obtain ⟨t, h1, h2⟩ := h
    exact ⟨t, h1, SqT.fx f h2⟩
/-! lists and tables of up to eight million -/
theorem g_appendB {l : Addr} {xs : List V} {y : V} {Q : VK} (h : H l = some (.lst xs)) (hl : xs.length ≤ 8000000) (q : ∀ H1, Oth l H H1 → H1 l = some (.lst (xs ++ [y])) → Q .non H1) : rAppend (.ref l) [y] H Q :=
  ⟨l, xs, y, rfl, rfl, h, Nat.lt_of_le_of_lt hl (by decide), q _ Oth.upd upd_same⟩
theorem g_rDPutB {a : Addr} {m : BT} {k : Int} {d : PyData} {N : Hp → Prop} (h : Dd K H a m) (hd : Dp K H v d) (hl : m.length ≤ 8000000) (q : ∀ H1, Oth a H H1 → Dd K H1 a (putA m k d) → N H1) : rDPut v (.ref a) (.int k) H N := by
  obtain ⟨kvs, h1, h2⟩ := h
  refine ⟨a, _, rfl, .inl ⟨kvs, .inl k, h1, rfl, Nat.lt_of_le_of_lt (by rw [h2.len]; exact hl) (by decide), rfl⟩, q _ Oth.upd ⟨_, upd_same, ?_⟩⟩
  exact (h2.put hd).map fun h _ => Dp.oth h1 Oth.upd h
end
end My

set_option Elab.async false
set_option linter.all false
set_option maxRecDepth 100000
set_option maxHeartbeats 1000000
/-! a store's fields, read and written -/
namespace My
open PySem L2
def stF (b l u : Addr) (s : Sto) : List (Str × V) := [("_blocks", .ref b), ("deeds", .ref l), ("_width", .int s.w), ("_room", .int s.room), ("_logged", .int s.logged), ("_waiting", .ref u)]
theorem look_hit {f : Str} {v : V} {r : List (Str × V)} : List.lookup f ((f, v) :: r) = some v := by simp [List.lookup]
theorem look_miss {f g : Str} {v : V} {r : List (Str × V)} (h : ¬ f = g) : List.lookup f ((g, v) :: r) = List.lookup f r := by
  have e : (f == g) = false := by simpa using h
  simp [List.lookup, e]
local macro_rules | `(tactic| wtm_at "look") => `(tactic| (unfold stF; repeat (first | exact look_hit | refine (look_miss (by decide +kernel)).trans ?_)))
section
variable {K : PySem.W.Frag} {σ : L2.St} {H H' H2 : Hp} {C p b l u c : Addr} {s : Sto} {v : V} {Q : VK} {D : Ends} {ta tv : TE}
theorem stF_blocks : List.lookup ("_blocks" : Str) (stF b l u s) = some (V.ref b) := by wtm_at "look"
theorem stF_deeds : List.lookup ("deeds" : Str) (stF b l u s) = some (V.ref l) := by wtm_at "look"
theorem stF_width : List.lookup ("_width" : Str) (stF b l u s) = some (V.int s.w) := by wtm_at "look"
theorem stF_room : List.lookup ("_room" : Str) (stF b l u s) = some (V.int s.room) := by wtm_at "look"
theorem stF_logged : List.lookup ("_logged" : Str) (stF b l u s) = some (V.int s.logged) := by wtm_at "look"
theorem stF_waiting : List.lookup ("_waiting" : Str) (stF b l u s) = some (V.ref u) := by wtm_at "look"
theorem stF_log {n : Int} : putF "_logged" (.int n) (stF b l u s) = stF b l u { s with logged := n } := by
  unfold stF
  rw [putF_cons, if_neg (by decide +kernel), putF_cons, if_neg (by decide +kernel), putF_cons, if_neg (by decide +kernel), putF_cons, if_neg (by decide +kernel), putF_cons, if_pos rfl]
theorem stF_no {m : Str} (h1 : ¬ m = "_blocks") (h2 : ¬ m = "deeds") (h3 : ¬ m = "_width") (h4 : ¬ m = "_room") (h5 : ¬ m = "_logged") (h6 : ¬ m = "_waiting") : List.lookup m (stF b l u s) = none := by
  unfold stF
  rw [look_miss h1, look_miss h2, look_miss h3, look_miss h4, look_miss h5, look_miss h6]
  rfl
theorem StS.get {f : Str} (h : StS K C H p b l u s) (e : List.lookup f (stF b l u s) = some v) (cl : Cls K C) (na : NoAttr K C f) (q : Q v H) : rFld K f (.ref p) H Q := by
  obtain ⟨dx, o⟩ := h.ob
  exact ⟨p, C, dx, _, _, rfl, o, cl, na, e, q⟩
theorem StS.meth {m : Str} {X : Prop} (h : StS K C H p b l u s) (h1 : ¬ m = "_blocks") (h2 : ¬ m = "deeds") (h3 : ¬ m = "_width") (h4 : ¬ m = "_room") (h5 : ¬ m = "_logged") (h6 : ¬ m = "_waiting") (q : X) : rMeth C m (.ref p) H X := by
  obtain ⟨dx, o⟩ := h.ob
  exact ⟨p, dx, _, rfl, o, stF_no h1 h2 h3 h4 h5 h6, q⟩
/-- where an object that isn't fixed changes, the fixed ones stay -/
theorem StS.pl (h : StS K C H p b l u s) : p ≠ l := fun z => by
  obtain ⟨dx, o⟩ := h.ob
  obtain ⟨vs, e, _⟩ := h.de
  rw [z, e] at o
  cases o
theorem StS.pb (h : StS K C H p b l u s) : b ≠ p := fun z => by
  obtain ⟨dx, o⟩ := h.ob
  obtain ⟨kvs, e, _⟩ := h.bl
  rw [← z, e] at o
  cases o
theorem StS.pu (h : StS K C H p b l u s) : u ≠ p := fun z => by
  obtain ⟨dx, o⟩ := h.ob
  obtain ⟨kvs, e, _⟩ := h.wa
  rw [← z, e] at o
  cases o
theorem StS.bl' (h : StS K C H p b l u s) : b ≠ l := fun z => by
  obtain ⟨kvs, o, _⟩ := h.bl
  obtain ⟨vs, e, _⟩ := h.de
  rw [z, e] at o
  cases o
theorem StS.ul (h : StS K C H p b l u s) : u ≠ l := fun z => by
  obtain ⟨kvs, o, _⟩ := h.wa
  obtain ⟨vs, e, _⟩ := h.de
  rw [z, e] at o
  cases o
theorem StS.str (h : StS K C H p b l u s) : ∀ q ∈ s.m, strictD q.2 = true := fun q hq => (h.okm.2 q hq).1
theorem acts_fx {vs : List V} {ds : List Act} (f : Fx H H') (ok : ∀ e ∈ ds, e.strict) (h : Paired (ActW K H) vs ds) : Paired (ActW K H') vs ds := paired_map (fun _ _ hm h => h.fx f (ok _ hm)) h
/-- the list of deeds grows by one -/
theorem StS.more {y : V} {e : Act} {vs : List V} (h : StS K C H p b l u s) (hl : H l = some (.lst vs)) (o : Oth l H H') (hl2 : H' l = some (.lst (vs ++ [y]))) (hy : ActW K H' y e) (st : e.strict) : StS K C H' p b l u { s with deeds := s.deeds ++ [e] } := by
  obtain ⟨dx, ob⟩ := h.ob
  obtain ⟨vs', e2, hd⟩ := h.de
  have fx : Fx H H' := Fx.lst hl o
  rw [hl] at e2
  cases Option.some.inj e2
  refine ⟨⟨dx, o _ _ h.pl ob⟩, Pd.othL hl o h.str h.bl, ⟨_, hl2, paired_app (acts_fx fx h.okd hd) (.cons hy .nil)⟩, seenD_move h.wa o h.ul, h.ne, h.okm, fun a ha => ?_, h.nd⟩
  rcases List.mem_append.mp ha with g | g
  · exact h.okd a g
  · rw [List.mem_singleton.mp g]
    exact st
/-- the count of the log changes -/
theorem StS.count {n : Int} {dx : Addr} (h : StS K C H p b l u s) (o : Oth p H H') (e : H' p = some (.ins C dx (stF b l u { s with logged := n }))) : StS K C H' p b l u { s with logged := n } := by
  obtain ⟨dx0, ob⟩ := h.ob
  obtain ⟨vs, e2, hd⟩ := h.de
  have fx : Fx H H' := o.keep fun x px z => by
    rw [ob] at z
    cases Option.some.inj z
    exact px
  exact ⟨⟨dx, e⟩, Pd.othLne o h.pb fx h.str h.bl, ⟨vs, o _ _ h.pl.symm e2, acts_fx fx h.okd hd⟩, seenD_move h.wa o h.pu, h.ne, h.okm, h.okd, h.nd⟩
theorem StS.go (h : StS K C H p b l u s) (q : Same H H') : StS K C H' p b l u s := by
  obtain ⟨dx, ob⟩ := h.ob
  obtain ⟨vs, e2, hd⟩ := h.de
  exact ⟨⟨dx, q _ _ ob⟩, h.bl.go q, ⟨vs, q _ _ e2, acts_fx (Fx.of q) h.okd hd⟩, h.wa.go q, h.ne, h.okm, h.okd, h.nd⟩
theorem StS.logUp {k : Int} (h : StS K C H p b l u s) (cl : Cls K C) (na : NoAttr K C "_logged") (hx : ∀ R : VK, R (.ref p) H → ta σ H R) (hv : ∀ R : VK, R (.int k) H → tv σ H R)
    (q : ∀ H1, Oth p H H1 → StS K C H1 p b l u { s with logged := s.logged + k } → D.nx σ H1) : sFldAug K ta tv rAdd "_logged" D σ H := by
  obtain ⟨dx, ob⟩ := h.ob
  refine hx _ ⟨p, C, dx, _, .int s.logged, rfl, ob, cl, na, stF_logged, hv _ ⟨_, _, rfl, rfl, ?_⟩⟩
  refine ⟨dx, stF b l u s, ob, by show 6 < 1000; omega, ?_⟩
  rw [stF_log]
  exact q _ Oth.upd (h.count (dx := dx) Oth.upd upd_same)
theorem StS.logTo {n : Int} {N : Hp → Prop} (h : StS K C H p b l u s) (cl : Cls K C) (na : NoAttr K C "_logged") (q : ∀ H1, Oth p H H1 → StS K C H1 p b l u { s with logged := n } → N H1) : rSFld K "_logged" (.int n) (.ref p) H N := by
  obtain ⟨dx, ob⟩ := h.ob
  refine ⟨p, C, dx, _, rfl, ob, cl, na, by show 6 < 1000; omega, ?_⟩
  show N (upd H p (.ins C dx (putF "_logged" (.int n) (stF b l u s))))
  rw [stF_log]
  exact q _ Oth.upd (h.count (dx := dx) Oth.upd upd_same)
end
/-- what may change where a store at p does: p, its blocks at b, its deeds at l, what waits at u -/
def Oth4 (p b l u : Addr) (H H' : Hp) : Prop := ∀ c o, c ≠ p → c ≠ b → c ≠ l → c ≠ u → H c = some o → H' c = some o
section
variable {p b l u c : Addr} {H H1 H2 : Hp}
theorem Oth4.trans (f : Oth4 p b l u H H1) (g : Oth4 p b l u H1 H2) : Oth4 p b l u H H2 := fun c o h1 h2 h3 h4 e => g c o h1 h2 h3 h4 (f c o h1 h2 h3 h4 e)
theorem Oth4.of (s : Same H H1) : Oth4 p b l u H H1 := fun c o _ _ _ _ e => s c o e
theorem Oth4.op (o : Oth p H H1) : Oth4 p b l u H H1 := fun c x n _ _ _ e => o c x n e
theorem Oth4.ob (o : Oth b H H1) : Oth4 p b l u H H1 := fun c x _ n _ _ e => o c x n e
theorem Oth4.ol (o : Oth l H H1) : Oth4 p b l u H H1 := fun c x _ _ n _ e => o c x n e
theorem Oth4.ou (o : Oth u H H1) : Oth4 p b l u H H1 := fun c x _ _ _ n e => o c x n e
end
def sp_Store_log (K : PySem.W.Frag) (C : Addr) : Sp := fun vs H Q _ => ∃ (p b l u : Addr) (s : Sto) (x : V) (e : Ent), vs = [.ref p, x] ∧ StS K C H p b l u s ∧ EntW K H x e ∧ (∀ q, e = some q → strictD q.2 = true) ∧ s.deeds.length ≤ 8000000 ∧
  ∀ H', Oth4 p b l u H H' → StS K C H' p b l u { s with logged := s.logged + 1, deeds := s.deeds ++ [.log e] } → Q .non H'
end My

set_option Elab.async false
set_option linter.all false
set_option maxRecDepth 100000
set_option maxHeartbeats 1000000
/-! settling, told of data -/
namespace My
open PySem L2
def sortI (l : List Int) : List Int := l.mergeSort fun a b => decide (a ≤ b)
theorem sortI_perm {l : List Int} : (sortI l).Perm l := List.mergeSort_perm l _
theorem sortI_rise {l : List Int} : (sortI l).Pairwise (· ≤ ·) :=
  (List.pairwise_mergeSort (le := fun a b : Int => decide (a ≤ b)) (fun a b c h1 h2 => by simp at *; omega) (fun a b => by simp; omega) l).imp fun h => of_decide_eq_true h
theorem rise_uniq : ∀ {a b : List Int}, a.Perm b → a.Pairwise (· ≤ ·) → b.Pairwise (· ≤ ·) → a = b
  | [], b, p, _, _ => p.nil_eq
  | x :: a, [], p, _, _ => absurd p.length_eq (by simp)
  | x :: a, y :: b, p, h1, h2 => by
    have e : x = y := by
      have m1 : x ∈ y :: b := p.subset List.mem_cons_self
      have m2 : y ∈ x :: a := p.symm.subset List.mem_cons_self
      rcases List.mem_cons.mp m1 with h | h
      · exact h
      · rcases List.mem_cons.mp m2 with g | g
        · exact g.symm
        · have l1 := List.rel_of_pairwise_cons h1 g
          have l2 := List.rel_of_pairwise_cons h2 h
          omega
    subst e
    rw [rise_uniq (List.Perm.cons_inv p) h1.of_cons h2.of_cons]
theorem sortI_uniq {l ys : List Int} (p : ys.Perm l) (r : ys.Pairwise (· ≤ ·)) : ys = sortI l := rise_uniq (p.trans sortI_perm.symm) r sortI_rise
/-- so many of what waits, the lowest first -/
def firstI (wait : List Int) (many : Int) : List Int := (sortI wait).take (max many 0).toNat
theorem first_cut {l : List Int} {many : Int} : cutV (l.map V.int) none (some (if 0 > many then 0 else many)) = (l.take (max many 0).toNat).map V.int := by
  have e : (if 0 > many then 0 else many) = (((max many 0).toNat : Nat) : Int) := by split <;> omega
  rw [e]
  unfold cutV
  rw [HT.sIx_nat, HT.sIx_none, List.drop_zero, Nat.sub_zero, ← List.map_take, List.length_map]
  congr 1
  rcases Nat.le_total (max many 0).toNat l.length with h | h
  · rw [Nat.min_eq_left h]
  · rw [Nat.min_eq_right h, List.take_length, List.take_of_length_le h]
/-- the blocks of these numbers written -/
def writeS (s : Sto) (ns : List Int) : Sto := { s with deeds := s.deeds ++ ns.map (fun n => .write n (optD (getA s.m n))), wait := s.wait.filter fun n => decide (n ∉ ns) }
def clearS (s : Sto) : Sto := { s with deeds := s.deeds ++ [.clear], logged := 0 }
/-- what a store is behind settling up to so many times -/
def settleS (s : Sto) (many : Int) : Sto := if ((firstI s.wait many).length : Int) < many ∧ 0 < s.logged then clearS (writeS s (firstI s.wait many)) else writeS s (firstI s.wait many)
/-- how many deeds that were -/
def settleN (s : Sto) (many : Int) : Int := if ((firstI s.wait many).length : Int) < many ∧ 0 < s.logged then ((firstI s.wait many).length : Int) + 1 else (firstI s.wait many).length
theorem writeS_nil {s : Sto} : writeS s [] = s := by
  unfold writeS
  cases s
  simp
theorem writeS_snoc {s : Sto} {ns : List Int} {n : Int} : writeS s (ns ++ [n]) = { writeS s ns with deeds := (writeS s ns).deeds ++ [.write n (optD (getA s.m n))], wait := (writeS s ns).wait.filter fun k => decide (k ≠ n) } := by
  unfold writeS
  simp only [Sto.mk.injEq, true_and]
  refine ⟨?_, by rw [List.map_append, List.append_assoc]; rfl⟩
  rw [List.filter_filter]
  congr 1
  funext k
  by_cases h1 : k ∈ ns <;> by_cases h2 : k = n <;> simp [h1, h2]
section
variable {K : PySem.W.Frag} {H H1 : Hp} {a C p b l u : Addr} {k : Int} {m : BT} {s : Sto} {D : Ends} {td ty : TE} {σ : L2.St} {Q : VK}
theorem seen_drop {w : List Int} {n : Int} : dropA (seenD w) n = seenD (w.filter fun k => decide (k ≠ n)) := by
  unfold dropA seenD
  rw [List.filter_map]
  rfl
/-- one number waits no more -/
theorem StS.gone (h : StS K C H p b l u s) (hd : ∀ R : VK, R (.ref u) H → td σ H R) (hy : ∀ R : VK, R (.int k) H → ty σ H R) (hk : k ∈ s.wait)
    (q : ∀ H1, Oth u H H1 → StS K C H1 p b l u { s with wait := s.wait.filter fun n => decide (n ≠ k) } → D.nx σ H1) : sDDel td ty D σ H := by
  obtain ⟨kvs, e, hw⟩ := h.wa
  have some_ : (valV kvs (.inl k)).isSome = true := by
    rcases hw.val k with ⟨e1, _⟩ | ⟨v, d, _, e2, _⟩
    · have g := seen_get (r := s.wait) (n := k)
      rw [e1, decide_eq_true hk] at g
      exact nomatch g
    · rw [e2]
      rfl
  obtain ⟨dx, ob⟩ := h.ob
  obtain ⟨vs, ev, hv⟩ := h.de
  have o : Oth u H (upd H u (.dK (dropK kvs (.inl k)))) := Oth.upd
  have fx : Fx H (upd H u (.dK (dropK kvs (.inl k)))) := o.keep fun x px z => by
    rw [e] at z
    cases Option.some.inj z
    exact px
  refine hd _ (hy _ ⟨u, kvs, .inl k, rfl, e, rfl, some_, q _ Oth.upd ?_⟩)
  have wa : Dd K (upd H u (.dK (dropK kvs (.inl k)))) u (seenD (s.wait.filter fun n => decide (n ≠ k))) := by
    rw [← seen_drop]
    exact ⟨_, upd_same, hw.drop.map fun h _ => Dp.oth e o h⟩
  exact ⟨⟨dx, o _ _ h.pu.symm ob⟩, Pd.othLne o h.ne fx h.str h.bl, ⟨vs, o _ _ h.ul.symm ev, acts_fx fx h.okd hv⟩, wa, h.ne, h.okm, h.okd, h.nd.filter _⟩
end
def sp_Store_settle (K : PySem.W.Frag) (C : Addr) : Sp := fun vs H Q _ => ∃ (p b l u : Addr) (s : Sto) (many : Int), vs = [.ref p, .int many] ∧ StS K C H p b l u s ∧ s.deeds.length + s.wait.length ≤ 7000000 ∧ s.wait.length ≤ 7000000 ∧
  ∀ H', Oth4 p b l u H H' → StS K C H' p b l u (settleS s many) → Q (.int (settleN s many)) H'
def sp_Store_settle_wholly (K : PySem.W.Frag) (C : Addr) : Sp := fun vs H Q _ => ∃ (p b l u : Addr) (s : Sto), vs = [.ref p] ∧ StS K C H p b l u s ∧ s.deeds.length + s.wait.length ≤ 7000000 ∧ s.wait.length ≤ 7000000 ∧
  ∀ H', Oth4 p b l u H H' → StS K C H' p b l u (settleS s ((s.wait.length : Int) + 1)) → Q .non H'
end My

set_option Elab.async false
set_option linter.all false
set_option maxRecDepth 100000
set_option maxHeartbeats 1000000
/-! what a store answers; a block laid, plain -/
namespace My
open PySem L2
/-- a store holds the pairs P -/
def Holds (s : Sto) (P : PL) (d : Nat) (R : List (Item d)) : Prop := TR s.w P (rootA s.m) d R ∧ 3 ≤ s.w ∧ s.w ≤ 64 ∧ P.length ≤ 15000 ∧ s.m.length ≤ 90000
def sp_Store_value_at (K : PySem.W.Frag) (C : Addr) : Sp := fun vs H Q _ => ∃ (p b l u : Addr) (s : Sto) (P : PL) (d : Nat) (R : List (Item d)) (key : Int), vs = [.ref p, .int key] ∧ StS K C H p b l u s ∧ Holds s P d R ∧ isKeyV (.int key) = true ∧
  ∀ v H', Same H H' → Dp K H' v (valP P key) → Q v H'
def sp_Store_pairs (K : PySem.W.Frag) (C : Addr) : Sp := fun vs H Q _ => ∃ (p b l u : Addr) (s : Sto) (P : PL) (d : Nat) (R : List (Item d)), vs = [.ref p] ∧ StS K C H p b l u s ∧ Holds s P d R ∧
  ∀ t ys H', H t = none → Same H H' → H' t = some (.lst ys) → DpAll K H' ys (rowD P) → Q (.ref t) H'
/-- lay, of plain blocks -/
def sp_layP (K : PySem.W.Frag) : Sp := fun vs H Q _ => ∃ (a : Addr) (m : BT) (n : Int) (x : V) (b : PyData), vs = [.ref a, .int n, x] ∧ Pd K H a m ∧ PlW K H x b ∧ m.length ≤ 100000 ∧
  ∀ H', Oth a H H' → Pd K H' a (layA m n b) → Q .non H'
theorem plw_none {K : PySem.W.Frag} {H : Hp} {v : V} {d : PyData} (h : PlW K H v d) (e : v = .non) : d = .none := by
  rcases h with ⟨_, h⟩ | ⟨tb, t, p, ys, _, h, _⟩
  · exact h
  · rw [e] at h
    exact nomatch h
theorem plw_some {K : PySem.W.Frag} {H : Hp} {v : V} {d : PyData} (h : PlW K H v d) (e : v ≠ .non) : d ≠ .none := by
  rcases h with ⟨h, _⟩ | ⟨tb, t, p, ys, h, _⟩
  · exact absurd h e
  · rw [h]
    exact fun z => nomatch z
/-- d[k] of a table of plain blocks, a block or None -/
theorem g_rDGetW {K : PySem.W.Frag} {H : Hp} {Q : VK} {a : Addr} {m : BT} {k : Int} {d : PyData} (h : Pd K H a m) (e : getA m k = some d) (q : ∀ v, PlW K H v d → Q v H) : rDGet (.ref a) (.int k) H Q := by
  obtain ⟨kvs, h1, h2⟩ := h
  rcases h2.val k with ⟨e1, _⟩ | ⟨v, d', e1, e2, hd⟩
  · rw [e] at e1
    exact nomatch e1
  · rw [e] at e1
    cases Option.some.inj e1
    exact ⟨a, v, rfl, by rw [← e2]; exact DdAll.dget h1 k, q v hd⟩
end My

set_option Elab.async false
set_option linter.all false
set_option maxRecDepth 100000
set_option maxHeartbeats 1000000
/-! a store around a table that is walked: only tuples must stay -/
namespace My
open PySem L2
def tupO : HO → Prop
  | .tup _ => True
  | .frz _ (.tup _) => True
  | _ => False
/-- all tuples stand as they stood -/
def Tk (H H' : Hp) : Prop := Keep tupO H H'
section
variable {K : PySem.W.Frag} {H H' H2 : Hp} {a c C p b l u : Addr} {xs : List V} {v : V} {d : PyData} {m : BT} {s : Sto} {kvs : List (Key × V)}
theorem Tk.refl : Tk H H := Keep.refl H
theorem Tk.of (q : Same H H') : Tk H H' := Keep.of q
theorem Tk.fx (f : Fx H H') : Tk H H' := fun x o po e => f x o (by
  cases o with
  | tup _ => exact trivial
  | frz _ _ => exact trivial
  | _ => exact po.elim) e
theorem Tk.trans (f : Tk H H') (g : Tk H' H2) : Tk H H2 := Keep.trans f g
/-- an object that is no tuple changes -/
theorem Tk.put {o o2 : HO} (e : H a = some o) (no : ¬ tupO o) : Tk H (upd H a o2) := fun x o' po ex => by
  have ne : x ≠ a := fun z => by
    rw [z, e] at ex
    cases Option.some.inj ex
    exact no po
  rw [upd_ne ne]
  exact ex
theorem SqT.tk (f : Tk H H') (h : SqT K H a xs) : SqT K H' a xs := by
  rcases h with (h | ⟨o, h⟩) | h
  · exact .inl (.inl (f _ _ trivial h))
  · exact .inl (.inr ⟨o, f _ _ trivial h⟩)
  · exact .inr h
mutual
theorem Dp.tk {K : PySem.W.Frag} {H H' : Hp} (f : Tk H H') : ∀ {v : V} {d : PyData}, strictD d = true → Dp K H v d → Dp K H' v d
  | _, _, _, .non => .non
  | _, _, _, .bl b => .bl b
  | _, _, _, .int i => .int i
  | _, _, _, .str x => .str x
  | _, _, s, .lst h r => by simp [strictD] at s
  | _, _, s, .tup h r => .tup (SqT.tk f h) (DpAll.tk f (by simpa [strictD] using s) r)
theorem DpAll.tk {K : PySem.W.Frag} {H H' : Hp} (f : Tk H H') : ∀ {vs : List V} {ds : List PyData}, strictAll ds = true → DpAll K H vs ds → DpAll K H' vs ds
  | _, _, _, .nil => .nil
  | _, _, s, .cons h r => by
    simp only [strictAll, Bool.and_eq_true] at s
    exact .cons (Dp.tk f s.1 h) (DpAll.tk f s.2 r)
end
theorem PlX.tk (f : Tk H H') (h : PlX H a xs) : PlX H' a xs := by
  obtain ⟨o, e1, e⟩ := h
  exact ⟨o, e1, f a _ trivial e⟩
theorem PlW.tk (f : Tk H H') (st : strictD d = true) (h : PlW K H v d) : PlW K H' v d := by
  rcases h with h | ⟨tb, t, q, ys, e1, e2, h1, h2, h3⟩
  · exact .inl h
  · refine .inr ⟨tb, t, q, ys, e1, e2, SqT.tk f h1, h2.tk f, DpAll.tk f ?_ h3⟩
    rw [e1] at st
    unfold TB.D at st
    simp only [strictD, strictAll, Bool.and_eq_true] at st
    exact st.2.1
theorem EntW.tk {e : Ent} (f : Tk H H') (st : ∀ q, e = some q → strictD q.2 = true) (h : EntW K H v e) : EntW K H' v e := by
  cases e with
  | none =>
    obtain ⟨t, h1, h2⟩ := h
    exact ⟨t, h1, SqT.tk f h2⟩
  | some q =>
    obtain ⟨t, y, h1, h2, h3⟩ := h
    exact ⟨t, y, h1, SqT.tk f h2, h3.tk f (st q rfl)⟩
theorem ActW.tk {e : Act} (f : Tk H H') (st : e.strict) (h : ActW K H v e) : ActW K H' v e := by
  cases e with
  | log e =>
    obtain ⟨t, y, h1, h2, h3⟩ := h
    exact ⟨t, y, h1, SqT.tk f h2, h3.tk f fun q z => by subst z; exact st⟩
  | write n d =>
    obtain ⟨t, y, h1, h2, h3⟩ := h
    exact ⟨t, y, h1, SqT.tk f h2, h3.tk f st⟩
  | clear =>
    obtain ⟨t, h1, h2⟩ := h
    exact ⟨t, h1, SqT.tk f h2⟩
theorem Pd.tk (f : Tk H H') (e : ∀ o, H a = some o → H' a = some o) (st : ∀ q ∈ m, strictD q.2 = true) (h : Pd K H a m) : Pd K H' a m := by
  obtain ⟨kvs, e1, h⟩ := h
  exact ⟨kvs, e _ e1, h.map fun h ⟨k, hk⟩ => h.tk f (st _ hk)⟩
/-- a store stays where its four places and all tuples do -/
theorem StS.tk (h : StS K C H p b l u s) (f : Tk H H') (hp : ∀ o, H p = some o → H' p = some o) (hb : ∀ o, H b = some o → H' b = some o) (hl : ∀ o, H l = some o → H' l = some o) (hu : ∀ o, H u = some o → H' u = some o) : StS K C H' p b l u s := by
  obtain ⟨dx, ob⟩ := h.ob
  obtain ⟨vs, ev, hv⟩ := h.de
  obtain ⟨kw, eu, hw⟩ := h.wa
  refine ⟨⟨dx, hp _ ob⟩, h.bl.tk f hb h.str, ⟨vs, hl _ ev, paired_map (fun _ _ hm q => q.tk f (h.okd _ hm)) hv⟩, ⟨kw, hu _ eu, hw.map fun {v d} hv hk => ?_⟩, h.ne, h.okm, h.okd, h.nd⟩
  obtain ⟨k, hk⟩ := hk
  obtain ⟨j, _, e⟩ := List.mem_map.mp hk
  cases e
  cases hv
  exact .bl _
theorem StS.oth (h : StS K C H p b l u s) (f : Tk H H') (o : Oth c H H') (n1 : p ≠ c) (n2 : b ≠ c) (n3 : l ≠ c) (n4 : u ≠ c) : StS K C H' p b l u s :=
  h.tk f (fun x e => o _ _ n1 e) (fun x e => o _ _ n2 e) (fun x e => o _ _ n3 e) fun x e => o _ _ n4 e
/-- the store's own changes keep all tuples -/
theorem StS.tk4 (h : StS K C H p b l u s) (o : Oth4 p b l u H H') : Tk H H' := fun x ob po e => by
  obtain ⟨dx, op⟩ := h.ob
  obtain ⟨kb, eb, _⟩ := h.bl
  obtain ⟨vs, ev, _⟩ := h.de
  obtain ⟨kw, eu, _⟩ := h.wa
  refine o x ob (fun z => ?_) (fun z => ?_) (fun z => ?_) (fun z => ?_) e
  · rw [z, op] at e
    cases Option.some.inj e
    exact po
  · rw [z, eb] at e
    cases Option.some.inj e
    exact po
  · rw [z, ev] at e
    cases Option.some.inj e
    exact po
  · rw [z, eu] at e
    cases Option.some.inj e
    exact po
/-- its blocks change -/
theorem StS.lay {m2 : BT} (h : StS K C H p b l u s) (o : Oth b H H') (hm : Pd K H' b m2) (ok : Blk m2) : StS K C H' p b l u { s with m := m2 } := by
  obtain ⟨dx, ob⟩ := h.ob
  obtain ⟨vs, ev, hv⟩ := h.de
  have f := h.tk4 (Oth4.ob o)
  exact ⟨⟨dx, o _ _ h.pb.symm ob⟩, hm, ⟨vs, o _ _ h.bl'.symm ev, paired_map (fun _ _ hm q => q.tk f (h.okd _ hm)) hv⟩, seenD_move h.wa o h.ne.symm, h.ne, ok, h.okd, h.nd⟩
/-- what waits changes -/
theorem StS.waits {w2 : List Int} (h : StS K C H p b l u s) (o : Oth u H H') (hm : Dd K H' u (seenD w2)) (nd : w2.Nodup) : StS K C H' p b l u { s with wait := w2 } := by
  obtain ⟨dx, ob⟩ := h.ob
  obtain ⟨vs, ev, hv⟩ := h.de
  have f := h.tk4 (Oth4.ou o)
  exact ⟨⟨dx, o _ _ h.pu.symm ob⟩, h.bl.tk f (fun x e => o _ _ h.ne e) h.str, ⟨vs, o _ _ h.ul.symm ev, paired_map (fun _ _ hm q => q.tk f (h.okd _ hm)) hv⟩, hm, h.ne, h.okm, h.okd, nd⟩
end
/-- one number waits -/
def waitA (w : List Int) (n : Int) : List Int := if n ∈ w then w else w ++ [n]
def waitAll (w : List Int) (ns : List Int) : List Int := ns.foldl waitA w
theorem waitA_nd {w : List Int} {n : Int} (h : w.Nodup) : (waitA w n).Nodup := by
  unfold waitA
  split
  · exact h
  · next c =>
    refine List.nodup_append.mpr ⟨h, by simp, fun x hx y hy => ?_⟩
    rw [List.mem_singleton.mp hy]
    exact fun z => c (z ▸ hx)
theorem waitA_len {w : List Int} {n : Int} : (waitA w n).length ≤ w.length + 1 := by
  unfold waitA
  split
  · omega
  · rw [List.length_append, List.length_singleton]
    omega
theorem waitAll_snoc {w ns : List Int} {n : Int} : waitAll w (ns ++ [n]) = waitA (waitAll w ns) n := by
  unfold waitAll
  rw [List.foldl_append]
  rfl
theorem waitAll_len {ns : List Int} : ∀ {w : List Int}, (waitAll w ns).length ≤ w.length + ns.length := by
  induction ns with
  | nil => intro w; exact Nat.le_refl _
  | cons n ns ih =>
    intro w
    have h1 := ih (w := waitA w n)
    have h2 := waitA_len (w := w) (n := n)
    show (waitAll (waitA w n) ns).length ≤ _
    rw [List.length_cons]
    omega
def logS (s : Sto) (es : List Ent) : Sto := { s with logged := s.logged + es.length, deeds := s.deeds ++ es.map .log }
/-- the entries of what changes, the lowest number first -/
def entsT (T : BT) : List Ent := (sortI (keysA T)).map fun n => some (n, optD (getA T n))
def laidS (s : Sto) (T : BT) : Sto := { s with m := layAll s.m T, wait := waitAll s.wait (keysA T) }
def loggedS (s : Sto) (T : BT) : Sto := laidS (logS s (entsT T ++ [none])) T
/-- what a store is behind a request that changes T -/
def requestS (s : Sto) (T : BT) : Sto := if T = [] then s else if s.room ≤ (loggedS s T).logged then settleS (loggedS s T) (((loggedS s T).wait.length : Int) + 1) else loggedS s T
theorem logS_nil {s : Sto} : logS s [] = s := by
  unfold logS
  cases s
  simp
theorem logS_snoc {s : Sto} {es : List Ent} {e : Ent} : logS s (es ++ [e]) = { logS s es with logged := (logS s es).logged + 1, deeds := (logS s es).deeds ++ [.log e] } := by
  unfold logS
  simp only [Sto.mk.injEq, true_and, and_true]
  refine ⟨?_, by rw [List.map_append, List.append_assoc]; rfl⟩
  rw [List.length_append, List.length_singleton]
  omega
theorem laidS_nil {s : Sto} : laidS s [] = s := by cases s; rfl
theorem laidS_snoc {s : Sto} {T : BT} {q : Int × PyData} : laidS s (T ++ [q]) = { laidS s T with m := layA (laidS s T).m q.1 q.2, wait := waitA (laidS s T).wait q.1 } := by
  unfold laidS
  simp only [Sto.mk.injEq, true_and, and_true]
  refine ⟨layAll_app, ?_⟩
  unfold keysA
  rw [List.map_append]
  exact waitAll_snoc
theorem put_wait {w : List Int} {n : Int} : putA (seenD w) n (.bool true) = seenD (waitA w n) := by
  unfold putA waitA
  by_cases h : n ∈ w
  · have any : ((seenD w).any fun p => decide (p.1 = n)) = true := List.any_eq_true.mpr ⟨(n, .bool true), List.mem_map.mpr ⟨n, h, rfl⟩, decide_eq_true rfl⟩
    rw [if_pos any, if_pos h]
    unfold seenD
    rw [List.map_map]
    refine List.map_congr_left fun k _ => ?_
    by_cases e : k = n <;> simp [e]
  · have none_ : ¬ ((seenD w).any fun p => decide (p.1 = n)) = true := fun any => by
      obtain ⟨z, hz, e⟩ := List.any_eq_true.mp any
      obtain ⟨k, hk, rfl⟩ := List.mem_map.mp hz
      exact h ((of_decide_eq_true e : k = n) ▸ hk)
    rw [if_neg none_, if_neg h]
    unfold seenD
    rw [List.map_append]
    rfl
theorem upd_twice {H : Hp} {c : Addr} {x y : HO} (e : H c = some y) : upd (upd H c x) c y = H := by
  funext z
  by_cases h : z = c
  · rw [h, upd_same, e]
  · rw [upd_ne h, upd_ne h]
def sp_Store_request (K : PySem.W.Frag) (C : Addr) : Sp := fun vs H Q _ => ∃ (p b l u c : Addr) (s : Sto) (T : BT), vs = [.ref p, .ref c] ∧ StS K C H p b l u s ∧ Pd K H c T ∧ c ≠ b ∧ c ≠ u ∧ (keysA T).Nodup ∧ (∀ q ∈ T, okD q.2) ∧
  s.deeds.length + s.wait.length + 3 * T.length ≤ 6000000 ∧ s.wait.length + T.length ≤ 6000000 ∧ T.length ≤ 30000 ∧ s.m.length + T.length ≤ 90000 ∧
  ∀ H', Oth4 p b l u H H' → StS K C H' p b l u (requestS s T) → Q .non H'
end My

set_option Elab.async false
set_option linter.all false
set_option maxRecDepth 100000
set_option maxHeartbeats 1000000
/-! a tree by what its table answers; blocks laid one after another -/
namespace My
open PySem L2
section
variable {w : Int} {P : PL} {m m' : BT} {d : Nat} {R : List (Item d)}
/-- a tree stands in any table that answers alike -/
theorem TR.like (h : TR w P m d R) (b : Blk m') (e : ∀ k, getA m' k = getA m k) : TR w P m' d R := by
  have ef : getA m' = getA m := funext e
  refine ⟨b, by rw [e]; exact h.root, h.size, h.two, by rw [ef]; exact h.rep, h.ok, h.leaves, h.okp, h.smp, h.nums, h.pos, fun k hk => h.all k (mem_keysA.mpr ?_)⟩
  rw [← e]
  exact mem_keysA.mp hk
theorem lay_layB {a b : BT} {n j : Int} {v : PyData} (h : j = n ∨ getA a j = getA b j) : getA (layA a n v) j = getA (layB b n v) j := by
  rw [getA_lay, getA_layB]
  by_cases e : j = n
  · rw [if_pos e, if_pos e]
    all_goals (cases v <;> rfl)
  · rw [if_neg e, if_neg e]
    exact h.resolve_left e
/-- laid one by one, whatever stood at the numbers that are laid -/
theorem layAll_behind : ∀ {T a b : BT}, (∀ j, j ∉ keysA T → getA a j = getA b j) → ∀ j, getA (layAll a T) j = getA (behindA b T) j
  | [], a, b, h, j => h j (fun z => nomatch z)
  | p :: T, a, b, h, j => by
    show getA (layAll (layA a p.1 p.2) T) j = getA (behindA (layB b p.1 p.2) T) j
    refine layAll_behind (fun i hi => lay_layB ?_) j
    by_cases e : i = p.1
    · exact .inl e
    · refine .inr (h i fun z => ?_)
      rcases List.mem_cons.mp z with g | g
      · exact e g
      · exact hi g
theorem rootA_some {v : PyData} (h : getA m 0 = some v) : rootA m = m := by
  unfold rootA
  rw [if_pos (by rw [h]; rfl)]
theorem rootA_get {j : Int} (h : j ≠ 0) : getA (rootA m) j = getA m j := by
  unfold rootA
  split
  · rfl
  · rw [getA_put, if_neg h]
/-- behind what changes, laid on the blocks themselves, the tree stands with its root -/
theorem TR.laid {T : BT} (h : TR w P (behindA (rootA m) T) d R) (b : Blk (layAll m T)) (z : (0 : Int) ∈ keysA T ∨ (getA m 0).isSome = true) : TR w P (rootA (layAll m T)) d R := by
  have e : ∀ j, getA (layAll m T) j = getA (behindA (rootA m) T) j := layAll_behind fun j hj => by
    by_cases c : j = 0
    · subst c
      rcases z with z | z
      · exact absurd z hj
      · unfold rootA
        rw [if_pos z]
    · exact (rootA_get c).symm
  have t := h.like b e
  rw [rootA_some t.root]
  exact t
end
end My

set_option Elab.async false
set_option linter.all false
set_option maxRecDepth 100000
set_option maxHeartbeats 1000000
/-! the pairs between two keys, level by level -/
namespace My
open PySem L2
/-- the pairs of a row whose keys lie from low to high -/
def betwP (P : PL) (low high : Int) : PL := P.filter fun p => decide (low ≤ p.1) && decide (p.1 ≤ high)
/-- the things of a block from the place of low to that of high -/
def cutN (d : Nat) (R : List (Item d)) (low high : Int) : List (Item d) := (R.take (placeN (keysT (contR d R)) high + 1)).drop (placeN (keysT (contR d R)) low)
section
variable {m : BT} {w : Int} {d : Nat} {low high : Int} {P : PL}
theorem betwP_app {A B : PL} : betwP (A ++ B) low high = betwP A low high ++ betwP B low high := List.filter_append ..
theorem betwP_nil {A : PL} (h : (∀ p ∈ A, p.1 < low) ∨ ∀ p ∈ A, high < p.1) : betwP A low high = [] := by
  refine List.filter_eq_nil_iff.mpr fun p hp z => ?_
  rw [Bool.and_eq_true, decide_eq_true_eq, decide_eq_true_eq] at z
  rcases h with h | h <;> have := h p hp <;> omega
theorem betwP_out (h : high < low) : betwP P low high = [] := by
  refine List.filter_eq_nil_iff.mpr fun p hp z => ?_
  rw [Bool.and_eq_true, decide_eq_true_eq, decide_eq_true_eq] at z
  omega
theorem cnt_mono (h : low ≤ high) : ∀ {ks : List Int}, (ks.filter fun k => decide (k ≤ low)).length ≤ (ks.filter fun k => decide (k ≤ high)).length
  | [] => Nat.le_refl _
  | k :: ks => by
    have ih := cnt_mono h (ks := ks)
    by_cases c : k ≤ low
    · rw [List.filter_cons, if_pos (decide_eq_true c), List.filter_cons, if_pos (decide_eq_true (by omega)), List.length_cons, List.length_cons]
      omega
    · rw [List.filter_cons, if_neg (by simpa using c), List.filter_cons]
      split
      · rw [List.length_cons]
        omega
      · exact ih
theorem placeN_mono (h : low ≤ high) {ks : List Int} : placeN ks low ≤ placeN ks high := by
  have := cnt_mono h (ks := ks)
  unfold placeN
  omega
theorem cutN_subl {R : List (Item d)} : (cutN d R low high).Sublist R := (List.drop_sublist _ _).trans (List.take_sublist _ _)
theorem contR_cut {R : List (Item d)} : contR d (cutN d R low high) = ((contR d R).take (placeN (keysT (contR d R)) high + 1)).drop (placeN (keysT (contR d R)) low) := by
  unfold cutN contR
  rw [List.map_drop, List.map_take]
theorem leavesR_subl : ∀ {R S : List (Item d)}, R.Sublist S → (leavesR d R).Sublist (leavesR d S)
  | _, _, .slnil => .slnil
  | R, _, .cons (l₂ := S) x h => by
    show (leavesR d R).Sublist (leavesI d x ++ leavesR d S)
    exact (leavesR_subl h).trans (List.sublist_append_right _ _)
  | _, _, .cons₂ (l₁ := R) (l₂ := S) x h => by
    show (leavesI d x ++ leavesR d R).Sublist (leavesI d x ++ leavesR d S)
    exact (List.Sublist.refl _).append (leavesR_subl h)
/-- what is cut off of a block lies outside -/
theorem cut_betw (hw : 1 ≤ halfI w) {R : List (Item d)} (hR : R ≠ []) (ok : ∀ x ∈ R, okI w d x) (rise : (keysT (leavesR d R)).Pairwise (· < ·)) (hlh : low ≤ high) :
    betwP (leavesR d (cutN d R low high)) low high = betwP (leavesR d R) low high ∧ cutN d R low high ≠ [] := by
  obtain ⟨A, x, B, e1, l1, a1, b1⟩ := place_split hw hR ok rise (key := low)
  obtain ⟨A', x', B', e2, l2, a2, b2⟩ := place_split hw hR ok rise (key := high)
  have mono := placeN_mono (ks := keysT (contR d R)) hlh
  have ll1 := congrArg List.length e1
  have ll2 := congrArg List.length e2
  rw [List.length_append, List.length_cons] at ll1 ll2
  have tk : R.take (placeN (keysT (contR d R)) low) = A := by
    rw [← l1]
    conv => lhs; rw [e1]
    exact List.take_left
  have dr : R.drop (placeN (keysT (contR d R)) high + 1) = B' := by
    rw [← l2]
    conv => lhs; rw [e2]
    rw [show A' ++ x' :: B' = (A' ++ [x']) ++ B' by simp, show A'.length + 1 = (A' ++ [x']).length by simp]
    exact List.drop_left
  have sp : R = A ++ cutN d R low high ++ B' := by
    have h1 : R = R.take (placeN (keysT (contR d R)) high + 1) ++ R.drop (placeN (keysT (contR d R)) high + 1) := (List.take_append_drop ..).symm
    have h2 : R.take (placeN (keysT (contR d R)) high + 1) = (R.take (placeN (keysT (contR d R)) high + 1)).take (placeN (keysT (contR d R)) low) ++ cutN d R low high := (List.take_append_drop ..).symm
    rw [List.take_take, Nat.min_eq_left (by omega), tk] at h2
    rw [dr, h2] at h1
    exact h1
  refine ⟨?_, fun z => ?_⟩
  · have e := congrArg (fun S => betwP (leavesR d S) low high) sp
    simp only [leavesR_app, betwP_app] at e
    rw [betwP_nil (.inl a1), betwP_nil (.inr b2), List.nil_append, List.append_nil] at e
    exact e.symm
  · have h := congrArg List.length z
    unfold cutN at h
    rw [List.length_drop, List.length_take, List.length_nil] at h
    omega
/-- all blocks of a level cut -/
theorem cuts_betw (hw : 1 ≤ halfI w) (hlh : low ≤ high) : ∀ {Rs : List (List (Item d))}, (∀ R ∈ Rs, R ≠ []) → (∀ x ∈ Rs.flatten, okI w d x) → (keysT (leavesR d Rs.flatten)).Pairwise (· < ·) →
    betwP (leavesR d (Rs.map fun R => cutN d R low high).flatten) low high = betwP (leavesR d Rs.flatten) low high
  | [], _, _, _ => rfl
  | R :: Rs, ne, ok, rise => by
    rw [List.flatten_cons, leavesR_app, keysT_app, List.pairwise_append] at rise
    have h1 := (cut_betw hw (ne R List.mem_cons_self) (fun x hx => ok x (by rw [List.flatten_cons]; exact List.mem_append_left _ hx)) rise.1 hlh).1
    have h2 := cuts_betw hw hlh (Rs := Rs) (fun S hS => ne S (List.mem_cons_of_mem _ hS)) (fun x hx => ok x (by rw [List.flatten_cons]; exact List.mem_append_right _ hx)) rise.2.1
    rw [List.map_cons, List.flatten_cons, List.flatten_cons, leavesR_app, leavesR_app, betwP_app, betwP_app, h1, h2]
theorem cuts_subl : ∀ {Rs : List (List (Item d))}, (Rs.map fun R => cutN d R low high).flatten.Sublist Rs.flatten
  | [] => .slnil
  | R :: Rs => by
    rw [List.map_cons, List.flatten_cons, List.flatten_cons]
    exact cutN_subl.append cuts_subl
/-- a level of those blocks that can hold such a key -/
structure LB (m : BT) (w : Int) (P : PL) (low high : Int) (d : Nat) (Rs : List (List (Item d))) (P' : PL) : Prop where
  lv : LV m w P' d Rs
  sub : P'.Sublist P
  bt : betwP P' low high = betwP P low high
  size : ∀ R ∈ Rs, (R.length : Int) ≤ w
  rne : d ≠ 0 → ∀ R ∈ Rs, R ≠ []
theorem TR.lb {R : List (Item d)} (T : TR w P m d R) : LB m w P low high d [R] P :=
  ⟨T.lv, List.Sublist.refl _, rfl, fun S hS => by rw [List.mem_singleton.mp hS]; exact T.size, fun h S hS z => by
    rw [List.mem_singleton.mp hS] at z
    have := T.two h
    rw [z, List.length_nil] at this
    omega⟩
theorem LB.next (hw : 3 ≤ w) (hP : (keysT P).Pairwise (· < ·)) (hlh : low ≤ high) {Rs : List (List (Item (d + 1)))} {P' : PL} (V : LB m w P low high (d + 1) Rs P') :
    ∃ P'', LV m w P'' (d + 1) (Rs.map fun R => cutN (d + 1) R low high) ∧ LB m w P low high d (nextR d (Rs.map fun R => cutN (d + 1) R low high)) P'' ∧ P''.Sublist P := by
  have h2w : 2 ≤ halfI w := by unfold halfI; omega
  have subl := cuts_subl (low := low) (high := high) (Rs := Rs)
  have rise : (keysT (leavesR (d + 1) Rs.flatten)).Pairwise (· < ·) := by
    rw [V.lv.leaves]
    exact hP.sublist (V.sub.map _)
  have bt := cuts_betw (low := low) (high := high) (by omega) hlh (V.rne (by omega)) V.lv.ok rise
  have subP : (leavesR (d + 1) (Rs.map fun R => cutN (d + 1) R low high).flatten).Sublist P := by
    refine (leavesR_subl subl).trans ?_
    rw [V.lv.leaves]
    exact V.sub
  have LVc : LV m w (leavesR (d + 1) (Rs.map fun R => cutN (d + 1) R low high).flatten) (d + 1) (Rs.map fun R => cutN (d + 1) R low high) := by
    refine ⟨fun z => V.lv.ne (List.map_eq_nil_iff.mp z), fun _ z => ?_, fun x hx => V.lv.rep x (subl.subset hx), fun x hx => V.lv.ok x (subl.subset hx), rfl⟩
    obtain ⟨R, hR⟩ := List.exists_mem_of_ne_nil _ V.lv.ne
    have hRn := V.rne (by omega) R hR
    have okR : ∀ x ∈ R, okI w (d + 1) x := fun x hx => V.lv.ok x (List.mem_flatten.mpr ⟨R, hR, hx⟩)
    have sR : (leavesR (d + 1) R).Sublist (leavesR (d + 1) Rs.flatten) := leavesR_subl (List.sublist_flatten_of_mem hR)
    have rR : (keysT (leavesR (d + 1) R)).Pairwise (· < ·) := rise.sublist (sR.map _)
    exact (cut_betw (by omega) hRn okR rR hlh).2 (List.flatten_eq_nil_iff.mp z _ (List.mem_map.mpr ⟨R, hR, rfl⟩))
  refine ⟨_, LVc, ⟨(LVc.next hw).1, subP, ?_, fun R hR => ?_, fun _ R hR z => ?_⟩, subP⟩
  · rw [bt, V.lv.leaves, V.bt]
  · obtain ⟨c, hc, rfl⟩ := List.mem_map.mp hR
    exact (LVc.ok c hc).2.1
  · obtain ⟨c, hc, rfl⟩ := List.mem_map.mp hR
    have h := (LVc.ok c hc).1
    have h : halfI w ≤ ((belI c).length : Int) := h
    rw [z, List.length_nil] at h
    omega
theorem smP_up {R : List (Item (d + 1))} : smP (contR (d + 1) R) := fun p hp => by
  obtain ⟨c, _, rfl⟩ := List.mem_map.mp hp
  exact ⟨rfl, by show PyData.depth (.int _) ≤ 5; simp [PyData.depth]⟩
theorem betwP_len : (betwP P low high).length ≤ P.length := List.length_filter_le ..
end
theorem slAK {X : Cx} {K : PySem.W.Frag} (h : X.K = K) : SlR X (rSlA K) := h ▸ sl_tupA
def sp_within (K : PySem.W.Frag) : Sp := fun vs H Q _ => ∃ (b : Addr) (m : BT) (w : Int) (P : PL) (d : Nat) (R : List (Item d)) (low high : Int), vs = [.ref b, .int low, .int high] ∧ Dd K H b m ∧ TR w P m d R ∧ 3 ≤ w ∧ w ≤ 64 ∧ P.length ≤ 15000 ∧
  ∀ t ys H', H t = none → Same H H' → H' t = some (.lst ys) → DpAll K H' ys (rowD (betwP P low high)) → Q (.ref t) H'
def sp_Store_between (K : PySem.W.Frag) (C : Addr) : Sp := fun vs H Q _ => ∃ (p b l u : Addr) (s : Sto) (P : PL) (d : Nat) (R : List (Item d)) (low high : Int), vs = [.ref p, .int low, .int high] ∧ StS K C H p b l u s ∧ Holds s P d R ∧ isKeyV (.int low) = true ∧ isKeyV (.int high) = true ∧
  ∀ t ys H', H t = none → Same H H' → H' t = some (.lst ys) → DpAll K H' ys (rowD (betwP P low high)) → Q (.ref t) H'
end My

set_option Elab.async false
set_option linter.all false
set_option maxRecDepth 100000
set_option maxHeartbeats 1000000
/-! redone over plain blocks; a store as it comes up -/
namespace My
open PySem L2
def sp_redoneP (K : PySem.W.Frag) : Sp := fun vs H Q _ => ∃ (a l : Addr) (m : BT) (xs : List V) (E : List Ent), vs = [.ref a, .ref l] ∧ Pd K H a m ∧ SqL K H l xs ∧ Paired (EntW K H) xs E ∧ okE E ∧ Blk m ∧ m.length + E.length ≤ 90000 ∧
  ∀ da H', H da = none → Same H H' → Pd K H' da (redoA m E) → Q (.ref da) H'
section
variable {K : PySem.W.Frag} {H H' : Hp} {xs : List V} {E : List Ent} {l a p : Addr}
theorem entsW_go (s : Same H H') (h : Paired (EntW K H) xs E) : Paired (EntW K H') xs E := paired_map (fun _ _ _ h => h.go s) h
theorem entsW_fx (f : Fx H H') (ok : okE E) (h : Paired (EntW K H) xs E) : Paired (EntW K H') xs E := paired_map (fun x e he h => h.fx f fun p z => (ok p (by rw [← z]; exact he)).1) h
theorem entsW_at (h : Paired (EntW K H) xs E) {i : Nat} {x : V} (hx : xs[i]? = some x) : ∃ e, E[i]? = some e ∧ EntW K H x e := pair_at h hx
/-- a field that is new -/
theorem putF_end {f : Str} {v : V} : ∀ {fs : List (Str × V)}, (∀ q ∈ fs, ¬ q.1 = f) → putF f v fs = fs ++ [(f, v)]
  | [], _ => rfl
  | (g, u) :: fs, h => by
    rw [putF_cons, if_neg (h (g, u) List.mem_cons_self), putF_end fun q hq => h q (List.mem_cons_of_mem _ hq)]
    rfl
theorem Oth.free {c : Addr} (o : Oth p H H') (hp : H' p ≠ none) (n : H' c = none) : H c = none ∧ c ≠ p := by
  have cp : c ≠ p := fun z => hp (z ▸ n)
  refine ⟨?_, cp⟩
  cases e : H c with
  | none => rfl
  | some ob =>
    rw [o _ _ cp e] at n
    exact nomatch n
end
/-- the numbers that a log names, in order -/
def logN (E : List Ent) : List Int := E.filterMap fun e => e.map Prod.fst
/-- a store as it comes up from a disk, ahead of settling -/
def upS0 (w room : Int) (m : BT) (E : List Ent) : Sto := ⟨w, room, E.length, redoA m E, waitAll [] ((logN E).filter fun n => !PyData.eqv (optD (getA m n)) (optD (getA (redoA m E) n))), []⟩
def upS (w room : Int) (m : BT) (E : List Ent) : Sto := settleS (upS0 w room m E) (((upS0 w room m E).wait.length : Int) + 1)
def sp_Store_init (K : PySem.W.Frag) (C : Addr) : Sp := fun vs H Q _ => ∃ (p dx b l : Addr) (m : BT) (xs : List V) (E : List Ent) (w room : Int), vs = [.ref p, .int w, .int room, .ref b, .ref l] ∧ H p = some (.ins C dx []) ∧ Pd K H b m ∧ SqL K H l xs ∧ Paired (EntW K H) xs E ∧
  okE E ∧ Blk m ∧ m.length + E.length ≤ 30000 ∧ 3 ≤ w ∧ w ≤ 64 ∧ 1 ≤ room ∧ room ≤ 1000 ∧ fitM (rootA (redoA m E)) ∧ (rootA (redoA m E)).length * w.toNat ≤ 25000 ∧ soundD (rootA (redoA m E)) w = true ∧
  ∀ b' l' u' H', H b' = none → H l' = none → H u' = none → Oth p H H' → StS K C H' p b' l' u' (upS w room m E) → Q .non H'
theorem logN_snoc {E : List Ent} {e : Ent} : logN (E ++ [e]) = logN E ++ (match e with | some p => [p.1] | none => []) := by
  unfold logN
  rw [List.filterMap_append]
  cases e <;> rfl
theorem logN_len {E : List Ent} : (logN E).length ≤ E.length := List.length_filterMap_le ..
theorem rootA_blk {m : BT} (h : Blk m) : Blk (rootA m) := by
  unfold rootA
  split
  · exact h
  · exact h.put (okD_D (b := noneTB) fun p hp => nomatch hp)
theorem waitAll_nd : ∀ {ns w : List Int}, w.Nodup → (waitAll w ns).Nodup
  | [], _, h => h
  | n :: ns, w, h => waitAll_nd (ns := ns) (w := waitA w n) (waitA_nd h)
section
variable {K : PySem.W.Frag} {σ : L2.St} {H : Hp} {Q : VK} {g : TG} {tt : TT} {tk tv : TE} {vs : List Nat} {J : It} {n : Nat} {G : Hp → Prop} {Y : Nat → Hp → V → Hp → Prop}
def dcR (g : TG) (tt : TT) (tk tv : TE) (vs : List Nat) (σ : L2.St) (Q : VK) : It → Hp → Prop := fun J H1 => tDc (fun _ H R => R J H) g tt tk tv vs σ H1 Q
theorem g_dcO {wi : TI} (q : wi σ H (dcR g tt tk tv vs σ Q)) : tDc wi g tt tk tv vs σ H Q := q
/-- a dict comprehension over any walk -/
theorem dc_it (w : Walk J n G Y) {H1 : Hp} {D : Addr} {Qd : Hp → Prop} (Pv : Nat → Hp → Prop) (h0 : Pv 0 (upd H1 D (.dK []))) (hG : ∀ i H, i ≤ n → Pv i H → G H)
    (hs : ∀ i x H H', i < n → Pv i H → Y i H x H' → g x (wipe σ vs) H' fun σ2 H2 => wipe σ2 vs = wipe σ vs ∧ tt σ2 H2 fun b H3 =>
      if b = true then tk σ2 H3 fun y H4 => tv σ2 H4 fun z H5 => ∃ kvs k, y = kV k ∧ H5 D = some (.dK kvs) ∧ kvs.length < sizeLine ∧ Pv (i + 1) (upd H5 D (.dK (putK kvs k z))) else Pv (i + 1) H3) (hd : ∀ H, Pv n H → Qd H) :
    ∃ W : Nat → Nat → Hp → Prop, (∃ m, W 0 m (upd H1 D (.dK []))) ∧ ∀ i m H, W i m H →
      (J.stop i H ∧ Qd H) ∨ (J.go i H ∧ ∃ Nx : Hp → Prop, (∀ H', Nx H' → ∃ m', m' < m ∧ W (i + 1) m' H') ∧ ∀ x H', J.yld i H x H' → g x (wipe σ vs) H' fun σ2 H2 => wipe σ2 vs = wipe σ vs ∧ tt σ2 H2 fun b H3 =>
        if b = true then tk σ2 H3 fun y H4 => tv σ2 H4 fun z H5 => ∃ kvs k, y = kV k ∧ H5 D = some (.dK kvs) ∧ kvs.length < sizeLine ∧ Nx (upd H5 D (.dK (putK kvs k z))) else Nx H3) := by
  refine ⟨fun i m H => m = n - i ∧ i ≤ n ∧ Pv i H, ⟨n, by simp, Nat.zero_le _, h0⟩, ?_⟩
  rintro i m H ⟨rfl, hi, p⟩
  have q := hG i H hi p
  by_cases hlt : i < n
  · refine .inr ⟨w.goes i H hlt q, Pv (i + 1), fun H' p' => ⟨n - (i + 1), by omega, rfl, hlt, p'⟩, fun x H' y => hs i x H H' hlt p (w.yields i H x H' hlt q y)⟩
  · have e : i = n := by omega
    subst e
    exact .inl ⟨w.stops H q, hd H p⟩
end
section
variable {K : PySem.W.Frag} {H H' : Hp} {C p dx da b l : Addr} {m2 m : BT} {xs : List V} {E : List Ent} {fs : List (Str × V)}
theorem seqL_op {o : HO} (hp : H p = some o) (no : ∀ ys, o ≠ .lst ys) (nf : ∀ a b, o ≠ .frz a b) (q : Oth p H H') (h : SqL K H l xs) : SqL K H' l xs := by
  rcases h with (h | ⟨f, h⟩) | h
  · exact .inl (.inl (q _ _ (fun z => by rw [z, hp] at h; exact no _ (Option.some.inj h)) h))
  · exact .inl (.inr ⟨f, q _ _ (fun z => by rw [z, hp] at h; exact nf _ _ (Option.some.inj h)) h⟩)
  · exact .inr h
theorem fx_op {fs' : List (Str × V)} (hp : H p = some (.ins C dx fs')) (q : Oth p H H') : Fx H H' := q.keep fun x px z => by
  rw [hp] at z
  cases Option.some.inj z
  exact px
/-- a store in the making at p, what was handed in beside it -/
structure Ini (K : PySem.W.Frag) (C : Addr) (H : Hp) (p dx da b l : Addr) (m2 m : BT) (xs : List V) (E : List Ent) (fs : List (Str × V)) : Prop where
  ob : H p = some (.ins C dx fs)
  bl : Pd K H da m2
  hb : Pd K H b m
  ll : SqL K H l xs
  es : Paired (EntW K H) xs E
  b2 : Blk m2
  bm : Blk m
  oe : okE E
theorem Ini.go (s : Same H H') (h : Ini K C H p dx da b l m2 m xs E fs) : Ini K C H' p dx da b l m2 m xs E fs :=
  ⟨s _ _ h.ob, h.bl.go s, h.hb.go s, L2.Same.seq s h.ll, entsW_go s h.es, h.b2, h.bm, h.oe⟩
theorem Ini.nb (h : Ini K C H p dx da b l m2 m xs E fs) : b ≠ p ∧ da ≠ p := by
  refine ⟨fun z => ?_, fun z => ?_⟩
  · obtain ⟨k, e, _⟩ := h.hb
    rw [z, h.ob] at e
    cases e
  · obtain ⟨k, e, _⟩ := h.bl
    rw [z, h.ob] at e
    cases e
theorem Ini.op {fs' : List (Str × V)} (o : Oth p H H') (e : H' p = some (.ins C dx fs')) (h : Ini K C H p dx da b l m2 m xs E fs) : Ini K C H' p dx da b l m2 m xs E fs' := by
  have fx := fx_op h.ob o
  exact ⟨e, Pd.othLne o h.nb.2 fx h.b2.strict h.bl, Pd.othLne o h.nb.1 fx h.bm.strict h.hb, seqL_op h.ob (fun _ z => nomatch z) (fun _ _ z => nomatch z) o h.ll, entsW_fx fx h.oe h.es, h.b2, h.bm, h.oe⟩
/-- a new field set -/
theorem Ini.set {f : Str} {y : V} {N : Hp → Prop} (h : Ini K C H p dx da b l m2 m xs E fs) (cl : Cls K C) (na : NoAttr K C f) (hl : fs.length < 1000) (L : List Str) (hL : fs.map Prod.fst = L) (hn : f ∉ L)
    (q : ∀ H', Oth p H H' → Ini K C H' p dx da b l m2 m xs E (fs ++ [(f, y)]) → N H') : rSFld K f y (.ref p) H N :=
  ⟨p, C, dx, fs, rfl, h.ob, cl, na, hl, q _ Oth.upd (h.op Oth.upd (by
    rw [upd_same, putF_end fun z hz e => hn (by rw [← hL, ← e]; exact List.mem_map_of_mem hz)]))⟩
theorem Ini.get {f : Str} {v : V} {Q : VK} (h : Ini K C H p dx da b l m2 m xs E fs) (e : List.lookup f fs = some v) (cl : Cls K C) (na : NoAttr K C f) (q : Q v H) : rFld K f (.ref p) H Q :=
  ⟨p, C, dx, fs, v, rfl, h.ob, cl, na, e, q⟩
theorem Oth.and (o : Oth p H H') {H2 : Hp} (s : Same H' H2) : Oth p H H2 := o.trans (Oth.of s)
end
end My

set_option Elab.async false
set_option linter.all false
set_option maxRecDepth 100000
set_option maxHeartbeats 1000000
/-! requests told of data: what a store holds behind them, how many deeds they are -/
namespace My
open PySem L2
section
variable {m : BT} {w : Int} {d : Nat} {key : Int} {held P : PL} {R : List (Item d)} {T : BT} {s : Sto}
theorem revN_len {n : Int} {ps : PL} : (revN m key d n ps).length = d := by
  rw [← revN_way, List.length_reverse, List.length_dropLast, List.length_cons, way_len]
  omega
theorem reqC_short {ps : PL} : (reqC m w key held d ps).after.length ≤ 4 * d + 4 := by
  unfold reqC
  have h := upP_len (m := m) (w := w) (key := key) (ns := revN m key d 0 ps) (lf := true) (row := heldP (leafP m key d ps) key held) (c := ⟨[], 0⟩)
  rw [revN_len] at h
  have : (([] : BT)).length = 0 := rfl
  simp only [List.length_nil] at h
  omega
theorem told_short {ps : PL} : (toldA m (reqC m w key held d ps).after).length ≤ 4 * d + 4 := Nat.le_trans (List.length_filter_le ..) reqC_short
/-! how deep a tree is -/
theorem okI_pow (hw : 3 ≤ w) : ∀ {d : Nat} {x : Item d}, okI w d x → 2 ^ d ≤ (leavesI d x).length
  | 0, _, _ => Nat.le_refl _
  | d + 1, c, h => by
    have h2 : 2 ≤ c.2.length := by
      have := h.1
      unfold halfI at this
      omega
    obtain ⟨n, R⟩ := c
    match R, h2, h.2.2 with
    | x :: y :: R, _, hx =>
      have a := okI_pow hw (hx x (by simp))
      have b := okI_pow hw (hx y (by simp))
      show 2 ^ (d + 1) ≤ (leavesI d x ++ (leavesI d y ++ leavesR d R)).length
      rw [List.length_append, List.length_append, Nat.pow_succ]
      omega
theorem TR.pow (hw : 3 ≤ w) (T : TR w P m d R) : d = 0 ∨ 2 ^ d ≤ P.length := by
  by_cases q : d = 0
  · exact .inl q
  · refine .inr ?_
    have h2 := T.two q
    match R, h2, T.ok, T.leaves with
    | x :: R, _, hx, e =>
      have a := okI_pow hw (hx x (by simp))
      rw [← e]
      show 2 ^ d ≤ (leavesI d x ++ leavesR d R).length
      rw [List.length_append]
      omega
theorem TR.depth (hw : 3 ≤ w) (T : TR w P m d R) (hP : P.length ≤ 16000) : d ≤ 13 := by
  rcases T.pow hw with h | h
  · omega
  · refine Classical.byContradiction fun z => ?_
    have : 2 ^ 14 ≤ 2 ^ d := Nat.pow_le_pow_right (by decide) (by omega)
    have e : 2 ^ 14 = 16384 := by decide
    omega
/-- the root, where none is written -/
theorem rootA_none (h : getA m 0 = none) : getA (rootA m) 0 = some noneTB.D := by
  unfold rootA
  rw [h, if_neg (by simp), getA_put, if_pos rfl]
theorem TR.none_root (T : TR w P (rootA m) d R) (h : getA m 0 = none) : P = [] := by
  have e := T.root
  rw [rootA_none h] at e
  have e := D_inj (Option.some.inj e)
  have e2 : contR d R = [] := (congrArg TB.ps e).symm
  have e3 : R = [] := List.map_eq_nil_iff.mp e2
  rw [← T.leaves, e3]
  rfl
theorem TR.root_some (T : TR w P (rootA m) d R) (h : P ≠ []) : rootA m = m := by
  cases e : getA m 0 with
  | none => exact absurd (T.none_root e) h
  | some v => exact rootA_some e
theorem rootA_len : m.length ≤ (rootA m).length := by
  unfold rootA
  split
  · exact Nat.le_refl _
  · rename_i h
    unfold putA
    split
    · rw [List.length_map]
      exact Nat.le_refl _
    · rw [List.length_append]
      omega
theorem TR.m_len (hw : 3 ≤ w) (T : TR w P (rootA m) d R) : m.length ≤ P.length + 1 := Nat.le_trans rootA_len (T.m_le hw)
/-- what changes a root that no block is, is the root -/
theorem Told.zero (hT : Told (rootA m) w P key held d R T) (X : TR w P (rootA m) d R) (h : heldP P key held ≠ []) : (0 : Int) ∈ keysA T ∨ (getA m 0).isSome = true := by
  cases e : getA m 0 with
  | some v => exact .inr rfl
  | none =>
    refine .inl ?_
    obtain ⟨d', R', c, rfl, F, _, _⟩ := hT
    rw [mem_keysA, told_get F.ndk, F.root, rootA_none e]
    by_cases q : (blkR d' R').D = optD (some noneTB.D)
    · have e1 := D_inj (show (blkR d' R').D = noneTB.D from q)
      have e2 : contR d' R' = [] := congrArg TB.ps e1
      have e3 : R' = [] := List.map_eq_nil_iff.mp e2
      refine absurd ?_ h
      rw [← F.leaves, e3]
      rfl
    · dsimp only
      rw [if_neg q]
      rfl
/-- behind a request the tree of what is due stands, laid or not -/
theorem Told.laid (hw : 3 ≤ w) (hT : Told (rootA m) w P key held d R T) (X : TR w P (rootA m) d R) (b : Blk m) (h : held = [] → P ≠ []) (hh : held = [] ∨ ∃ v, held = [(key, v)] ∧ isKeyD (.int key) = true ∧ heldD (wordT true) v = true) (sh : smP held) :
    ∃ (d' : Nat) (R' : List (Item d')), TR w (heldP P key held) (rootA (layAll m T)) d' R' := by
  obtain ⟨d', R', X'⟩ := hT.tr hw X hh sh
  refine ⟨d', R', X'.laid (layAll_blk b hT.ok) ?_⟩
  by_cases q : held = []
  · rw [X.root_some (h q)] at X
    exact .inr (by rw [X.root]; rfl)
  · refine hT.zero X fun z => ?_
    unfold heldP at z
    rw [List.append_eq_nil_iff, List.append_eq_nil_iff] at z
    exact q z.1.2
/-- a store holds these pairs -/
def Live (s : Sto) (P : PL) : Prop := (∃ (d : Nat) (R : List (Item d)), TR s.w P (rootA s.m) d R) ∧ 3 ≤ s.w ∧ s.w ≤ 64
theorem Live.holds (h : Live s P) (hP : P.length ≤ 15000) : ∃ (d : Nat) (R : List (Item d)), Holds s P d R := by
  obtain ⟨⟨d, R, X⟩, h1, h2⟩ := h
  have := X.m_len h1
  exact ⟨d, R, X, h1, h2, hP, by omega⟩
theorem Holds.live (h : Holds s P d R) : Live s P := ⟨⟨d, R, h.1⟩, h.2.1, h.2.2.1⟩
theorem Live.like {s' : Sto} (h : Live s P) (e1 : s'.w = s.w) (e2 : s'.m = s.m) : Live s' P := by
  unfold Live
  rw [e1, e2]
  exact h
/-! settling changes no block -/
theorem settleS_m {many : Int} : (settleS s many).m = s.m := by
  unfold settleS
  split <;> rfl
theorem settleS_w {many : Int} : (settleS s many).w = s.w := by
  unfold settleS
  split <;> rfl
theorem settleS_room {many : Int} : (settleS s many).room = s.room := by
  unfold settleS
  split <;> rfl
theorem requestS_w : (requestS s T).w = s.w := by
  unfold requestS
  split
  · rfl
  · split
    · rw [settleS_w]
      rfl
    · rfl
theorem requestS_room : (requestS s T).room = s.room := by
  unfold requestS
  split
  · rfl
  · split
    · rw [settleS_room]
      rfl
    · rfl
theorem requestS_m : (requestS s T).m = layAll s.m T := by
  unfold requestS
  split
  · rename_i h
    rw [h]
    rfl
  · split
    · rw [settleS_m]
      rfl
    · rfl
theorem Live.settle {many : Int} (h : Live s P) : Live (settleS s many) P := h.like settleS_w settleS_m
theorem Live.request (X : TR s.w P (rootA s.m) d R) (h1 : 3 ≤ s.w) (h2 : s.w ≤ 64) (hT : Told (rootA s.m) s.w P key held d R T) (b : Blk s.m) (h : held = [] → P ≠ []) (hh : held = [] ∨ ∃ v, held = [(key, v)] ∧ isKeyD (.int key) = true ∧ heldD (wordT true) v = true) (sh : smP held) :
    Live (requestS s T) (heldP P key held) := by
  obtain ⟨d', R', X'⟩ := hT.laid h1 X b h hh sh
  refine ⟨⟨d', R', ?_⟩, ?_, ?_⟩
  · rw [requestS_w, requestS_m]
    exact X'
  · rw [requestS_w]
    exact h1
  · rw [requestS_w]
    exact h2
theorem filter_parts {α : Type} (p : α → Bool) : ∀ l : List α, l.length = (l.filter p).length + (l.filter fun x => !p x).length
  | [] => rfl
  | x :: l => by
    have ih := filter_parts p l
    rw [List.filter_cons, List.filter_cons]
    cases p x
    · simp only [Bool.not_false, if_true, Bool.false_eq_true, if_false, List.length_cons]
      omega
    · simp only [Bool.not_true, if_true, Bool.false_eq_true, if_false, List.length_cons]
      omega
/-! how many deeds there are, with those that wait -/
def allD (s : Sto) : Nat := s.deeds.length + s.wait.length
theorem write_len {F : List Int} (nd : s.wait.Nodup) (nF : F.Nodup) (sub : ∀ n ∈ F, n ∈ s.wait) : allD (writeS s F) = allD s := by
  have h1 : (s.wait.filter fun n => decide (n ∈ F)).length = F.length := by
    refine Nat.le_antisymm (nodup_sub_len (nd.filter _) fun x hx => of_decide_eq_true (List.mem_filter.mp hx).2) (nodup_sub_len nF fun x hx => List.mem_filter.mpr ⟨sub x hx, decide_eq_true hx⟩)
  have h2 := filter_parts (fun n => decide (n ∈ F)) s.wait
  have h3 : (s.wait.filter fun n => decide (n ∉ F)) = s.wait.filter fun n => !decide (n ∈ F) := by
    congr 1
    funext n
    by_cases c : n ∈ F <;> simp [c]
  show (s.deeds ++ F.map _).length + (s.wait.filter fun n => decide (n ∉ F)).length = _
  rw [List.length_append, List.length_map, h3]
  unfold allD
  omega
theorem firstI_nd {many : Int} (nd : s.wait.Nodup) : (firstI s.wait many).Nodup := (List.take_sublist _ _).nodup (sortI_perm.symm.nodup nd)
theorem firstI_sub {many : Int} : ∀ n ∈ firstI s.wait many, n ∈ s.wait := fun _ hn => sortI_perm.subset (List.mem_of_mem_take hn)
theorem settle_len {many : Int} (nd : s.wait.Nodup) : allD (settleS s many) ≤ allD s + 1 := by
  have h := write_len nd (firstI_nd (many := many) nd) firstI_sub
  unfold settleS
  split
  · show (_ ++ [Act.clear]).length + _ ≤ _
    rw [List.length_append]
    unfold allD at h ⊢
    show (writeS s (firstI s.wait many)).deeds.length + 1 + (writeS s (firstI s.wait many)).wait.length ≤ _
    omega
  · omega
theorem entsT_len : (entsT T).length = T.length := by
  unfold entsT
  rw [List.length_map, (sortI_perm (l := keysA T)).length_eq]
  exact List.length_map ..
theorem request_len (nd : s.wait.Nodup) : allD (requestS s T) ≤ allD s + 2 * T.length + 2 := by
  have h1 : allD (loggedS s T) ≤ allD s + 2 * T.length + 1 := by
    show (s.deeds ++ (entsT T ++ [none]).map Act.log).length + (waitAll s.wait (keysA T)).length ≤ _
    have h1 := waitAll_len (w := s.wait) (ns := keysA T)
    have h2 : (keysA T).length = T.length := List.length_map ..
    rw [List.length_append, List.length_map, List.length_append, entsT_len]
    unfold allD
    simp only [List.length_singleton]
    omega
  unfold requestS
  split
  · omega
  · split
    · have := settle_len (s := loggedS s T) (many := ((loggedS s T).wait.length : Int) + 1) (waitAll_nd nd)
      omega
    · omega
end
/-! what is promised of the changing of a tree, with how much changes -/
def sp_put_inL (K : PySem.W.Frag) : Sp := fun vs H Q _ => ∃ (b : Addr) (m : BT) (w : Int) (PP : PL) (d : Nat) (R : List (Item d)) (key : Int) (v : V) (x : PyData), vs = [.ref b, .int w, .int key, v] ∧ Pd K H b m ∧ TR w PP m d R ∧ Dp K H v x ∧ strictD x = true ∧ PyData.depth x ≤ 5 ∧ 3 ≤ w ∧ w ≤ 64 ∧ PP.length ≤ 15000 ∧
  ∀ t T H', H t = none → Same H H' → Pd K H' t T → Told m w PP key [(key, x)] d R T → T.length ≤ 4 * d + 4 → Q (.ref t) H'
def sp_drop_fromL (K : PySem.W.Frag) : Sp := fun vs H Q _ => ∃ (b : Addr) (m : BT) (w : Int) (PP : PL) (d : Nat) (R : List (Item d)) (key : Int), vs = [.ref b, .int w, .int key] ∧ Pd K H b m ∧ TR w PP m d R ∧ 3 ≤ w ∧ w ≤ 64 ∧ PP.length ≤ 15000 ∧
  ∀ t T H', H t = none → Same H H' → Pd K H' t T → Told m w PP key [] d R T → T.length ≤ 4 * d + 4 → Q (.ref t) H'
def sp_Store_put (K : PySem.W.Frag) (C : Addr) : Sp := fun vs H Q _ => ∃ (p b l u : Addr) (s : Sto) (P : PL) (d : Nat) (R : List (Item d)) (key : Int) (z : Str), vs = [.ref p, .int key, .str z] ∧ StS K C H p b l u s ∧ Holds s P d R ∧ isKeyV (.int key) = true ∧ isValD (.str z) = true ∧ allD s ≤ 5000000 ∧
  ∀ T H', Oth4 p b l u H H' → Told (rootA s.m) s.w P key [(key, .str z)] d R T → T.length ≤ 56 → StS K C H' p b l u (requestS s T) → Q .non H'
def sp_Store_drop (K : PySem.W.Frag) (C EN : Addr) : Sp := fun vs H Q E => ∃ (p b l u : Addr) (s : Sto) (P : PL) (d : Nat) (R : List (Item d)) (key : Int), vs = [.ref p, .int key] ∧ StS K C H p b l u s ∧ Holds s P d R ∧ isKeyV (.int key) = true ∧ allD s ≤ 5000000 ∧
  (getA P key = none → ∀ H', Same H H' → E (.ref EN) none H') ∧
  ((getA P key).isSome = true → ∀ T H', Oth4 p b l u H H' → Told (rootA s.m) s.w P key [] d R T → T.length ≤ 56 → StS K C H' p b l u (requestS s T) → Q .non H')
end My

set_option Elab.async false
set_option linter.all false
set_option maxRecDepth 100000
set_option maxHeartbeats 1000000
/-! what the laws over a store ask of it: a history of requests, told of data -/
namespace My
open PySem L2
/-! bits -/
theorem bits_iff {a : Int} {n : Nat} : Builtin.Int.intBits a ≤ n ↔ a.natAbs < 2 ^ n := by
  unfold Builtin.Int.intBits
  by_cases h : a = 0
  · subst h
    simp [Nat.two_pow_pos]
  · have hb : (a == 0) = false := by simpa using h
    rw [hb]
    have hn : a.natAbs ≠ 0 := by omega
    have := Nat.log2_lt (k := n) hn
    simp only [Bool.false_eq_true, if_false]
    omega
/-- a number about as large -/
theorem bits_near {a b : Int} {n : Nat} (h : Builtin.Int.intBits a ≤ n) (hb : b.natAbs ≤ 1024 * (a.natAbs + 4)) : Builtin.Int.intBits b ≤ n + 13 := by
  rw [bits_iff] at h ⊢
  have h1 : (1 : Nat) ≤ 2 ^ n := Nat.one_le_two_pow
  have e : 2 ^ (n + 13) = 8192 * 2 ^ n := by rw [Nat.pow_add, Nat.mul_comm]
  rw [e]
  generalize 2 ^ n = t at *
  omega
theorem mulSmall {a b : Int} (h1 : -(2 ^ 64) < b) (h2 : b < 2 ^ 64) : IntMulOk a b := IntMulOk.of_right (intBits_le_64 h1 h2)
theorem mulSmallL {a b : Int} (h1 : -(2 ^ 64) < a) (h2 : a < 2 ^ 64) : IntMulOk a b := IntMulOk.of_left (intBits_le_64 h1 h2)
def sp_l_room_by : Sp := fun vs H Q _ => ∃ c : Int, vs = [.int c] ∧ ∀ n : Int, 1 ≤ n → n ≤ 1000 → Q (.int n) H
def sp_l_key_by : Sp := fun vs H Q _ => ∃ c : Int, vs = [.int c] ∧ Builtin.Int.intBits c ≤ 9000000 ∧ ∀ k : Int, isKeyD (.int k) = true → Q (.int k) H
/-- requests: keys, with their values or None -/
def RqOk (RQ : PL) : Prop := ∀ e ∈ RQ, isKeyD (.int e.1) = true ∧ (e.2 = .none ∨ ∃ z, e.2 = .str z ∧ isValD (.str z) = true)
def sp_l_requests (K : PySem.W.Frag) : Sp := fun vs H Q _ => ∃ (c : Int) (r : Addr) (xs : List V) (P : PL) (most : Int), vs = [.int c, .ref r, .int most] ∧ Builtin.Int.intBits c ≤ 2000000 ∧ SqL K H r xs ∧ DpAll K H xs (rowD P) ∧ okP true P ∧ P.length ≤ 15000 ∧ 1 ≤ most ∧ most ≤ 100 ∧
  ∀ q ys RQ H', H q = none → Same H H' → H' q = some (.lst ys) → DpAll K H' ys (rowD RQ) → RqOk RQ → RQ.length ≤ 100 → Q (.ref q) H'
theorem rq_of {K : PySem.W.Frag} {H : Hp} : ∀ {ys : List V}, (∀ y ∈ ys, ∃ (k : Int) (z : Str) (t : Addr), y = .ref t ∧ H t = some (.tup [.int k, .str z]) ∧ isKeyD (.int k) = true ∧ isValD (.str z) = true) → ∃ RQ : PL, DpAll K H ys (rowD RQ) ∧ RqOk RQ ∧ RQ.length = ys.length
  | [], _ => ⟨[], .nil, (fun e he => nomatch he), rfl⟩
  | y :: ys, h => by
    obtain ⟨k, z, t, rfl, e, h1, h2⟩ := h y List.mem_cons_self
    obtain ⟨RQ, d, ok, l⟩ := rq_of (ys := ys) fun y hy => h y (List.mem_cons_of_mem _ hy)
    refine ⟨(k, .str z) :: RQ, .cons (.tup (SqT.of e) (.cons (.int _) (.cons (.str _) .nil))) d, fun e he => ?_, by rw [List.length_cons, List.length_cons, l]⟩
    rcases List.mem_cons.mp he with g | g
    · rw [g]
      exact ⟨h1, .inr ⟨z, rfl, h2⟩⟩
    · exact ok e g
theorem g_methX {C : Addr} {m : Str} {sp : Sp} {E : L2.St → XK} {ta : TE} {t : TA} {σ : L2.St} {H : Hp} {Q : VK} (q : ta σ H fun x H1 => rMeth C m x H1 (t σ H1 fun vs H2 => sp (x :: vs) H2 Q (E σ))) : MyD.tMethX C m sp E ta t σ H Q := q
theorem g_caught {K : PySem.W.Frag} {c cls : Value} {ts : Addr → Value → Option Addr → TS} {Wout : WX} {D : Ends} {d : Option Addr} {σ : L2.St} {H : Hp} (e : PySem.W.exmOne K cls c = some true) (q : ∀ a, H a = none → ts a cls d D σ H) : wOnly K c ts Wout D cls d σ H :=
  ⟨true, e, fun _ => q, fun z => nomatch z⟩
theorem mem_keyN {P : PL} {key : Int} : decide (((P.filter fun y => decide (y.1 = key)).length : Int) > 0) = (getA P key).isSome := by
  induction P with
  | nil => rfl
  | cons p P ih =>
    rw [getA_cons]
    by_cases c : p.1 = key
    · rw [if_pos c, List.filter_cons, if_pos (decide_eq_true c)]
      exact decide_eq_true (by rw [List.length_cons]; omega)
    · rw [if_neg c, List.filter_cons, if_neg (by simpa using c)]
      exact ih
/-- a row in the heap -/
def RowAt (K : PySem.W.Frag) (H : Hp) (a : Addr) (P : PL) : Prop := ∃ ys, H a = some (.lst ys) ∧ DpAll K H ys (rowD P)
/-- a store behind a key's value told, or its drop asked -/
def AskS (s s' : Sto) (P : PL) (key : Int) (x : PyData) : Prop := (x = .none ∧ getA P key = none ∧ s' = s) ∨
  ∃ (d : Nat) (R : List (Item d)) (T : BT), Holds s P d R ∧ Told (rootA s.m) s.w P key (heldV key x) d R T ∧ T.length ≤ 56 ∧ s' = requestS s T ∧ (x = .none → (getA P key).isSome = true)
/-- from a store that holds P to one that holds the last of Ps -/
inductive Hist (s : Sto) (P : PL) : Sto → List PL → Prop
  | nil : Hist s P s [P]
  | set {s1 : Sto} {Ps : List PL} (many : Int) : Hist s P s1 Ps → Hist s P (settleS s1 many) Ps
  | same {s1 s2 : Sto} {Ps : List PL} {P1 : PL} {key : Int} {x : PyData} : Hist s P s1 (Ps ++ [P1]) → AskS s1 s2 P1 key x → isKeyD (.int key) = true → (x = .none ∨ ∃ z, x = .str z ∧ isValD (.str z) = true) → heldP P1 key (heldV key x) = P1 → Hist s P s2 (Ps ++ [P1])
  | more {s1 s2 : Sto} {Ps : List PL} {P1 : PL} {key : Int} {x : PyData} : Hist s P s1 (Ps ++ [P1]) → AskS s1 s2 P1 key x → isKeyD (.int key) = true → (x = .none ∨ ∃ z, x = .str z ∧ isValD (.str z) = true) → heldP P1 key (heldV key x) ≠ P1 → Hist s P s2 (Ps ++ [P1] ++ [heldP P1 key (heldV key x)])
section
variable {K : PySem.W.Frag} {H H' : Hp} {a p b l u : Addr} {P : PL} {s s' : Sto} {key : Int} {x : PyData}
theorem heldP_gone : ∀ {P : PL}, (keysT P).Pairwise (· < ·) → (∀ p ∈ P, p.1 ≠ key) → heldP P key [] = P
  | [], _, _ => rfl
  | p :: P, h, hn => by
    have h' := List.pairwise_cons.mp h
    have ih := heldP_gone (P := P) h'.2 fun q hq => hn q (List.mem_cons_of_mem _ hq)
    have ne := hn p List.mem_cons_self
    unfold heldP at ih ⊢
    rw [List.append_nil] at ih ⊢
    by_cases c : p.1 < key
    · rw [List.filter_cons, if_pos (decide_eq_true c), List.filter_cons, if_neg (by simp; omega), List.cons_append, ih]
    · have g : ∀ q ∈ P, p.1 < q.1 := fun q hq => h'.1 _ (List.mem_map_of_mem hq)
      have e1 : P.filter (fun q => decide (q.1 < key)) = [] := List.filter_eq_nil_iff.mpr fun q hq z => by
        have := g q hq
        have := of_decide_eq_true z
        omega
      have e2 : P.filter (fun q => decide (q.1 > key)) = P := List.filter_eq_self.mpr fun q hq => decide_eq_true (by
        have := g q hq
        omega)
      rw [List.filter_cons, if_neg (by simpa using c), e1, List.nil_append, List.filter_cons, if_pos (decide_eq_true (by omega)), e2]
theorem getA_noneP (h : getA P key = none) : ∀ p ∈ P, p.1 ≠ key := fun p hp e => by
  have : (getA P key).isSome = true := mem_keysA.mp (List.mem_map.mpr ⟨p, hp, e⟩)
  rw [h] at this
  exact nomatch this
theorem heldV_ok (hk : isKeyD (.int key) = true) (hx : x = .none ∨ ∃ z, x = .str z ∧ isValD (.str z) = true) : (heldV key x = [] ∨ ∃ v, heldV key x = [(key, v)] ∧ isKeyD (.int key) = true ∧ heldD (wordT true) v = true) ∧ smP (heldV key x) ∧ (heldV key x).length ≤ 1 ∧ (heldV key x = [] → x = .none) := by
  rcases hx with rfl | ⟨z, rfl, hz⟩
  · exact ⟨.inl rfl, (fun p hp => nomatch hp), Nat.zero_le _, fun _ => rfl⟩
  · refine ⟨.inr ⟨.str z, rfl, hk, ?_⟩, fun p hp => ?_, Nat.le_refl _, fun h => nomatch h⟩
    · unfold heldD
      rw [if_pos (show wordT true = leafW from rfl)]
      exact hz
    · rw [List.mem_singleton.mp hp]
      exact ⟨strok_val hz, by simp [PyData.depth]⟩
theorem Live.okp (h : Live s P) : okP true P := by
  obtain ⟨⟨d, R, X⟩, _⟩ := h
  exact X.okp
theorem Live.smp (h : Live s P) : smP P := by
  obtain ⟨⟨d, R, X⟩, _⟩ := h
  exact X.smp
theorem AskS.live (h : AskS s s' P key x) (hL : Live s P) (b : Blk s.m) (hk : isKeyD (.int key) = true) (hx : x = .none ∨ ∃ z, x = .str z ∧ isValD (.str z) = true) : Live s' (heldP P key (heldV key x)) := by
  rcases h with ⟨rfl, hn, rfl⟩ | ⟨d, R, T, hH, hT, _, rfl, hs⟩
  · show Live s' (heldP P key [])
    rw [heldP_gone hL.okp.2 (getA_noneP hn)]
    exact hL
  · obtain ⟨h1, h2, h3, h4⟩ := heldV_ok hk hx
    refine Live.request hH.1 hH.2.1 hH.2.2.1 hT b (fun z e => ?_) h1 h2
    have := hs (h4 z)
    rw [e] at this
    exact nomatch this
theorem AskS.len (h : AskS s s' P key x) (nd : s.wait.Nodup) : allD s' ≤ allD s + 114 := by
  rcases h with ⟨_, _, rfl⟩ | ⟨d, R, T, _, _, hl, rfl, _⟩
  · omega
  · have := request_len (T := T) nd
    omega
theorem AskS.w (h : AskS s s' P key x) : s'.w = s.w ∧ s'.room = s.room := by
  rcases h with ⟨_, _, rfl⟩ | ⟨d, R, T, _, _, _, rfl, _⟩
  · exact ⟨rfl, rfl⟩
  · exact ⟨requestS_w, requestS_room⟩
theorem heldP_len1 (h : okP true P) (hl : (heldV key x).length ≤ 1) : (heldP P key (heldV key x)).length ≤ P.length + 1 := by
  have := (heldP_len (key := key) (held := heldV key x) h.2).2
  omega
theorem RowAt.go (s : Same H H') (h : RowAt K H a P) : RowAt K H' a P := by
  obtain ⟨ys, h1, h2⟩ := h
  exact ⟨ys, s _ _ h1, DpAll.go s h2⟩
/-- a row stays where a store changes -/
theorem RowAt.o4 {C : Addr} {st : Sto} (hS : StS K C H p b l u st) (o : Oth4 p b l u H H') (n : a ≠ l) (sm : smP P) (h : RowAt K H a P) : RowAt K H' a P := by
  obtain ⟨ys, h1, h2⟩ := h
  have n1 : a ≠ p := fun z => by
    obtain ⟨dx, e⟩ := hS.ob
    rw [z, e] at h1
    cases h1
  have n2 : a ≠ b := fun z => by
    obtain ⟨k, e, _⟩ := hS.bl
    rw [z, e] at h1
    cases h1
  have n3 : a ≠ u := fun z => by
    obtain ⟨k, e, _⟩ := hS.wa
    rw [z, e] at h1
    cases h1
  exact ⟨ys, o _ _ n1 n2 n n3 h1, DpAll.tk (hS.tk4 o) sm.strict h2⟩
/-- any list stays so -/
theorem Oth4.lst {C : Addr} {st : Sto} {ys : List V} (hS : StS K C H p b l u st) (o : Oth4 p b l u H H') (n : a ≠ l) (h1 : H a = some (.lst ys)) : H' a = some (.lst ys) := by
  have n1 : a ≠ p := fun z => by
    obtain ⟨dx, e⟩ := hS.ob
    rw [z, e] at h1
    cases h1
  have n2 : a ≠ b := fun z => by
    obtain ⟨k, e, _⟩ := hS.bl
    rw [z, e] at h1
    cases h1
  have n3 : a ≠ u := fun z => by
    obtain ⟨k, e, _⟩ := hS.wa
    rw [z, e] at h1
    cases h1
  exact o _ _ n1 n2 n n3 h1
theorem StS.fresh {C : Addr} {st : Sto} (hS : StS K C H p b l u st) (h : H a = none) : a ≠ p ∧ a ≠ b ∧ a ≠ l ∧ a ≠ u := by
  refine ⟨fun z => ?_, fun z => ?_, fun z => ?_, fun z => ?_⟩
  · obtain ⟨dx, e⟩ := hS.ob
    rw [← z, h] at e
    cases e
  · obtain ⟨k, e, _⟩ := hS.bl
    rw [← z, h] at e
    cases e
  · obtain ⟨k, e, _⟩ := hS.de
    rw [← z, h] at e
    cases e
  · obtain ⟨k, e, _⟩ := hS.wa
    rw [← z, h] at e
    cases e
/-- what is free behind was free ahead -/
theorem Oth4.free {C : Addr} {st' : Sto} (hS' : StS K C H' p b l u st') (o : Oth4 p b l u H H') (h : H' a = none) : H a = none := by
  obtain ⟨n1, n2, n3, n4⟩ := hS'.fresh h
  cases e : H a with
  | none => rfl
  | some ob =>
    rw [o _ _ n1 n2 n3 n4 e] at h
    exact nomatch h
/-- rows of strict pairs: == is being the same -/
theorem eqv_rows {A B : PL} (ha : smP A) (hb : smP B) : PyData.eqv (.list (rowD A)) (.list (rowD B)) = true ↔ A = B := by
  have e : PyData.eqv (.list (rowD A)) (.list (rowD B)) = PyData.eqvAll (rowD A) (rowD B) := by simp [PyData.eqv]
  rw [e, eqvAll_strict ha.strict hb.strict]
  exact ⟨row_inj, fun h => by rw [h]⟩
theorem shaped_rowL {A : PL} (h : smP A) : SeqAt.shaped (.list (rowD A)) = true := shaped_list (rowD_fit h) (by decide)
end
def sp_l_asked (K : PySem.W.Frag) (C : Addr) : Sp := fun vs H Q _ => ∃ (p b l u r : Addr) (s : Sto) (P : PL) (key : Int) (v : V) (x : PyData), vs = [.ref p, .ref r, .int key, v] ∧ StS K C H p b l u s ∧ Live s P ∧ P.length ≤ 14900 ∧ allD s ≤ 4000000 ∧ RowAt K H r P ∧ r ≠ l ∧
  isKeyD (.int key) = true ∧ Dp K H v x ∧ (x = .none ∨ ∃ z, x = .str z ∧ isValD (.str z) = true) ∧
  ∀ q s' H', (q = r ∨ H q = none) → Oth4 p b l u H H' → StS K C H' p b l u s' → AskS s s' P key x → RowAt K H' q (heldP P key (heldV key x)) → Q (.ref q) H'
def sp_l_history (K : PySem.W.Frag) (C : Addr) : Sp := fun vs H Q _ => ∃ (p b l u r c : Addr) (s : Sto) (P : PL) (ns : List Int) (most : Int), vs = [.ref p, .ref r, .ref c, .int most] ∧ StS K C H p b l u s ∧ Live s P ∧ P.length ≤ 7000 ∧ allD s ≤ 2000000 ∧ RowAt K H r P ∧ r ≠ l ∧
  H c = some (.lst (ns.map V.int)) ∧ c ≠ l ∧ ns.length ≤ 63 ∧ (∀ z ∈ ns, Builtin.Int.intBits z ≤ 1048576) ∧ 1 ≤ most ∧ most ≤ 100 ∧
  ∀ q rs Ps P' s' H', H q = none → Oth4 p b l u H H' → StS K C H' p b l u s' → H' q = some (.lst (rs.map V.ref)) → Paired (RowAt K H') rs (Ps ++ [P']) → (∀ a ∈ rs, a = r ∨ H a = none) → (∀ Z ∈ Ps ++ [P'], smP Z) → Hist s P s' (Ps ++ [P']) → Live s' P' → P'.length ≤ P.length + 100 * ns.length → allD s' ≤ allD s + 12000 * ns.length → Q (.ref q) H'
def sp_l_values (K : PySem.W.Frag) (C : Addr) : Sp := fun vs H Q _ => ∃ (p b l u r : Addr) (s : Sto) (P : PL) (key : Int), vs = [.ref p, .ref r, .int key] ∧ StS K C H p b l u s ∧ Live s P ∧ P.length ≤ 15000 ∧ RowAt K H r P ∧ isKeyD (.int key) = true ∧ ∀ H', Same H H' → Q (.bl true) H'
def sp_l_shown (K : PySem.W.Frag) (C : Addr) : Sp := fun vs H Q _ => ∃ (p b l u r kk : Addr) (s : Sto) (P : PL) (k1 k2 : Int), vs = [.ref p, .ref r, .ref kk] ∧ StS K C H p b l u s ∧ Live s P ∧ P.length ≤ 15000 ∧ RowAt K H r P ∧ H kk = some (.lst [.int k1, .int k2]) ∧ isKeyD (.int k1) = true ∧ isKeyD (.int k2) = true ∧ ∀ H', Same H H' → Q (.bl true) H'
/-! a store on an empty disk -/
def newS (w room : Int) : Sto := ⟨w, room, 0, [], [], []⟩
theorem upS_nil {w room : Int} : upS w room [] [] = newS w room := by
  have e : upS0 w room [] [] = newS w room := rfl
  unfold upS
  rw [e]
  have f : firstI (newS w room).wait (((newS w room).wait.length : Int) + 1) = [] := by
    unfold firstI sortI newS
    simp
  unfold settleS
  rw [f, writeS_nil, if_neg (by rintro ⟨_, h⟩; exact absurd h (by show ¬ (0 : Int) < 0; omega))]
theorem okP_nil {lf : Bool} : okP lf [] := ⟨fun p hp => (nomatch hp), List.Pairwise.nil⟩
theorem smP_nil : smP [] := fun p hp => nomatch hp
theorem tree_none {w : Int} (hw : 3 ≤ w) : Tree w [] (rootA []) := by
  have V := Lvl.base (w := w) (P := []) (num := 1) okP_nil smP_nil (by omega)
  have := V.done (by show ((0 : Nat) : Int) ≤ w; omega) List.Pairwise.nil
  exact this
theorem live_none {w room : Int} (hw : 3 ≤ w) (hw2 : w ≤ 64) : Live (newS w room) [] := by
  obtain ⟨d, R, X⟩ := (tree_none hw).tr hw okP_nil smP_nil
  exact ⟨⟨d, R, X⟩, hw, hw2⟩
theorem fit_none : fitM (rootA []) := fun p hp w ps e => by
  have hp : p = (0, noneTB.D) := List.mem_singleton.mp hp
  subst hp
  have e2 : PyData.tuple [.str leafW, .tuple []] = .tuple [w, .tuple ps] := e
  cases e2
  exact ⟨Nat.zero_le _, fun p hp => nomatch hp⟩
def sp_opened (K : PySem.W.Frag) (C : Addr) : Sp := fun vs H Q _ => ∃ (w room : Int), vs = [.int w, .int room] ∧ 3 ≤ w ∧ w ≤ 64 ∧ 1 ≤ room ∧ room ≤ 1000 ∧
  ∀ p b l u H', H p = none → H b = none → H l = none → H u = none → Same H H' → StS K C H' p b l u (newS w room) → Q (.ref p) H'
end My

set_option Elab.async false
set_option linter.all false
set_option maxRecDepth 100000
set_option maxHeartbeats 1000000
/-! a history under way -/
namespace My
open PySem L2
theorem paired_snoc {α β : Type} {R : α → β → Prop} : ∀ {as : List α} {bs : List β} {b : β}, Paired R as (bs ++ [b]) → ∃ as' a, as = as' ++ [a] ∧ Paired R as' bs ∧ R a b
  | _, [], _, .cons r t => by
    cases t
    exact ⟨[], _, rfl, .nil, r⟩
  | _, c :: bs, b, .cons (a := a) r t => by
    obtain ⟨as', a', e, h1, h2⟩ := paired_snoc t
    exact ⟨a :: as', a', by rw [e]; rfl, .cons r h1, h2⟩
theorem RqOk.sm {RQ : PL} (h : RqOk RQ) : smP RQ := fun e he => by
  rcases (h e he).2 with z | ⟨z, e2, hz⟩
  · rw [z]
    exact ⟨rfl, by simp [PyData.depth]⟩
  · rw [e2]
    exact ⟨strok_val hz, by simp [PyData.depth]⟩
/-- from the heap H, a store at p that held P; now H': the rows so far, the last one P1 at a1 -/
structure HInv (K : PySem.W.Frag) (C : Addr) (H H' : Hp) (p b l u r c q : Addr) (s : Sto) (P : PL) (cs : List V) (n dn : Nat) (rs : List Addr) (a1 : Addr) (Ps : List PL) (P1 : PL) (s1 : Sto) : Prop where
  o4 : Oth4 p b l u H H'
  st : StS K C H' p b l u s1
  cl : H' c = some (.lst cs)
  rl : H' q = some (.lst ((rs ++ [a1]).map V.ref))
  rows : Paired (RowAt K H') (rs ++ [a1]) (Ps ++ [P1])
  fr : ∀ a ∈ rs ++ [a1], (a = r ∨ H a = none) ∧ a ≠ q
  sm : ∀ Z ∈ Ps ++ [P1], smP Z
  hist : Hist s P s1 (Ps ++ [P1])
  live : Live s1 P1
  rn : rs.length ≤ n
  len : P1.length ≤ P.length + n
  all : allD s1 ≤ allD s + dn
section
variable {K : PySem.W.Frag} {H H' H2 : Hp} {C p b l u r c q a1 : Addr} {s s1 s2 s0 : Sto} {P P1 P2 : PL} {cs : List V} {n dn : Nat} {rs : List Addr} {Ps : List PL} {key : Int} {x : PyData}
theorem rows_o4 {st : Sto} (hS : StS K C H' p b l u st) (o : Oth4 p b l u H' H2) : ∀ {as : List Addr} {Zs : List PL}, (∀ a ∈ as, a ≠ l) → (∀ Z ∈ Zs, smP Z) → Paired (RowAt K H') as Zs → Paired (RowAt K H2) as Zs
  | _, _, _, _, .nil => .nil
  | _, _, hn, sm, .cons h t => .cons (h.o4 hS o (hn _ List.mem_cons_self) (sm _ List.mem_cons_self)) (rows_o4 hS o (fun a ha => hn a (List.mem_cons_of_mem _ ha)) (fun Z hZ => sm Z (List.mem_cons_of_mem _ hZ)) t)
theorem rows_go (s : Same H' H2) {as : List Addr} {Zs : List PL} (h : Paired (RowAt K H') as Zs) : Paired (RowAt K H2) as Zs := paired_map (fun _ _ _ h => h.go s) h
theorem HInv.row (h : HInv K C H H' p b l u r c q s P cs n dn rs a1 Ps P1 s1) : RowAt K H' a1 P1 := by
  obtain ⟨as', a, e, _, h2⟩ := paired_snoc h.rows
  have e2 := List.append_inj' e rfl
  have := List.singleton_inj.mp e2.2
  rw [this]
  exact h2
theorem HInv.go (s : Same H' H2) (h : HInv K C H H' p b l u r c q s0 P cs n dn rs a1 Ps P1 s1) : HInv K C H H2 p b l u r c q s0 P cs n dn rs a1 Ps P1 s1 :=
  ⟨h.o4.trans (Oth4.of s), h.st.go s, s _ _ h.cl, s _ _ h.rl, rows_go s h.rows, h.fr, h.sm, h.hist, h.live, h.rn, h.len, h.all⟩
theorem HInv.le {n2 dn2 : Nat} (h : HInv K C H H' p b l u r c q s0 P cs n dn rs a1 Ps P1 s1) (h1 : n ≤ n2) (h2 : dn ≤ dn2) : HInv K C H H' p b l u r c q s0 P cs n2 dn2 rs a1 Ps P1 s1 := by
  have k1 := h.rn
  have k2 := h.len
  have k3 := h.all
  exact ⟨h.o4, h.st, h.cl, h.rl, h.rows, h.fr, h.sm, h.hist, h.live, by omega, by omega, by omega⟩
/-- none of the rows is the list of deeds -/
theorem HInv.nl (hS : StS K C H p b l u s0) (rl : r ≠ l) (h : HInv K C H H' p b l u r c q s0 P cs n dn rs a1 Ps P1 s1) : ∀ a ∈ rs ++ [a1], a ≠ l := fun a ha => by
  rcases (h.fr a ha).1 with e | e
  · rw [e]
    exact rl
  · exact (hS.fresh e).2.2.1
/-- what a store does of itself -/
theorem HInv.own (hS : StS K C H p b l u s0) (rl : r ≠ l) (cl : c ≠ l) (ql : q ≠ l) (h : HInv K C H H' p b l u r c q s0 P cs n dn rs a1 Ps P1 s1) (o : Oth4 p b l u H' H2) (h2 : StS K C H2 p b l u s2) (hh : Hist s0 P s2 (Ps ++ [P1])) (hL : Live s2 P1) {d2 : Nat} (hd : allD s2 ≤ allD s0 + d2) :
    HInv K C H H2 p b l u r c q s0 P cs n d2 rs a1 Ps P1 s2 :=
  ⟨h.o4.trans o, h2, o.lst h.st cl h.cl, o.lst h.st ql h.rl, rows_o4 h.st o (h.nl hS rl) h.sm h.rows, h.fr, h.sm, hh, hL, h.rn, h.len, hd⟩
/-- one more row, where the list of rows has it -/
theorem HInv.grow {a2 : Addr} (o4 : Oth4 p b l u H H') (st : StS K C H' p b l u s1) (cl : H' c = some (.lst cs)) (rl : H' q = some (.lst (rs.map V.ref ++ [V.ref a1]))) (rows : Paired (RowAt K H') (rs ++ [a1]) (Ps ++ [P1])) (fr : ∀ a ∈ rs ++ [a1], (a = r ∨ H a = none) ∧ a ≠ q) (sm : ∀ Z ∈ Ps ++ [P1], smP Z) (rn : rs.length ≤ n)
    (o : Oth q H' H2) (e : H2 q = some (.lst ((rs ++ [a1] ++ [a2]).map V.ref))) (nq : H q = none) (cq : c ≠ q) (a2q : a2 ≠ q) (hr : RowAt K H' a2 P2) (fr2 : a2 = r ∨ H a2 = none) (s2m : smP P2)
    (hq : q ≠ p ∧ q ≠ b ∧ q ≠ l ∧ q ≠ u) (hh : Hist s0 P s1 (Ps ++ [P1] ++ [P2])) (hL : Live s1 P2) (hl : P2.length ≤ P.length + (n + 1)) (hd : allD s1 ≤ allD s0 + dn) : HInv K C H H2 p b l u r c q s0 P cs (n + 1) dn (rs ++ [a1]) a2 (Ps ++ [P1]) P2 s1 := by
  have fx : Fx H' H2 := Fx.lst rl o
  have mv : ∀ a Z, a ≠ q → smP Z → RowAt K H' a Z → RowAt K H2 a Z := fun a Z n sm hz => by
    obtain ⟨ys, h1, h2⟩ := hz
    exact ⟨ys, o _ _ n h1, DpAll.fx fx sm.strict h2⟩
  have mvs : ∀ {as : List Addr} {Zs : List PL}, (∀ a ∈ as, a ≠ q) → (∀ Z ∈ Zs, smP Z) → Paired (RowAt K H') as Zs → Paired (RowAt K H2) as Zs := fun {as Zs} hn sm hp => by
    induction hp with
    | nil => exact .nil
    | cons hr _ ih => exact .cons (mv _ _ (hn _ List.mem_cons_self) (sm _ List.mem_cons_self) hr) (ih (fun a ha => hn a (List.mem_cons_of_mem _ ha)) fun Z hZ => sm Z (List.mem_cons_of_mem _ hZ))
  refine ⟨fun x ob n1 n2 n3 n4 hx => ?_, st.oth (Tk.fx fx) o hq.1.symm hq.2.1.symm hq.2.2.1.symm hq.2.2.2.symm, o _ _ cq cl, e, paired_app (mvs (fun a ha => (fr a ha).2) sm rows) (.cons (mv _ _ a2q s2m hr) .nil), fun a ha => ?_, fun Z hZ => ?_, hh, hL, by rw [List.length_append]; simp; omega, hl, hd⟩
  · exact o _ _ (fun z => by rw [z, nq] at hx; cases hx) (o4 _ _ n1 n2 n3 n4 hx)
  · rcases List.mem_append.mp ha with g | g
    · exact fr a g
    · rw [List.mem_singleton.mp g]
      exact ⟨fr2, a2q⟩
  · rcases List.mem_append.mp hZ with g | g
    · exact sm Z g
    · rw [List.mem_singleton.mp g]
      exact s2m
end
end My

set_option Elab.async false
set_option linter.all false
set_option maxRecDepth 100000
set_option maxHeartbeats 1000000
/-! two stores apart; lists turned round, lists set -/
namespace My
open PySem L2
section
variable {K : PySem.W.Frag} {σ : L2.St} {H H' : Hp} {C p b l u p2 b2 l2 u2 a : Addr} {s s2 : Sto} {te to ti : TE} {Q : VK} {xs : List V} {v : V}
/-- an address outside of a store's four -/
def Out4 (p b l u x : Addr) : Prop := x ≠ p ∧ x ≠ b ∧ x ≠ l ∧ x ≠ u
theorem Oth4.out {o : HO} (q : Oth4 p b l u H H') (n : Out4 p b l u a) (h : H a = some o) : H' a = some o := q _ _ n.1 n.2.1 n.2.2.1 n.2.2.2 h
/-- a store stays where another one changes -/
theorem StS.apart (h2 : StS K C H p2 b2 l2 u2 s2) (h : StS K C H p b l u s) (q : Oth4 p b l u H H') (n1 : Out4 p b l u p2) (n2 : Out4 p b l u b2) (n3 : Out4 p b l u l2) (n4 : Out4 p b l u u2) : StS K C H' p2 b2 l2 u2 s2 :=
  h2.tk (h.tk4 q) (fun _ => q.out n1) (fun _ => q.out n2) (fun _ => q.out n3) fun _ => q.out n4
theorem RowAt.out {P : PL} (h : StS K C H p b l u s) (q : Oth4 p b l u H H') (n : a ≠ l) (sm : smP P) (r : RowAt K H a P) : RowAt K H' a P := r.o4 h q n sm
def rRevL (K : PySem.W.Frag) (x : V) (H1 : Hp) (Q : VK) : Prop := ∃ a xs, x = .ref a ∧ SqL K H1 a xs ∧ ∀ p, H1 p = none → Q (.ref p) (upd H1 p (.lst xs.reverse))
theorem g_revL (q : te σ H fun x H1 => rRevL K x H1 Q) : tRevL K te σ H Q := q
theorem g_rRevL (h : SqL K H a xs) (q : ∀ p H1, H p = none → Same H H1 → H1 p = some (.lst xs.reverse) → Q (.ref p) H1) : rRevL K (.ref a) H Q :=
  ⟨a, xs, rfl, h, fun p n => q p _ n (Same.new n _) upd_same⟩
theorem g_gSub {t : TSet} {QS : L2.St → Hp → Prop} (q : to σ H fun o H1 => ti σ H1 fun i H2 => t o i v H2 fun H3 => QS σ H3) : gSub to ti t v σ H QS := q
theorem g_setL {N : Hp → Prop} {k : Nat} (h : H a = some (.lst xs)) (hk : k < xs.length) (q : ∀ H1, Oth a H H1 → H1 a = some (.lst (xs.set k v)) → N H1) : rSetL (.ref a) (.int (k : Int)) v H N := by
  refine ⟨a, xs, _, k, rfl, rfl, h, ?_, q _ Oth.upd upd_same⟩
  unfold ixN
  split
  · rename_i c
    simp
    omega
  · omega
theorem row_fit {A : PL} (h : smP A) : PyData.canLay0 (.list (rowD A)) = true ∧ PyData.depth (.list (rowD A)) ≤ 20 := by
  have f := rowD_fit h
  refine ⟨?_, ?_⟩
  · simp only [PyData.canLay0]
    exact canAll fun d hd => (f d hd).1
  · simp only [PyData.depth]
    have := depthAll_le (n := 10) fun d hd => (f d hd).2
    omega
theorem two_fit {A B : PL} (ha : smP A) (hb : smP B) : ∀ d ∈ [PyData.list (rowD A), .list (rowD B)], PyData.canLay0 d = true ∧ PyData.depth d ≤ 20 := fun d hd => by
  rcases List.mem_cons.mp hd with g | g
  · rw [g]
    exact row_fit ha
  · rw [List.mem_singleton.mp g]
    exact row_fit hb
theorem RowAt.oth {P : PL} {c : Addr} (fx : Fx H H') (o : Oth c H H') (n : a ≠ c) (sm : smP P) (h : RowAt K H a P) : RowAt K H' a P := by
  obtain ⟨ys, h1, h2⟩ := h
  exact ⟨ys, o _ _ n h1, DpAll.fx fx sm.strict h2⟩
end
end My

set_option Elab.async false
set_option linter.all false
set_option maxRecDepth 100000
set_option maxHeartbeats 1000000
namespace My
open PySem L2
def top (i : Nat) : Stmt := PySem.Challenge.pw_btreelog_k09_requests_by_a_row.main.body.getD i (.Pass ⟨0, 0, 0, 0⟩)
abbrev s_is_whole : Stmt := top 3
abbrev N_is_whole : List Str := ["thing"]
theorem sc_is_whole : FnScope N_is_whole ["thing"] (defScope s_is_whole) := ⟨rfl, rfl, rfl, by decide +kernel, rfl, by decide +kernel, by decide +kernel⟩
abbrev s_is_key : Stmt := top 4
abbrev N_is_key : List Str := ["thing"]
theorem sc_is_key : FnScope N_is_key ["thing"] (defScope s_is_key) := ⟨rfl, rfl, rfl, by decide +kernel, rfl, by decide +kernel, by decide +kernel⟩
abbrev s_is_value : Stmt := top 5
abbrev N_is_value : List Str := ["thing", "sign"]
theorem sc_is_value : FnScope N_is_value ["thing"] (defScope s_is_value) := ⟨rfl, rfl, rfl, by decide +kernel, rfl, by decide +kernel, by decide +kernel⟩
abbrev s_is_number : Stmt := top 6
abbrev N_is_number : List Str := ["thing"]
theorem sc_is_number : FnScope N_is_number ["thing"] (defScope s_is_number) := ⟨rfl, rfl, rfl, by decide +kernel, rfl, by decide +kernel, by decide +kernel⟩
abbrev s_half : Stmt := top 7
abbrev N_half : List Str := ["width"]
theorem sc_half : FnScope N_half ["width"] (defScope s_half) := ⟨rfl, rfl, rfl, by decide +kernel, rfl, by decide +kernel, by decide +kernel⟩
abbrev s_place : Stmt := top 8
abbrev N_place : List Str := ["pairs", "key", "at"]
theorem sc_place : FnScope N_place ["pairs", "key"] (defScope s_place) := ⟨rfl, rfl, rfl, by decide +kernel, rfl, by decide +kernel, by decide +kernel⟩
abbrev s_parts : Stmt := top 9
abbrev N_parts : List Str := ["pairs", "width", "middle"]
theorem sc_parts : FnScope N_parts ["pairs", "width"] (defScope s_parts) := ⟨rfl, rfl, rfl, by decide +kernel, rfl, by decide +kernel, by decide +kernel⟩
abbrev s_is_two : Stmt := top 10
abbrev N_is_two : List Str := ["thing"]
theorem sc_is_two : FnScope N_is_two ["thing"] (defScope s_is_two) := ⟨rfl, rfl, rfl, by decide +kernel, rfl, by decide +kernel, by decide +kernel⟩
abbrev s_is_pair : Stmt := top 11
abbrev N_is_pair : List Str := ["thing", "word", "key", "held"]
theorem sc_is_pair : FnScope N_is_pair ["thing", "word"] (defScope s_is_pair) := ⟨rfl, rfl, rfl, by decide +kernel, rfl, by decide +kernel, by decide +kernel⟩
abbrev s_rises : Stmt := top 12
abbrev N_rises : List Str := ["pairs", "at"]
theorem sc_rises : FnScope N_rises ["pairs"] (defScope s_rises) := ⟨rfl, rfl, rfl, by decide +kernel, rfl, by decide +kernel, by decide +kernel⟩
abbrev s_is_block : Stmt := top 13
abbrev N_is_block : List Str := ["thing", "least", "most", "word", "pairs", "pair"]
theorem sc_is_block : FnScope N_is_block ["thing", "least", "most"] (defScope s_is_block) := ⟨rfl, rfl, rfl, by decide +kernel, rfl, by decide +kernel, by decide +kernel⟩
abbrev s_lay : Stmt := top 15
abbrev N_lay : List Str := ["blocks", "number", "block"]
theorem sc_lay : FnScope N_lay ["blocks", "number", "block"] (defScope s_lay) := ⟨rfl, rfl, rfl, by decide +kernel, rfl, by decide +kernel, by decide +kernel⟩
abbrev s_redone : Stmt := top 16
abbrev N_redone : List Str := ["blocks", "log", "after", "group", "entry", "word", "number", "block"]
theorem sc_redone : FnScope N_redone ["blocks", "log"] (defScope s_redone) := ⟨rfl, rfl, rfl, by decide +kernel, rfl, by decide +kernel, by decide +kernel⟩
abbrev s_row_of : Stmt := top 26
abbrev N_row_of : List Str := ["level", "word", "pairs", "pair"]
theorem sc_row_of : FnScope N_row_of ["level"] (defScope s_row_of) := ⟨rfl, rfl, rfl, by decide +kernel, rfl, by decide +kernel, by decide +kernel⟩
abbrev s_named : Stmt := top 27
abbrev N_named : List Str := ["blocks", "pairs", "key", "number"]
theorem sc_named : FnScope N_named ["blocks", "pairs"] (defScope s_named) := ⟨rfl, rfl, rfl, by decide +kernel, rfl, by decide +kernel, by decide +kernel⟩
abbrev s_all_are : Stmt := top 28
abbrev N_all_are : List Str := ["word", "level", "block"]
theorem sc_all_are : FnScope N_all_are ["word", "level"] (defScope s_all_are) := ⟨rfl, rfl, rfl, by decide +kernel, rfl, by decide +kernel, by decide +kernel⟩
abbrev s_is_root : Stmt := top 29
abbrev N_is_root : List Str := ["thing", "width", "word", "pairs"]
theorem sc_is_root : FnScope N_is_root ["thing", "width"] (defScope s_is_root) := ⟨rfl, rfl, rfl, by decide +kernel, rfl, by decide +kernel, by decide +kernel⟩
abbrev s_fits : Stmt := top 30
abbrev N_fits : List Str := ["thing", "width", "key", "word", "pairs"]
theorem sc_fits : FnScope N_fits ["thing", "width", "key"] (defScope s_fits) := ⟨rfl, rfl, rfl, by decide +kernel, rfl, by decide +kernel, by decide +kernel⟩
abbrev s_sound : Stmt := top 31
abbrev N_sound : List Str := ["blocks", "width", "level", "reached", "row", "key", "number"]
theorem sc_sound : FnScope N_sound ["blocks", "width"] (defScope s_sound) := ⟨rfl, rfl, rfl, by decide +kernel, rfl, by decide +kernel, by decide +kernel⟩
abbrev s_way : Stmt := top 32
abbrev N_way : List Str := ["blocks", "key", "numbers", "word", "pairs", "number"]
theorem sc_way : FnScope N_way ["blocks", "key"] (defScope s_way) := ⟨rfl, rfl, rfl, by decide +kernel, rfl, by decide +kernel, by decide +kernel⟩
abbrev s_value_in : Stmt := top 33
abbrev N_value_in : List Str := ["blocks", "key", "leaf"]
theorem sc_value_in : FnScope N_value_in ["blocks", "key"] (defScope s_value_in) := ⟨rfl, rfl, rfl, by decide +kernel, rfl, by decide +kernel, by decide +kernel⟩
abbrev s_listed : Stmt := top 34
abbrev N_listed : List Str := ["blocks", "level"]
theorem sc_listed : FnScope N_listed ["blocks"] (defScope s_listed) := ⟨rfl, rfl, rfl, by decide +kernel, rfl, by decide +kernel, by decide +kernel⟩
abbrev s_within : Stmt := top 35
abbrev N_within : List Str := ["blocks", "low", "high", "level", "rows", "word", "pairs", "row", "key", "number", "pair"]
theorem sc_within : FnScope N_within ["blocks", "low", "high"] (defScope s_within) := ⟨rfl, rfl, rfl, by decide +kernel, rfl, by decide +kernel, by decide +kernel⟩
abbrev s_Change_init : Stmt := inClass (top 36) 0
abbrev N_Change_init : List Str := ["self", "blocks", "width"]
theorem sc_Change_init : FnScope N_Change_init ["self", "blocks", "width"] (defScope s_Change_init) := ⟨rfl, rfl, rfl, by decide +kernel, rfl, by decide +kernel, by decide +kernel⟩
abbrev s_Change_told : Stmt := inClass (top 36) 1
abbrev N_Change_told : List Str := ["self", "number", "block"]
theorem sc_Change_told : FnScope N_Change_told ["self"] (defScope s_Change_told) := ⟨rfl, rfl, rfl, by decide +kernel, rfl, by decide +kernel, by decide +kernel⟩
abbrev s_Change_hold : Stmt := inClass (top 36) 2
abbrev N_Change_hold : List Str := ["self", "key", "held", "numbers", "pairs", "row", "pair", "word", "number", "above"]
theorem sc_Change_hold : FnScope N_Change_hold ["self", "key", "held"] (defScope s_Change_hold) := ⟨rfl, rfl, rfl, by decide +kernel, rfl, by decide +kernel, by decide +kernel⟩
abbrev s_Change_fill_below : Stmt := inClass (top 36) 3
abbrev N_Change_fill_below : List Str := ["self", "above", "key", "word", "row", "at", "first", "last", "before", "behind", "numbers", "least", "number"]
theorem sc_Change_fill_below : FnScope N_Change_fill_below ["self", "above", "key", "word", "row"] (defScope s_Change_fill_below) := ⟨rfl, rfl, rfl, by decide +kernel, rfl, by decide +kernel, by decide +kernel⟩
abbrev s_Change_fill : Stmt := inClass (top 36) 4
abbrev N_Change_fill : List Str := ["self", "word", "row", "numbers", "rows", "part", "number", "taken"]
theorem sc_Change_fill : FnScope N_Change_fill ["self", "word", "row", "numbers"] (defScope s_Change_fill) := ⟨rfl, rfl, rfl, by decide +kernel, rfl, by decide +kernel, by decide +kernel⟩
abbrev s_Change_fill_root : Stmt := inClass (top 36) 5
abbrev N_Change_fill_root : List Str := ["self", "word", "row", "below"]
theorem sc_Change_fill_root : FnScope N_Change_fill_root ["self", "word", "row"] (defScope s_Change_fill_root) := ⟨rfl, rfl, rfl, by decide +kernel, rfl, by decide +kernel, by decide +kernel⟩
abbrev s_Change_new_number : Stmt := inClass (top 36) 6
abbrev N_Change_new_number : List Str := ["self", "number", "blocks"]
theorem sc_Change_new_number : FnScope N_Change_new_number ["self"] (defScope s_Change_new_number) := ⟨rfl, rfl, rfl, by decide +kernel, rfl, by decide +kernel, by decide +kernel⟩
abbrev s_put_in : Stmt := top 37
abbrev N_put_in : List Str := ["blocks", "width", "key", "value", "change"]
theorem sc_put_in : FnScope N_put_in ["blocks", "width", "key", "value"] (defScope s_put_in) := ⟨rfl, rfl, rfl, by decide +kernel, rfl, by decide +kernel, by decide +kernel⟩
abbrev s_drop_from : Stmt := top 38
abbrev N_drop_from : List Str := ["blocks", "width", "key", "change"]
theorem sc_drop_from : FnScope N_drop_from ["blocks", "width", "key"] (defScope s_drop_from) := ⟨rfl, rfl, rfl, by decide +kernel, rfl, by decide +kernel, by decide +kernel⟩
abbrev s_check_width : Stmt := top 40
abbrev N_check_width : List Str := ["width"]
theorem sc_check_width : FnScope N_check_width ["width"] (defScope s_check_width) := ⟨rfl, rfl, rfl, by decide +kernel, rfl, by decide +kernel, by decide +kernel⟩
abbrev s_check_room : Stmt := top 41
abbrev N_check_room : List Str := ["room"]
theorem sc_check_room : FnScope N_check_room ["room"] (defScope s_check_room) := ⟨rfl, rfl, rfl, by decide +kernel, rfl, by decide +kernel, by decide +kernel⟩
abbrev s_check_key : Stmt := top 42
abbrev N_check_key : List Str := ["key"]
theorem sc_check_key : FnScope N_check_key ["key"] (defScope s_check_key) := ⟨rfl, rfl, rfl, by decide +kernel, rfl, by decide +kernel, by decide +kernel⟩
abbrev s_check_value : Stmt := top 43
abbrev N_check_value : List Str := ["value"]
theorem sc_check_value : FnScope N_check_value ["value"] (defScope s_check_value) := ⟨rfl, rfl, rfl, by decide +kernel, rfl, by decide +kernel, by decide +kernel⟩
abbrev s_rooted : Stmt := top 44
abbrev N_rooted : List Str := ["blocks"]
theorem sc_rooted : FnScope N_rooted ["blocks"] (defScope s_rooted) := ⟨rfl, rfl, rfl, by decide +kernel, rfl, by decide +kernel, by decide +kernel⟩
abbrev s_Store_init : Stmt := inClass (top 45) 0
abbrev N_Store_init : List Str := ["self", "width", "room", "blocks", "log", "logged", "entry", "number"]
theorem sc_Store_init : FnScope N_Store_init ["self", "width", "room", "blocks", "log"] (defScope s_Store_init) := ⟨rfl, rfl, rfl, by decide +kernel, rfl, by decide +kernel, by decide +kernel⟩
abbrev s_Store_put : Stmt := inClass (top 45) 1
abbrev N_Store_put : List Str := ["self", "key", "value"]
theorem sc_Store_put : FnScope N_Store_put ["self", "key", "value"] (defScope s_Store_put) := ⟨rfl, rfl, rfl, by decide +kernel, rfl, by decide +kernel, by decide +kernel⟩
abbrev s_Store_drop : Stmt := inClass (top 45) 2
abbrev N_Store_drop : List Str := ["self", "key"]
theorem sc_Store_drop : FnScope N_Store_drop ["self", "key"] (defScope s_Store_drop) := ⟨rfl, rfl, rfl, by decide +kernel, rfl, by decide +kernel, by decide +kernel⟩
abbrev s_Store_settle : Stmt := inClass (top 45) 3
abbrev N_Store_settle : List Str := ["self", "many", "numbers", "number", "settled"]
theorem sc_Store_settle : FnScope N_Store_settle ["self", "many"] (defScope s_Store_settle) := ⟨rfl, rfl, rfl, by decide +kernel, rfl, by decide +kernel, by decide +kernel⟩
abbrev s_Store_value_at : Stmt := inClass (top 45) 4
abbrev N_Store_value_at : List Str := ["self", "key"]
theorem sc_Store_value_at : FnScope N_Store_value_at ["self", "key"] (defScope s_Store_value_at) := ⟨rfl, rfl, rfl, by decide +kernel, rfl, by decide +kernel, by decide +kernel⟩
abbrev s_Store_pairs : Stmt := inClass (top 45) 5
abbrev N_Store_pairs : List Str := ["self"]
theorem sc_Store_pairs : FnScope N_Store_pairs ["self"] (defScope s_Store_pairs) := ⟨rfl, rfl, rfl, by decide +kernel, rfl, by decide +kernel, by decide +kernel⟩
abbrev s_Store_between : Stmt := inClass (top 45) 6
abbrev N_Store_between : List Str := ["self", "low", "high"]
theorem sc_Store_between : FnScope N_Store_between ["self", "low", "high"] (defScope s_Store_between) := ⟨rfl, rfl, rfl, by decide +kernel, rfl, by decide +kernel, by decide +kernel⟩
abbrev s_Store_request : Stmt := inClass (top 45) 7
abbrev N_Store_request : List Str := ["self", "changes", "number", "block"]
theorem sc_Store_request : FnScope N_Store_request ["self", "changes"] (defScope s_Store_request) := ⟨rfl, rfl, rfl, by decide +kernel, rfl, by decide +kernel, by decide +kernel⟩
abbrev s_Store_log : Stmt := inClass (top 45) 8
abbrev N_Store_log : List Str := ["self", "entry"]
theorem sc_Store_log : FnScope N_Store_log ["self", "entry"] (defScope s_Store_log) := ⟨rfl, rfl, rfl, by decide +kernel, rfl, by decide +kernel, by decide +kernel⟩
abbrev s_Store_settle_wholly : Stmt := inClass (top 45) 9
abbrev N_Store_settle_wholly : List Str := ["self"]
theorem sc_Store_settle_wholly : FnScope N_Store_settle_wholly ["self"] (defScope s_Store_settle_wholly) := ⟨rfl, rfl, rfl, by decide +kernel, rfl, by decide +kernel, by decide +kernel⟩
abbrev s_opened : Stmt := top 46
abbrev N_opened : List Str := ["width", "room"]
theorem sc_opened : FnScope N_opened ["width", "room"] (defScope s_opened) := ⟨rfl, rfl, rfl, by decide +kernel, rfl, by decide +kernel, by decide +kernel⟩
abbrev s_l_cell_at : Stmt := top 48
abbrev N_l_cell_at : List Str := ["_law_script", "_law_k"]
theorem sc_l_cell_at : FnScope N_l_cell_at ["_law_script", "_law_k"] (defScope s_l_cell_at) := ⟨rfl, rfl, rfl, by decide +kernel, rfl, by decide +kernel, by decide +kernel⟩
abbrev s_l_width_by : Stmt := top 49
abbrev N_l_width_by : List Str := ["_law_cell"]
theorem sc_l_width_by : FnScope N_l_width_by ["_law_cell"] (defScope s_l_width_by) := ⟨rfl, rfl, rfl, by decide +kernel, rfl, by decide +kernel, by decide +kernel⟩
abbrev s_l_room_by : Stmt := top 50
abbrev N_l_room_by : List Str := ["_law_cell"]
theorem sc_l_room_by : FnScope N_l_room_by ["_law_cell"] (defScope s_l_room_by) := ⟨rfl, rfl, rfl, by decide +kernel, rfl, by decide +kernel, by decide +kernel⟩
abbrev s_l_key_by : Stmt := top 51
abbrev N_l_key_by : List Str := ["_law_cell"]
theorem sc_l_key_by : FnScope N_l_key_by ["_law_cell"] (defScope s_l_key_by) := ⟨rfl, rfl, rfl, by decide +kernel, rfl, by decide +kernel, by decide +kernel⟩
abbrev s_l_value_by : Stmt := top 52
abbrev N_l_value_by : List Str := ["_law_cell", "_law_some", "_law_size", "_law_step", "_law_k"]
theorem sc_l_value_by : FnScope N_l_value_by ["_law_cell"] (defScope s_l_value_by) := ⟨rfl, rfl, rfl, by decide +kernel, rfl, by decide +kernel, by decide +kernel⟩
abbrev s_l_held : Stmt := top 53
abbrev N_l_held : List Str := ["_law_row", "_law_key", "_law_value", "_law_found", "_law_pair"]
theorem sc_l_held : FnScope N_l_held ["_law_row", "_law_key", "_law_value"] (defScope s_l_held) := ⟨rfl, rfl, rfl, by decide +kernel, rfl, by decide +kernel, by decide +kernel⟩
abbrev s_l_requests : Stmt := top 54
abbrev N_l_requests : List Str := ["_law_cell", "_law_row", "_law_most", "_law_mix", "_law_way", "_law_rest", "_law_pair", "_law_k"]
theorem sc_l_requests : FnScope N_l_requests ["_law_cell", "_law_row", "_law_most"] (defScope s_l_requests) := ⟨rfl, rfl, rfl, by decide +kernel, rfl, by decide +kernel, by decide +kernel⟩
abbrev s_l_asked : Stmt := top 55
abbrev N_l_asked : List Str := ["_law_store", "_law_row", "_law_key", "_law_value", "_law_there", "_law_pair", "_law_answer"]
theorem sc_l_asked : FnScope N_l_asked ["_law_store", "_law_row", "_law_key", "_law_value"] (defScope s_l_asked) := ⟨rfl, rfl, rfl, by decide +kernel, rfl, by decide +kernel, by decide +kernel⟩
abbrev s_l_history : Stmt := top 56
abbrev N_l_history : List Str := ["_law_store", "_law_row", "_law_cells", "_law_most", "_law_rows", "_law_at", "_law_cell", "_law_pairs", "_law_pair"]
theorem sc_l_history : FnScope N_l_history ["_law_store", "_law_row", "_law_cells", "_law_most"] (defScope s_l_history) := ⟨rfl, rfl, rfl, by decide +kernel, rfl, by decide +kernel, by decide +kernel⟩
abbrev s_l_values : Stmt := top 57
abbrev N_l_values : List Str := ["_law_store", "_law_row", "_law_key", "_law_value", "_law_pair", "_law_found"]
theorem sc_l_values : FnScope N_l_values ["_law_store", "_law_row", "_law_key"] (defScope s_l_values) := ⟨rfl, rfl, rfl, by decide +kernel, rfl, by decide +kernel, by decide +kernel⟩
abbrev s_l_shown : Stmt := top 58
abbrev N_l_shown : List Str := ["_law_store", "_law_row", "_law_keys", "_law_found", "_law_some", "_law_due", "_law_pair"]
theorem sc_l_shown : FnScope N_l_shown ["_law_store", "_law_row", "_law_keys"] (defScope s_l_shown) := ⟨rfl, rfl, rfl, by decide +kernel, rfl, by decide +kernel, by decide +kernel⟩
abbrev s_law : Stmt := top 59
abbrev N_law : List Str := ["_law_script", "_law_width", "_law_store", "_law_second", "_law_middle", "_law_rows", "_law_others", "_law_row", "_law_keys", "_law_held_here", "_law_copies"]
theorem sc_law : FnScope N_law ["_law_script"] (defScope s_law) := ⟨rfl, rfl, rfl, by decide +kernel, rfl, by decide +kernel, by decide +kernel⟩
abbrev sp_l_cell_at := sp_cell
structure Tx (K : PySem.W.Frag) (mg : Str → Option Value) where
  C_Change : Addr
  cl_Change : Cls K C_Change
  gC_Change : mg "Change" = some (.ref C_Change)
  n_Change__after : NoAttr K C_Change "_after"
  n_Change__blocks : NoAttr K C_Change "_blocks"
  n_Change__newest : NoAttr K C_Change "_newest"
  n_Change__width : NoAttr K C_Change "_width"
  C_Store : Addr
  cl_Store : Cls K C_Store
  gC_Store : mg "Store" = some (.ref C_Store)
  n_Store__blocks : NoAttr K C_Store "_blocks"
  n_Store__logged : NoAttr K C_Store "_logged"
  n_Store__room : NoAttr K C_Store "_room"
  n_Store__waiting : NoAttr K C_Store "_waiting"
  n_Store__width : NoAttr K C_Store "_width"
  n_Store_deeds : NoAttr K C_Store "deeds"
  E_NotThere : Addr
  eg_NotThere : mg "NotThere" = some (.ref E_NotThere)
  ex_NotThere : PySem.W.excIn K E_NotThere [.type "ValueError", .type "Exception", .type "BaseException", .type "object"] "ValueError.__new__" = true
  ek_NotThere : PySem.W.keepIn K (.ref E_NotThere) = true
  eb_NotThere : PySem.W.subIn K (.ref E_NotThere) (.type "BaseException") = some true
  et_NotThere : PySem.W.typeIn K (.ref E_NotThere) = some (.type "type")
  em_NotThere : PySem.W.exmOne K (.ref E_NotThere) (.ref E_NotThere) = some true
  a_is_whole : Addr
  d_is_whole : FuncData
  F_is_whole : Fun K "is_whole" "is_whole" s_is_whole a_is_whole d_is_whole
  b_is_whole : Binds K d_is_whole ["thing"] []
  g_is_whole : mg "is_whole" = some (.ref a_is_whole)
  a_is_key : Addr
  d_is_key : FuncData
  F_is_key : Fun K "is_key" "is_key" s_is_key a_is_key d_is_key
  b_is_key : Binds K d_is_key ["thing"] []
  g_is_key : mg "is_key" = some (.ref a_is_key)
  a_is_value : Addr
  d_is_value : FuncData
  F_is_value : Fun K "is_value" "is_value" s_is_value a_is_value d_is_value
  b_is_value : Binds K d_is_value ["thing"] []
  g_is_value : mg "is_value" = some (.ref a_is_value)
  a_is_number : Addr
  d_is_number : FuncData
  F_is_number : Fun K "is_number" "is_number" s_is_number a_is_number d_is_number
  b_is_number : Binds K d_is_number ["thing"] []
  g_is_number : mg "is_number" = some (.ref a_is_number)
  a_half : Addr
  d_half : FuncData
  F_half : Fun K "half" "half" s_half a_half d_half
  b_half : Binds K d_half ["width"] []
  g_half : mg "half" = some (.ref a_half)
  a_place : Addr
  d_place : FuncData
  F_place : Fun K "place" "place" s_place a_place d_place
  b_place : Binds K d_place ["pairs", "key"] []
  g_place : mg "place" = some (.ref a_place)
  a_parts : Addr
  d_parts : FuncData
  F_parts : Fun K "parts" "parts" s_parts a_parts d_parts
  b_parts : Binds K d_parts ["pairs", "width"] []
  g_parts : mg "parts" = some (.ref a_parts)
  a_is_two : Addr
  d_is_two : FuncData
  F_is_two : Fun K "is_two" "is_two" s_is_two a_is_two d_is_two
  b_is_two : Binds K d_is_two ["thing"] []
  g_is_two : mg "is_two" = some (.ref a_is_two)
  a_is_pair : Addr
  d_is_pair : FuncData
  F_is_pair : Fun K "is_pair" "is_pair" s_is_pair a_is_pair d_is_pair
  b_is_pair : Binds K d_is_pair ["thing", "word"] []
  g_is_pair : mg "is_pair" = some (.ref a_is_pair)
  a_rises : Addr
  d_rises : FuncData
  F_rises : Fun K "rises" "rises" s_rises a_rises d_rises
  b_rises : Binds K d_rises ["pairs"] []
  g_rises : mg "rises" = some (.ref a_rises)
  a_is_block : Addr
  d_is_block : FuncData
  F_is_block : Fun K "is_block" "is_block" s_is_block a_is_block d_is_block
  b_is_block : Binds K d_is_block ["thing", "least", "most"] []
  g_is_block : mg "is_block" = some (.ref a_is_block)
  a_lay : Addr
  d_lay : FuncData
  F_lay : Fun K "lay" "lay" s_lay a_lay d_lay
  b_lay : Binds K d_lay ["blocks", "number", "block"] []
  g_lay : mg "lay" = some (.ref a_lay)
  a_redone : Addr
  d_redone : FuncData
  F_redone : Fun K "redone" "redone" s_redone a_redone d_redone
  b_redone : Binds K d_redone ["blocks", "log"] []
  g_redone : mg "redone" = some (.ref a_redone)
  a_row_of : Addr
  d_row_of : FuncData
  F_row_of : Fun K "row_of" "row_of" s_row_of a_row_of d_row_of
  b_row_of : Binds K d_row_of ["level"] []
  g_row_of : mg "row_of" = some (.ref a_row_of)
  a_named : Addr
  d_named : FuncData
  F_named : Fun K "named" "named" s_named a_named d_named
  b_named : Binds K d_named ["blocks", "pairs"] []
  g_named : mg "named" = some (.ref a_named)
  a_all_are : Addr
  d_all_are : FuncData
  F_all_are : Fun K "all_are" "all_are" s_all_are a_all_are d_all_are
  b_all_are : Binds K d_all_are ["word", "level"] []
  g_all_are : mg "all_are" = some (.ref a_all_are)
  a_is_root : Addr
  d_is_root : FuncData
  F_is_root : Fun K "is_root" "is_root" s_is_root a_is_root d_is_root
  b_is_root : Binds K d_is_root ["thing", "width"] []
  g_is_root : mg "is_root" = some (.ref a_is_root)
  a_fits : Addr
  d_fits : FuncData
  F_fits : Fun K "fits" "fits" s_fits a_fits d_fits
  b_fits : Binds K d_fits ["thing", "width", "key"] []
  g_fits : mg "fits" = some (.ref a_fits)
  a_sound : Addr
  d_sound : FuncData
  F_sound : Fun K "sound" "sound" s_sound a_sound d_sound
  b_sound : Binds K d_sound ["blocks", "width"] []
  g_sound : mg "sound" = some (.ref a_sound)
  a_way : Addr
  d_way : FuncData
  F_way : Fun K "way" "way" s_way a_way d_way
  b_way : Binds K d_way ["blocks", "key"] []
  g_way : mg "way" = some (.ref a_way)
  a_value_in : Addr
  d_value_in : FuncData
  F_value_in : Fun K "value_in" "value_in" s_value_in a_value_in d_value_in
  b_value_in : Binds K d_value_in ["blocks", "key"] []
  g_value_in : mg "value_in" = some (.ref a_value_in)
  a_listed : Addr
  d_listed : FuncData
  F_listed : Fun K "listed" "listed" s_listed a_listed d_listed
  b_listed : Binds K d_listed ["blocks"] []
  g_listed : mg "listed" = some (.ref a_listed)
  a_within : Addr
  d_within : FuncData
  F_within : Fun K "within" "within" s_within a_within d_within
  b_within : Binds K d_within ["blocks", "low", "high"] []
  g_within : mg "within" = some (.ref a_within)
  a_Change_init : Addr
  d_Change_init : FuncData
  F_Change_init : Fun K "__init__" "Change.__init__" s_Change_init a_Change_init d_Change_init
  b_Change_init : Binds K d_Change_init ["self", "blocks", "width"] []
  m_Change_init : Mk K C_Change a_Change_init
  a_Change_told : Addr
  d_Change_told : FuncData
  F_Change_told : Fun K "told" "Change.told" s_Change_told a_Change_told d_Change_told
  b_Change_told : Binds K d_Change_told ["self"] []
  m_Change_told : Meth K C_Change "told" a_Change_told
  a_Change_hold : Addr
  d_Change_hold : FuncData
  F_Change_hold : Fun K "hold" "Change.hold" s_Change_hold a_Change_hold d_Change_hold
  b_Change_hold : Binds K d_Change_hold ["self", "key", "held"] []
  m_Change_hold : Meth K C_Change "hold" a_Change_hold
  a_Change_fill_below : Addr
  d_Change_fill_below : FuncData
  F_Change_fill_below : Fun K "_fill_below" "Change._fill_below" s_Change_fill_below a_Change_fill_below d_Change_fill_below
  b_Change_fill_below : Binds K d_Change_fill_below ["self", "above", "key", "word", "row"] []
  m_Change_fill_below : Meth K C_Change "_fill_below" a_Change_fill_below
  a_Change_fill : Addr
  d_Change_fill : FuncData
  F_Change_fill : Fun K "_fill" "Change._fill" s_Change_fill a_Change_fill d_Change_fill
  b_Change_fill : Binds K d_Change_fill ["self", "word", "row", "numbers"] []
  m_Change_fill : Meth K C_Change "_fill" a_Change_fill
  a_Change_fill_root : Addr
  d_Change_fill_root : FuncData
  F_Change_fill_root : Fun K "_fill_root" "Change._fill_root" s_Change_fill_root a_Change_fill_root d_Change_fill_root
  b_Change_fill_root : Binds K d_Change_fill_root ["self", "word", "row"] []
  m_Change_fill_root : Meth K C_Change "_fill_root" a_Change_fill_root
  a_Change_new_number : Addr
  d_Change_new_number : FuncData
  F_Change_new_number : Fun K "_new_number" "Change._new_number" s_Change_new_number a_Change_new_number d_Change_new_number
  b_Change_new_number : Binds K d_Change_new_number ["self"] []
  m_Change_new_number : Meth K C_Change "_new_number" a_Change_new_number
  a_put_in : Addr
  d_put_in : FuncData
  F_put_in : Fun K "put_in" "put_in" s_put_in a_put_in d_put_in
  b_put_in : Binds K d_put_in ["blocks", "width", "key", "value"] []
  g_put_in : mg "put_in" = some (.ref a_put_in)
  a_drop_from : Addr
  d_drop_from : FuncData
  F_drop_from : Fun K "drop_from" "drop_from" s_drop_from a_drop_from d_drop_from
  b_drop_from : Binds K d_drop_from ["blocks", "width", "key"] []
  g_drop_from : mg "drop_from" = some (.ref a_drop_from)
  a_check_width : Addr
  d_check_width : FuncData
  F_check_width : Fun K "check_width" "check_width" s_check_width a_check_width d_check_width
  b_check_width : Binds K d_check_width ["width"] []
  g_check_width : mg "check_width" = some (.ref a_check_width)
  a_check_room : Addr
  d_check_room : FuncData
  F_check_room : Fun K "check_room" "check_room" s_check_room a_check_room d_check_room
  b_check_room : Binds K d_check_room ["room"] []
  g_check_room : mg "check_room" = some (.ref a_check_room)
  a_check_key : Addr
  d_check_key : FuncData
  F_check_key : Fun K "check_key" "check_key" s_check_key a_check_key d_check_key
  b_check_key : Binds K d_check_key ["key"] []
  g_check_key : mg "check_key" = some (.ref a_check_key)
  a_check_value : Addr
  d_check_value : FuncData
  F_check_value : Fun K "check_value" "check_value" s_check_value a_check_value d_check_value
  b_check_value : Binds K d_check_value ["value"] []
  g_check_value : mg "check_value" = some (.ref a_check_value)
  a_rooted : Addr
  d_rooted : FuncData
  F_rooted : Fun K "rooted" "rooted" s_rooted a_rooted d_rooted
  b_rooted : Binds K d_rooted ["blocks"] []
  g_rooted : mg "rooted" = some (.ref a_rooted)
  a_Store_init : Addr
  d_Store_init : FuncData
  F_Store_init : Fun K "__init__" "Store.__init__" s_Store_init a_Store_init d_Store_init
  b_Store_init : Binds K d_Store_init ["self", "width", "room", "blocks", "log"] []
  m_Store_init : Mk K C_Store a_Store_init
  a_Store_put : Addr
  d_Store_put : FuncData
  F_Store_put : Fun K "put" "Store.put" s_Store_put a_Store_put d_Store_put
  b_Store_put : Binds K d_Store_put ["self", "key", "value"] []
  m_Store_put : Meth K C_Store "put" a_Store_put
  a_Store_drop : Addr
  d_Store_drop : FuncData
  F_Store_drop : Fun K "drop" "Store.drop" s_Store_drop a_Store_drop d_Store_drop
  b_Store_drop : Binds K d_Store_drop ["self", "key"] []
  m_Store_drop : Meth K C_Store "drop" a_Store_drop
  a_Store_settle : Addr
  d_Store_settle : FuncData
  F_Store_settle : Fun K "settle" "Store.settle" s_Store_settle a_Store_settle d_Store_settle
  b_Store_settle : Binds K d_Store_settle ["self", "many"] []
  m_Store_settle : Meth K C_Store "settle" a_Store_settle
  a_Store_value_at : Addr
  d_Store_value_at : FuncData
  F_Store_value_at : Fun K "value_at" "Store.value_at" s_Store_value_at a_Store_value_at d_Store_value_at
  b_Store_value_at : Binds K d_Store_value_at ["self", "key"] []
  m_Store_value_at : Meth K C_Store "value_at" a_Store_value_at
  a_Store_pairs : Addr
  d_Store_pairs : FuncData
  F_Store_pairs : Fun K "pairs" "Store.pairs" s_Store_pairs a_Store_pairs d_Store_pairs
  b_Store_pairs : Binds K d_Store_pairs ["self"] []
  m_Store_pairs : Meth K C_Store "pairs" a_Store_pairs
  a_Store_between : Addr
  d_Store_between : FuncData
  F_Store_between : Fun K "between" "Store.between" s_Store_between a_Store_between d_Store_between
  b_Store_between : Binds K d_Store_between ["self", "low", "high"] []
  m_Store_between : Meth K C_Store "between" a_Store_between
  a_Store_request : Addr
  d_Store_request : FuncData
  F_Store_request : Fun K "_request" "Store._request" s_Store_request a_Store_request d_Store_request
  b_Store_request : Binds K d_Store_request ["self", "changes"] []
  m_Store_request : Meth K C_Store "_request" a_Store_request
  a_Store_log : Addr
  d_Store_log : FuncData
  F_Store_log : Fun K "_log" "Store._log" s_Store_log a_Store_log d_Store_log
  b_Store_log : Binds K d_Store_log ["self", "entry"] []
  m_Store_log : Meth K C_Store "_log" a_Store_log
  a_Store_settle_wholly : Addr
  d_Store_settle_wholly : FuncData
  F_Store_settle_wholly : Fun K "_settle_wholly" "Store._settle_wholly" s_Store_settle_wholly a_Store_settle_wholly d_Store_settle_wholly
  b_Store_settle_wholly : Binds K d_Store_settle_wholly ["self"] []
  m_Store_settle_wholly : Meth K C_Store "_settle_wholly" a_Store_settle_wholly
  a_opened : Addr
  d_opened : FuncData
  F_opened : Fun K "opened" "opened" s_opened a_opened d_opened
  b_opened : Binds K d_opened ["width", "room"] []
  g_opened : mg "opened" = some (.ref a_opened)
  a_l_cell_at : Addr
  d_l_cell_at : FuncData
  F_l_cell_at : Fun K "_law_cell_at" "_law_cell_at" s_l_cell_at a_l_cell_at d_l_cell_at
  b_l_cell_at : Binds K d_l_cell_at ["_law_script", "_law_k"] []
  g_l_cell_at : mg "_law_cell_at" = some (.ref a_l_cell_at)
  a_l_width_by : Addr
  d_l_width_by : FuncData
  F_l_width_by : Fun K "_law_width_by" "_law_width_by" s_l_width_by a_l_width_by d_l_width_by
  b_l_width_by : Binds K d_l_width_by ["_law_cell"] []
  g_l_width_by : mg "_law_width_by" = some (.ref a_l_width_by)
  a_l_room_by : Addr
  d_l_room_by : FuncData
  F_l_room_by : Fun K "_law_room_by" "_law_room_by" s_l_room_by a_l_room_by d_l_room_by
  b_l_room_by : Binds K d_l_room_by ["_law_cell"] []
  g_l_room_by : mg "_law_room_by" = some (.ref a_l_room_by)
  a_l_key_by : Addr
  d_l_key_by : FuncData
  F_l_key_by : Fun K "_law_key_by" "_law_key_by" s_l_key_by a_l_key_by d_l_key_by
  b_l_key_by : Binds K d_l_key_by ["_law_cell"] []
  g_l_key_by : mg "_law_key_by" = some (.ref a_l_key_by)
  a_l_value_by : Addr
  d_l_value_by : FuncData
  F_l_value_by : Fun K "_law_value_by" "_law_value_by" s_l_value_by a_l_value_by d_l_value_by
  b_l_value_by : Binds K d_l_value_by ["_law_cell"] []
  g_l_value_by : mg "_law_value_by" = some (.ref a_l_value_by)
  a_l_held : Addr
  d_l_held : FuncData
  F_l_held : Fun K "_law_held" "_law_held" s_l_held a_l_held d_l_held
  b_l_held : Binds K d_l_held ["_law_row", "_law_key", "_law_value"] []
  g_l_held : mg "_law_held" = some (.ref a_l_held)
  a_l_requests : Addr
  d_l_requests : FuncData
  F_l_requests : Fun K "_law_requests" "_law_requests" s_l_requests a_l_requests d_l_requests
  b_l_requests : Binds K d_l_requests ["_law_cell", "_law_row", "_law_most"] []
  g_l_requests : mg "_law_requests" = some (.ref a_l_requests)
  a_l_asked : Addr
  d_l_asked : FuncData
  F_l_asked : Fun K "_law_asked" "_law_asked" s_l_asked a_l_asked d_l_asked
  b_l_asked : Binds K d_l_asked ["_law_store", "_law_row", "_law_key", "_law_value"] []
  g_l_asked : mg "_law_asked" = some (.ref a_l_asked)
  a_l_history : Addr
  d_l_history : FuncData
  F_l_history : Fun K "_law_history" "_law_history" s_l_history a_l_history d_l_history
  b_l_history : Binds K d_l_history ["_law_store", "_law_row", "_law_cells", "_law_most"] []
  g_l_history : mg "_law_history" = some (.ref a_l_history)
  a_l_values : Addr
  d_l_values : FuncData
  F_l_values : Fun K "_law_values" "_law_values" s_l_values a_l_values d_l_values
  b_l_values : Binds K d_l_values ["_law_store", "_law_row", "_law_key"] []
  g_l_values : mg "_law_values" = some (.ref a_l_values)
  a_l_shown : Addr
  d_l_shown : FuncData
  F_l_shown : Fun K "_law_shown" "_law_shown" s_l_shown a_l_shown d_l_shown
  b_l_shown : Binds K d_l_shown ["_law_store", "_law_row", "_law_keys"] []
  g_l_shown : mg "_law_shown" = some (.ref a_l_shown)
  t_KEY_BOUND : Tok
  c_KEY_BOUND : mg "KEY_BOUND" = some (.int (KB) t_KEY_BOUND)
  t_MOST_SIGNS : Tok
  c_MOST_SIGNS : mg "MOST_SIGNS" = some (.int (60) t_MOST_SIGNS)
  z_all : mg "all" = none
  z_dict : mg "dict" = none
  z_enumerate : mg "enumerate" = none
  z_int : mg "int" = none
  z_isinstance : mg "isinstance" = none
  z_len : mg "len" = none
  z_list : mg "list" = none
  z_max : mg "max" = none
  z_range : mg "range" = none
  z_reversed : mg "reversed" = none
  z_sorted : mg "sorted" = none
  z_str : mg "str" = none
  z_tuple : mg "tuple" = none
  z_type : mg "type" = none
  z_zip : mg "zip" = none
local macro_rules | `(tactic| wtm_at "at") => `(tactic| first | assumption | (refine Same.at (by assumption) ?_; wtm_at "at"))
local macro_rules | `(tactic| wtm_at "sq") => `(tactic| first | assumption | exact SqL.of (by wtm_at "at") | (refine L2.Same.seq (by assumption) ?_; wtm_at "sq"))
local macro_rules | `(tactic| wtm_at "st") => `(tactic| first | assumption | exact SqT.of (by wtm_at "at") | (refine Same.seqT (by assumption) ?_; wtm_at "st"))
local macro_rules | `(tactic| wtm_at "so") => `(tactic| first | assumption | exact seq_l (by wtm_at "sq") | exact seq_t (by wtm_at "st") | (refine Same.seqO (by assumption) ?_; wtm_at "so"))
local macro_rules | `(tactic| wtm_at "sd") => `(tactic| first
  | exact CMul.ok (Or.inl ⟨by omega, by omega⟩) | exact CMul.ok (Or.inr ⟨by omega, by omega⟩)
  | omega | (dsimp only <;> omega) | (show (0 : Int) < _; omega) | exact ⟨by omega, by omega⟩ | exact Or.inl ⟨by omega, by omega⟩ | exact Or.inr ⟨by omega, by omega⟩ | exact ⟨by decide, by decide, by decide⟩)
local macro_rules | `(tactic| wtm_at "wk") => `(tactic| fail "no walk")
local macro_rules | `(tactic| wtm_at "call") => `(tactic| fail "no call")
local macro_rules | `(tactic| wtm_at "ones") => `(tactic| first
  | with_reducible refine g_asg ?_
  | with_reducible refine g_name ?_
  | with_reducible refine g_op ?_
  | with_reducible refine g_var rfl ?_
  | with_reducible refine g_c ?_
  | with_reducible refine g_rI0 ?_
  | ((with_reducible refine' g_rI ?cc ?_); (case cc => wtm_at "sd"))
  | with_reducible refine g_un ?_
  | with_reducible refine g_rU ?_
  | with_reducible refine g_call ?_
  | with_reducible refine g_cons ?_
  | with_reducible refine g_nil ?_
  | with_reducible refine g_cb ?_
  | with_reducible refine g_test ?_
  | with_reducible refine g_tB ?_
  | with_reducible refine g_isB ?_
  | with_reducible refine g_if ?_
  | with_reducible refine g_ret ?_
  | with_reducible refine g_retN ?_
  | with_reducible refine g_drop ?_
  | with_reducible refine g_next ?_
  | ((with_reducible refine' g_rEq ?cc ?_); (case cc => exact rfl))
  | ((with_reducible refine' g_rNe ?cc ?_); (case cc => exact rfl))
  | with_reducible refine g_chain ?_
  | with_reducible refine g_and ?_
  | with_reducible refine g_or ?_
  | with_reducible refine g_not ?_
  | with_reducible refine g_notK ?_
  | with_reducible refine g_andT ?_
  | with_reducible refine g_orT ?_
  | with_reducible refine g_notT ?_
  | with_reducible refine g_notV ?_
  | with_reducible refine g_ifE ?_
  | with_reducible refine g_tup ?_
  | with_reducible refine g_lst ?_
  | with_reducible refine g_sl ?_
  | with_reducible refine g_noPart ?_
  | with_reducible refine g_part ?_
  | with_reducible refine g_partK ?_
  | with_reducible refine g_brT ?_
  | with_reducible refine g_brF ?_
  | with_reducible refine g_gcons ?_
  | with_reducible refine g_gnil ?_
  | ((with_reducible refine' g_len ?cc ?_); (case cc => wtm_at "so"))
  | with_reducible refine g_intB ?_
  | with_reducible refine g_intI ?_
  | with_reducible refine g_isN ?_
  | with_reducible refine g_notN ?_
  | with_reducible refine g_isTy ?_
  | with_reducible refine g_notTy ?_
  | with_reducible refine g_isBl ?_
  | with_reducible refine g_notBl ?_
  | with_reducible refine g_max2 ?_
  | ((with_reducible refine' g_gtup ?cc ?cd ?_); (case cc => wtm_at "st"); (case cd => exact rfl))
  | with_reducible refine My.g_leS ?_
  | ((with_reducible refine' g_typ ?cc ?_); (case cc => assumption))
  | with_reducible refine g_dget ?_
  | with_reducible refine g_din ?_
  | with_reducible refine g_dnin ?_
  | with_reducible refine g_dput ?_
  | with_reducible refine g_dget1 ?_
  | with_reducible refine g_dpop2 ?_
  | with_reducible refine g_bm ?_
  | with_reducible refine g_bm0 ?_
  | wtm_at "wk"
  | wtm_at "call")
local macro_rules | `(tactic| wtm_at "one") => `(tactic| first | with_reducible refine g_seq ?_ | wtm_at "ones")
local macro_rules | `(tactic| wtm_at "red") => `(tactic| try dsimp only [cxOf, List.cons_append, List.nil_append, List.set_cons_zero, List.set_cons_succ])
local macro_rules | `(tactic| wtm_at "go") => `(tactic| (wtm_at "red"; repeat (wtm_at "one"; wtm_at "red")))
local macro_rules | `(tactic| wtm_at "ln") => `(tactic| (refine sz ?_; simp only [List.length_cons, List.length_nil, List.length_map, List.length_append]; omega))
local macro_rules | `(tactic| wtm_at "go0") => `(tactic| ((with_reducible refine g_name ?_); wtm_at "red"))
local macro_rules | `(tactic| wtm_at "gs") => `(tactic| (wtm_at "red"; (try with_reducible refine g_seq ?_); repeat (wtm_at "ones"; wtm_at "red")))

local macro_rules | `(tactic| wtm_at "dp") => `(tactic| first | assumption | exact .int _ | exact .str _ | exact .bl _ | exact .non | (refine Dp.go (by assumption) ?_; wtm_at "dp"))
local macro_rules | `(tactic| wtm_at "dpa") => `(tactic| first | assumption | (refine DpAll.go (by assumption) ?_; wtm_at "dpa"))
local macro_rules | `(tactic| wtm_at "ev") => `(tactic| first
  | with_reducible exact evd_i
  | with_reducible exact evd_b
  | with_reducible exact evd_n
  | with_reducible exact evd_s
  | with_reducible exact evds_nil
  | ((with_reducible refine' evd_v rfl ?cc); (case cc => wtm_at "dp"))
  | ((with_reducible refine' evds_cons ?ca ?cb); (case ca => wtm_at "ev"); (case cb => wtm_at "ev"))
  | ((with_reducible refine' evd_tup ?ca ?cb); (case ca => wtm_at "ev"); (case cb => (simp only [List.length_cons, List.length_nil]; omega)))
  | ((with_reducible refine' evn_lst ?ca ?cb); (case ca => wtm_at "ev"); (case cb => (simp only [List.length_cons, List.length_nil]; omega)))
  | ((with_reducible refine' evd_op0 ?ca ?cb ?cc); (case ca => wtm_at "ev"); (case cb => wtm_at "ev"); (case cc => exact rfl))
  | ((with_reducible refine' evd_op ?ca ?cb ?cc ?cd); (case ca => wtm_at "ev"); (case cb => wtm_at "ev"); (case cc => wtm_at "sd"); (case cd => exact rfl))
  | ((with_reducible refine' evd_neg ?ca); (case ca => wtm_at "ev"))
  | ((with_reducible refine' evd_ixT ?ca ?cb ?cc ?cd); (case ca => wtm_at "ev"); (case cb => wtm_at "ev"); (case cc => omega); (case cd => exact rfl))
  | ((with_reducible refine' evn_listL ?ca); (case ca => wtm_at "ev"))
  | ((with_reducible refine' evn_listT ?ca); (case ca => wtm_at "ev"))
  | ((with_reducible refine' evd_tupleL ?ca); (case ca => wtm_at "ev"))
  | ((with_reducible refine' evd_tupleT ?ca); (case ca => wtm_at "ev"))
  | ((with_reducible refine' evd_strI ?ca ?cb); (case ca => wtm_at "ev"); (case cb => assumption))
  | ((with_reducible refine' evn_v rfl ?ca ?cb ?cc ?cd); (case ca => wtm_at "at"); (case cb => wtm_at "dpa"); (case cc => wtm_at "ev"); (case cd => (simp only [List.length_cons, List.length_nil, List.length_append]; omega)))
  | ((with_reducible refine' evn_cat ?ca ?cb ?cc); (case ca => wtm_at "ev"); (case cb => wtm_at "ev"); (case cc => (simp only [List.length_cons, List.length_nil, List.length_append, List.length_take, List.length_drop]; omega)))
  | ((with_reducible refine' evn_slTo ?ca ?cb ?cc); (case ca => wtm_at "ev"); (case cb => wtm_at "ev"); (case cc => omega))
  | ((with_reducible refine' evn_slFrom ?ca ?cb ?cc); (case ca => wtm_at "ev"); (case cb => wtm_at "ev"); (case cc => omega))
  | ((with_reducible refine' evo_some ?ca); (case ca => wtm_at "ev"))
  | ((with_reducible refine' evd_ixL ?ca ?cb ?cc ?cd); (case ca => wtm_at "ev"); (case cb => wtm_at "ev"); (case cc => omega); (case cd => assumption))
  | ((with_reducible refine' evd_addS ?ca ?cb ?cc); (case ca => wtm_at "ev"); (case cb => wtm_at "ev"); (case cc => assumption))
  | ((with_reducible refine' EvN.toD ?ca); (case ca => wtm_at "ev")))

local macro_rules | `(tactic| wtm_at "eo") => `(tactic| first | exact evo_none | ((with_reducible refine' evo_some ?ca); (case ca => wtm_at "ev")))
local macro_rules | `(tactic| wtm_at "cl") => `(tactic| first | assumption | omega | (simp only [cutL, List.length_cons, List.length_nil, List.length_append, List.length_take, List.length_drop, List.length_reverse, List.length_map]; omega))
local macro_rules | `(tactic| wtm_at "ev") => `(tactic| first
  | ((with_reducible refine' evd_slA ?ca ?cb ?cc); (case ca => wtm_at "ev"); (case cb => wtm_at "eo"); (case cc => wtm_at "eo"))
  | ((with_reducible refine' evd_catA ?ca ?cb ?cc); (case ca => wtm_at "ev"); (case cb => wtm_at "ev"); (case cc => wtm_at "cl"))
  | ((with_reducible refine' evd_ixTg ?ca ?cb ?cc); (case ca => wtm_at "ev"); (case cb => wtm_at "ev"); (case cc => assumption))
  | ((with_reducible refine' evd_mulS ?ca ?cb ?cc ?cd ?ce); (case ca => wtm_at "ev"); (case cb => wtm_at "ev"); (case cc => omega); (case cd => omega); (case ce => decide +kernel))
  | ((with_reducible refine' evd_cell rfl ?ca ?cb); (case ca => wtm_at "sq"); (case cb => omega))
  | ((with_reducible refine' evd_lenT ?ca); (case ca => wtm_at "ev"))
  | ((with_reducible refine' evd_revT ?ca); (case ca => wtm_at "ev")))

local macro_rules | `(tactic| wtm_at "call") => `(tactic| ((with_reducible refine' use_cell ?cc ?cd ?_); (case cc => wtm_at "sq"); (case cd => omega)))
local macro_rules | `(tactic| wtm_at "call") => `(tactic| first | with_reducible refine g_tFld ?_ | with_reducible refine g_sFld ?_ | with_reducible refine g_tMeth ?_)
local macro_rules | `(tactic| wtm_at "wk") => `(tactic| first | with_reducible refine g_wZ ?_ | with_reducible refine g_wV ?_ | with_reducible refine g_wET ?_ | with_reducible refine g_wVA ?_)
section
variable {P : Program} {w : World} {K : PySem.W.Frag} {mg : Str → Option Value} {base : Heap}
theorem ok_is_whole (T : Tx K mg) : FnOk P w K mg base CX0 1 T.a_is_whole T.d_is_whole ["thing"] (sp_is_whole K) := by
  refine T.F_is_whole.ok sc_is_whole (fun vs H Q E h => ?_) (fun cdv A outer s H vs Q E hr h => ?_)
  · obtain ⟨x, rfl, _⟩ := h
    rfl
  obtain ⟨x, rfl, ⟨ty, ht⟩, q⟩ := h
  refine ⟨_, (pss_one (ps_ret (pe_cmpR my_isTy (pe_callTy call_type1 (by rfl) T.z_type (by decide +kernel) (pa_cons (pv 0) pa_nil)) (pe_bltn (v := .ty "int") (by rfl) T.z_int (by decide +kernel) rfl) (nomark _)))), ?_⟩
  wtm_at "go"
  rw [tyb_int ht]
  exact q
theorem ok_is_key (T : Tx K mg) : FnOk P w K mg base CX0 2 T.a_is_key T.d_is_key ["thing"] (sp_is_key K) := by
  refine T.F_is_key.ok sc_is_key (fun vs H Q E h => ?_) (fun cdv A outer s H vs Q E hr h => ?_)
  · obtain ⟨x, rfl, _⟩ := h
    rfl
  obtain ⟨x, rfl, ht, q⟩ := h
  refine ⟨_, (pss_one (ps_ret (pe_and (pe_call (ok_is_whole T) hr (by rfl) T.g_is_whole T.F_is_whole.kp T.b_is_whole .nil pass0 (pa_cons (pv 0) pa_nil)) (pe_one (pe_chain op_lt op_lt (pe_un un_neg (pe_gI (by rfl) T.c_KEY_BOUND)) (pv 0) (pe_gI (by rfl) T.c_KEY_BOUND)))))), ?_⟩
  wtm_at "go"
  refine ⟨x, rfl, ht, ?_⟩
  refine g_andV (fun c => ?_) (fun c => ?_)
  · cases x with
    | int i =>
      wtm_at "go"
      have e : isKeyV (.int i) = (decide (-KB < i) && decide (i < KB)) := rfl
      rw [e] at q
      refine g_chK (fun c => ?_) (fun c => ?_)
      · wtm_at "go"
        rw [show decide (-KB < i) = true from c, Bool.true_and] at q
        exact q
      · rw [show decide (-KB < i) = false from c, Bool.false_and] at q
        exact q
    | _ => cases c
  · rw [isKeyV_no c] at q
    exact q
theorem ok_is_value (T : Tx K mg) : FnOk P w K mg base CX0 1 T.a_is_value T.d_is_value ["thing"] (sp_is_value K) := by
  refine T.F_is_value.ok sc_is_value (fun vs H Q E h => ?_) (fun cdv A outer s H vs Q E hr h => ?_)
  · obtain ⟨x, rfl, _⟩ := h
    rfl
  obtain ⟨x, rfl, ⟨ty, ht, hz⟩, q⟩ := h
  refine ⟨_, (pss_cons (ps_if (pw_or (pt_cmpR op_notTyB (pe_callTy call_type1 (by rfl) T.z_type (by decide +kernel) (pa_cons (pv 0) pa_nil)) (pe_bltn (v := .ty "str") (by rfl) T.z_str (by decide +kernel) rfl) (nomark _)) (pw_or1 (pt_cmpR op_gt (pe_callB my_lenS (by rfl) T.z_len PySem.boot_len (pa_cons (pv 0) pa_nil)) (pe_gI (by rfl) T.c_MOST_SIGNS) (nomark _)))).pt
      (pss_one (ps_ret pe_bl))
      pss_nil)
    (pss_one (ps_ret (pe_callB (cr_all rfl) (by rfl) T.z_all (by decide +kernel) (pa_cons (pe_lc (own := [("sign", 1)]) (g := gName 1) (tt := tYes) rfl sc_is_value.nd (pi_str (pv 0)) (blkOk_by (own := [("sign", 1)]) (N := N_is_value) (sc := defScope s_is_value) (by decide +kernel)) (fun _ _ _ _ _ => (pg_name (i := 1) sc_is_value.nd rfl (Or.inl rfl))) (fun _ _ _ _ _ => pts_nil) (fun _ _ _ _ _ => (pe_chain my_leS my_leS pe_str (pv 1) pe_str))) pa_nil))))), ?_⟩
  wtm_at "go"
  rw [tyb_str ht]
  cases hx : isStr x with
  | false =>
    refine g_orK (fun _ => ?_) (fun c => nomatch c)
    wtm_at "go"
    rw [isValV_no hx] at q
    exact q H (L2.Same.refl H)
  | true =>
    refine g_orK (fun c => nomatch c) (fun _ => ?_)
    cases x with
    | str z =>
      have hl := hz z rfl
      have e : isValV (.str z) = (decide (z.length ≤ 60) && z.cps.toList.all signOk) := rfl
      rw [e] at q
      wtm_at "go"
      refine g_lenS hl ?_
      wtm_at "go"
      refine g_br (fun c => ?_) (fun c => ?_)
      · have c' : (60 : Int) < (z.length : Int) := of_decide_eq_true c
        rw [decide_eq_false (show ¬ z.length ≤ 60 by omega), Bool.false_and] at q
        wtm_at "go"
        exact q H (L2.Same.refl H)
      · have c' : ¬ (60 : Int) < (z.length : Int) := of_decide_eq_false c
        rw [decide_eq_true (show z.length ≤ 60 by omega), Bool.true_and] at q
        wtm_at "go"
        refine g_lcS (z := z) (fun c => .bl (signOk c)) (fun R r => by wtm_at "go"; exact r) (by have : z.cps.size = z.length := rfl; omega) (fun x => rfl) (fun c H1 QE hc s1 k => ?_) (fun p H1 n1 s1 e1 => ?_)
        · have es : signOk c = (decide (32 ≤ c) && decide (c ≤ 126)) := rfl
          rw [es] at k
          wtm_at "go"
          rw [sign_lo]
          refine g_chK (fun c1 => ?_) (fun c1 => ?_)
          · wtm_at "go"
            rw [sign_hi]
            rw [c1, Bool.true_and] at k
            exact k
          · rw [c1, Bool.false_and] at k
            exact k
        · wtm_at "go"
          refine g_all (bs := z.cps.toList.map signOk) (SqL.of (by rw [e1, List.map_map]; rfl)) ?_
          rw [List.all_map]
          exact q H1 s1
    | _ => cases hx
theorem ok_is_number (T : Tx K mg) : FnOk P w K mg base CX0 2 T.a_is_number T.d_is_number ["thing"] (sp_is_number K) := by
  refine T.F_is_number.ok sc_is_number (fun vs H Q E h => ?_) (fun cdv A outer s H vs Q E hr h => ?_)
  · obtain ⟨x, d, rfl, _⟩ := h
    rfl
  obtain ⟨x, d, rfl, ht, q⟩ := h
  refine ⟨_, (pss_one (ps_ret (pe_and (pe_call (ok_is_whole T) hr (by rfl) T.g_is_whole T.F_is_whole.kp T.b_is_whole .nil pass0 (pa_cons (pv 0) pa_nil)) (pe_one (pe_cmpR op_ge (pv 0) pe_int (nomark _)))))), ?_⟩
  wtm_at "go"
  refine ⟨x, rfl, ⟨_, dp_tyb ht⟩, ?_⟩
  rw [dp_int ht]
  refine g_andV (fun c => ?_) (fun c => ?_)
  · obtain ⟨i, rfl⟩ := tyD_int (of_decide_eq_true c)
    cases dp_i ht
    wtm_at "go"
    exact q
  · have e : isNumD d = false := by
      cases d <;> first | rfl | exact absurd rfl (of_decide_eq_false c)
    rw [e] at q
    exact q
theorem ok_is_two (T : Tx K mg) : FnOk P w K mg base CX0 1 T.a_is_two T.d_is_two ["thing"] (sp_is_two K) := by
  refine T.F_is_two.ok sc_is_two (fun vs H Q E h => ?_) (fun cdv A outer s H vs Q E hr h => ?_)
  · obtain ⟨x, d, rfl, _⟩ := h
    rfl
  obtain ⟨x, d, rfl, ht, q⟩ := h
  refine ⟨_, (pss_one (ps_ret (pe_and (pe_cmpR my_isTy (pe_callTy call_type1 (by rfl) T.z_type (by decide +kernel) (pa_cons (pv 0) pa_nil)) (pe_bltn (v := .ty "tuple") (by rfl) T.z_tuple (by decide +kernel) rfl) (nomark _)) (pe_one (pe_cmpR op_eq (pe_callB my_len (by rfl) T.z_len PySem.boot_len (pa_cons (pv 0) pa_nil)) pe_int (nomark _)))))), ?_⟩
  have hty := dp_tyb ht
  wtm_at "go"
  refine g_andV (fun c => ?_) (fun c => ?_)
  · obtain ⟨ds, rfl⟩ := tyD_tuple (of_decide_eq_true c)
    obtain ⟨a, xs, rfl, hs, hd⟩ := dp_tuple ht
    wtm_at "go"
    have e : isTwoD (.tuple ds) = decide (V.int (xs.length : Int) = V.int 2) := by
      show decide (ds.length = 2) = _
      rw [dpAll_len hd]
      by_cases h2 : ds.length = 2
      · rw [h2]; rfl
      · rw [decide_eq_false h2, decide_eq_false]
        intro z
        have := V.int.inj z
        omega
    rw [e] at q
    exact q
  · have e : isTwoD d = false := by
      cases d <;> first | rfl | exact absurd rfl (of_decide_eq_false c)
    rw [e] at q
    exact q
theorem ok_is_pair (T : Tx K mg) : FnOk P w K mg base CX0 3 T.a_is_pair T.d_is_pair ["thing", "word"] (sp_is_pair K) := by
  refine T.F_is_pair.ok sc_is_pair (fun vs H Q E h => ?_) (fun cdv A outer s H vs Q E hr h => ?_)
  · obtain ⟨x, d, wd, rfl, _⟩ := h
    rfl
  obtain ⟨x, d, wd, rfl, ht, hf, q⟩ := h
  refine ⟨_, (pss_cons (ps_if (pt_not (pt_val (pe_call (ok_is_two T) (hr.mono (by decide)) (by rfl) T.g_is_two T.F_is_two.kp T.b_is_two .nil pass0 (pa_cons (pv 0) pa_nil))))
      (pss_one (ps_ret pe_bl))
      pss_nil)
    (pss_cons (ps_asg (pv 0) (pg_tup rfl (pgs_cons (pg_name (i := 2) sc_is_pair.nd rfl (Or.inl rfl)) (pgs_cons (pg_name (i := 3) sc_is_pair.nd rfl (Or.inl rfl)) pgs_nil))))
    (pss_cons (ps_if (pt_cmpR op_eq (pv 1) pe_str (nomark _))
      (pss_one (ps_ret (pe_and (pe_call (ok_is_key T) hr (by rfl) T.g_is_key T.F_is_key.kp T.b_is_key .nil pass0 (pa_cons (pv 2) pa_nil)) (pe_one (pe_call (ok_is_value T) (hr.mono (by decide)) (by rfl) T.g_is_value T.F_is_value.kp T.b_is_value .nil pass0 (pa_cons (pv 3) pa_nil))))))
      pss_nil)
    (pss_one (ps_ret (pe_and (pe_call (ok_is_key T) hr (by rfl) T.g_is_key T.F_is_key.kp T.b_is_key .nil pass0 (pa_cons (pv 2) pa_nil)) (pe_one (pe_call (ok_is_number T) hr (by rfl) T.g_is_number T.F_is_number.kp T.b_is_number .nil pass0 (pa_cons (pv 3) pa_nil))))))))), ?_⟩
  wtm_at "go"
  refine ⟨x, d, rfl, ht, ?_⟩
  cases h2 : isTwoD d with
  | false =>
    wtm_at "go"
    refine g_br (fun _ => ?_) (fun c => nomatch c)
    wtm_at "go"
    rw [isPairD_not2 h2] at q
    exact q H (L2.Same.refl H)
  | true =>
    wtm_at "go"
    refine g_br (fun c => nomatch c) (fun _ => ?_)
    obtain ⟨kd, hd, rfl⟩ := isTwoD_two h2
    obtain ⟨a, xs, rfl, hs, ha⟩ := dp_tuple ht
    obtain ⟨k, h, rfl, hk, hh⟩ := dpAll_two ha
    have ep : isPairD wd (.tuple [kd, hd]) = (isKeyD kd && heldD wd hd) := rfl
    rw [ep] at q
    wtm_at "go"
    have thk : Thing0 K H k := ⟨_, dp_tyb hk⟩
    have thh : Thing K H h := ⟨_, dp_tyb hh, fun z e => by
      subst e
      cases hh
      exact hf _ _ rfl⟩
    refine g_br (fun c => ?_) (fun c => ?_)
    · have ew : wd = leafW := by
        have := of_decide_eq_true c
        exact V.str.inj this
      wtm_at "go"
      refine ⟨k, rfl, thk, ?_⟩
      rw [dp_key hk]
      refine g_andV (fun c2 => ?_) (fun c2 => ?_)
      · wtm_at "go"
        refine ⟨h, rfl, thh, fun H1 s1 => ?_⟩
        rw [c2, Bool.true_and, show heldD wd hd = isValD hd from if_pos ew] at q
        rw [dp_val hh]
        exact q H1 s1
      · rw [c2, Bool.false_and] at q
        exact q H (L2.Same.refl H)
    · have ew : ¬ wd = leafW := fun e => of_decide_eq_false c (congrArg V.str e)
      wtm_at "go"
      refine ⟨k, rfl, thk, ?_⟩
      rw [dp_key hk]
      refine g_andV (fun c2 => ?_) (fun c2 => ?_)
      · wtm_at "go"
        refine ⟨h, hd, rfl, hh, ?_⟩
        rw [c2, Bool.true_and, show heldD wd hd = isNumD hd from if_neg ew] at q
        exact q H (L2.Same.refl H)
      · rw [c2, Bool.false_and] at q
        exact q H (L2.Same.refl H)
theorem ok_rises (T : Tx K mg) : FnOk P w K mg base CX0 1 T.a_rises T.d_rises ["pairs"] (sp_risesO K) := by
  refine T.F_rises.ok sc_rises (fun vs H Q E h => ?_) (fun cdv A outer s H vs Q E hr h => ?_)
  · obtain ⟨a, xs, ds, rfl, _⟩ := h
    rfl
  obtain ⟨a, xs, ds, rfl, hs, hd, hl, hk, q⟩ := h
  refine ⟨_, (pss_one (ps_ret (pe_callB (cr_all rfl) (by rfl) T.z_all (by decide +kernel) (pa_cons (pe_lc (own := [("at", 1)]) (g := gName 1) (tt := tYes) rfl sc_rises.nd (pi_range1 (by rfl) T.z_range (pa_cons (pe_op op_sub (pe_callB my_len (by rfl) T.z_len PySem.boot_len (pa_cons (pv 0) pa_nil)) pe_int) pa_nil)) (blkOk_by (own := [("at", 1)]) (N := N_rises) (sc := defScope s_rises) (by decide +kernel)) (fun _ _ _ _ _ => (pg_name (i := 1) sc_rises.nd rfl (Or.inl rfl))) (fun _ _ _ _ _ => pts_nil) (fun _ _ _ _ _ => (pe_cmpR op_lt (pe_ix (ixTK (K := K) rfl) (pe_ix (ixOK (K := K) rfl) (pv 0) (pv 1) (fun _ _ => rfl)) pe_int (fun _ _ => rfl)) (pe_ix (ixTK (K := K) rfl) (pe_ix (ixOK (K := K) rfl) (pv 0) (pe_op op_add (pv 1) pe_int) (fun _ _ => rfl)) pe_int (fun _ _ => rfl)) (nomark _)))) pa_nil)))), ?_⟩
  have lx := dpAll_len hd
  have get : ∀ i : Nat, i < xs.length → ∃ p r, xs[i]? = some (.ref p) ∧ SqT K H p (.int ((ds.map keyD).getD i 0) :: r) := fun i hi => by
    obtain ⟨d, e, hx⟩ := dpAll_get hd i xs[i] (List.getElem?_eq_getElem hi)
    obtain ⟨k, y, rfl⟩ := hk d (List.mem_of_getElem? e)
    obtain ⟨p, zs, ep, hp, hz⟩ := dp_tuple hx
    obtain ⟨k', y', rfl, hk', _⟩ := dpAll_two hz
    cases dp_i hk'
    refine ⟨p, [y'], by rw [List.getElem?_eq_getElem hi, ep], ?_⟩
    rw [List.getD_eq_getElem?_getD, List.getElem?_map, e]
    exact hp
  wtm_at "go"
  refine g_lcR1 (n := (xs.length : Int) - 1) (fun i y H => y = .bl (decide ((ds.map keyD).getD i 0 < (ds.map keyD).getD (i + 1) 0))) (fun R r => by wtm_at "go"; exact r) (by omega) (fun x => rfl)
    (fun i y H1 H2 st e => e) (fun i H1 QE hi s1 k => ?_) (fun p ys H1 n1 s1 e1 hyl hys => ?_)
  · obtain ⟨p1, r1, x1, h1⟩ := get i (by omega)
    obtain ⟨p2, r2, x2, h2⟩ := get (i + 1) (by omega)
    wtm_at "go"
    refine g_ixO (Same.seqO s1 hs) (atI_nat x1) ?_
    wtm_at "go"
    refine g_ixT (Same.seqT s1 h1) (atI_nat (j := 0) rfl) ?_
    wtm_at "go"
    refine g_ixO (Same.seqO s1 hs) (atI_nat (j := i + 1) x2) ?_
    wtm_at "go"
    refine g_ixT (Same.seqT s1 h2) (atI_nat (j := 0) rfl) ?_
    wtm_at "go"
    exact k _ H1 (L2.Same.refl _) rfl
  · wtm_at "go"
    have ey : ys = ((List.range (ds.length - 1)).map fun i => decide ((ds.map keyD).getD i 0 < (ds.map keyD).getD (i + 1) 0)).map V.bl := by
      refine list_eq (by rw [hyl, List.length_map, List.length_map, List.length_range]; omega) fun i y hy => ?_
      have hi := (List.getElem?_eq_some_iff.mp hy).1
      rw [hys i y hy, List.map_map, List.getElem?_map, List.getElem?_range (by omega)]
      rfl
    subst ey
    refine g_all (SqL.of e1) ?_
    rw [List.all_map]
    have e2 : risesI (ds.map keyD) = (List.range (ds.length - 1)).all (id ∘ fun i => decide ((ds.map keyD).getD i 0 < (ds.map keyD).getD (i + 1) 0)) := by
      unfold risesI
      rw [List.length_map]
      rfl
    rw [← e2]
    exact q H1 s1
theorem ok_is_block (T : Tx K mg) : FnOk P w K mg base CX0 4 T.a_is_block T.d_is_block ["thing", "least", "most"] (sp_is_block K) := by
  refine T.F_is_block.ok sc_is_block (fun vs H Q E h => ?_) (fun cdv A outer s H vs Q E hr h => ?_)
  · obtain ⟨x, d, l, m, rfl, _⟩ := h
    rfl
  obtain ⟨x, d, l, m, rfl, ht, hf, q⟩ := h
  refine ⟨_, (pss_cons (ps_if (pt_not (pt_val (pe_call (ok_is_two T) (hr.mono (by decide)) (by rfl) T.g_is_two T.F_is_two.kp T.b_is_two .nil pass0 (pa_cons (pv 0) pa_nil))))
      (pss_one (ps_ret pe_bl))
      pss_nil)
    (pss_cons (ps_asg (pv 0) (pg_tup rfl (pgs_cons (pg_name (i := 3) sc_is_block.nd rfl (Or.inr rfl)) (pgs_cons (pg_name (i := 4) sc_is_block.nd rfl (Or.inl rfl)) pgs_nil))))
    (pss_cons (ps_if (pw_or (pt_cmpR op_notTyB (pe_callTy call_type1 (by rfl) T.z_type (by decide +kernel) (pa_cons (pv 3) pa_nil)) (pe_bltn (v := .ty "str") (by rfl) T.z_str (by decide +kernel) rfl) (nomark _)) (pw_or1 (pt_cmpR op_notIn_seq (pv 3) (pe_tup (pa_cons pe_str (pa_cons pe_str pa_nil))) (by with_unfolding_all rfl)))).pt
      (pss_one (ps_ret pe_bl))
      pss_nil)
    (pss_cons (ps_if (pw_or (pt_cmpR op_notTyB (pe_callTy call_type1 (by rfl) T.z_type (by decide +kernel) (pa_cons (pv 4) pa_nil)) (pe_bltn (v := .ty "tuple") (by rfl) T.z_tuple (by decide +kernel) rfl) (nomark _)) (pw_or1 (pt_not (pt_chain op_le op_le (pv 1) (pe_callB my_len (by rfl) T.z_len PySem.boot_len (pa_cons (pv 4) pa_nil)) (pv 2))))).pt
      (pss_one (ps_ret pe_bl))
      pss_nil)
    (pss_one (ps_ret (pe_and (pe_callB (cr_all rfl) (by rfl) T.z_all (by decide +kernel) (pa_cons (pe_lc (own := [("pair", 5)]) (g := gName 5) (tt := tYes) rfl sc_is_block.nd (pi_tup (pv 4)) (blkOk_by (own := [("pair", 5)]) (N := N_is_block) (sc := defScope s_is_block) (by decide +kernel)) (fun _ _ _ _ _ => (pg_name (i := 5) sc_is_block.nd rfl (Or.inl rfl))) (fun _ _ _ _ _ => pts_nil) (fun _ _ _ _ _ => (pe_call (ok_is_pair T) hr (by rfl) T.g_is_pair T.F_is_pair.kp T.b_is_pair .nil pass0 (pa_cons (pv 5) (pa_cons (pv 3) pa_nil))))) pa_nil)) (pe_one (pe_call (ok_rises T) (hr.mono (by decide)) (by rfl) T.g_rises T.F_rises.kp T.b_rises .nil pass0 (pa_cons (pv 4) pa_nil)))))))))), ?_⟩
  wtm_at "go"
  refine ⟨x, d, rfl, ht, ?_⟩
  cases h2 : isTwoD d with
  | false =>
    wtm_at "go"
    refine g_br (fun _ => ?_) (fun c => nomatch c)
    wtm_at "go"
    rw [isBlockD_not2 h2] at q
    exact q H (L2.Same.refl H)
  | true =>
    wtm_at "go"
    refine g_br (fun c => nomatch c) (fun _ => ?_)
    obtain ⟨wd, pd, rfl⟩ := isTwoD_two h2
    obtain ⟨a, xs, rfl, hs, ha⟩ := dp_tuple ht
    obtain ⟨wv, pv', rfl, hw, hp⟩ := dpAll_two ha
    have tw := dp_tyb hw
    have tp := dp_tyb hp
    wtm_at "go"
    cases cw : decide (tyD wd = "str") with
    | false =>
      refine g_orK (fun _ => ?_) (fun c => nomatch c)
      wtm_at "go"
      rw [isBlockD_word (of_decide_eq_false cw)] at q
      exact q H (L2.Same.refl H)
    | true =>
      refine g_orK (fun c => nomatch c) (fun _ => ?_)
      obtain ⟨ws, rfl⟩ := tyD_str (of_decide_eq_true cw)
      cases dp_str hw
      wtm_at "go"
      refine g_tupK (by wtm_at "ln") fun p1 H1 n1 s1 e1 => ?_
      refine g_in (.inr (SqT.of e1)) rfl rfl ?_
      have ew : (if true = true then !inV (.str ws) [V.str (Str.ofString "leaf"), V.str (Str.ofString "branch")] else inV (.str ws) [V.str (Str.ofString "leaf"), V.str (Str.ofString "branch")]) = !(decide (ws = leafW) || decide (ws = branchW)) := by
        rw [if_pos rfl]
        unfold inV
        rw [List.any_cons, List.any_cons, List.any_nil, Bool.or_false]
        show (!(decide (leafW = ws) || decide (branchW = ws))) = _
        rw [show decide (leafW = ws) = decide (ws = leafW) from decide_eq_decide.mpr eq_comm, show decide (branchW = ws) = decide (ws = branchW) from decide_eq_decide.mpr eq_comm]
      rw [ew]
      wtm_at "go"
      cases cb : (decide (ws = leafW) || decide (ws = branchW)) with
      | false =>
        refine g_br (fun _ => ?_) (fun c => nomatch c)
        wtm_at "go"
        have e : isBlockD l m (.tuple [.str ws, pd]) = false := by
          cases pd <;> first | rfl | (show ((decide (ws = leafW) || decide (ws = branchW)) && _ && _) = false; rw [cb]; rfl)
        rw [e] at q
        exact q H1 s1
      | true =>
        refine g_br (fun c => nomatch c) (fun _ => ?_)
        have tp1 := dp_tyb (Dp.go s1 hp)
        wtm_at "go"
        cases cp : decide (tyD pd = "tuple") with
        | false =>
          refine g_orK (fun _ => ?_) (fun c => nomatch c)
          wtm_at "go"
          rw [isBlockD_pairs (of_decide_eq_false cp)] at q
          exact q H1 s1
        | true =>
          refine g_orK (fun c => nomatch c) (fun _ => ?_)
          obtain ⟨ps, rfl⟩ := tyD_tuple (of_decide_eq_true cp)
          obtain ⟨b, ys, rfl, hb, hd⟩ := dp_tuple (Dp.go s1 hp)
          obtain ⟨hlen, hfit⟩ := hf _ _ rfl
          have ly := dpAll_len hd
          have ebl : isBlockD l m (.tuple [.str ws, .tuple ps]) = ((decide (l ≤ (ps.length : Int)) && decide ((ps.length : Int) ≤ m)) && (ps.all (isPairD ws) && risesI (ps.map keyD))) := by
            show ((decide (ws = leafW) || decide (ws = branchW)) && _ && _) = _
            rw [cb, Bool.true_and]
          rw [ebl, ← ly] at q
          wtm_at "go"
          have fin : ∀ H2, Same H1 H2 → (decide (l ≤ (ys.length : Int)) && decide ((ys.length : Int) ≤ m)) = false → Q (.bl false) H2 := fun H2 s2 c => by
            rw [c, Bool.false_and] at q
            exact q H2 (s1.trans s2)
          refine g_chK (fun c1 => ?_) (fun c1 => ?_)
          · wtm_at "go"
            refine g_br (fun c2 => ?_) (fun c2 => ?_)
            · wtm_at "go"
              refine fin H1 (L2.Same.refl H1) ?_
              rw [c1, Bool.true_and]
              simpa using c2
            · have c3 : decide ((ys.length : Int) ≤ m) = true := by simpa using c2
              rw [c1, c3, Bool.true_and, Bool.true_and] at q
              wtm_at "go"
              refine g_lcT (xs := ys) (fun i y H => ∃ d, ps[i]? = some d ∧ y = .bl (isPairD ws d)) (fun R r => by wtm_at "go"; exact r) hb (by omega) (fun x => rfl)
                (fun i y H1 H2 st e => e) (fun i x H2 QE hx s2 k => ?_) (fun p2 zs H2 n2 s2 e2 hzl hzs => ?_)
              · obtain ⟨d, hd1, hd2⟩ := dpAll_get hd i x hx
                wtm_at "go"
                refine ⟨x, d, ws, rfl, Dp.go s2 hd2, hfit d (List.mem_of_getElem? hd1), fun H3 s3 => ?_⟩
                exact k _ H3 s3 ⟨d, hd1, rfl⟩
              · have ez : zs = (ps.map (isPairD ws)).map V.bl := bools_of (by rw [hzl, ly]) hzs
                subst ez
                wtm_at "go"
                refine g_all (SqL.of e2) ?_
                have ea : (ps.map (isPairD ws)).all id = ps.all (isPairD ws) := by rw [List.all_map]; rfl
                rw [ea]
                refine g_andV (fun c4 => ?_) (fun c4 => ?_)
                · wtm_at "go"
                  refine ⟨b, ys, ps, rfl, .inr (Same.seqT s2 hb), DpAll.go s2 hd, by omega, fun d hd5 => isPairD_key (List.all_eq_true.mp c4 d hd5), fun H3 s3 => ?_⟩
                  rw [c4, Bool.true_and] at q
                  exact q H3 (s1.trans (s2.trans s3))
                · rw [c4, Bool.false_and] at q
                  exact q H2 (s1.trans s2)
          · wtm_at "go"
            refine g_br (fun c2 => ?_) (fun c2 => nomatch c2)
            wtm_at "go"
            refine fin H1 (L2.Same.refl H1) ?_
            rw [c1, Bool.false_and]
local macro_rules | `(tactic| wtm_at "wk") => `(tactic| first
  | with_reducible refine g_for ?_
  | with_reducible refine g_lcO ?_
  | with_reducible refine g_wL ?_
  | with_reducible refine g_wT ?_
  | with_reducible refine g_wR1 ?_
  | with_reducible refine g_wR2 ?_
  | with_reducible refine g_wE ?_
  | with_reducible refine g_lc2O ?_)

theorem ok_row_of (T : Tx K mg) : FnOk P w K mg base CX0 1 T.a_row_of T.d_row_of ["level"] (sp_row_of K) := by
  refine T.F_row_of.ok sc_row_of (fun vs H Q E h => ?_) (fun cdv A outer s H vs Q E hr h => ?_)
  · obtain ⟨l, xs, L, rfl, _⟩ := h
    rfl
  obtain ⟨l, xs, L, rfl, hl, hd, hlen, q⟩ := h
  refine ⟨_, (pss_one (ps_ret (pe_lc2 (own := [("word", 1), ("pairs", 2), ("pair", 3)]) (vs1 := [3]) (g := gTup K 2 (gCons (gName 1) (gCons (gName 2) gNil))) (tt := tYes) (wi1 := iTup K (tVar 2)) (g1 := gName 3) (tt1 := tYes) rfl sc_row_of.nd (pi_list (pv 0)) (blkOk_by (own := [("word", 1), ("pairs", 2), ("pair", 3)]) (N := N_row_of) (sc := defScope s_row_of) (by decide +kernel)) (by decide) (fun _ _ _ _ _ => (pg_tup rfl (pgs_cons (pg_name (i := 1) sc_row_of.nd rfl (Or.inl rfl)) (pgs_cons (pg_name (i := 2) sc_row_of.nd rfl (Or.inl rfl)) pgs_nil)))) (fun _ _ _ _ _ => pts_nil) (fun _ _ _ _ _ => (pi_tup (pv 2))) (fun _ _ _ _ _ => (pg_name (i := 3) sc_row_of.nd rfl (Or.inl rfl))) (fun _ _ _ _ _ => pts_nil) (fun _ _ _ _ _ => (pv 3))))), ?_⟩
  have lx := dpAll_len hd
  unfold lsD at lx
  rw [List.length_map] at lx
  refine g_ret ?_
  wtm_at "red"
  refine g_lc2O (g_wL (g_var rfl (g_wLk hl ?_)))
  refine g_lc2W (walk_list (xs := xs)) (fun D i H' => Same H H' ∧ ∃ ys, H' D = some (.lst ys) ∧ DpAll K H ys (rowD (rowT (L.take i)))) (fun D hD => ⟨Same.new hD _, [], upd_same, .nil⟩) (fun D i H' _ h => L2.Same.seq h.1 hl) (fun D i x H1 H2 hD hi hp hy => ?_) (fun D H' hD hp => ?_)
  · obtain ⟨s1, ys, e1, d1⟩ := hp
    obtain ⟨rfl, hx⟩ := hy
    obtain ⟨b, hb, hbx⟩ := dpAll_at' (f := TB.D) hd hx
    have et : L.take (i + 1) = L.take i ++ [b] := by rw [List.take_add_one, hb]; rfl
    have er : rowT (L.take (i + 1)) = rowT (L.take i) ++ b.ps := by rw [et]; unfold rowT; rw [List.flatMap_append]; simp
    have hle : (rowT (L.take (i + 1))).length ≤ (rowT L).length := by
      have e : rowT L = rowT (L.take (i + 1)) ++ rowT (L.drop (i + 1)) := by
        unfold rowT
        rw [← List.flatMap_append, List.take_append_drop]
      rw [e, List.length_append]
      omega
    rw [er, List.length_append] at hle
    obtain ⟨ta, tp, zs, rfl, h1, h2, h3⟩ := dp_blk hbx
    have lz := dpAll_len h3
    unfold rowD at lz
    rw [List.length_map] at lz
    refine g_gtup (Same.seqT s1 h1) rfl ?_
    refine g_gcons (g_name (g_gcons (g_name (g_gnil ⟨rfl, ?_⟩))))
    refine g_wT (g_var rfl (g_wTk (Same.seqT s1 h2) ?_))
    refine g_inW (walk_tup (xs := zs)) (fun j H' => Same H H' ∧ ∃ ys, H' D = some (.lst ys) ∧ DpAll K H ys (rowD (rowT (L.take i) ++ b.ps.take j))) ⟨s1, ys, e1, by rw [List.take_zero, List.append_nil]; exact d1⟩ (fun j H' _ h => Same.seqT h.1 h2) (fun j y H3 H4 hj hp hy => ?_) (fun H' hp => ?_)
    · obtain ⟨s3, ys3, e3, d3⟩ := hp
      obtain ⟨rfl, hy⟩ := hy
      obtain ⟨p, hp, hpy⟩ := dpAll_at' (f := pairD) h3 hy
      have et2 : b.ps.take (j + 1) = b.ps.take j ++ [p] := by rw [List.take_add_one, hp]; rfl
      have ly := dpAll_len d3
      unfold rowD at ly
      rw [List.length_map, List.length_append, List.length_take] at ly
      refine g_name ⟨rfl, ?_⟩
      refine g_var rfl ⟨ys3, e3, Evl.sz_lt (by omega), fun o ob h => ?_, ys3 ++ [y], upd_same, ?_⟩
      · rw [upd_ne (ne_of_none h hD)]
        exact s3 _ _ h
      · rw [et2, ← List.append_assoc]
        show DpAll K H _ (List.map pairD _)
        rw [List.map_append]
        exact dpAll_app d3 (.cons hpy .nil)
    · obtain ⟨s3, ys3, e3, d3⟩ := hp
      rw [lz, List.take_length, ← er] at d3
      exact ⟨s3, ys3, e3, d3⟩
  · obtain ⟨s1, ys, e1, d1⟩ := hp
    rw [lx, List.take_length] at d1
    exact q D ys H' hD s1 e1 (DpAll.go s1 d1)
theorem ok_named (T : Tx K mg) : FnOk P w K mg base CX0 1 T.a_named T.d_named ["blocks", "pairs"] (sp_named K) := by
  refine T.F_named.ok sc_named (fun vs H Q E h => ?_) (fun cdv A outer s H vs Q E hr h => ?_)
  · obtain ⟨b, p, m, xs, P, rfl, _⟩ := h
    rfl
  obtain ⟨b, p, m, xs, P, rfl, hb, hx, hd, hP, hlen, q⟩ := h
  refine ⟨_, (pss_one (ps_ret (pe_lc (own := [("key", 2), ("number", 3)]) (g := gTup K 2 (gCons (gName 2) (gCons (gName 3) gNil))) (tt := tYes) rfl sc_named.nd (pi_seq (pv 1)) (blkOk_by (own := [("key", 2), ("number", 3)]) (N := N_named) (sc := defScope s_named) (by decide +kernel)) (fun _ _ _ _ _ => (pg_tup rfl (pgs_cons (pg_name (i := 2) sc_named.nd rfl (Or.inl rfl)) (pgs_cons (pg_name (i := 3) sc_named.nd rfl (Or.inl rfl)) pgs_nil)))) (fun _ _ _ _ _ => pts_nil) (fun _ _ _ _ _ => (pe_dget (hu_of hr) (pv 0) (pv 3) (fun _ _ => rfl)))))), ?_⟩
  have lx := dpAll_len hd
  unfold rowD at lx
  rw [List.length_map] at lx
  refine g_ret ?_
  wtm_at "red"
  refine g_lcO (g_seqW hx (fun S h => g_var rfl h) fun {J G} W hG => ?_)
  intro D hD
  refine lc_it W (fun i H' => Same H H' ∧ ∃ ys, H' D = some (.lst ys) ∧ DpAll K H ys ((P.take i).map fun q => blockAt m (numD q.2))) ⟨Same.new hD _, [], upd_same, .nil⟩ (fun i H' _ h => hG H' h.1) (fun i x H1 H2 hi hp hy => ?_) (fun H' hp => ?_)
  · obtain ⟨s1, ys, e1, d1⟩ := hp
    obtain ⟨rfl, hx'⟩ := hy
    obtain ⟨pr, hpr, hpx⟩ := dpAll_at' (f := pairD) hd hx'
    have et : P.take (i + 1) = P.take i ++ [pr] := by rw [List.take_add_one, hpr]; rfl
    obtain ⟨n, en, hn⟩ := hP pr (List.mem_of_getElem? hpr)
    obtain ⟨ta, y, rfl, ht, hy⟩ := dp_pair hpx
    rw [en] at hy
    cases dp_i hy
    have ly := dpAll_len d1
    rw [List.length_map, List.length_take] at ly
    have eb : getA m n = some (blockAt m n) := by
      unfold blockAt
      cases e : getA m n with
      | some d => rfl
      | none => rw [e] at hn; cases hn
    refine g_gtup (Same.seqT s1 ht) rfl ?_
    refine g_gcons (g_name (g_gcons (g_name (g_gnil ⟨rfl, ?_⟩))))
    refine g_dget (g_var rfl (g_var rfl ?_))
    obtain ⟨kvs, hk1, hk2⟩ := id hb
    rcases hk2.val n with ⟨e2, _⟩ | ⟨v, d', e2, e3, hv⟩
    · rw [eb] at e2
      cases e2
    · rw [eb] at e2
      cases Option.some.inj e2
      refine ⟨b, v, rfl, by rw [← e3]; exact DdAll.dget (s1 _ _ hk1) n, ys, e1, Evl.sz_lt (by omega), fun o ob h => ?_, ys ++ [v], upd_same, ?_⟩
      · rw [upd_ne (ne_of_none h hD)]
        exact s1 _ _ h
      · rw [et, List.map_append]
        refine dpAll_app d1 (.cons ?_ .nil)
        show Dp K H v (blockAt m (numD pr.2))
        rw [en]
        exact hv
  · obtain ⟨s1, ys, e1, d1⟩ := hp
    rw [lx, List.take_length] at d1
    exact q D ys H' hD s1 e1 (DpAll.go s1 d1)
theorem ok_all_are (T : Tx K mg) : FnOk P w K mg base CX0 1 T.a_all_are T.d_all_are ["word", "level"] (sp_all_are K) := by
  refine T.F_all_are.ok sc_all_are (fun vs H Q E h => ?_) (fun cdv A outer s H vs Q E hr h => ?_)
  · obtain ⟨wd, l, xs, L, rfl, _⟩ := h
    rfl
  obtain ⟨wd, l, xs, L, rfl, hl, hd, hlen, q⟩ := h
  refine ⟨_, (pss_one (ps_ret (pe_callB (cr_all rfl) (by rfl) T.z_all (by decide +kernel) (pa_cons (pe_lc (own := [("block", 2)]) (g := gName 2) (tt := tYes) rfl sc_all_are.nd (pi_list (pv 1)) (blkOk_by (own := [("block", 2)]) (N := N_all_are) (sc := defScope s_all_are) (by decide +kernel)) (fun _ _ _ _ _ => (pg_name (i := 2) sc_all_are.nd rfl (Or.inl rfl))) (fun _ _ _ _ _ => pts_nil) (fun _ _ _ _ _ => (pe_cmpR op_eq (pe_ix (ixTK (K := K) rfl) (pv 2) pe_int (fun _ _ => rfl)) (pv 0) (nomark _)))) pa_nil)))), ?_⟩
  have lx := dpAll_len hd
  unfold lsD at lx
  rw [List.length_map] at lx
  wtm_at "go"
  refine g_lcLk (fun i y H => ∃ b, L[i]? = some b ∧ y = .bl (decide (wordT b.lf = wd))) hl (by omega) (fun x => rfl) (fun i y H1 H2 st e => e) (fun i x H1 QE hx s1 k => ?_) (fun p ys H1 n1 s1 e1 hyl hys => ?_)
  · obtain ⟨b, hb, hbx⟩ := dpAll_at' (f := TB.D) hd hx
    obtain ⟨ta, tp, zs, rfl, h1, h2, h3⟩ := dp_blk hbx
    wtm_at "go"
    refine g_ixT (Same.seqT s1 h1) (atI_nat (j := 0) rfl) ?_
    wtm_at "go"
    refine k _ H1 (L2.Same.refl _) ⟨b, hb, ?_⟩
    congr 1
    exact decide_eq_decide.mpr ⟨V.str.inj, congrArg V.str⟩
  · have ey : ys = (L.map fun b => decide (wordT b.lf = wd)).map V.bl := by
      refine list_eq (by rw [hyl, List.length_map, List.length_map, lx]) fun i y hy => ?_
      obtain ⟨b, hb, rfl⟩ := hys i y hy
      rw [List.getElem?_map, List.getElem?_map, hb]
      rfl
    subst ey
    wtm_at "go"
    refine g_all (SqL.of e1) ?_
    rw [List.all_map]
    exact q H1 s1
theorem ok_half (T : Tx K mg) : FnOk P w K mg base CX0 1 T.a_half T.d_half ["width"] sp_half := by
  refine T.F_half.ok sc_half (fun vs H Q E h => ?_) (fun cdv A outer s H vs Q E hr h => ?_)
  · obtain ⟨w, rfl, _⟩ := h
    rfl
  obtain ⟨w, rfl, q⟩ := h
  refine ⟨_, (pss_one (ps_ret (pe_op op_fdiv (pe_op op_add (pv 0) pe_int) pe_int))), ?_⟩
  wtm_at "go"
  exact q
theorem ok_place (T : Tx K mg) : FnOk P w K mg base CX0 1 T.a_place T.d_place ["pairs", "key"] (sp_place K) := by
  refine T.F_place.ok sc_place (fun vs H Q E h => ?_) (fun cdv A outer s H vs Q E hr h => ?_)
  · obtain ⟨a, xs, R, key, rfl, _⟩ := h
    rfl
  obtain ⟨a, xs, R, key, rfl, hS, hx, hp, hz, q⟩ := h
  refine ⟨_, (pss_cons (ps_for PassesOwn.never rfl (pi_revR (by rfl) T.z_reversed (prg_1 (by rfl) T.z_range (pe_callB my_len (by rfl) T.z_len PySem.boot_len (pa_cons (pv 0) pa_nil)))) (pg_name (i := 2) sc_place.nd rfl (Or.inl rfl))
      (pss_one (ps_if (pt_cmpR op_le (pe_ix ix_tup (pe_ix ix_seq (pv 0) (pv 2) (fun _ _ => rfl)) pe_int (fun _ _ => rfl)) (pv 1) (nomark _))
        (pss_one (ps_ret (pv 2)))
        pss_nil)))
    (pss_one (ps_ret pe_int))), ?_⟩
  have lx := dpAll_len hx
  unfold rowD at lx
  rw [List.length_map] at lx
  have lk : (keysT R).length = xs.length := by unfold keysT; rw [List.length_map, lx]
  rw [placeN_eq hp, lk] at q
  wtm_at "go"
  refine g_forRev (n := (xs.length : Int)) (fun i σ' H' => ∃ v, σ' = [some (.ref a), some (.int key), v] ∧ H' = H ∧ placeQ (keysT R) key xs.length = placeQ (keysT R) key (xs.length - i)) (fun R r => by wtm_at "go"; exact r) (by omega)
    ⟨_, rfl, rfl, rfl⟩ (fun i σ' H' hi ⟨v, e1, e2, e3⟩ => ?_) (fun σ' H' ⟨v, e1, e2, e3⟩ => ?_)
  · subst e1 e2
    have ej : (xs.length : Int) - 1 - (i : Int) = ((xs.length - 1 - i : Nat) : Int) := by omega
    have en : xs.length - i = (xs.length - 1 - i) + 1 := by omega
    rw [ej]
    obtain ⟨x, hxi⟩ : ∃ x, xs[xs.length - 1 - i]? = some x := ⟨_, List.getElem?_eq_getElem (by omega)⟩
    obtain ⟨pr, hpr, hpx⟩ := dpAll_at' (f := pairD) hx hxi
    obtain ⟨p, y, rfl, hp', hy⟩ := dp_pair hpx
    rw [en] at e3
    have ek : (keysT R).getD (xs.length - 1 - i) 0 = pr.1 := by
      unfold keysT
      rw [List.getD_eq_getElem?_getD, List.getElem?_map, hpr]
      rfl
    have e4 : placeQ (keysT R) key xs.length = if (keysT R).getD (xs.length - 1 - i) 0 ≤ key then (xs.length - 1 - i) else placeQ (keysT R) key (xs.length - 1 - i) := e3
    rw [ek] at e4
    wtm_at "go"
    refine g_ixO hS (atI_nat hxi) ?_
    wtm_at "go"
    refine g_ixT hp' (atI_nat (j := 0) rfl) ?_
    wtm_at "go"
    refine g_br (fun c => ?_) (fun c => ?_)
    · rw [if_pos (of_decide_eq_true c)] at e4
      rw [e4] at q
      wtm_at "go"
      exact q
    · rw [if_neg (of_decide_eq_false c)] at e4
      wtm_at "go"
      exact ⟨_, rfl, rfl, by rw [e4]; congr 1; omega⟩
  · subst e1 e2
    have e4 : placeQ (keysT R) key xs.length = 0 := by
      rw [e3, Int.toNat_natCast, Nat.sub_self]
      rfl
    rw [e4] at q
    wtm_at "go"
    exact q
theorem ok_parts (T : Tx K mg) : FnOk P w K mg base CX0 1 T.a_parts T.d_parts ["pairs", "width"] (sp_parts K) := by
  refine T.F_parts.ok sc_parts (fun vs H Q E h => ?_) (fun cdv A outer s H vs Q E hr h => ?_)
  · obtain ⟨a, xs, R, k, rfl, _⟩ := h
    rfl
  obtain ⟨a, xs, R, n, rfl, hS, hd, h3, hl', q⟩ := h
  refine ⟨_, (pss_cons (ps_if (pt_cmpR op_le (pe_callB my_len (by rfl) T.z_len PySem.boot_len (pa_cons (pv 0) pa_nil)) (pv 1) (nomark _))
      (pss_one (ps_ret (pe_lst (pa_cons (pe_callTy my_tupF (by rfl) T.z_tuple (by decide +kernel) (pa_cons (pv 0) pa_nil)) pa_nil))))
      pss_nil)
    (pss_cons (ps_set (i := 2) sc_parts.nd rfl (Or.inl rfl) (pe_op op_fdiv (pe_callB my_len (by rfl) T.z_len PySem.boot_len (pa_cons (pv 0) pa_nil)) pe_int))
    (pss_one (ps_ret (pe_lst (pa_cons (pe_callTy my_tupF (by rfl) T.z_tuple (by decide +kernel) (pa_cons (pe_slice my_slO (pv 0) po_none (po_some (pv 2))) pa_nil)) (pa_cons (pe_callTy my_tupF (by rfl) T.z_tuple (by decide +kernel) (pa_cons (pe_slice my_slO (pv 0) (po_some (pv 2)) po_none) pa_nil)) pa_nil))))))), ?_⟩
  have lx := dpAll_len hd
  unfold rowD at lx
  rw [List.length_map] at lx
  have hl : xs.length ≤ 1000 := by omega
  wtm_at "go"
  refine g_br (fun c => ?_) (fun c => ?_)
  · have c' : (xs.length : Int) ≤ n := of_decide_eq_true c
    wtm_at "go"
    refine g_tupF hS fun p H1 n1 s1 e1 => ?_
    wtm_at "go"
    refine g_lstK (by wtm_at "ln") fun l H2 n2 s2 e2 => ?_
    refine q l _ H2 (s1.trans s2) e2 ?_
    unfold partsL
    rw [if_pos (by omega)]
    exact .cons ⟨p, _, rfl, e1.fx (Fx.of s2), DpAll.go (s1.trans s2) hd⟩ .nil
  · have c' : ¬ (xs.length : Int) ≤ n := of_decide_eq_false c
    have eh : (xs.length : Int) / 2 = ((xs.length / 2 : Nat) : Int) := by omega
    wtm_at "go"
    rw [eh]
    have k2 : min (xs.length / 2) xs.length = xs.length / 2 := Nat.min_eq_left (by omega)
    refine Or.inl (g_slL hS fun p1 H1 n1 s1 e1 => ?_)
    wtm_at "go"
    refine g_tupF (SqL.of e1) fun q1 H2 n2 s2 e2 => ?_
    wtm_at "go"
    refine Or.inl (g_slL (L2.Same.seq (s1.trans s2) hS) fun p3 H3 n3 s3 e3 => ?_)
    wtm_at "go"
    refine g_tupF (SqL.of e3) fun q4 H4 n4 s4 e4 => ?_
    wtm_at "go"
    refine g_lstK (by wtm_at "ln") fun l H5 n5 s5 e5 => ?_
    have s05 := s1.trans (s2.trans (s3.trans (s4.trans s5)))
    refine q l _ H5 s05 e5 ?_
    unfold partsL
    rw [if_neg (by omega)]
    rw [cut_to] at e2
    rw [cut_from] at e4
    have hd5 := DpAll.go s05 hd
    rw [lx] at e2 e4
    have h1 : DpAll K H5 (xs.take (R.length / 2)) (rowD (R.take (R.length / 2))) := by
      unfold rowD
      rw [List.map_take]
      exact dpAll_take _ hd5
    have h2 : DpAll K H5 (xs.drop (R.length / 2)) (rowD (R.drop (R.length / 2))) := by
      unfold rowD
      rw [List.map_drop]
      exact dpAll_drop _ hd5
    exact .cons ⟨q1, _, rfl, e2.fx (Fx.of (s3.trans (s4.trans s5))), h1⟩ (.cons ⟨q4, _, rfl, e4.fx (Fx.of s5), h2⟩ .nil)
theorem ok_is_root (T : Tx K mg) : FnOk P w K mg base CX0 5 T.a_is_root T.d_is_root ["thing", "width"] (sp_is_root K) := by
  refine T.F_is_root.ok sc_is_root (fun vs H Q E h => ?_) (fun cdv A outer s H vs Q E hr h => ?_)
  · obtain ⟨x, d, w, rfl, _⟩ := h
    rfl
  obtain ⟨x, d, w, rfl, hx, hf, q⟩ := h
  refine ⟨_, (pss_cons (ps_if (pt_not (pt_val (pe_call (ok_is_block T) hr (by rfl) T.g_is_block T.F_is_block.kp T.b_is_block .nil pass0 (pa_cons (pv 0) (pa_cons pe_int (pa_cons (pv 1) pa_nil))))))
      (pss_one (ps_ret pe_bl))
      pss_nil)
    (pss_cons (ps_asg (pv 0) (pg_tup rfl (pgs_cons (pg_name (i := 2) sc_is_root.nd rfl (Or.inl rfl)) (pgs_cons (pg_name (i := 3) sc_is_root.nd rfl (Or.inl rfl)) pgs_nil))))
    (pss_one (ps_ret (pe_or (pe_cmpR op_eq (pv 2) pe_str (nomark _)) (pe_one (pe_cmpR op_ge (pe_callB my_len (by rfl) T.z_len PySem.boot_len (pa_cons (pv 3) pa_nil)) pe_int (nomark _)))))))), ?_⟩
  wtm_at "go"
  refine ⟨x, d, 0, w, rfl, hx, hf, fun H1 s1 => ?_⟩
  cases e : isBlockD 0 w d with
  | false =>
    wtm_at "go"
    refine g_br (fun _ => ?_) (fun c => nomatch c)
    wtm_at "go"
    have := q H1 s1
    unfold rootD at this
    rw [e, Bool.false_and] at this
    exact this
  | true =>
    have hform := isBlockD_form e
    wtm_at "go"
    refine g_br (fun c => nomatch c) (fun _ => ?_)
    rw [hform] at hx
    have hq := q H1 s1
    unfold rootD at hq
    rw [e, Bool.true_and] at hq
    generalize toTB d = b at hx hq
    obtain ⟨ta, tp, ys, rfl, h1, h2, h3⟩ := dp_blk (Dp.go s1 hx)
    have ly := dpAll_len h3
    unfold rowD at ly
    rw [List.length_map] at ly
    wtm_at "go"
    have ew : decide (V.str (wordT b.lf) = V.str (Str.ofString "leaf")) = b.lf := (decide_eq_decide.mpr ⟨V.str.inj, congrArg V.str⟩).trans word_lf
    rw [ew]
    refine g_orV (fun c => ?_) (fun c => ?_)
    · rw [c, Bool.true_or] at hq
      exact hq
    · rw [c, Bool.false_or, ← ly] at hq
      wtm_at "go"
      have e2 : decide ((ys.length : Int) ≥ 2) = decide (2 ≤ ys.length) := decide_eq_decide.mpr ⟨fun h => by omega, fun h => by omega⟩
      rw [e2]
      exact hq
theorem ok_fits (T : Tx K mg) : FnOk P w K mg base CX0 5 T.a_fits T.d_fits ["thing", "width", "key"] (sp_fits K) := by
  refine T.F_fits.ok sc_fits (fun vs H Q E h => ?_) (fun cdv A outer s H vs Q E hr h => ?_)
  · obtain ⟨x, d, w, key, rfl, _⟩ := h
    rfl
  obtain ⟨x, d, w, key, rfl, hx, hf, hw, q⟩ := h
  refine ⟨_, (pss_cons (ps_if (pt_not (pt_val (pe_call (ok_is_block T) hr (by rfl) T.g_is_block T.F_is_block.kp T.b_is_block .nil pass0 (pa_cons (pv 0) (pa_cons (pe_call (ok_half T) (hr.mono (by decide)) (by rfl) T.g_half T.F_half.kp T.b_half .nil pass0 (pa_cons (pv 1) pa_nil)) (pa_cons (pv 1) pa_nil))))))
      (pss_one (ps_ret pe_bl))
      pss_nil)
    (pss_cons (ps_asg (pv 0) (pg_tup rfl (pgs_cons (pg_name (i := 3) sc_fits.nd rfl (Or.inl rfl)) (pgs_cons (pg_name (i := 4) sc_fits.nd rfl (Or.inl rfl)) pgs_nil))))
    (pss_one (ps_ret (pe_cmpR op_eq (pe_ix ix_tup (pe_ix ix_tup (pv 4) pe_int (fun _ _ => rfl)) pe_int (fun _ _ => rfl)) (pv 2) (nomark _)))))), ?_⟩
  wtm_at "go"
  refine ⟨w, rfl, ?_⟩
  wtm_at "go"
  refine ⟨x, d, halfI w, w, rfl, hx, hf, fun H1 s1 => ?_⟩
  have hq := q H1 s1
  unfold fitsD at hq
  cases e : isBlockD (halfI w) w d with
  | false =>
    rw [e, Bool.false_and] at hq
    wtm_at "go"
    refine g_br (fun _ => ?_) (fun c => nomatch c)
    wtm_at "go"
    exact hq
  | true =>
    obtain ⟨hform, hok⟩ := isBlockD_iff.mp e
    rw [e, Bool.true_and] at hq
    wtm_at "go"
    refine g_br (fun c => nomatch c) (fun _ => ?_)
    rw [hform] at hx
    generalize toTB d = b at hx hq hok
    obtain ⟨ta, tp, ys, rfl, h1, h2, h3⟩ := dp_blk (Dp.go s1 hx)
    have hne : b.ps ≠ [] := fun z => by
      have := hok.1
      unfold halfI at this
      rw [z, List.length_nil] at this
      omega
    obtain ⟨lf, ps⟩ := b
    cases ps with
    | nil => exact absurd rfl hne
    | cons p ps =>
      cases h3 with
      | cons hp hr3 =>
        obtain ⟨tb, y, rfl, ht, hy⟩ := dp_pair hp
        wtm_at "go"
        refine g_ixT h2 (atI_nat (j := 0) rfl) ?_
        wtm_at "go"
        refine g_ixT ht (atI_nat (j := 0) rfl) ?_
        wtm_at "go"
        have e2 : decide (V.int p.1 = V.int key) = decide (firstK ⟨lf, p :: ps⟩ = key) := decide_eq_decide.mpr ⟨V.int.inj, congrArg V.int⟩
        rw [e2]
        exact hq
theorem ok_sound (T : Tx K mg) : FnOk P w K mg base CX0 6 T.a_sound T.d_sound ["blocks", "width"] (sp_sound K) := by
  refine T.F_sound.ok sc_sound (fun vs H Q E h => ?_) (fun cdv A outer s H vs Q E hr h => ?_)
  · obtain ⟨b, m, w, rfl, _⟩ := h
    rfl
  obtain ⟨b, m, w, rfl, hb, nd, hfit, hsz, hw, hw2, q⟩ := h
  refine ⟨_, (pss_cons (ps_if (pt_not (pt_val (pe_call (ok_is_root T) hr (by rfl) T.g_is_root T.F_is_root.kp T.b_is_root .nil pass0 (pa_cons (pe_dget1 (hu_of hr) (pv 0) pe_int ⟨rfl, rfl, rfl, rfl⟩) (pa_cons (pv 1) pa_nil)))))
      (pss_one (ps_ret pe_bl))
      pss_nil)
    (pss_cons (ps_set (i := 2) sc_sound.nd rfl (Or.inl rfl) (pe_lst (pa_cons (pe_dget (hu_of hr) (pv 0) pe_int (fun _ _ => rfl)) pa_nil)))
    (pss_cons (ps_set (i := 3) sc_sound.nd rfl (Or.inl rfl) (pe_disp (pps_cons pe_int pe_bl pps_nil) (by rfl) (by rfl) (fun z => by cases z) (by decide)))
    (pss_cons (ps_while PassesOwn.never (pt_val (pe_call (ok_all_are T) (hr.mono (by decide)) (by rfl) T.g_all_are T.F_all_are.kp T.b_all_are .nil pass0 (pa_cons pe_str (pa_cons (pv 2) pa_nil))))
      (pss_cons (ps_set (i := 4) sc_sound.nd rfl (Or.inl rfl) (pe_call (ok_row_of T) (hr.mono (by decide)) (by rfl) T.g_row_of T.F_row_of.kp T.b_row_of .nil pass0 (pa_cons (pv 2) pa_nil)))
      (pss_cons (ps_for PassesOwn.never rfl (pi_list (pv 4)) (pg_tup rfl (pgs_cons (pg_name (i := 5) sc_sound.nd rfl (Or.inl rfl)) (pgs_cons (pg_name (i := 6) sc_sound.nd rfl (Or.inl rfl)) pgs_nil)))
        (pss_cons (ps_if (pw_or (pt_cmp (pc_din (hu_of hr) (pv 6) (pv 3))) (pw_or1 (pt_not (pt_val (pe_call (ok_fits T) hr (by rfl) T.g_fits T.F_fits.kp T.b_fits .nil pass0 (pa_cons (pe_dget1 (hu_of hr) (pv 0) (pv 6) ⟨rfl, rfl, rfl, rfl⟩) (pa_cons (pv 1) (pa_cons (pv 5) pa_nil)))))))).pt
          (pss_one (ps_ret pe_bl))
          pss_nil)
        (pss_one (ps_dput (hu_of hr) (pv 3) (pv 6) pe_bl rfl))))
      (pss_one (ps_set (i := 2) sc_sound.nd rfl (Or.inl rfl) (pe_call (ok_named T) (hr.mono (by decide)) (by rfl) T.g_named T.F_named.kp T.b_named .nil pass0 (pa_cons (pv 0) (pa_cons (pv 4) pa_nil))))))))
    (pss_one (ps_ret (pe_and (pe_call (ok_all_are T) (hr.mono (by decide)) (by rfl) T.g_all_are T.F_all_are.kp T.b_all_are .nil pass0 (pa_cons pe_str (pa_cons (pv 2) pa_nil))) (pe_and (pe_call (ok_rises T) (hr.mono (by decide)) (by rfl) T.g_rises T.F_rises.kp T.b_rises .nil pass0 (pa_cons (pe_call (ok_row_of T) (hr.mono (by decide)) (by rfl) T.g_row_of T.F_row_of.kp T.b_row_of .nil pass0 (pa_cons (pv 2) pa_nil)) pa_nil)) (pe_one (pe_cmpR op_eq (pe_callB my_lenD (by rfl) T.z_len PySem.boot_len (pa_cons (pv 3) pa_nil)) (pe_callB my_lenD (by rfl) T.z_len PySem.boot_len (pa_cons (pv 0) pa_nil)) (nomark _))))))))))), ?_⟩
  have fit : ∀ n, FitB (blockAt m n) := fun n => by
    unfold blockAt
    cases e : getA m n with
    | none => exact fun w ps e => nomatch e
    | some d => exact hfit _ (getA_mem e)
  wtm_at "go"
  refine g_rDGet1 hb (fun R r => by wtm_at "go"; exact r) fun v hv => ?_
  wtm_at "go"
  refine ⟨v, _, w, rfl, hv, fit 0, fun H1 s1 => ?_⟩
  have hq : ∀ H', Same H H' → ∀ c, c = soundD m w → Q (.bl c) H' := fun H' s c e => e ▸ q H' s
  have eD : soundD m w = (rootD w (blockAt m 0) && soundL m w (m.length + 1) [0] [toTB (blockAt m 0)]) := rfl
  show isB _ (.bl (rootD w (blockAt m 0))) H1
  cases hroot : rootD w (blockAt m 0) with
  | false =>
    rw [hroot, Bool.false_and] at eD
    wtm_at "go"
    refine g_br (fun _ => ?_) (fun c => nomatch c)
    wtm_at "go"
    exact hq H1 s1 _ eD.symm
  | true =>
    rw [hroot, Bool.true_and] at eD
    wtm_at "go"
    refine g_br (fun c => nomatch c) (fun _ => ?_)
    have hroot' := hroot
    unfold rootD at hroot'
    rw [Bool.and_eq_true] at hroot'
    obtain ⟨form0, ok0⟩ := isBlockD_iff.mp hroot'.1
    have g0 := blockAt_some hroot'.1
    wtm_at "go"
    refine g_rDGet (hb.go s1) g0 fun v0 hv0 => ?_
    wtm_at "go"
    refine g_lstK (by wtm_at "ln") fun lv H2 n2 s2 e2 => ?_
    wtm_at "go"
    intro rc nrc
    refine ⟨upd_same, [(.inl 0, .bl true)], rfl, by decide, ?_⟩
    have erc : upd (upd H2 rc (.dK [])) rc (.dK (mergeK [] [(.inl 0, .bl true)])) = upd H2 rc (.dK [(.inl 0, .bl true)]) := by rw [upd_upd]; rfl
    rw [erc]
    have s3 : Same H2 (upd H2 rc (.dK [(.inl 0, .bl true)])) := Same.new nrc _
    have e3 : upd H2 rc (.dK [(.inl 0, .bl true)]) rc = some (.dK [(.inl 0, .bl true)]) := upd_same
    generalize upd H2 rc (.dK [(.inl 0, .bl true)]) = H3 at s3 e3
    have nrcH : H rc = none := s1.free (s2.free nrc)
    have s03 : Same H H3 := s1.trans (s2.trans s3)
    have hwn : ∀ c : TB, (∃ l, okT l w c) → c.ps.length ≤ w.toNat := fun c ⟨l, h⟩ => by have := h.2.1; omega
    wtm_at "go"
    refine g_while (fun f σ' H' => ∃ (r : List Int) (L : List TB) (lv : Addr) (xs : List V) (o4 o5 o6 : Option V), σ' = [some (.ref b), some (.int w), some (.ref lv), some (.ref rc), o4, o5, o6] ∧ Same H H' ∧ SqL K H' lv xs ∧ DpAll K H' xs (lsD L) ∧ Dd K H' rc (seenD r) ∧ (∀ c ∈ L, (∃ l, okT l w c) ∧ (c.lf = true ∨ 2 ≤ c.ps.length)) ∧ L ≠ [] ∧ L.length ≤ m.length ∧ r.Nodup ∧ (∀ n ∈ r, n ∈ keysA m) ∧ m.length + 1 ≤ f + r.length ∧ soundL m w f r L = soundD m w)
      (m.length + 1) ⟨[0], [toTB (blockAt m 0)], lv, _, _, _, _, rfl, s03, SqL.of (s3 _ _ e2), ?_, ⟨_, e3, .cons (.bl true) .nil⟩, ?_, by simp, ?_, ?_, ?_, ?_, eD.symm⟩ (fun f σ' H' hp => ?_)
    · refine .cons ?_ .nil
      rw [← form0]
      exact Dp.go (s2.trans s3) hv0
    · intro c hc
      rw [List.mem_singleton.mp hc]
      refine ⟨⟨0, ok0⟩, ?_⟩
      have := hroot'.2
      rw [Bool.or_eq_true, decide_eq_true_eq] at this
      exact this
    · have : m ≠ [] := fun z => by rw [z] at g0; cases g0
      exact List.length_pos_iff.mpr this
    · simp
    · intro n hn
      rw [List.mem_singleton.mp hn]
      exact mem_keysA.mpr (by rw [g0]; rfl)
    · simp
    obtain ⟨r, L, lv, xs, o4, o5, o6, rfl, s4, hl, hd, dr, hL, hL0, lL, ndr, rsub, hf, hans⟩ := hp
    have hrow : (rowT L).length ≤ 25000 := by
      refine Nat.le_trans (rowT_len fun c hc => hwn c (hL c hc).1) (Nat.le_trans (Nat.mul_le_mul_right _ lL) hsz)
    have hmw : m.length ≤ 25000 := by
      refine Nat.le_trans (Nat.le_mul_of_pos_right _ ?_) hsz
      omega
    have rlen : r.length ≤ m.length := by
      have := nodup_sub_len ndr rsub
      unfold keysA at this
      rwa [List.length_map] at this
    cases f with
    | zero => omega
    | succ f =>
    wtm_at "go"
    refine ⟨_, lv, xs, L, rfl, hl, hd, by omega, fun H5 s5 => ?_⟩
    have ebr : (L.all fun c => decide (wordT c.lf = Str.ofString "branch")) = L.all fun c => !c.lf := all_br_eq
    rw [ebr]
    wtm_at "go"
    have hl5 := L2.Same.seq s5 hl
    have hd5 := DpAll.go s5 hd
    have s05 := s4.trans s5
    have dr5 := dr.go s5
    cases hbr : L.all fun c => !c.lf with
    | true =>
      refine g_whT ?_
      have hLbr : ∀ c ∈ L, c.lf = false := fun c hc => by simpa using List.all_eq_true.mp hbr c hc
      have estep : soundL m w (f + 1) r L = match checkRow m w r (rowT L) with
        | none => false
        | some r' => soundL m w f r' (nextL m (rowT L)) := by
        show (if (L.all fun c => !c.lf) = true then _ else _) = _
        rw [hbr, if_pos rfl]
        all_goals rfl
      rw [estep] at hans
      have hheld : ∀ p ∈ rowT L, ∃ n, p.2 = .int n := fun p hp => by
        obtain ⟨c, hc, hpc⟩ := List.mem_flatMap.mp hp
        obtain ⟨l, hok⟩ := (hL c hc).1
        have h2 := (hok.2.2.1 p hpc).2
        rw [hLbr c hc] at h2
        have h3 : isNumD p.2 = true := by
          have e : heldD (wordT false) p.2 = isNumD p.2 := by
            unfold heldD
            rw [if_neg (by decide +kernel)]
          rw [← e]
          exact h2
        cases e : p.2 <;> rw [e] at h3 <;> first | exact ⟨_, rfl⟩ | cases h3
      wtm_at "go"
      refine ⟨lv, xs, L, rfl, hl5, hd5, by omega, fun rw' ys H6 n6 s6 e6 d6 => ?_⟩
      have s06 := s05.trans s6
      have dr6 := dr5.go s6
      have nrw : H rw' = none := s05.free n6
      have ly := dpAll_len d6
      unfold rowD at ly
      rw [List.length_map] at ly
      wtm_at "go"
      refine g_forLk (fun i σ' H' => ∃ (r' : List Int) (o5 o6 : Option V), σ' = [some (.ref b), some (.int w), some (.ref lv), some (.ref rc), some (.ref rw'), o5, o6] ∧ Same H H' ∧ Dd K H' rc (seenD r') ∧ SqL K H' rw' ys ∧ DpAll K H' ys (rowD (rowT L)) ∧ checkRow m w r ((rowT L).take i) = some r')
        (SqL.of e6) ⟨r, _, _, rfl, s06, dr6, SqL.of e6, d6, rfl⟩ (fun i σ' H' _ hp => by obtain ⟨_, _, _, _, _, _, h, _⟩ := hp; exact h) (fun i x σ' H' hx hp => ?_) (fun σ' H' hp => ?_)
      · obtain ⟨r', o5, o6, rfl, s7, d7, l7, dd7, hc7⟩ := hp
        obtain ⟨p, hp, hpx⟩ := dpAll_at' (f := pairD) dd7 hx
        have et : (rowT L).take (i + 1) = (rowT L).take i ++ [p] := by rw [List.take_add_one, hp]; rfl
        have esplit : rowT L = (rowT L).take i ++ (p :: (rowT L).drop (i + 1)) := by
          have hi := (List.getElem?_eq_some_iff.mp hp).1
          have e := List.getElem?_eq_getElem hi
          rw [hp] at e
          rw [Option.some.inj e, List.getElem_cons_drop, List.take_append_drop]
        obtain ⟨n, en⟩ := hheld p (List.mem_of_getElem? hp)
        have en' : numD p.2 = n := by rw [en]; rfl
        obtain ⟨ta, y, rfl, ht, hy⟩ := dp_pair hpx
        rw [en] at hy
        cases dp_i hy
        have hnone : (decide (n ∈ r') || !fitsD w p.1 (blockAt m n)) = true → soundD m w = false := fun c => by
          rw [← hans, esplit, checkRow_app hc7, checkRow_cons, en', if_pos c]
        have fin : ∀ H'', Same H H'' → soundD m w = false → Q (.bl false) H'' := fun H'' s e => hq H'' s _ e.symm
        refine g_gtup ht rfl ?_
        wtm_at "go"
        refine g_rDIn d7 ?_
        rw [seen_get]
        wtm_at "go"
        cases c1 : decide (n ∈ r') with
        | true =>
          rw [c1, Bool.true_or] at hnone
          refine g_orK (fun _ => ?_) (fun c => nomatch c)
          wtm_at "go"
          exact fin H' s7 (hnone rfl)
        | false =>
          rw [c1, Bool.false_or] at hnone
          refine g_orK (fun c => nomatch c) (fun _ => ?_)
          wtm_at "go"
          refine g_rDGet1 (hb.go s7) (fun R r => by wtm_at "go"; exact r) fun v7 hv7 => ?_
          wtm_at "go"
          refine ⟨v7, _, w, p.1, rfl, hv7, fit n, hw, fun H8 s8 => ?_⟩
          show isB _ (.bl (fitsD w p.1 (blockAt m n))) H8
          cases c2 : fitsD w p.1 (blockAt m n) with
          | false =>
            rw [c2] at hnone
            wtm_at "go"
            refine g_br (fun _ => ?_) (fun c => nomatch c)
            wtm_at "go"
            exact fin H8 (s7.trans s8) (hnone rfl)
          | true =>
            wtm_at "go"
            refine g_br (fun c => nomatch c) (fun _ => ?_)
            wtm_at "go"
            have hr8 : r'.length ≤ 60000 := by
              have := checkRow_some hc7
              have e1 := congrArg List.length this.1
              rw [List.length_append] at e1
              have e2 : (numsT ((rowT L).take i)).length = ((rowT L).take i).length := List.length_map ..
              rw [List.length_take] at e2
              omega
            refine g_rDPut (d := .bool true) (d7.go s8) (.bl true) (by unfold seenD; rw [List.length_map]; omega) fun H9 o9 d9 => ?_
            have nn : n ∉ r' := of_decide_eq_false c1
            rw [seen_put nn] at d9
            obtain ⟨kv8, ekv8, _⟩ := d7.go s8
            refine ⟨r' ++ [n], _, _, rfl, o9.same (s7.trans s8) nrcH, d9, o9.seqL ekv8 (L2.Same.seq s8 l7), DpAll.oth ekv8 o9 (DpAll.go s8 dd7), ?_⟩
            rw [et, checkRow_app hc7, checkRow_cons, en', c1, c2]
            rfl
      · obtain ⟨r', o5, o6, rfl, s7, d7, l7, dd7, hc7⟩ := hp
        rw [ly, List.take_length] at hc7
        rw [hc7] at hans
        obtain ⟨h1, h2, h3, h4⟩ := checkRow_some hc7
        have hblk : ∀ p ∈ rowT L, isBlockD (halfI w) w (blockAt m (numD p.2)) = true := fun p hp => by
          have := h2 p hp
          unfold fitsD at this
          rw [Bool.and_eq_true] at this
          exact this.1
        have hkeys : ∀ n ∈ numsT (rowT L), n ∈ keysA m := fun n hn => by
          obtain ⟨p, hp, rfl⟩ := List.mem_map.mp hn
          exact mem_keysA.mpr (by rw [blockAt_some (hblk p hp)]; rfl)
        have ndr' : r'.Nodup := by
          rw [h1, List.nodup_append]
          refine ⟨ndr, h4, fun a ha c hc e => ?_⟩
          subst e
          exact h3 a hc ha
        have rsub' : ∀ n ∈ r', n ∈ keysA m := fun n hn => by
          rw [h1] at hn
          rcases List.mem_append.mp hn with hn | hn
          · exact rsub n hn
          · exact hkeys n hn
        have rlen' : r'.length ≤ m.length := by
          have := nodup_sub_len ndr' rsub'
          unfold keysA at this
          rwa [List.length_map] at this
        have lr' : r'.length = r.length + (rowT L).length := by
          rw [h1, List.length_append]
          have : (numsT (rowT L)).length = (rowT L).length := List.length_map ..
          omega
        wtm_at "go"
        refine ⟨b, rw', m, ys, rowT L, rfl, hb.go s7, .inl l7, dd7, fun p hp => ?_, by omega, fun lw zs H8 n8 s8 e8 d8 => ?_⟩
        · obtain ⟨n, en⟩ := hheld p hp
          refine ⟨n, en, ?_⟩
          have := mem_keysA.mp (hkeys (numD p.2) (List.mem_map.mpr ⟨p, hp, rfl⟩))
          rw [en] at this
          exact this
        · have eL : (rowT L).map (fun p => blockAt m (numD p.2)) = lsD (nextL m (rowT L)) := by
            unfold lsD nextL
            rw [List.map_map]
            exact List.map_congr_left fun p hp => isBlockD_form (hblk p hp)
          rw [eL] at d8
          have hpos : 0 < (rowT L).length := by
            obtain ⟨c, hc⟩ := List.exists_mem_of_ne_nil L hL0
            have h2c : 2 ≤ c.ps.length := (hL c hc).2.elim (fun h => by rw [hLbr c hc] at h; cases h) id
            have hsub : ∃ p, p ∈ rowT L := by
              obtain ⟨p, hp⟩ := List.exists_mem_of_ne_nil c.ps (fun z => by rw [z] at h2c; simp at h2c)
              exact ⟨p, List.mem_flatMap.mpr ⟨c, hc, hp⟩⟩
            obtain ⟨p, hp⟩ := hsub
            exact List.length_pos_of_mem hp
          wtm_at "go"
          refine ⟨f, Nat.lt_succ_self f, r', nextL m (rowT L), lw, zs, _, _, _, rfl, s7.trans s8, SqL.of e8, d8, d7.go s8, fun c hc => ?_, ?_, ?_, ndr', rsub', by omega, hans⟩
          · obtain ⟨p, hp, rfl⟩ := List.mem_map.mp hc
            have hok := (isBlockD_iff.mp (hblk p hp)).2
            refine ⟨⟨halfI w, hok⟩, .inr ?_⟩
            have := hok.1
            unfold halfI at this
            omega
          · intro z
            have := congrArg List.length z
            unfold nextL at this
            rw [List.length_map, List.length_nil] at this
            omega
          · unfold nextL
            rw [List.length_map]
            omega
    | false =>
      refine g_whF ?_
      have eend : soundL m w (f + 1) r L = (L.all (·.lf) && (risesI (keysT (rowT L)) && decide (r.length = m.length))) := by
        show (if (L.all fun c => !c.lf) = true then _ else _) = _
        rw [hbr, if_neg (by decide)]
      rw [eend] at hans
      wtm_at "go"
      refine ⟨_, lv, xs, L, rfl, hl5, hd5, by omega, fun H6 s6 => ?_⟩
      have elf : (L.all fun c => decide (wordT c.lf = Str.ofString "leaf")) = L.all (·.lf) := all_lf_eq
      rw [elf]
      have s06 := s05.trans s6
      cases c1 : L.all (·.lf) with
      | false =>
        rw [c1, Bool.false_and] at hans
        refine g_andV (fun c => nomatch c) (fun _ => ?_)
        exact hq H6 s06 _ hans
      | true =>
        rw [c1, Bool.true_and] at hans
        refine g_andV (fun _ => ?_) (fun c => nomatch c)
        wtm_at "go"
        refine ⟨lv, xs, L, rfl, L2.Same.seq s6 hl5, DpAll.go s6 hd5, by omega, fun rw' ys H7 n7 s7 e7 d7 => ?_⟩
        wtm_at "go"
        refine ⟨rw', ys, rowD (rowT L), rfl, .inl (SqL.of e7), d7, by unfold rowD; rw [List.length_map]; omega, fun d hd => ?_, fun H8 s8 => ?_⟩
        · obtain ⟨p, _, rfl⟩ := List.mem_map.mp hd
          exact ⟨_, _, rfl⟩
        have ek : (rowD (rowT L)).map keyD = keysT (rowT L) := by
          unfold rowD keysT
          rw [List.map_map]
          rfl
        rw [ek]
        cases c2 : risesI (keysT (rowT L)) with
        | false =>
          rw [c2, Bool.false_and] at hans
          refine g_andV (fun c => nomatch c) (fun _ => ?_)
          exact hq H8 (s06.trans (s7.trans s8)) _ hans
        | true =>
          rw [c2, Bool.true_and] at hans
          refine g_andV (fun _ => ?_) (fun c => nomatch c)
          wtm_at "go"
          refine g_lenDd (dr5.go (s6.trans (s7.trans s8))) ?_
          wtm_at "go"
          refine g_lenDd (hb.go (s06.trans (s7.trans s8))) ?_
          wtm_at "go"
          have e9 : decide (V.int ((seenD r).length : Int) = V.int (m.length : Int)) = decide (r.length = m.length) := by
            unfold seenD
            rw [List.length_map]
            exact decide_eq_decide.mpr ⟨fun h => Int.ofNat.inj (V.int.inj h), fun h => by rw [h]⟩
          rw [e9]
          exact hq H8 (s06.trans (s7.trans s8)) _ hans
theorem ok_way (T : Tx K mg) : FnOk P w K mg base CX0 2 T.a_way T.d_way ["blocks", "key"] (sp_way K) := by
  refine T.F_way.ok sc_way (fun vs H Q E h => ?_) (fun cdv A outer s H vs Q E hr h => ?_)
  · obtain ⟨b, m, key, w, d, R, rfl, _⟩ := h
    rfl
  obtain ⟨b, m, key, w, d, R, rfl, hb, hA, hw, hw2, hdd, q⟩ := h
  refine ⟨_, (pss_cons (ps_set (i := 2) sc_way.nd rfl (Or.inl rfl) (pe_lst (pa_cons pe_int pa_nil)))
    (pss_cons (ps_asg (pe_dget (hu_of hr) (pv 0) pe_int (fun _ _ => rfl)) (pg_tup rfl (pgs_cons (pg_name (i := 3) sc_way.nd rfl (Or.inl rfl)) (pgs_cons (pg_name (i := 4) sc_way.nd rfl (Or.inl rfl)) pgs_nil))))
    (pss_cons (ps_while PassesOwn.never (pt_cmpR op_eq (pv 3) pe_str (nomark _))
      (pss_cons (ps_set (i := 5) sc_way.nd rfl (Or.inl rfl) (pe_ix ix_tup (pe_ix ix_tup (pv 4) (pe_call (ok_place T) hr (by rfl) T.g_place T.F_place.kp T.b_place .nil pass0 (pa_cons (pv 4) (pa_cons (pv 1) pa_nil))) (fun _ _ => rfl)) pe_int (fun _ _ => rfl)))
      (pss_cons (ps_expr (pe_bm PySem.F.plainAttrs_list PySem.F.slot_list_append PySem.F.type_list_append mt_append (pv 2) (pa_cons (pv 5) pa_nil)))
      (pss_one (ps_asg (pe_dget (hu_of hr) (pv 0) (pv 5) (fun _ _ => rfl)) (pg_tup rfl (pgs_cons (pg_name (i := 3) sc_way.nd rfl (Or.inl rfl)) (pgs_cons (pg_name (i := 4) sc_way.nd rfl (Or.inl rfl)) pgs_nil))))))))
    (pss_one (ps_ret (pv 2)))))), ?_⟩
  wtm_at "go"
  refine g_lstK (by wtm_at "ln") fun p H1 n1 s1 e1 => ?_
  wtm_at "go"
  refine g_rDGet (hb.go s1) hA.root fun v0 hv0 => ?_
  obtain ⟨ta, tp, ys, rfl, h1, h2, h3⟩ := dp_blk hv0
  wtm_at "go"
  refine g_while (fun f σ' H' => ∃ (d' : Nat) (n : Int) (Rc : List (Item d')) (pre : List Int) (pp : Addr) (ys : List V) (o5 : Option V), σ' = [some (.ref b), some (.int key), some (.ref p), some (.str (wordT (decide (d' = 0)))), some (.ref pp), o5] ∧ f = d' ∧ Same H H' ∧ H' p = some (.lst (pre.map V.int)) ∧ AT m w d' n Rc ∧ SqT K H' pp ys ∧ DpAll K H' ys (rowD (contR d' Rc)) ∧
      pre ++ wayP m key d' (contR d' Rc) = 0 :: wayP m key d (contR d R) ∧ pre.length + d' = d + 1)
    d ⟨d, 0, R, [0], tp, ys, _, rfl, rfl, s1, e1, hA, h2, h3, rfl, by simp; omega⟩ (fun f σ' H' hp => ?_)
  obtain ⟨d', n, Rc, pre, pp, ys, o5, rfl, rfl, s2, e2, hA2, hpp, hd2, ew, hlen⟩ := hp
  cases f with
  | zero =>
    have et : decide (V.str (wordT (decide ((0 : Nat) = 0))) = V.str (Str.ofString "branch")) = false := by decide +kernel
    wtm_at "go"
    rw [et]
    refine g_whF ?_
    wtm_at "go"
    refine q p H' n1 s2 ?_
    rw [← ew]
    show H' p = some (.lst ((pre ++ []).map V.int))
    rw [List.append_nil]
    exact e2
  | succ f =>
    have et : decide (V.str (wordT (decide (f + 1 = 0))) = V.str (Str.ofString "branch")) = true := by
      rw [decide_eq_false (p := f + 1 = 0) (by omega)]
      decide +kernel
    obtain ⟨Rn, hAn, ePs, fk, hfk⟩ := hA2.child hw (key := key)
    obtain ⟨x, hx, hpx⟩ := dpAll_at hd2 (show (rowD (contR (f + 1) Rc))[placeN (keysT (contR (f + 1) Rc)) key]? = _ by unfold rowD; rw [List.getElem?_map, hfk]; rfl)
    obtain ⟨tx, y, rfl, hy1, hy2⟩ := dp_pair hpx
    cases dp_i hy2
    have lc : (contR (f + 1) Rc).length ≤ 1000 := by rw [contR_len]; have := hA2.size; omega
    wtm_at "go"
    rw [et]
    refine g_whT ?_
    wtm_at "go"
    refine ⟨pp, ys, _, key, rfl, .inr hpp, hd2, hA2.rise hw, lc, ?_⟩
    wtm_at "go"
    refine g_ixT hpp (atI_nat hx) ?_
    wtm_at "go"
    refine g_ixT hy1 (atI_nat (j := 1) rfl) ?_
    wtm_at "go"
    refine ⟨.inl ⟨rfl, _, SqL.of e2⟩, ?_⟩
    wtm_at "go"
    refine g_appendO e2 (by rw [List.length_map]; omega) fun H3 o3 e3 => ?_
    have s3 := o3.same s2 n1
    wtm_at "go"
    refine g_rDGet (hb.go s3) hAn.root fun v3 hv3 => ?_
    obtain ⟨t3, p3, ys3, rfl, k1, k2, k3⟩ := dp_blk hv3
    wtm_at "go"
    refine ⟨f, Nat.lt_succ_self _, f, _, Rn, pre ++ [childN key (contR (f + 1) Rc)], p3, ys3, _, rfl, rfl, s3, ?_, hAn, k2, k3, ?_, ?_⟩
    · rw [e3, List.map_append]
      rfl
    · rw [← ew, List.append_assoc]
      show _ = pre ++ (childN key (contR (f + 1) Rc) :: wayP m key f (psAt m (childN key (contR (f + 1) Rc))))
      rw [ePs]
      rfl
    · rw [List.length_append, List.length_singleton]
      omega
theorem ok_listed (T : Tx K mg) : FnOk P w K mg base CX0 2 T.a_listed T.d_listed ["blocks"] (sp_listed K) := by
  refine T.F_listed.ok sc_listed (fun vs H Q E h => ?_) (fun cdv A outer s H vs Q E hr h => ?_)
  · obtain ⟨b, m, w, P, d, R, rfl, _⟩ := h
    rfl
  obtain ⟨b, m, w, P, d, R, rfl, hb, hT, hw, hP, q⟩ := h
  refine ⟨_, (pss_cons (ps_set (i := 1) sc_listed.nd rfl (Or.inl rfl) (pe_lst (pa_cons (pe_dget (hu_of hr) (pv 0) pe_int (fun _ _ => rfl)) pa_nil)))
    (pss_cons (ps_while PassesOwn.never (pt_val (pe_call (ok_all_are T) hr (by rfl) T.g_all_are T.F_all_are.kp T.b_all_are .nil pass0 (pa_cons pe_str (pa_cons (pv 1) pa_nil))))
      (pss_one (ps_set (i := 1) sc_listed.nd rfl (Or.inl rfl) (pe_call (ok_named T) hr (by rfl) T.g_named T.F_named.kp T.b_named .nil pass0 (pa_cons (pv 0) (pa_cons (pe_call (ok_row_of T) hr (by rfl) T.g_row_of T.F_row_of.kp T.b_row_of .nil pass0 (pa_cons (pv 1) pa_nil)) pa_nil))))))
    (pss_one (ps_ret (pe_call (ok_row_of T) hr (by rfl) T.g_row_of T.F_row_of.kp T.b_row_of .nil pass0 (pa_cons (pv 1) pa_nil)))))), ?_⟩
  wtm_at "go"
  refine g_rDGet hb hT.root fun v0 hv0 => ?_
  wtm_at "go"
  refine g_lstK (by wtm_at "ln") fun lv H1 n1 s1 e1 => ?_
  wtm_at "go"
  refine g_while (fun f σ' H' => ∃ (Rs : List (List (Item f))) (l : Addr) (xs : List V), σ' = [some (.ref b), some (.ref l)] ∧ Same H H' ∧ SqL K H' l xs ∧ DpAll K H' xs (lsD (lvL f Rs)) ∧ LV m w P f Rs ∧ (lvL f Rs).length ≤ 30000)
    d ⟨[R], lv, _, rfl, s1, SqL.of e1, .cons (Dp.go s1 hv0) .nil, hT.lv, by unfold lvL; simp⟩ (fun f σ' H' hp => ?_)
  obtain ⟨Rs, l, xs, rfl, s2, hl, hd, hV, hsz⟩ := hp
  have hrl := hV.row_len hw
  wtm_at "go"
  refine ⟨_, l, xs, lvL f Rs, rfl, hl, hd, hsz, fun H3 s3 => ?_⟩
  rw [hV.all_br]
  wtm_at "go"
  have hl3 := L2.Same.seq s3 hl
  have hd3 := DpAll.go s3 hd
  have s03 := s2.trans s3
  cases f with
  | zero =>
    refine g_whF ?_
    wtm_at "go"
    refine ⟨l, xs, lvL 0 Rs, rfl, hl3, hd3, by omega, fun p ys H4 n4 s4 e4 d4 => ?_⟩
    refine q p ys H4 (s03.free n4) (s03.trans s4) e4 ?_
    have e : rowT (lvL 0 Rs) = P := by
      rw [lvL_row, ← hV.leaves, leavesR_zero]
      exact contR_zero
    rw [e] at d4
    exact d4
  | succ f =>
    obtain ⟨hV2, hrow, hnum, hlen⟩ := hV.next hw
    refine g_whT ?_
    wtm_at "go"
    refine ⟨l, xs, lvL (f + 1) Rs, rfl, hl3, hd3, by omega, fun p ys H4 n4 s4 e4 d4 => ?_⟩
    wtm_at "go"
    refine ⟨b, p, m, ys, rowT (lvL (f + 1) Rs), rfl, hb.go (s03.trans s4), .inl (SqL.of e4), d4, hnum, by omega, fun p2 ys2 H5 n5 s5 e5 d5 => ?_⟩
    rw [hrow] at d5
    wtm_at "go"
    exact ⟨f, Nat.lt_succ_self _, nextR f Rs, p2, ys2, rfl, s03.trans (s4.trans s5), SqL.of e5, d5, hV2, by unfold lvL; rw [List.length_map]; omega⟩
theorem ok_Change_init (T : Tx K mg) : FnOk P w K mg base CX0 1 T.a_Change_init T.d_Change_init ["self", "blocks", "width"] (sp_Change_init K T.C_Change) := by
  refine T.F_Change_init.ok sc_Change_init (fun vs H Q E h => ?_) (fun cdv A outer s H vs Q E hr h => ?_)
  · obtain ⟨p, dx, b, w, rfl, _⟩ := h
    rfl
  obtain ⟨p, dx, b, w, rfl, hp, q⟩ := h
  refine ⟨_, (pss_cons (ps_fld (pv 0) (pv 1) rfl)
    (pss_cons (ps_fld (pv 0) (pv 2) rfl)
    (pss_cons (ps_fld (pv 0) pe_dnewK rfl)
    (pss_one (ps_fld (pv 0) pe_int rfl))))), ?_⟩
  wtm_at "go"
  refine ⟨p, _, dx, [], rfl, hp, T.cl_Change, T.n_Change__blocks, (by show 0 < 1000; decide), ?_⟩
  wtm_at "go"
  refine ⟨p, _, dx, _, rfl, upd_same, T.cl_Change, T.n_Change__width, (by show 1 < 1000; decide), ?_⟩
  wtm_at "go"
  intro a na
  have npa : p ≠ a := fun z => by
    rw [← z, upd_same] at na
    cases na
  have na0 : H a = none := by
    rw [upd_ne (Ne.symm npa), upd_ne (Ne.symm npa)] at na
    exact na
  wtm_at "go"
  refine ⟨p, _, dx, _, rfl, by rw [upd_ne npa, upd_same], T.cl_Change, T.n_Change__after, ?_, ?_⟩
  · have e1 : putF "_blocks" (.ref b) [] = ([("_blocks", V.ref b)] : List (Str × V)) := rfl
    have e2 : putF "_width" (.int w) [] = ([("_width", V.int w)] : List (Str × V)) := rfl
    rw [e1, putF_cons, if_neg ch_wb, e2]
    show 2 < 1000
    decide
  wtm_at "go"
  refine ⟨p, _, dx, _, rfl, upd_same, T.cl_Change, T.n_Change__newest, ?_, ?_⟩
  · have e1 : putF "_blocks" (.ref b) [] = ([("_blocks", V.ref b)] : List (Str × V)) := rfl
    have e2 : putF "_width" (.int w) [] = ([("_width", V.int w)] : List (Str × V)) := rfl
    have e3 : putF "_after" (.ref a) [] = ([("_after", V.ref a)] : List (Str × V)) := rfl
    rw [e1, putF_cons, if_neg ch_wb, e2, putF_cons, if_neg ch_ab, putF_cons, if_neg ch_aw, e3]
    show 3 < 1000
    decide
  refine q a _ na0 (Ne.symm npa) (fun o ob hn h => ?_) ⟨dx, upd_same⟩ (by rw [upd_ne (Ne.symm npa), upd_ne (Ne.symm npa), upd_same])
  rw [upd_ne hn, upd_ne hn, upd_ne (ne_of_none h na0), upd_ne hn, upd_ne hn]
  exact h
theorem ok_Change_new_number (T : Tx K mg) : FnOk P w K mg base CX0 1 T.a_Change_new_number T.d_Change_new_number ["self"] (sp_Change_new_number K T.C_Change) := by
  refine T.F_Change_new_number.ok sc_Change_new_number (fun vs H Q E h => ?_) (fun cdv A outer s H vs Q E hr h => ?_)
  · obtain ⟨p, b, a, w, n, m, rfl, _⟩ := h
    rfl
  obtain ⟨p, b, a, w, n, m, rfl, hC, hb, nd, q⟩ := h
  refine ⟨_, (pss_cons (ps_set (i := 1) sc_Change_new_number.nd rfl (Or.inl rfl) (pe_op op_add (pe_fld (pv 0) rfl) pe_int))
    (pss_cons (ps_set (i := 2) sc_Change_new_number.nd rfl (Or.inl rfl) (pe_fld (pv 0) rfl))
    (pss_cons (ps_while PassesOwn.never (pt_cmp (pc_din (hu_of hr) (pv 1) (pv 2)))
      (pss_one (ps_aug (i := 1) sc_Change_new_number.nd rfl (Or.inl rfl) pe_int ip_add)))
    (pss_cons (ps_fld (pv 0) (pv 1) rfl)
    (pss_one (ps_ret (pv 1))))))), ?_⟩
  obtain ⟨_, hout, _⟩ := newN_spec (k := n) nd
  wtm_at "go"
  refine hC.newest T.cl_Change T.n_Change__newest ?_
  wtm_at "go"
  refine hC.blocks T.cl_Change T.n_Change__blocks ?_
  wtm_at "go"
  refine g_while (fun f σ' H' => ∃ k : Int, σ' = [some (.ref p), some (.int k), some (.ref b)] ∧ H' = H ∧ newF m f k = newN m n) m.length ⟨n + 1, rfl, rfl, rfl⟩ (fun f σ' H' hp => ?_)
  obtain ⟨k, rfl, rfl, ek⟩ := hp
  wtm_at "go"
  refine g_rDIn hb ?_
  wtm_at "go"
  cases hk : (getA m k).isSome with
  | false =>
    have hkn : k ∉ keysA m := fun z => by
      rw [mem_keysA, hk] at z
      cases z
    have e : k = newN m n := by
      rw [← ek]
      cases f with
      | zero => rfl
      | succ f => unfold newF; rw [if_neg hkn]
    subst e
    refine g_whF ?_
    wtm_at "go"
    refine hC.put T.cl_Change T.n_Change__newest fun H1 o1 h1 => ?_
    wtm_at "go"
    exact q H1 o1 h1
  | true =>
    have hkn : k ∈ keysA m := mem_keysA.mpr hk
    cases f with
    | zero =>
      have : k = newN m n := ek
      exact absurd (this ▸ hkn) hout
    | succ f =>
      unfold newF at ek
      rw [if_pos hkn] at ek
      refine g_whT ?_
      wtm_at "go"
      refine ⟨_, rfl, ?_⟩
      wtm_at "go"
      refine ⟨_, _, rfl, rfl, ?_⟩
      exact ⟨f, Nat.lt_succ_self _, k + 1, rfl, rfl, ek⟩
theorem ok_Change_told (T : Tx K mg) : FnOk P w K mg base CX0 1 T.a_Change_told T.d_Change_told ["self"] (sp_Change_told K T.C_Change) := by
  refine T.F_Change_told.ok sc_Change_told (fun vs H Q E h => ?_) (fun cdv A outer s H vs Q E hr h => ?_)
  · obtain ⟨p, b, a, w, c, m, rfl, _⟩ := h
    rfl
  obtain ⟨p, b, a, w, c, m, rfl, hC, hb, ha, hm, hc, hl, hba, nd, q⟩ := h
  refine ⟨_, (pss_one (ps_ret (pe_lock (pe_dc (own := [("number", 1), ("block", 2)]) (g := gTup K 2 (gCons (gName 1) (gCons (gName 2) gNil))) rfl sc_Change_told.nd (pi_items (pe_fld (pv 0) rfl)) (blkOk_by (own := [("number", 1), ("block", 2)]) (N := N_Change_told) (sc := defScope s_Change_told) (by decide +kernel)) (fun _ _ _ _ _ => (pg_tup rfl (pgs_cons (pg_name (i := 1) sc_Change_told.nd rfl (Or.inl rfl)) (pgs_cons (pg_name (i := 2) sc_Change_told.nd rfl (Or.inl rfl)) pgs_nil)))) (fun _ _ _ _ _ => (pts_one (pt_cmpR (neDK (K := K) rfl hr.units) (pv 2) (pe_dget1 (hu_of hr) (fldK (K := K) rfl (pv 0) rfl) (pv 1) ⟨rfl, rfl, rfl, rfl⟩) (nomark _)))) (fun _ _ _ _ _ => (pv 1)) (fun _ _ _ _ _ => (pv 2)))))), ?_⟩
  obtain ⟨kvs, hk, hkd⟩ := id ha
  have lk := hkd.dd.len
  wtm_at "go"
  refine ⟨a, _, hk, trivial, fun od => ?_⟩
  have npa : p ≠ a := fun z => by
    obtain ⟨dx, h⟩ := hC
    rw [z, hk] at h
    cases h
  obtain ⟨Hl, eHl⟩ : ∃ Hl, Hl = upd H a (.frz od (.dK kvs)) := ⟨_, rfl⟩
  rw [← eHl]
  have ol : Oth a H Hl := by rw [eHl]; exact Oth.upd
  have hla : Hl a = some (.frz od (.dK kvs)) := by rw [eHl]; exact upd_same
  have hCl := hC.oth ol npa
  have fl : Fx H Hl := ol.keep fun ob hp z => by
    rw [hk] at z
    cases Option.some.inj z
    exact hp
  have hbl : Dd K Hl b m := Dd.othLne ol hba fl (fun p hp => (hm p hp).1) hb
  refine g_tFld ?_
  refine g_var rfl ?_
  refine hCl.after T.cl_Change T.n_Change__after ?_
  refine ⟨a, od, kvs, rfl, hla, fun D nD => ?_⟩
  have nDa : D ≠ a := fun z => by rw [z, hla] at nD; cases nD
  refine ⟨fun i m' H' => m' + i = kvs.length ∧ Same Hl H' ∧ ∃ kvs', H' D = some (.dK kvs') ∧ PlAll K H kvs' (toldA m (c.after.take i)) ∧ kvs'.length ≤ i, ⟨kvs.length, by omega, Same.new nD _, [], upd_same, .nil, Nat.le_refl _⟩, fun i m' H' hp => ?_⟩
  obtain ⟨hmi, sl, kvs', eD, dD, hlen⟩ := hp
  by_cases hi : i < kvs.length
  · refine .inr ⟨⟨sl _ _ hla, hi⟩, fun H2 => Same Hl H2 ∧ ∃ kvs', H2 D = some (.dK kvs') ∧ PlAll K H kvs' (toldA m (c.after.take (i + 1))) ∧ kvs'.length ≤ i + 1, fun H2 h => ⟨m' - 1, by omega, by omega, h⟩, fun x H2 hy => ?_⟩
    obtain ⟨tt, k, v, hkv, rfl, nT, eH2⟩ := hy
    obtain ⟨n, d, hn, rfl, hd⟩ := hkd.at hkv
    have s2 : Same H' H2 := by rw [eH2]; exact Same.new nT _
    have sl2 := sl.trans s2
    have e2 : H2 tt = some (.tup [.int n, v]) := by rw [eH2]; exact upd_same
    have hmem := List.mem_of_getElem? hn
    have okd := hc _ hmem
    have hd2 : Dp K H2 v d := Dp.fx (fl.trans (Fx.of sl2)) okd.1 hd.dp
    refine g_gtup (SqT.of e2) rfl ?_
    refine g_gcons (g_name (g_gcons (g_name (g_gnil ⟨rfl, ?_⟩))))
    wtm_at "go"
    refine (hCl.go sl2).blocks T.cl_Change T.n_Change__blocks ?_
    refine g_rDGet1 (hbl.go sl2) (fun R r => g_var rfl r) fun v2 hv2 => ?_
    have oko : okD (optD (getA m n)) := by
      cases e : getA m n with
      | none => exact ⟨rfl, by simp [optD, PyData.depth]⟩
      | some d2 => exact hm _ (getA_mem e)
    refine g_neD hd2 hv2 (shaped_ok okd) (shaped_ok oko) ?_
    have eq := eqv_strict okd.1 oko.1
    have et := toldA_take (m := m) nd hn
    by_cases hde : d = optD (getA m n)
    · rw [if_pos hde] at et
      rw [eq.mpr hde]
      refine g_isB ?_
      refine iteF ?_
      refine ⟨sl2, kvs', s2 _ _ eD, ?_, by omega⟩
      rw [et]
      exact dD
    · rw [if_neg hde] at et
      have ef : PyData.eqv d (optD (getA m n)) = false := by
        cases h : PyData.eqv d (optD (getA m n)) with
        | false => rfl
        | true => exact absurd (eq.mp h) hde
      rw [ef]
      refine g_isB ?_
      refine iteT ?_
      refine g_var rfl (g_var rfl ⟨kvs', .inl n, rfl, s2 _ _ eD, Evl.sz_lt (by omega), fun o ob h => ?_, _, upd_same, ?_, ?_⟩)
      · rw [upd_ne (ne_of_none h nD)]
        exact sl2 _ _ h
      · rw [et]
        exact dD.put hd
      · have := DdAll.len (dD.put (k := n) hd).dd
        rw [this, ← et]
        refine Nat.le_trans (List.length_filter_le ..) ?_
        rw [List.length_take]
        omega
  · refine .inl ⟨⟨sl _ _ hla, by omega⟩, sl _ _ hla, ?_⟩
    have ek : c.after.take i = c.after := List.take_of_length_le (by omega)
    rw [ek] at dD
    have sf : Same H (upd H' a (.dK kvs)) := fun o ob h => by
      by_cases z : o = a
      · rw [z, upd_same]
        rw [z, hk] at h
        exact h
      · rw [upd_ne z]
        exact sl _ _ (ol _ _ z h)
    refine q D _ ?_ sf ⟨kvs', by rw [upd_ne nDa]; exact eD, dD.go sf⟩
    rw [eHl, upd_ne nDa] at nD
    exact nD
theorem ok_Change_fill (T : Tx K mg) : FnOk P w K mg base CX0 2 T.a_Change_fill T.d_Change_fill ["self", "word", "row", "numbers"] (sp_Change_fill K T.C_Change) := by
  refine T.F_Change_fill.ok sc_Change_fill (fun vs H Q E h => ?_) (fun cdv A outer s H vs Q E hr h => ?_)
  · obtain ⟨p, b, a, w, m, c, lf, r, l, xs, P, N, rfl, _⟩ := h
    rfl
  obtain ⟨p, b, a, w, m, c, lf, r, l, xs, P, N, rfl, hC, hx, hd, sm, hN, hw, hP, hNl, hcl, q⟩ := h
  refine ⟨_, (pss_cons (ps_setLc (i := 4) (own := [("part", 5)]) (g := gName 5) (tt := tTruM K (tVar 5)) rfl sc_Change_fill.nd rfl rfl (sw_true rfl rfl rfl (by decide +kernel)) (pi_list (pe_call (ok_parts T) hr (by rfl) T.g_parts T.F_parts.kp T.b_parts .nil pass0 (pa_cons (pv 2) (pa_cons (pe_fld (pv 0) rfl) pa_nil)))) (blkOk_by (own := [("part", 5)]) (N := N_Change_fill) (sc := defScope s_Change_fill) (by decide +kernel)) (fun _ _ _ _ _ => (pg_name (i := 5) sc_Change_fill.nd rfl (Or.inl rfl))) (fun _ _ _ _ _ => (pts_one (pt_truK (K := K) rfl (pv 5) (fun _ => rfl)))) (fun _ _ _ _ _ => (pv 5)))
    (pss_cons (ps_for PassesOwn.never rfl (pi_list (pe_slice sl_list (pv 3) (po_some (pe_callB my_len (by rfl) T.z_len PySem.boot_len (pa_cons (pv 4) pa_nil))) po_none)) (pg_name (i := 6) sc_Change_fill.nd rfl (Or.inl rfl))
      (pss_one (ps_dput (hu_of hr) (pe_fld (pv 0) rfl) (pv 6) pe_non rfl)))
    (pss_cons (ps_set (i := 7) sc_Change_fill.nd rfl (Or.inl rfl) (pe_op op_cat (pv 3) (pe_lc (own := [("part", 5)]) (g := gName 5) (tt := tYes) rfl sc_Change_fill.nd (pi_list (pe_slice sl_list (pv 4) (po_some (pe_callB my_len (by rfl) T.z_len PySem.boot_len (pa_cons (pv 3) pa_nil))) po_none)) (blkOk_by (own := [("part", 5)]) (N := N_Change_fill) (sc := defScope s_Change_fill) (by decide +kernel)) (fun _ _ _ _ _ => (pg_name (i := 5) sc_Change_fill.nd rfl (Or.inl rfl))) (fun _ _ _ _ _ => pts_nil) (fun _ _ _ _ _ => (pe_meth0 (pv 0) T.cl_Change T.m_Change_new_number (ok_Change_new_number T) hr T.b_Change_new_number .nil pass0)))))
    (pss_cons (ps_for PassesOwn.never rfl (pi_zip (by rfl) T.z_zip (pa_cons (pv 7) (pa_cons (pv 4) pa_nil))) (pg_tup rfl (pgs_cons (pg_name (i := 6) sc_Change_fill.nd rfl (Or.inl rfl)) (pgs_cons (pg_name (i := 5) sc_Change_fill.nd rfl (Or.inl rfl)) pgs_nil)))
      (pss_one (ps_dput (hu_of hr) (pe_fld (pv 0) rfl) (pv 6) (pe_tup (pa_cons (pv 1) (pa_cons (pv 5) pa_nil))) rfl)))
    (pss_one (ps_ret (pe_lc (own := [("number", 6), ("part", 5)]) (g := gTup K 2 (gCons (gName 6) (gCons (gName 5) gNil))) (tt := tYes) rfl sc_Change_fill.nd (pi_zip (by rfl) T.z_zip (pa_cons (pv 7) (pa_cons (pv 4) pa_nil))) (blkOk_by (own := [("number", 6), ("part", 5)]) (N := N_Change_fill) (sc := defScope s_Change_fill) (by decide +kernel)) (fun _ _ _ _ _ => (pg_tup rfl (pgs_cons (pg_name (i := 6) sc_Change_fill.nd rfl (Or.inl rfl)) (pgs_cons (pg_name (i := 5) sc_Change_fill.nd rfl (Or.inl rfl)) pgs_nil)))) (fun _ _ _ _ _ => pts_nil) (fun _ _ _ _ _ => (pe_tup (pa_cons (pe_ix (ixTK (K := K) rfl) (pe_ix (ixTK (K := K) rfl) (pv 5) pe_int (fun _ _ => rfl)) pe_int (fun _ _ => rfl)) (pa_cons (pv 6) pa_nil))))))))))), ?_⟩
  rw [fillP_eq] at q
  dsimp only at q
  have hr2 := rowsP_len (w := w) (P := P)
  have hrsm : ∀ R ∈ rowsP w P, smP R := fun R hR => rowsP_sm sm hR
  have hrne : ∀ R ∈ rowsP w P, R ≠ [] := fun R hR z => by
    have := (List.mem_filter.mp hR).2
    rw [z] at this
    cases this
  have elc : (partsL w P).filter (fun r => !r.isEmpty) = rowsP w P := rfl
  wtm_at "go"
  refine hC.ob.width T.cl_Change T.n_Change__width ?_
  wtm_at "go"
  refine ⟨r, xs, P, w, rfl, hx, hd, hw, hP, fun p1 ys1 H1 s1 e1 d1 => ?_⟩
  have lp : (partsL w P).length ≤ 2 := by
    unfold partsL
    split <;> simp
  have ly1 := paired_len d1
  refine g_wLk (SqL.of e1) ?_
  refine g_lcRW (PlR K) smP (fun _ _ _ _ f s h => h.fx f s) walk_list (fun i => ((partsL w P).take i).filter fun r => !r.isEmpty) (by omega) (fun H' s => L2.Same.seq s (SqL.of e1)) rfl (fun i _ R hR => ?_) (fun i _ => ?_) (fun i x H2 H3 QN QE hi s2 hy kn ke => ?_) (fun rl ys2 H2 n2 s2 e2 d2 => ?_)
  · exact fun y hy => sm y (rowsP_sub (List.mem_of_mem_take (List.mem_filter.mp hR).1) y hy)
  · refine Nat.le_trans (List.length_filter_le ..) ?_
    rw [List.length_take]
    omega
  · obtain ⟨rfl, hxi⟩ := hy
    obtain ⟨R, hR, ta, zs, rfl, ht, hz⟩ := pair_at d1 hxi
    have lz := dpAll_len hz
    unfold rowD at lz
    rw [List.length_map] at lz
    have et : (partsL w P).take (i + 1) = (partsL w P).take i ++ [R] := by rw [List.take_add_one, hR]; rfl
    have htx := ht.fx (Fx.of s2)
    have ht3 : SqT K _ ta zs := htx.seqT
    refine g_name ⟨rfl, ?_⟩
    refine g_var rfl ⟨!zs.isEmpty, .inr (.inl ⟨zs, ht3, rfl⟩), ?_⟩
    cases zs with
    | nil =>
      have eR : R = [] := List.length_eq_zero_iff.mp lz.symm
      refine iteF (kn ?_ _ (L2.Same.refl _))
      rw [et, List.filter_append, eR]
      simp
    | cons z zs =>
      have eR : R.isEmpty = false := by
        cases R with
        | nil => cases lz
        | cons a R => rfl
      refine iteT (g_var rfl (ke _ R _ ?_ (L2.Same.refl _) ⟨ta, _, rfl, htx, DpAll.go s2 hz⟩))
      rw [et, List.filter_append, List.filter_cons, eR]
      simp
  have ely : ys1.length = (partsL w P).length := ly1
  rw [ely, List.take_length, elc] at d2
  have ly2 := paired_len d2
  have hC2 := hC.go (s1.trans s2)
  have hN2 := (s1.trans s2) _ _ hN
  have n02 : H rl = none := s1.free n2
  wtm_at "go"
  rw [ly2]
  refine g_slL (SqL.of hN2) fun p3 H3 n3 s3 e3 => ?_
  rw [cut_from, ← List.map_drop] at e3
  wtm_at "go"
  refine g_forLk (fun i σ' H' => (∃ o6, σ' = [some (.ref p), some (.str (wordT lf)), some (.ref r), some (.ref l), some (.ref rl), none, o6, none]) ∧ Oth2 p a H3 H' ∧ CS K T.C_Change H' p b a w m ⟨puts c.after (((N.drop (rowsP w P).length).take i).map fun n => (n, .none)), c.newest⟩)
    (SqL.of e3) ⟨⟨none, rfl⟩, Oth2.refl, hC2.go s3⟩ (fun i σ' H' _ hp => (hC2.go s3).seqL hp.2.1 (SqL.of e3)) (fun i x σ' H' hxi hp => ?_) (fun σ' H' hp => ?_)
  · obtain ⟨⟨o6, rfl⟩, o3, hCi⟩ := hp
    rw [List.getElem?_map] at hxi
    obtain ⟨n, hn, rfl⟩ := Option.map_eq_some_iff.mp hxi
    have et : (N.drop (rowsP w P).length).take (i + 1) = (N.drop (rowsP w P).length).take i ++ [n] := by rw [List.take_add_one, hn]; rfl
    have hi := (List.getElem?_eq_some_iff.mp hn).1
    rw [List.length_drop] at hi
    wtm_at "go"
    refine hCi.ob.after T.cl_Change T.n_Change__after ?_
    wtm_at "go"
    have l4 := puts_len (a := c.after) (ps := ((N.drop (rowsP w P).length).take i).map fun n => ((n, .none) : Int × PyData))
    rw [List.length_map, List.length_take, List.length_drop] at l4
    refine g_rDPutP hCi.af .non (Nat.le_trans l4 (by omega)) fun H4 o4 d4 => ?_
    wtm_at "go"
    refine ⟨⟨_, rfl⟩, o3.trans (Oth2.rt o4), ?_⟩
    rw [et, List.map_append]
    have := hCi.put o4 d4 ⟨rfl, by simp [PyData.depth]⟩
    rw [show puts c.after ((((N.drop (rowsP w P).length).take i).map fun n => ((n, .none) : Int × PyData)) ++ [n].map fun n => (n, .none)) = putA (puts c.after (((N.drop (rowsP w P).length).take i).map fun n => (n, .none))) n .none from puts_snoc]
    exact this
  obtain ⟨⟨o6, rfl⟩, o3, hC4⟩ := hp
  rw [List.length_map, List.take_length] at hC4
  obtain ⟨a1, ea1⟩ : ∃ a1, a1 = puts c.after ((N.drop (rowsP w P).length).map fun n => ((n, .none) : Int × PyData)) := ⟨_, rfl⟩
  rw [← ea1] at hC4 q
  have l4 := puts_len (a := c.after) (ps := (N.drop (rowsP w P).length).map fun n => ((n, .none) : Int × PyData))
  rw [List.length_map, List.length_drop, ← ea1] at l4
  have o24 : Oth2 p a H2 H' := (Oth2.of s3).trans o3
  have hN4 := hC2.lst o24 hN2
  have e24 := hC2.lst o24 e2
  have d24 : PlRows K H' ys2 (rowsP w P) := PlRows.fx (hC2.fx o24) hrsm d2
  wtm_at "go"
  refine g_slL (SqL.of e24) fun p5 H5 n5 s5 e5 => ?_
  rw [List.length_map, cut_from] at e5
  have hC5 := hC4.go s5
  refine g_wLk (SqL.of e5) ?_
  have l5 : (ys2.drop N.length).length = (rowsP w P).length - N.length := by rw [List.length_drop, ly2]
  intro tk ntk
  refine lc_it walk_list (fun i H' => Oth2 p a H5 H' ∧ CS K T.C_Change H' p b a w m ⟨a1, (newNs m i c.newest).2⟩ ∧ H' tk = some (.lst ((newNs m i c.newest).1.map V.int)))
    ⟨Oth2.of (Same.new ntk _), hC5.go (Same.new ntk _), upd_same⟩ (fun i H' _ hp => hC5.seqL hp.1 (SqL.of e5)) (fun i x H6 H7 hi hp hy => ?_) (fun H6 hp => ?_)
  · obtain ⟨o6, hC6, e6⟩ := hp
    obtain ⟨rfl, hxi⟩ := hy
    refine g_name ⟨rfl, ?_⟩
    refine g_yes ?_
    refine g_tMeth ?_
    refine g_var rfl ?_
    refine hC6.ob.meth (by decide +kernel) (by decide +kernel) (by decide +kernel) (by decide +kernel) ?_
    refine ⟨p, b, a, w, _, m, rfl, hC6.ob, hC6.bl.dd, hC6.okm.1, fun H8 o8 h8 => ?_⟩
    have hC8 := hC6.num o8 h8
    have e8 := hC6.lst (Oth2.lf o8) e6
    have l6 := newNs_len (m := m) i c.newest
    have o9 : Oth tk H8 (upd H8 tk (.lst ((newNs m i c.newest).1.map V.int ++ [V.int (newN m (newNs m i c.newest).2)]))) := Oth.upd
    refine ⟨_, e8, Evl.sz_lt (by rw [List.length_map, l6]; omega), ?_, ?_, ?_⟩
    · intro u ob n1 n2 h
      rw [upd_ne (ne_of_none h ntk)]
      exact (o6.trans (Oth2.lf o8)) u ob n1 n2 h
    · rw [newNs_snoc]
      exact hC8.oL e8 o9
    · rw [upd_same, newNs_snoc, List.map_append]
      rfl
  obtain ⟨o6, hC6, e6⟩ := hp
  rw [l5] at hC6 e6
  have o46 : Oth2 p a H' H6 := (Oth2.of s5).trans o6
  have hN6 := hC4.lst o46 hN4
  have e26 := hC4.lst o46 e24
  have d26 : PlRows K H6 ys2 (rowsP w P) := PlRows.fx (hC4.fx o46) hrsm d24
  obtain ⟨nw, enw⟩ : ∃ nw, nw = newNs m ((rowsP w P).length - N.length) c.newest := ⟨_, rfl⟩
  have l6 : nw.1.length = (rowsP w P).length - N.length := by rw [enw]; exact newNs_len ..
  rw [← enw] at hC6 e6 q
  wtm_at "go"
  refine g_cat hN6 e6 (by rw [List.length_map, List.length_map, l6]; omega) fun p7 H7 n7 s7 e7 => ?_
  rw [← List.map_append] at e7
  obtain ⟨tk2, etk2⟩ : ∃ tk2, tk2 = N ++ nw.1 := ⟨_, rfl⟩
  have ltk : (rowsP w P).length ≤ tk2.length := by rw [etk2, List.length_append, l6]; omega
  rw [← etk2] at e7 q
  have hC7 := hC6.go s7
  have e27 := s7 _ _ e26
  have d27 := PlRows.go s7 d26
  obtain ⟨Z, eZ⟩ : ∃ Z, Z = tk2.zip (rowsP w P) := ⟨_, rfl⟩
  have lZ : Z.length = (rowsP w P).length := by rw [eZ, List.length_zip]; omega
  rw [← eZ] at q
  have hZ : ∀ (i : Nat) (x y : V) , (tk2.map V.int)[i]? = some x → ys2[i]? = some y → ∃ t : Int × PL, Z[i]? = some t ∧ x = .int t.1 ∧ PlR K H7 y t.2 ∧ t.2 ∈ rowsP w P := by
    intro i x y hx hy
    rw [List.getElem?_map] at hx
    obtain ⟨n, hn, rfl⟩ := Option.map_eq_some_iff.mp hx
    obtain ⟨R, hR, hRy⟩ := pair_at d27 hy
    refine ⟨(n, R), ?_, rfl, hRy, List.mem_of_getElem? hR⟩
    rw [eZ]
    exact List.getElem?_zip_eq_some.mpr ⟨hn, hR⟩
  wtm_at "go"
  refine g_forZk (n := (rowsP w P).length) (by rw [List.length_map, ly2]; omega) (fun i σ' H' => (∃ o5 o6, σ' = [some (.ref p), some (.str (wordT lf)), some (.ref r), some (.ref l), some (.ref rl), o5, o6, some (.ref p7)]) ∧ Oth2 p a H7 H' ∧ CS K T.C_Change H' p b a w m ⟨puts a1 ((Z.take i).map fun t => (t.1, (TB.mk lf t.2).D)), nw.2⟩)
    (SqL.of e7) (SqL.of e27) ⟨⟨_, _, rfl⟩, Oth2.refl, hC7⟩ (fun i σ' H' _ hp => ⟨hC7.seqL hp.2.1 (SqL.of e7), hC7.seqL hp.2.1 (SqL.of e27)⟩) (fun i x y σ' H8 TT H9 hxi hyi hp nT s9 eT => ?_) (fun σ' H8 hp => ?_)
  · obtain ⟨⟨o5, o6, rfl⟩, o8, hC8⟩ := hp
    obtain ⟨t, ht, rfl, ⟨ta, zs, rfl, hta, hz⟩, htR⟩ := hZ i x y hxi hyi
    have et : Z.take (i + 1) = Z.take i ++ [t] := by rw [List.take_add_one, ht]; rfl
    have hi := (List.getElem?_eq_some_iff.mp ht).1
    have hC9 := hC8.go s9
    have f9 := (hC7.fx o8).trans (Fx.of s9)
    have smt : smP t.2 := hrsm _ htR
    refine g_gtup (SqT.of eT) rfl ?_
    wtm_at "go"
    refine g_tupK (by wtm_at "ln") fun p10 H10 n10 s10 e10 => ?_
    have f10 := f9.trans (Fx.of s10)
    have hC10 := hC9.go s10
    wtm_at "go"
    refine hC10.ob.after T.cl_Change T.n_Change__after ?_
    wtm_at "go"
    have l9 := puts_len (a := a1) (ps := (Z.take i).map fun t => (t.1, (TB.mk lf t.2).D))
    rw [List.length_map, List.length_take] at l9
    have dblk : PlW K H10 (.ref p10) (TB.mk lf t.2).D := .blk (SqT.of e10) (hta.fx f10) (DpAll.fx f10 smt.strict hz)
    refine g_rDPutP hC10.af dblk (Nat.le_trans l9 (by omega)) fun H11 o11 d11 => ?_
    wtm_at "go"
    refine ⟨⟨_, _, rfl⟩, o8.trans ((Oth2.of (s9.trans s10)).trans (Oth2.rt o11)), ?_⟩
    rw [et, List.map_append]
    rw [show puts a1 (((Z.take i).map fun t => (t.1, (TB.mk lf t.2).D)) ++ [t].map fun t => (t.1, (TB.mk lf t.2).D)) = putA (puts a1 ((Z.take i).map fun t => (t.1, (TB.mk lf t.2).D))) t.1 (TB.mk lf t.2).D from puts_snoc]
    exact hC10.put o11 d11 (okD_D smt)
  obtain ⟨⟨o5, o6', rfl⟩, o8, hC8⟩ := hp
  rw [← lZ, List.take_length] at hC8
  have e78 := hC7.lst o8 e7
  have e28 := hC7.lst o8 e27
  have f8 := hC7.fx o8
  wtm_at "go"
  refine ⟨p7, rl, _, _, rfl, SqL.of e78, SqL.of e28, ?_⟩
  refine g_lcDW (K := K) (walk_zip (n := (rowsP w P).length) (by rw [List.length_map, ly2]; omega)) (fun i => rowD ((Z.take i).map fun t => (firstP t.2, .int t.1))) (by omega) (fun H' s => ⟨L2.Same.seq s (SqL.of e78), L2.Same.seq s (SqL.of e28)⟩) rfl (fun i _ => smP.strict fun y hy => ?_) (fun i _ => ?_) (fun i x H9 H10 QN QE hi s9 hy kn ke => ?_) (fun q9 ys9 H9 n9 s9 e9 d9 => ?_)
  · obtain ⟨t, _, rfl⟩ := List.mem_map.mp hy
    exact ⟨rfl, by simp [PyData.depth]⟩
  · unfold rowD
    rw [List.length_map, List.length_map, List.length_take]
    omega
  · obtain ⟨TT, x1, y1, rfl, nT, rfl, hxi, hyi⟩ := hy
    obtain ⟨t, ht, rfl, ⟨ta, zs, rfl, hta, hz⟩, htR⟩ := hZ i x1 y1 hxi hyi
    have et : Z.take (i + 1) = Z.take i ++ [t] := by rw [List.take_add_one, ht]; rfl
    have sT : Same H9 (upd H9 TT (.tup [.int t.1, .ref ta])) := Same.new nT _
    have eT : upd H9 TT (.tup [.int t.1, .ref ta]) TT = some (.tup [.int t.1, .ref ta]) := upd_same
    generalize upd H9 TT (.tup [.int t.1, .ref ta]) = H10 at sT eT
    have smt : smP t.2 := hrsm _ htR
    have f10 := f8.trans (Fx.of (s9.trans sT))
    have htz : SqT K _ ta zs := (hta.fx f10).seqT
    have hzz := DpAll.fx f10 smt.strict hz
    obtain ⟨y0, R0, eR⟩ : ∃ y0 R0, t.2 = y0 :: R0 := by
      cases e : t.2 with
      | nil => exact absurd e (hrne _ htR)
      | cons y0 R0 => exact ⟨y0, R0, rfl⟩
    have ef : firstP t.2 = y0.1 := by rw [eR]; rfl
    rw [eR] at hzz
    cases hzz with
    | cons h1 h2 =>
    obtain ⟨tb, yy, rfl, hb1, hb2⟩ := dp_pair h1
    refine g_gtup (SqT.of eT) rfl ?_
    refine g_gcons (g_name (g_gcons (g_name (g_gnil ⟨rfl, ?_⟩))))
    refine g_yes ?_
    wtm_at "go"
    refine g_ixT htz (atI_nat (j := 0) rfl) ?_
    wtm_at "go"
    refine g_ixT hb1 (atI_nat (j := 0) rfl) ?_
    wtm_at "go"
    refine g_tupK (by wtm_at "ln") fun p11 H11 n11 s11 e11 => ?_
    refine ke _ (pairD (firstP t.2, .int t.1)) _ ?_ (sT.trans s11) ?_
    · rw [et, List.map_append]
      unfold rowD
      rw [List.map_append]
      rfl
    · rw [ef]
      exact .tup (SqT.of e11) (.cons (.int _) (.cons (.int _) .nil))
  · rw [← lZ, List.take_length] at d9
    have oall : Oth2 p a H H9 := (Oth2.of (s1.trans s2)).trans (o24.trans (o46.trans ((Oth2.of s7).trans (o8.trans (Oth2.of s9)))))
    have hC9 := hC8.go s9
    exact q q9 ys9 H9 (hC8.free ((Oth2.of (s1.trans s2)).trans (o24.trans (o46.trans ((Oth2.of s7).trans o8)))) n9) oall e9 d9 hC9
theorem ok_Change_fill_below (T : Tx K mg) : FnOk P w K mg base CX0 3 T.a_Change_fill_below T.d_Change_fill_below ["self", "above", "key", "word", "row"] (sp_Change_fill_below K T.C_Change) := by
  refine T.F_Change_fill_below.ok sc_Change_fill_below (fun vs H Q E h => ?_) (fun cdv A outer s H vs Q E hr h => ?_)
  · obtain ⟨p, b, a, w, m, c, lf, ab, r, key, zs, xs, PA, P, rfl, _⟩ := h
    rfl
  obtain ⟨p, b, a, w, m, c, lf, ab, r, key, zs, xs, PA, P, rfl, hC, hA, hdA, smA, hrise, hlA, hNB, hx, hd, sm, hP, hw, hcl, q⟩ := h
  refine ⟨_, (pss_cons (ps_set (i := 5) sc_Change_fill_below.nd rfl (Or.inl rfl) (pe_call (ok_place T) (hr.mono (by decide)) (by rfl) T.g_place T.F_place.kp T.b_place .nil pass0 (pa_cons (pv 1) (pa_cons (pv 2) pa_nil))))
    (pss_cons (ps_set (i := 6) sc_Change_fill_below.nd rfl (Or.inl rfl) (pv 5))
    (pss_cons (ps_set (i := 7) sc_Change_fill_below.nd rfl (Or.inl rfl) (pe_op op_add (pv 5) pe_int))
    (Evl.pss_cut (ps_if (pt_cmpR op_lt (pe_callB my_len (by rfl) T.z_len PySem.boot_len (pa_cons (pv 4) pa_nil)) (pe_call (ok_half T) (hr.mono (by decide)) (by rfl) T.g_half T.F_half.kp T.b_half .nil pass0 (pa_cons (pe_fld (pv 0) rfl) pa_nil)) (nomark _))
      (pss_cons (ps_set (i := 6) sc_Change_fill_below.nd rfl (Or.inl rfl) (pe_callB (my_max2 rfl) (by rfl) T.z_max (by decide +kernel) (pa_cons (pe_op op_sub (pv 5) pe_int) (pa_cons pe_int pa_nil))))
      (pss_one (ps_set (i := 7) sc_Change_fill_below.nd rfl (Or.inl rfl) (pe_op op_add (pv 6) pe_int))))
      pss_nil)
    (pss_cons (ps_set (i := 8) sc_Change_fill_below.nd rfl (Or.inl rfl) (pe_call (ok_row_of T) (hr.mono (by decide)) (by rfl) T.g_row_of T.F_row_of.kp T.b_row_of .nil pass0 (pa_cons (pe_call (ok_named T) (hr.mono (by decide)) (by rfl) T.g_named T.F_named.kp T.b_named .nil pass0 (pa_cons (pe_fld (pv 0) rfl) (pa_cons (pe_slice sl_tupA (pv 1) (po_some (pv 6)) (po_some (pv 5))) pa_nil))) pa_nil)))
    (pss_cons (ps_set (i := 9) sc_Change_fill_below.nd rfl (Or.inl rfl) (pe_call (ok_row_of T) (hr.mono (by decide)) (by rfl) T.g_row_of T.F_row_of.kp T.b_row_of .nil pass0 (pa_cons (pe_call (ok_named T) (hr.mono (by decide)) (by rfl) T.g_named T.F_named.kp T.b_named .nil pass0 (pa_cons (pe_fld (pv 0) rfl) (pa_cons (pe_slice sl_tupA (pv 1) (po_some (pe_op op_add (pv 5) pe_int)) (po_some (pv 7))) pa_nil))) pa_nil)))
    (pss_cons (ps_setLc (i := 10) (own := [("least", 11), ("number", 12)]) (g := gTup K 2 (gCons (gName 11) (gCons (gName 12) gNil))) (tt := tYes) rfl sc_Change_fill_below.nd rfl rfl (sw_true rfl rfl rfl (by decide +kernel)) (pi_tup (pe_slice sl_tupA (pv 1) (po_some (pv 6)) (po_some (pv 7)))) (blkOk_by (own := [("least", 11), ("number", 12)]) (N := N_Change_fill_below) (sc := defScope s_Change_fill_below) (by decide +kernel)) (fun _ _ _ _ _ => (pg_tup rfl (pgs_cons (pg_name (i := 11) sc_Change_fill_below.nd rfl (Or.inl rfl)) (pgs_cons (pg_name (i := 12) sc_Change_fill_below.nd rfl (Or.inl rfl)) pgs_nil)))) (fun _ _ _ _ _ => pts_nil) (fun _ _ _ _ _ => (pv 12)))
    (pss_one (ps_ret (pe_op op_cat (pe_op op_cat (pe_callTy my_list (by rfl) T.z_list (by decide +kernel) (pa_cons (pe_slice sl_tupA (pv 1) po_none (po_some (pv 6))) pa_nil)) (pe_meth (pv 0) T.cl_Change T.m_Change_fill (ok_Change_fill T) hr T.b_Change_fill .nil pass0 (pa_cons (pv 3) (pa_cons (pe_op op_cat (pe_op op_cat (pv 8) (pv 4)) (pv 9)) (pa_cons (pv 10) pa_nil))))) (pe_callTy my_list (by rfl) T.z_list (by decide +kernel) (pa_cons (pe_slice sl_tupA (pv 1) (po_some (pv 7)) po_none) pa_nil)))))))))))), ?_⟩
  have lx := dpAll_len hd
  unfold rowD at lx
  rw [List.length_map] at lx
  have lz := dpAll_len hdA
  unfold rowD at lz
  rw [List.length_map] at lz
  rw [fillBelowP_eq] at q
  dsimp only at q
  obtain ⟨at_, eat⟩ : ∃ at_, at_ = placeN (keysT PA) key := ⟨_, rfl⟩
  obtain ⟨fi, efi⟩ : ∃ fi, fi = firstN w PA key P := ⟨_, rfl⟩
  obtain ⟨la, ela⟩ : ∃ la, la = lastN w PA key P := ⟨_, rfl⟩
  obtain ⟨lf1, lf2, lf3, lf4⟩ := last_first (w := w) (PA := PA) (P := P) (key := key)
  have efi' := efi
  have ela' := ela
  unfold firstN at efi'
  unfold lastN at ela'
  have emid : midP m w PA key P = rowsAt m ((PA.take at_).drop fi) ++ P ++ rowsAt m ((PA.take la).drop (at_ + 1)) := by
    unfold midP
    rw [← eat, ← efi, ← ela]
  rw [← efi, ← eat] at lf2
  rw [← efi, ← ela] at lf1 lf4
  rw [← ela, ← eat] at lf3
  rw [← efi, ← ela] at q
  rw [← eat] at efi' ela'
  wtm_at "go"
  refine ⟨ab, zs, PA, key, rfl, .inr hA, hdA, hrise, by omega, ?_⟩
  rw [← eat]
  wtm_at "go"
  refine g_cut (fun σ' H' => H = H' ∧ σ' = [some (.ref p), some (.ref ab), some (.int key), some (.str (wordT lf)), some (.ref r), some (.int (at_ : Nat)), some (.int (fi : Nat)), some (.int (la : Nat)), none, none, none, none, none]) ?_ (fun σ' H' hp => ?_)
  · wtm_at "go"
    refine hC.ob.width T.cl_Change T.n_Change__width ?_
    wtm_at "go"
    refine ⟨w, rfl, ?_⟩
    wtm_at "go"
    rw [lx]
    refine g_br (fun cc => ?_) (fun cc => ?_)
    · have cc' : (P.length : Int) < halfI w := of_decide_eq_true cc
      rw [if_pos cc'] at efi' ela'
      wtm_at "go"
      refine ⟨rfl, ?_⟩
      have e1 : (if (0 : Int) > (at_ : Int) - 1 then (0 : Int) else (at_ : Int) - 1) = ((fi : Nat) : Int) := by split <;> omega
      rw [e1]
      have e2 : ((fi : Nat) : Int) + 2 = ((la : Nat) : Int) := by omega
      rw [e2]
      all_goals rfl
    · have cc' : ¬ (P.length : Int) < halfI w := of_decide_eq_false cc
      rw [if_neg cc'] at efi' ela'
      wtm_at "go"
      refine ⟨rfl, ?_⟩
      have e2 : ((at_ : Nat) : Int) + 1 = ((la : Nat) : Int) := by omega
      rw [e2, efi']
      all_goals rfl
  obtain ⟨rfl, rfl⟩ := hp
  have nb1 : NB m 70 ((PA.take at_).drop fi) := hNB.sub fun q hq => List.mem_of_mem_take (List.mem_of_mem_drop hq)
  have nb2 : NB m 70 ((PA.take la).drop (at_ + 1)) := hNB.sub fun q hq => List.mem_of_mem_take (List.mem_of_mem_drop hq)
  have m1 := mid_len (PA := PA) (a := fi) (b := at_)
  have m2 := mid_len (PA := PA) (a := at_ + 1) (b := la)
  have m3 := mid_len (PA := PA) (a := fi) (b := la)
  have r1 := nb1.rows
  have r2 := nb2.rows
  have k1 : (rowsAt m ((PA.take at_).drop fi)).length ≤ 70 := Nat.le_trans r1.1 (Nat.le_trans (Nat.mul_le_mul_right 70 (Nat.le_trans m1 lf2)) (by decide))
  have k2 : (rowsAt m ((PA.take la).drop (at_ + 1))).length ≤ 70 := Nat.le_trans r2.1 (Nat.le_trans (Nat.mul_le_mul_right 70 (Nat.le_trans m2 lf3)) (by decide))
  wtm_at "go"
  refine hC.ob.blocks T.cl_Change T.n_Change__blocks ?_
  wtm_at "go"
  refine g_slA hA fun p1 H1 s1 e1 => ?_
  rw [cut_mid] at e1
  wtm_at "go"
  refine ⟨b, p1, m, _, _, rfl, hC.bl.dd.go s1, .inr e1, dpAll_mid (DpAll.go s1 hdA) fi at_, nb1.int, by omega, fun p2 ys2 H2 n2 s2 e2 d2 => ?_⟩
  rw [nb1.lsD] at d2
  wtm_at "go"
  refine ⟨p2, ys2, _, rfl, SqL.of e2, d2, by rw [NB.row]; omega, fun p3 ys3 H3 n3 s3 e3 d3 => ?_⟩
  rw [NB.row] at d3
  have s03 := s1.trans (s2.trans s3)
  wtm_at "go"
  refine (hC.ob.go s03).blocks T.cl_Change T.n_Change__blocks ?_
  wtm_at "go"
  have ea1 : ((at_ : Nat) : Int) + 1 = ((at_ + 1 : Nat) : Int) := by omega
  rw [ea1]
  refine g_slA (Same.seqT s03 hA) fun p4 H4 s4 e4 => ?_
  rw [cut_mid] at e4
  have s04 := s03.trans s4
  wtm_at "go"
  refine ⟨b, p4, m, _, _, rfl, hC.bl.dd.go s04, .inr e4, dpAll_mid (DpAll.go s04 hdA) (at_ + 1) la, nb2.int, by omega, fun p5 ys5 H5 n5 s5 e5 d5 => ?_⟩
  rw [nb2.lsD] at d5
  wtm_at "go"
  refine ⟨p5, ys5, _, rfl, SqL.of e5, d5, by rw [NB.row]; omega, fun p6 ys6 H6 n6 s6 e6 d6 => ?_⟩
  rw [NB.row] at d6
  have s36 := s4.trans (s5.trans s6)
  have s06 := s03.trans s36
  wtm_at "go"
  refine g_slA (Same.seqT s06 hA) fun p7 H7 s7 e7 => ?_
  rw [cut_mid] at e7
  have s07 := s06.trans s7
  have d7 := dpAll_mid (DpAll.go s07 hdA) fi la
  have l7 := dpAll_len d7
  unfold rowD at l7
  rw [List.length_map] at l7
  wtm_at "go"
  refine g_wTk e7 ?_
  refine g_lcDW (K := K) walk_tup (fun i => (numsT ((((PA.take la).drop fi)).take i)).map PyData.int) (by omega) (fun H' s => Same.seqT s e7) rfl (fun i _ => strictAll_iff.mpr fun y hy => ?_) (fun i _ => ?_) (fun i x H8 H9 QN QE hi s8 hy kn ke => ?_) (fun p9 ys9 H9 n9 s9 e9 d9 => ?_)
  · obtain ⟨t, _, rfl⟩ := List.mem_map.mp hy
    rfl
  · rw [List.length_map, numsT_len, List.length_take]
    omega
  · obtain ⟨rfl, hxi⟩ := hy
    obtain ⟨pr, hpr, hpx⟩ := dpAll_at' (f := pairD) d7 hxi
    have et : ((PA.take la).drop fi).take (i + 1) = ((PA.take la).drop fi).take i ++ [pr] := by rw [List.take_add_one, hpr]; rfl
    obtain ⟨ta, y, rfl, ht, hy⟩ := dp_pair hpx
    obtain ⟨n, bb, en, _⟩ := hNB pr (List.mem_of_mem_take (List.mem_of_mem_drop (List.mem_of_getElem? hpr)))
    rw [en] at hy
    cases dp_i hy
    refine g_gtup (Same.seqT s8 ht) rfl ?_
    refine g_gcons (g_name (g_gcons (g_name (g_gnil ⟨rfl, ?_⟩))))
    refine g_yes (g_var rfl (ke _ (.int n) _ ?_ (L2.Same.refl _) (.int n)))
    rw [et, numsT_app, List.map_append]
    show _ ++ [PyData.int (numD pr.2)] = _
    rw [en]
    rfl
  rw [l7, List.take_length] at d9
  have eN := dpAll_ints d9
  subst eN
  have s09 := s07.trans s9
  wtm_at "go"
  refine g_slA (Same.seqT s09 hA) fun p10 H10 s10 e10 => ?_
  rw [cut_to] at e10
  have s010 := s09.trans s10
  wtm_at "go"
  refine g_list (seq_t e10) fun p11 H11 n11 s11 e11 => ?_
  have s011 := s010.trans s11
  wtm_at "go"
  refine hC.ob.go s011 |>.meth (by decide +kernel) (by decide +kernel) (by decide +kernel) (by decide +kernel) ?_
  have s311 := s36.trans (s7.trans (s9.trans (s10.trans s11)))
  have s611 := s7.trans (s9.trans (s10.trans s11))
  have l3 := dpAll_len d3
  unfold rowD at l3
  rw [List.length_map] at l3
  have l6 := dpAll_len d6
  unfold rowD at l6
  rw [List.length_map] at l6
  wtm_at "go"
  refine g_cat (s311 _ _ e3) (s011 _ _ hx) (by omega) fun p12 H12 n12 s12 e12 => ?_
  wtm_at "go"
  refine g_cat e12 (s12 _ _ (s611 _ _ e6)) (by rw [List.length_append]; omega) fun p13 H13 n13 s13 e13 => ?_
  have s1113 := s12.trans s13
  have s013 := s011.trans s1113
  have dmid : DpAll K H13 ((ys3 ++ xs) ++ ys6) (rowD (midP m w PA key P)) := by
    rw [emid]
    unfold rowD
    rw [List.map_append, List.map_append]
    exact dpAll_app (dpAll_app (DpAll.go (s311.trans s1113) d3) (DpAll.go s013 hd)) (DpAll.go (s611.trans s1113) d6)
  have smm : smP (midP m w PA key P) := by
    rw [emid]
    exact smP_app.mpr ⟨smP_app.mpr ⟨r1.2, sm⟩, r2.2⟩
  have lmid : (midP m w PA key P).length ≤ 1000 := by
    rw [emid, List.length_append, List.length_append]
    omega
  wtm_at "go"
  refine ⟨p, b, a, w, m, c, lf, p13, p9, _, _, _, rfl, hC.go s013, SqL.of e13, dmid, smm, (s10.trans (s11.trans s1113)) _ _ e9, hw, lmid, by rw [numsT_len]; omega, hcl, fun q14 ys14 H14 n14 o14 e14 d14 hC14 => ?_⟩
  have hC13 := hC.go s013
  have e11' := hC13.lst o14 (s1113 _ _ e11)
  have l14 := dpAll_len d14
  unfold rowD at l14
  rw [List.length_map] at l14
  have l14b := (fillP_len (m := m) (w := w) (lf := lf) (P := midP m w PA key P) (N := numsT ((PA.take la).drop fi)) (c := c)).2
  wtm_at "go"
  refine g_cat e11' e14 (by rw [List.length_take]; omega) fun p15 H15 n15 s15 e15 => ?_
  have f15 : Fx H H15 := (Fx.of s013).trans ((hC13.fx o14).trans (Fx.of s15))
  wtm_at "go"
  refine g_slA (SqT.fx f15 hA) fun p16 H16 s16 e16 => ?_
  rw [cut_from] at e16
  wtm_at "go"
  refine g_list (seq_t e16) fun p17 H17 n17 s17 e17 => ?_
  have s1517 := s16.trans s17
  wtm_at "go"
  refine g_cat (s1517 _ _ e15) e17 (by rw [List.length_append, List.length_take, List.length_drop]; omega) fun p18 H18 n18 s18 e18 => ?_
  have s1418 := s15.trans (s1517.trans s18)
  have hC18 := hC14.go s1418
  have o18 : Oth2 p a H H18 := (Oth2.of s013).trans (o14.trans (Oth2.of s1418))
  have o17 : Oth2 p a H H17 := (Oth2.of s013).trans (o14.trans (Oth2.of (s15.trans s1517)))
  refine q p18 _ H18 ((hC14.go (s15.trans s1517)).free o17 n18) o18 e18 ?_ hC18
  have f18 : Fx H H18 := f15.trans (Fx.of (s1517.trans s18))
  have dA18 : DpAll K H18 zs (rowD PA) := DpAll.fx f18 smA.strict hdA
  unfold rowD
  rw [List.map_append, List.map_append, List.map_take, List.map_drop]
  exact dpAll_app (dpAll_app (dpAll_take _ dA18) (DpAll.go s1418 d14)) (dpAll_drop _ dA18)
theorem ok_Change_fill_root (T : Tx K mg) : FnOk P w K mg base CX0 3 T.a_Change_fill_root T.d_Change_fill_root ["self", "word", "row"] (sp_Change_fill_root K T.C_Change) := by
  refine T.F_Change_fill_root.ok sc_Change_fill_root (fun vs H Q E h => ?_) (fun cdv A outer s H vs Q E hr h => ?_)
  · obtain ⟨p, b, a, w, m, c, lf, r, xs, P, rfl, _⟩ := h
    rfl
  obtain ⟨p, b, a, w, m, c, lf, r, xs, P, rfl, hC, hx, hd, sm, hP, hw, hcl, hone, q⟩ := h
  refine ⟨_, (Evl.pss_cut (ps_if (pt_cmpR op_gt (pe_callB my_len (by rfl) T.z_len PySem.boot_len (pa_cons (pv 2) pa_nil)) (pe_fld (pv 0) rfl) (nomark _))
      (pss_cons (ps_set (i := 2) sc_Change_fill_root.nd rfl (Or.inl rfl) (pe_meth (pv 0) T.cl_Change T.m_Change_fill (ok_Change_fill T) hr T.b_Change_fill .nil pass0 (pa_cons (pv 1) (pa_cons (pv 2) (pa_cons (pe_lst pa_nil) pa_nil)))))
      (pss_one (ps_set (i := 1) sc_Change_fill_root.nd rfl (Or.inl rfl) pe_str)))
      pss_nil)
    (pss_cons (ps_while PassesOwn.never (pw_and (pt_cmpR op_eq (pv 1) pe_str (nomark _)) (pw_and1 (pt_cmpR op_eq (pe_callB my_len (by rfl) T.z_len PySem.boot_len (pa_cons (pv 2) pa_nil)) pe_int (nomark _)))).pt
      (pss_cons (ps_set (i := 3) sc_Change_fill_root.nd rfl (Or.inl rfl) (pe_ix ix_tup (pe_ix ix_list (pv 2) pe_int (fun _ _ => rfl)) pe_int (fun _ _ => rfl)))
      (pss_cons (ps_asg (pe_dget2 (hu_of hr) (pe_fld (pv 0) rfl) (pv 3) (pe_dget1 (hu_of hr) (pe_fld (pv 0) rfl) (pv 3) ⟨rfl, rfl, rfl, rfl⟩) ⟨rfl, rfl, rfl, rfl⟩) (pg_tup rfl (pgs_cons (pg_name (i := 1) sc_Change_fill_root.nd rfl (Or.inl rfl)) (pgs_cons (pg_name (i := 2) sc_Change_fill_root.nd rfl (Or.inl rfl)) pgs_nil))))
      (pss_one (ps_dput (hu_of hr) (pe_fld (pv 0) rfl) (pv 3) pe_non rfl)))))
    (pss_one (ps_dput (hu_of hr) (pe_fld (pv 0) rfl) pe_int (pe_tup (pa_cons (pv 1) (pa_cons (pe_callTy my_tupF (by rfl) T.z_tuple (by decide +kernel) (pa_cons (pv 2) pa_nil)) pa_nil))) rfl)))), ?_⟩
  have lx := dpAll_len hd
  unfold rowD at lx
  rw [List.length_map] at lx
  -- what stands ahead of the while: a word, a row, a table; then what rootP tells
  refine g_cut (fun σ' H' => ∃ (lf' : Bool) (r' : Addr) (xs' : List V) (P' : PL) (c' : Ch), σ' = [some (.ref p), some (.str (wordT lf')), some (.ref r'), none] ∧ Oth2 p a H H' ∧ CS K T.C_Change H' p b a w m c' ∧ H' r' = some (.lst xs') ∧ DpAll K H' xs' (rowD P') ∧ smP P' ∧ P'.length ≤ 100 ∧ c'.after.length ≤ 81000 ∧
      ((¬ (lf' = false ∧ P'.length = 1) ∧ rootP m w lf P c = ⟨putA c'.after 0 (TB.mk lf' P').D, c'.newest⟩) ∨
        ∃ (k n : Int) (bl : TB), lf' = false ∧ P' = [(k, .int n)] ∧ nowD m c' n = bl.D ∧ (bl.lf = true ∨ bl.ps.length ≠ 1) ∧ smP bl.ps ∧ rootP m w lf P c = ⟨putA (putA c'.after n .none) 0 bl.D, c'.newest⟩)) ?_ (fun σ' H' hp => ?_)
  · wtm_at "go"
    refine hC.ob.width T.cl_Change T.n_Change__width ?_
    wtm_at "go"
    rw [lx]
    refine g_br (fun cc => ?_) (fun cc => ?_)
    · have cc' : w < (P.length : Int) := of_decide_eq_true cc
      have er : rootP m w lf P c = ⟨putA (fillP m w lf P [] c).2.after 0 (TB.mk false (fillP m w lf P [] c).1).D, (fillP m w lf P [] c).2.newest⟩ := by
        unfold rootP
        rw [if_pos cc']
      wtm_at "go"
      refine hC.ob.meth (by decide +kernel) (by decide +kernel) (by decide +kernel) (by decide +kernel) ?_
      wtm_at "go"
      refine g_lstK (by wtm_at "ln") fun l1 H1 n1 s1 e1 => ?_
      wtm_at "go"
      refine ⟨p, b, a, w, m, c, lf, r, l1, xs, P, [], rfl, hC.go s1, SqL.of (s1 _ _ hx), DpAll.go s1 hd, sm, e1, hw, by omega, by simp, hcl, fun q2 ys2 H2 n2 o2 e2 d2 hC2 => ?_⟩
      obtain ⟨l2, l3⟩ := fillP_len (m := m) (w := w) (lf := lf) (P := P) (N := []) (c := c)
      rw [List.length_nil] at l2
      wtm_at "go"
      refine ⟨false, q2, ys2, _, _, rfl, (Oth2.of s1).trans o2, hC2, e2, d2, fillP_sm, by omega, by omega, .inl ⟨fun z => ?_, er⟩⟩
      have h2 := z.2
      have : (fillP m w lf P [] c).1.length = 2 := fillP_two hw cc'
      omega
    · have cc' : ¬ w < (P.length : Int) := of_decide_eq_false cc
      wtm_at "go"
      by_cases one : lf = false ∧ P.length = 1
      · obtain ⟨k, n, bl, eP, en, h1, h2⟩ := hone one.1 one.2
        refine ⟨lf, r, xs, P, c, rfl, Oth2.refl, hC, hx, hd, sm, hP, by omega, .inr ⟨k, n, bl, one.1, eP, en, h1, h2, ?_⟩⟩
        unfold rootP
        rw [if_neg cc', if_pos one]
        dsimp only
        have e1 : numD (P.getD 0 (0, .none)).2 = n := by rw [eP]; rfl
        rw [e1, en, toTB_D]
      · refine ⟨lf, r, xs, P, c, rfl, Oth2.refl, hC, hx, hd, sm, hP, by omega, .inl ⟨one, ?_⟩⟩
        unfold rootP
        rw [if_neg cc', if_neg one]
  obtain ⟨lf', r', xs', P', c', rfl, o1, hC1, hx1, hd1, sm1, hP1, hc1, hcase⟩ := hp
  have lx1 := dpAll_len hd1
  unfold rowD at lx1
  rw [List.length_map] at lx1
  obtain ⟨f0, hf0⟩ : ∃ f0 : Nat, (f0 = 0 ∧ ¬ (lf' = false ∧ P'.length = 1) ∧ rootP m w lf P c = ⟨putA c'.after 0 (TB.mk lf' P').D, c'.newest⟩) ∨ (f0 = 1 ∧ ∃ (k n : Int) (bl : TB), lf' = false ∧ P' = [(k, .int n)] ∧ nowD m c' n = bl.D ∧ (bl.lf = true ∨ bl.ps.length ≠ 1) ∧ smP bl.ps ∧ rootP m w lf P c = ⟨putA (putA c'.after n .none) 0 bl.D, c'.newest⟩) := by
    rcases hcase with h | h
    · exact ⟨0, .inl ⟨rfl, h⟩⟩
    · exact ⟨1, .inr ⟨rfl, h⟩⟩
  wtm_at "go"
  refine g_while (fun f σ' H'' => ∃ (lf2 : Bool) (r2 : Addr) (ys : List V) (P2 : PL) (c2 : Ch) (o4 : Option V), σ' = [some (.ref p), some (.str (wordT lf2)), some (.ref r2), o4] ∧ Oth2 p a H H'' ∧ CS K T.C_Change H'' p b a w m c2 ∧ (SqL K H'' r2 ys ∨ PlX H'' r2 ys) ∧ DpAll K H'' ys (rowD P2) ∧ smP P2 ∧ c2.after.length + f ≤ 81001 ∧ (f = 1 → SqL K H'' r2 ys) ∧
      ((f = 0 ∧ ¬ (lf2 = false ∧ P2.length = 1) ∧ rootP m w lf P c = ⟨putA c2.after 0 (TB.mk lf2 P2).D, c2.newest⟩) ∨
        (f = 1 ∧ ∃ (k n : Int) (bl : TB), lf2 = false ∧ P2 = [(k, .int n)] ∧ nowD m c2 n = bl.D ∧ (bl.lf = true ∨ bl.ps.length ≠ 1) ∧ smP bl.ps ∧ rootP m w lf P c = ⟨putA (putA c2.after n .none) 0 bl.D, c2.newest⟩)))
    f0 ⟨lf', r', xs', P', c', none, rfl, o1, hC1, Or.inl (SqL.of hx1), hd1, sm1, by omega, fun _ => SqL.of hx1, hf0⟩ (fun f σ' H'' hp => ?_)
  obtain ⟨lf2, r2, ys, P2, c2, o4, rfl, o2, hC2, hx2, hd2, sm2, hc2, hsl, hcs⟩ := hp
  have ly := dpAll_len hd2
  unfold rowD at ly
  rw [List.length_map] at ly
  have hx2' : SqL K H'' r2 ys ∨ SqT K H'' r2 ys := hx2.elim .inl fun h => .inr h.seqT
  have eT : (decide (V.str (wordT lf2) = V.str (Str.ofString "branch")) && decide (V.int (ys.length : Int) = V.int 1)) = decide (lf2 = false ∧ P2.length = 1) := by
    have e1 : decide (V.str (wordT lf2) = V.str (Str.ofString "branch")) = decide (lf2 = false) := by cases lf2 <;> decide +kernel
    have e2 : decide (V.int (ys.length : Int) = V.int 1) = decide (P2.length = 1) := decide_eq_decide.mpr ⟨fun z => by have := V.int.inj z; omega, fun z => by congr 1; omega⟩
    rw [e1, e2, ← Bool.decide_and]
  wtm_at "go"
  refine g_andTJ (b := decide (V.int (ys.length : Int) = V.int 1)) (fun _ QB h => by wtm_at "go"; exact h) ?_
  rw [eT]
  rcases hcs with ⟨hf, hno, er⟩ | ⟨hf, k, n, bl, el, eP, en, hb, hs, er⟩
  · rw [decide_eq_false hno]
    refine g_whF ?_
    wtm_at "go"
    refine g_tupFO hx2 fun p3 H3 s3 e3 => ?_
    wtm_at "go"
    refine g_tupK (by wtm_at "ln") fun p4 H4 n4 s4 e4 => ?_
    wtm_at "go"
    have s34 := s3.trans s4
    have hC4 := hC2.go s34
    refine hC4.ob.after T.cl_Change T.n_Change__after ?_
    wtm_at "go"
    have dblk : PlW K H4 (.ref p4) (TB.mk lf2 P2).D := .blk (SqT.of e4) (e3.fx (Fx.of s4)) (DpAll.go s34 hd2)
    refine g_rDPutP hC4.af dblk (by omega) fun H5 o5 d5 => ?_
    wtm_at "go"
    refine q H5 (o2.trans ((Oth2.of s34).trans (Oth2.rt o5))) ?_
    rw [er]
    exact hC4.put o5 d5 (okD_D sm2)
  · subst eP
    rw [decide_eq_true (p := lf2 = false ∧ [(k, PyData.int n)].length = 1) ⟨el, rfl⟩]
    refine g_whT ?_
    cases hd2 with
    | cons h1 h2 =>
    obtain ⟨ta, y, rfl, ht, hy⟩ := dp_pair h1
    cases dp_i hy
    have hsl' := hsl hf
    wtm_at "go"
    refine g_ixL hsl' (atI_nat (j := 0) rfl) ?_
    wtm_at "go"
    refine g_ixT ht (atI_nat (j := 1) rfl) ?_
    wtm_at "go"
    refine g_dget2 ?_
    refine g_tFld ?_
    refine g_var rfl ?_
    refine hC2.ob.after T.cl_Change T.n_Change__after ?_
    have en' : (getA c2.after n).getD (optD (getA m n)) = bl.D := by
      rw [← en]
      unfold nowD
      cases getA c2.after n <;> rfl
    refine g_rDGet2P (m' := m) hC2.af (fun R r => g_var rfl r) (fun R r => ?_) (fun v hvv => ?_)
    · refine g_dget1 ?_
      refine g_tFld ?_
      refine g_var rfl ?_
      refine hC2.ob.blocks T.cl_Change T.n_Change__blocks ?_
      exact g_rDGet1P hC2.bl (fun R r => g_var rfl r) r
    rw [en'] at hvv
    obtain ⟨tb, tp, zs, rfl, k1, k2, k3⟩ := hvv.at
    have lz := dpAll_len k3
    unfold rowD at lz
    rw [List.length_map] at lz
    refine g_gtup k1 rfl ?_
    wtm_at "go"
    refine hC2.ob.after T.cl_Change T.n_Change__after ?_
    wtm_at "go"
    refine g_rDPutP hC2.af .non (by omega) fun H5 o5 d5 => ?_
    have hC5 := hC2.put o5 d5 ⟨rfl, by simp [PyData.depth]⟩
    have f5 := hC2.fx (Oth2.rt o5)
    wtm_at "go"
    have l5 := putA_len (a := c2.after) (k := n) (v := .none)
    exact ⟨0, by omega, bl.lf, tp, zs, bl.ps, _, _, rfl, o2.trans (Oth2.rt o5), hC5, Or.inr (k2.fx f5), DpAll.fx f5 hs.strict k3, hs, by dsimp only; omega, fun z => (nomatch z), .inl ⟨rfl, fun z => by
      rcases hb with hb | hb
      · rw [hb] at z; exact nomatch z.1
      · exact hb z.2, er⟩⟩
theorem ok_Change_hold (T : Tx K mg) : FnOk P w K mg base CX0 4 T.a_Change_hold T.d_Change_hold ["self", "key", "held"] (sp_Change_hold K T.C_Change) := by
  refine T.F_Change_hold.ok sc_Change_hold (fun vs H Q E h => ?_) (fun cdv A outer s H vs Q E hr h => ?_)
  · obtain ⟨p, b, a, w, m, PP, d, R, key, h, xs, held, rfl, _⟩ := h
    rfl
  obtain ⟨p, b, a, w, m, PP, d, R, key, h, xs, held, rfl, hC, hT, hh, hhd, sh, hl, hw, hw2, hPP, q⟩ := h
  refine ⟨_, (pss_cons (ps_set (i := 3) sc_Change_hold.nd rfl (Or.inl rfl) (pe_call (ok_way T) (hr.mono (by decide)) (by rfl) T.g_way T.F_way.kp T.b_way .nil pass0 (pa_cons (pe_fld (pv 0) rfl) (pa_cons (pv 1) pa_nil))))
    (pss_cons (ps_set (i := 4) sc_Change_hold.nd rfl (Or.inl rfl) (pe_ix ix_tup (pe_dget (hu_of hr) (pe_fld (pv 0) rfl) (pe_bm0 PySem.F.plainAttrs_list PySem.F.slot_list_pop PySem.F.type_list_pop mt_pop (pv 3)) (fun _ _ => rfl)) pe_int (fun _ _ => rfl)))
    (pss_cons (ps_set (i := 5) sc_Change_hold.nd rfl (Or.inl rfl) (pe_op op_cat (pe_op op_cat (pe_lc (own := [("pair", 6)]) (g := gName 6) rfl sc_Change_hold.nd (pi_tup (pv 4)) (blkOk_by (own := [("pair", 6)]) (N := N_Change_hold) (sc := defScope s_Change_hold) (by decide +kernel)) (fun _ _ _ _ _ => (pg_name (i := 6) sc_Change_hold.nd rfl (Or.inl rfl))) (fun _ _ _ _ _ => (pts_one (pt_cmpR op_lt (pe_ix (ixTK (K := K) rfl) (pv 6) pe_int (fun _ _ => rfl)) (pv 1) (nomark _)))) (fun _ _ _ _ _ => (pv 6))) (pv 2)) (pe_lc (own := [("pair", 6)]) (g := gName 6) rfl sc_Change_hold.nd (pi_tup (pv 4)) (blkOk_by (own := [("pair", 6)]) (N := N_Change_hold) (sc := defScope s_Change_hold) (by decide +kernel)) (fun _ _ _ _ _ => (pg_name (i := 6) sc_Change_hold.nd rfl (Or.inl rfl))) (fun _ _ _ _ _ => (pts_one (pt_cmpR op_gt (pe_ix (ixTK (K := K) rfl) (pv 6) pe_int (fun _ _ => rfl)) (pv 1) (nomark _)))) (fun _ _ _ _ _ => (pv 6)))))
    (pss_cons (ps_set (i := 7) sc_Change_hold.nd rfl (Or.inl rfl) pe_str)
    (pss_cons (ps_for PassesOwn.never rfl (pi_reversed (by rfl) T.z_reversed (pa_cons (pv 3) pa_nil)) (pg_name (i := 8) sc_Change_hold.nd rfl (Or.inl rfl))
      (pss_cons (ps_set (i := 9) sc_Change_hold.nd rfl (Or.inl rfl) (pe_ix ix_tup (pe_dget (hu_of hr) (pe_fld (pv 0) rfl) (pv 8) (fun _ _ => rfl)) pe_int (fun _ _ => rfl)))
      (pss_cons (ps_set (i := 5) sc_Change_hold.nd rfl (Or.inl rfl) (pe_meth (pv 0) T.cl_Change T.m_Change_fill_below (ok_Change_fill_below T) hr T.b_Change_fill_below .nil pass0 (pa_cons (pv 9) (pa_cons (pv 1) (pa_cons (pv 7) (pa_cons (pv 5) pa_nil))))))
      (pss_cons (ps_if (pt_cmpR (op_eqD hr.units) (pe_callTy my_tuple (by rfl) T.z_tuple (by decide +kernel) (pa_cons (pv 5) pa_nil)) (pv 9) (nomark _))
        (pss_one ps_retN)
        pss_nil)
      (pss_one (ps_set (i := 7) sc_Change_hold.nd rfl (Or.inl rfl) pe_str))))))
    (pss_one (ps_expr (pe_meth (pv 0) T.cl_Change T.m_Change_fill_root (ok_Change_fill_root T) hr T.b_Change_fill_root .nil pass0 (pa_cons (pv 7) (pa_cons (pv 5) pa_nil)))))))))), ?_⟩
  have hdeep := hT.deep hw
  have X := hT.at
  have lh := dpAll_len hhd
  unfold rowD at lh
  rw [List.length_map] at lh
  have nd := hC.okm.1
  obtain ⟨W, eW⟩ : ∃ W, W = (0 :: wayP m key d (contR d R)) := ⟨_, rfl⟩
  have lW : W.length = d + 1 := by rw [eW, List.length_cons, way_len]
  have path := fun j i (e : j + i = d) => X.path (key := key) hw j i e
  rw [← eW] at path
  have ePs : contR d R = psAt m 0 := X.ps.symm
  have eLeaf : leafP m key d (contR d R) = psAt m (W.getD d 0) := by rw [eW]; exact leaf_last ePs
  have eRev : revN m key d 0 (contR d R) = W.dropLast.reverse := by rw [eW]; exact revN_way.symm
  obtain ⟨nl, Rl, hnl, Xl, _⟩ := path d 0 (by omega)
  have eWl : W = W.dropLast ++ [nl] := by
    have hne : W ≠ [] := fun z => by rw [z] at lW; cases lW
    have e1 := List.dropLast_concat_getLast hne
    have e2 : W.getLast hne = nl := by
      rw [List.getLast_eq_getElem]
      have := (List.getElem?_eq_some_iff.mp hnl).2
      have e3 : W.length - 1 = d := by omega
      simp only [e3]
      exact this
    rw [e2] at e1
    exact e1.symm
  have eLeaf2 : leafP m key d (contR d R) = contR 0 Rl := by
    rw [eLeaf, List.getD_eq_getElem?_getD, hnl, ← Xl.ps]
    rfl
  obtain ⟨V0, eV0⟩ : ∃ V0, V0 = W.dropLast := ⟨_, rfl⟩
  have lV : V0.length = d := by rw [eV0, List.length_dropLast, lW]; omega
  wtm_at "go"
  refine hC.ob.blocks T.cl_Change T.n_Change__blocks ?_
  wtm_at "go"
  refine ⟨b, m, key, w, d, R, rfl, hC.bl.dd, X, hw, by omega, by omega, fun p1 H1 n1 s1 e1 => ?_⟩
  rw [← eW, eWl, ← eV0, List.map_append] at e1
  have hC1 := hC.go s1
  wtm_at "go"
  refine hC1.ob.blocks T.cl_Change T.n_Change__blocks ?_
  wtm_at "go"
  refine g_tyL e1 ?_
  refine g_popO e1 fun H2 o2 e2 => ?_
  have hC2 := hC1.oL e1 o2
  have s02 : Same H H2 := o2.same s1 n1
  wtm_at "go"
  refine g_rDGet hC2.bl.dd Xl.root fun v0 hv0 => ?_
  obtain ⟨tb, tp, ys, rfl, k1, k2, k3⟩ := dp_blk hv0
  have k3 : DpAll K H2 ys (rowD (contR 0 Rl)) := k3
  have ly := dpAll_len k3
  unfold rowD at ly
  rw [List.length_map] at ly
  have hlen := Xl.len hw2
  have smc := Xl.inn.smc
  wtm_at "go"
  refine g_ixT k1 (atI_nat (j := 1) rfl) ?_
  wtm_at "go"
  refine g_wTk k2 ?_
  refine g_lcDW (K := K) walk_tup (fun i => rowD (((contR 0 Rl).take i).filter fun y => decide (y.1 < key))) (by omega) (fun H' s => Same.seqT s k2) rfl (fun i _ => smP.strict fun y hy => smc y (List.mem_of_mem_take (List.mem_filter.mp hy).1)) (fun i _ => ?_) (fun i x H3 H4 QN QE hi s3 hy kn ke => ?_) (fun p3 ys3 H3 n3 s3 e3 d3 => ?_)
  · unfold rowD
    rw [List.length_map]
    refine Nat.le_trans (List.length_filter_le ..) ?_
    rw [List.length_take]
    omega
  · obtain ⟨rfl, hxi⟩ := hy
    obtain ⟨pr, hpr, hpx⟩ := dpAll_at' (f := pairD) k3 hxi
    have et : (contR 0 Rl).take (i + 1) = (contR 0 Rl).take i ++ [pr] := by rw [List.take_add_one, hpr]; rfl
    obtain ⟨ta, y, rfl, ht, hy⟩ := dp_pair hpx
    refine g_name ⟨rfl, ?_⟩
    wtm_at "go"
    refine g_ixT (Same.seqT s3 ht) (atI_nat (j := 0) rfl) ?_
    wtm_at "go"
    by_cases c : pr.1 < key
    · rw [decide_eq_true c]
      refine iteT (g_var rfl (ke _ (pairD pr) _ ?_ (L2.Same.refl _) (Dp.go s3 hpx)))
      rw [et, List.filter_append, List.filter_cons, if_pos (decide_eq_true c)]
      unfold rowD
      rw [List.map_append]
      rfl
    · rw [decide_eq_false c]
      refine iteF (kn ?_ _ (L2.Same.refl _))
      rw [et, List.filter_append, List.filter_cons, if_neg (by simpa using c)]
      simp
  rw [ly, List.take_length] at d3
  have l3 := dpAll_len d3
  unfold rowD at l3
  rw [List.length_map] at l3
  have l3' := List.length_filter_le (fun y : Int × PyData => decide (y.1 < key)) (contR 0 Rl)
  wtm_at "go"
  refine g_cat e3 ((s02.trans s3) _ _ hh) (by omega) fun p4 H4 n4 s4 e4 => ?_
  have s34 := s3.trans s4
  have k24 := Same.seqT s34 k2
  have k34 := DpAll.go s34 k3
  wtm_at "go"
  refine g_wTk k24 ?_
  refine g_lcDW (K := K) walk_tup (fun i => rowD (((contR 0 Rl).take i).filter fun y => decide (y.1 > key))) (by omega) (fun H' s => Same.seqT s k24) rfl (fun i _ => smP.strict fun y hy => smc y (List.mem_of_mem_take (List.mem_filter.mp hy).1)) (fun i _ => ?_) (fun i x H5 H6 QN QE hi s5 hy kn ke => ?_) (fun p5 ys5 H5 n5 s5 e5 d5 => ?_)
  · unfold rowD
    rw [List.length_map]
    refine Nat.le_trans (List.length_filter_le ..) ?_
    rw [List.length_take]
    omega
  · obtain ⟨rfl, hxi⟩ := hy
    obtain ⟨pr, hpr, hpx⟩ := dpAll_at' (f := pairD) k34 hxi
    have et : (contR 0 Rl).take (i + 1) = (contR 0 Rl).take i ++ [pr] := by rw [List.take_add_one, hpr]; rfl
    obtain ⟨ta, y, rfl, ht, hy⟩ := dp_pair hpx
    refine g_name ⟨rfl, ?_⟩
    wtm_at "go"
    refine g_ixT (Same.seqT s5 ht) (atI_nat (j := 0) rfl) ?_
    wtm_at "go"
    by_cases c : key < pr.1
    · rw [decide_eq_true c]
      refine iteT (g_var rfl (ke _ (pairD pr) _ ?_ (L2.Same.refl _) (Dp.go s5 hpx)))
      rw [et, List.filter_append, List.filter_cons, if_pos (decide_eq_true c)]
      unfold rowD
      rw [List.map_append]
      rfl
    · rw [decide_eq_false c]
      refine iteF (kn ?_ _ (L2.Same.refl _))
      rw [et, List.filter_append, List.filter_cons, if_neg (by simpa using c)]
      simp
  rw [ly, List.take_length] at d5
  have l5 := dpAll_len d5
  unfold rowD at l5
  rw [List.length_map] at l5
  have l5' := List.length_filter_le (fun y : Int × PyData => decide (y.1 > key)) (contR 0 Rl)
  wtm_at "go"
  refine g_cat (s5 _ _ e4) e5 (by rw [List.length_append]; omega) fun p6 H6 n6 s6 e6 => ?_
  have s06 := s02.trans (s34.trans (s5.trans s6))
  have s26 := s34.trans (s5.trans s6)
  have drow : DpAll K H6 ((ys3 ++ xs) ++ ys5) (rowD (holdP m w key held 0 (psAt m nl)).1) := by
    rw [Xl.ps]
    show DpAll K H6 _ (rowD (heldP (contR 0 Rl) key held))
    unfold heldP rowD
    rw [List.map_append, List.map_append]
    exact dpAll_app (dpAll_app (DpAll.go (s4.trans (s5.trans s6)) d3) (DpAll.go s06 hhd)) (DpAll.go s6 d5)
  obtain ⟨cf, ecf⟩ : ∃ cf, cf = reqC m w key held d (contR d R) := ⟨_, rfl⟩
  rw [← ecf] at q
  have ecf' : upP m w key (V0.reverse.drop 0) true (holdP m w key held 0 (psAt m nl)).1 (holdP m w key held 0 (psAt m nl)).2 = cf := by
    rw [ecf, List.drop_zero]
    unfold reqC
    rw [eRev, ← eV0, eLeaf2, Xl.ps]
    rfl
  wtm_at "go"
  refine g_forVk (xs := V0.map V.int) (fun i σ' H' => ∃ (n : Int) (Rn : List (Item i)) (r : Addr) (xr : List V) (o8 o9 : Option V), σ' = [some (.ref p), some (.int key), some (.ref h), some (.ref p1), some (.ref tp), some (.ref r), none, some (.str (wordT (decide (i = 0)))), o8, o9] ∧ W[d - i]? = some n ∧ AT m w i n Rn ∧ Oth2 p a H6 H' ∧
      CS K T.C_Change H' p b a w m (holdP m w key held i (psAt m n)).2 ∧ H' r = some (.lst xr) ∧ DpAll K H' xr (rowD (holdP m w key held i (psAt m n)).1) ∧ upP m w key (V0.reverse.drop i) (decide (i = 0)) (holdP m w key held i (psAt m n)).1 (holdP m w key held i (psAt m n)).2 = cf)
    (SqL.of (s26 _ _ e2)) ⟨nl, Rl, p6, _, none, none, rfl, hnl, Xl, Oth2.refl, hC2.go s26, e6, drow, ecf'⟩ (fun i σ' H' _ hp => ?_) (fun i x σ' H' hi hxi hp => ?_) (fun σ' H' hp => ?_)
  · obtain ⟨n, Rn, r, xr, o8, o9, rfl, _, _, o, _⟩ := hp
    exact (hC2.go s26).seqL o (SqL.of (s26 _ _ e2))
  · obtain ⟨n, Rn, r, xr, o8, o9, rfl, hWn, Xn, o7, hC7, e7, d7, eup⟩ := hp
    rw [List.length_map, lV] at hi hxi
    obtain ⟨na, Ra, hna, Xa, hch⟩ := path (d - 1 - i) (i + 1) (by omega)
    have en : n = childN key (psAt m na) := by
      have := hch i rfl
      rw [show d - 1 - i + 1 = d - i by omega, hWn] at this
      exact Option.some.inj this
    have hV : V0[d - 1 - i]? = some na := by
      rw [eWl, ← eV0, List.getElem?_append_left (by omega)] at hna
      exact hna
    rw [List.getElem?_map, hV] at hxi
    cases Option.some.inj hxi
    have hs := holdP_succ (m := m) (w := w) (key := key) (held := held) (i := i) en
    obtain ⟨c, ec⟩ : ∃ c, c = (holdP m w key held i (psAt m n)).2 := ⟨_, rfl⟩
    obtain ⟨row, erow⟩ : ∃ row, row = (holdP m w key held i (psAt m n)).1 := ⟨_, rfl⟩
    have hrow := Xn.row (key := key) (held := held) hw hw2 nd sh hl
    have hcl := holdP_len (m := m) (w := w) (key := key) (held := held) (d := i) (ps := psAt m n)
    rw [← erow] at hrow d7 hs eup
    rw [← ec] at hC7 hs eup hcl
    wtm_at "go"
    refine hC7.ob.blocks T.cl_Change T.n_Change__blocks ?_
    wtm_at "go"
    refine g_rDGet hC7.bl.dd Xa.root fun v1 hv1 => ?_
    obtain ⟨tc, tq, zs, rfl, j1, j2, j3⟩ := dp_blk hv1
    have j3 : DpAll K H' zs (rowD (contR (i + 1) Ra)) := j3
    wtm_at "go"
    refine g_ixT j1 (atI_nat (j := 1) rfl) ?_
    wtm_at "go"
    refine hC7.ob.meth (by decide +kernel) (by decide +kernel) (by decide +kernel) (by decide +kernel) ?_
    wtm_at "go"
    refine ⟨p, b, a, w, m, c, decide (i = 0), tq, r, key, zs, xr, contR (i + 1) Ra, row, rfl, hC7, j2, j3, Xa.inn.smc, Xa.rise hw, Xa.len hw2, Xa.nb hw2, e7, d7, hrow.1, hrow.2, hw, by omega, fun q8 ys8 H8 n8 o8' e8 d8 hC8 => ?_⟩
    rw [← Xa.ps, ← hs] at d8 hC8
    have f8 := hC7.fx o8'
    have j28 := SqT.fx f8 j2
    have j38 := DpAll.fx f8 Xa.inn.smc.strict j3
    wtm_at "go"
    refine g_tupleL (SqL.of e8) fun p9 H9 n9 s9 e9 => ?_
    have smn := (Xa.row (key := key) (held := held) hw hw2 nd sh hl).1
    wtm_at "go"
    refine g_eqD (d := .tuple (rowD (holdP m w key held (i + 1) (psAt m na)).1)) (e := .tuple (rowD (contR (i + 1) Ra))) (.tup (SqT.of e9) (DpAll.go s9 d8)) (.tup (Same.seqT s9 j28) (DpAll.go s9 j38)) (shaped_row smn) (shaped_row Xa.inn.smc) ?_
    have hdr : V0.reverse.drop i = na :: V0.reverse.drop (i + 1) := by
      have hi2 : i < V0.reverse.length := by rw [List.length_reverse]; omega
      rw [List.drop_eq_getElem_cons hi2]
      congr 1
      rw [List.getElem_reverse]
      have e3 : V0.length - 1 - i = d - 1 - i := by omega
      simp only [e3]
      exact (List.getElem?_eq_some_iff.mp hV).2
    rw [hdr] at eup
    have eqq : PyData.eqv (.tuple (rowD (holdP m w key held (i + 1) (psAt m na)).1)) (.tuple (rowD (contR (i + 1) Ra))) = true ↔ (holdP m w key held (i + 1) (psAt m na)).1 = psAt m na := by
      rw [eqv_strict (by simp only [strictD]; exact smn.strict) (by simp only [strictD]; exact Xa.inn.smc.strict), Xa.ps]
      exact ⟨fun z => row_inj (PyData.tuple.inj z), fun z => by rw [z]⟩
    have o89 : Oth2 p a H6 H9 := o7.trans (o8'.trans (Oth2.of s9))
    by_cases ce : (holdP m w key held (i + 1) (psAt m na)).1 = psAt m na
    · rw [eqq.mpr ce]
      rw [hs] at ce
      rw [upP_yes ce, ← hs] at eup
      wtm_at "go"
      refine q H9 ((Oth2.of s06).trans o89) ?_
      rw [← eup]
      exact hC8.go s9
    · have ef : PyData.eqv (.tuple (rowD (holdP m w key held (i + 1) (psAt m na)).1)) (.tuple (rowD (contR (i + 1) Ra))) = false := by
        cases hh : PyData.eqv (.tuple (rowD (holdP m w key held (i + 1) (psAt m na)).1)) (.tuple (rowD (contR (i + 1) Ra))) with
        | false => rfl
        | true => exact absurd (eqq.mp hh) ce
      rw [ef]
      rw [hs] at ce
      rw [upP_no ce, ← hs] at eup
      wtm_at "go"
      refine ⟨na, Ra, q8, ys8, _, _, rfl, ?_, Xa, o89, hC8.go s9, s9 _ _ e8, DpAll.go s9 d8, eup⟩
      rw [show d - (i + 1) = d - 1 - i by omega]
      exact hna
  · generalize ei : (V0.map V.int).length = i at hp
    have ei : i = d := by rw [← ei, List.length_map, lV]
    subst ei
    obtain ⟨n, Rn, r, xr, o8, o9, rfl, hWn, Xn, o7, hC7, e7, d7, eup⟩ := hp
    rw [Nat.sub_self] at hWn
    have en : n = 0 := by
      rw [eW] at hWn
      exact (Option.some.inj hWn).symm
    subst en
    have hrow := X.row (key := key) (held := held) hw hw2 nd sh hl
    have hcl := holdP_len (m := m) (w := w) (key := key) (held := held) (d := i) (ps := psAt m 0)
    have edr : V0.reverse.drop i = [] := List.drop_eq_nil_of_le (by rw [List.length_reverse]; omega)
    rw [edr] at eup
    have eup : rootP m w (decide (i = 0)) (holdP m w key held i (psAt m 0)).1 (holdP m w key held i (psAt m 0)).2 = cf := eup
    wtm_at "go"
    refine hC7.ob.meth (by decide +kernel) (by decide +kernel) (by decide +kernel) (by decide +kernel) ?_
    wtm_at "go"
    refine ⟨p, b, a, w, m, _, decide (i = 0), r, xr, _, rfl, hC7, e7, d7, hrow.1, hrow.2, hw, by omega, fun h1 h2 => hT.one hw sh hl h1 h2, fun H8 o8' hC8 => ?_⟩
    wtm_at "go"
    refine q H8 ((Oth2.of s06).trans (o7.trans o8')) ?_
    rw [← eup]
    exact hC8
theorem ok_value_in (T : Tx K mg) : FnOk P w K mg base CX0 3 T.a_value_in T.d_value_in ["blocks", "key"] (sp_value_in K) := by
  refine T.F_value_in.ok sc_value_in (fun vs H Q E h => ?_) (fun cdv A outer s H vs Q E hr h => ?_)
  · obtain ⟨b, m, w, PP, d, R, key, rfl, _⟩ := h
    rfl
  obtain ⟨b, m, w, PP, d, R, key, rfl, hb, hT, hw, hw2, hPP, q⟩ := h
  refine ⟨_, (pss_cons (ps_set (i := 2) sc_value_in.nd rfl (Or.inl rfl) (pe_ix ix_list (pe_call (ok_way T) hr (by rfl) T.g_way T.F_way.kp T.b_way .nil pass0 (pa_cons (pv 0) (pa_cons (pv 1) pa_nil))) (pe_un un_neg pe_int) (fun _ _ => rfl)))
    (pss_one (ps_ret (pe_dget1 (hu_of hr) (pe_callTy (my_dictT rfl) (by rfl) T.z_dict (by decide +kernel) (pa_cons (pe_ix ix_tup (pe_dget (hu_of hr) (pv 0) (pv 2) (fun _ _ => rfl)) pe_int (fun _ _ => rfl)) pa_nil)) (pv 1) ⟨rfl, rfl, rfl, rfl⟩)))), ?_⟩
  have hdeep := hT.deep hw
  have X := hT.at
  obtain ⟨W, eW⟩ : ∃ W, W = (0 :: wayP m key d (contR d R)) := ⟨_, rfl⟩
  have lW : W.length = d + 1 := by rw [eW, List.length_cons, way_len]
  obtain ⟨nl, Rl, hnl, Xl, _⟩ := X.path (key := key) hw d 0 (by omega)
  rw [← eW] at hnl
  have eLeaf : leafP m key d (contR d R) = contR 0 Rl := by
    rw [leaf_last X.ps.symm, ← eW, List.getD_eq_getElem?_getD, hnl, ← Xl.ps]
    rfl
  have eV : valP PP key = optD (getA (contR 0 Rl) key) := by
    unfold valP
    rw [← hT.value hw, eLeaf]
  have hlen := Xl.len hw2
  wtm_at "go"
  refine ⟨b, m, key, w, d, R, rfl, hb.dd, X, hw, by omega, by omega, fun p1 H1 n1 s1 e1 => ?_⟩
  rw [← eW] at e1
  have eWl : ∃ V0, W = V0 ++ [nl] := by
    have hne : W ≠ [] := fun z => by rw [z] at lW; cases lW
    refine ⟨W.dropLast, ?_⟩
    have e1 := List.dropLast_concat_getLast hne
    have e2 : W.getLast hne = nl := by
      rw [List.getLast_eq_getElem]
      have := (List.getElem?_eq_some_iff.mp hnl).2
      have e3 : W.length - 1 = d := by omega
      simp only [e3]
      exact this
    rw [e2] at e1
    exact e1.symm
  obtain ⟨V0, eWl⟩ := eWl
  rw [eWl, List.map_append] at e1
  wtm_at "go"
  refine g_ixL (SqL.of e1) (atI_last _ _) ?_
  wtm_at "go"
  refine g_rDGetP (hb.go s1) Xl.root fun t p ys k1 k2 k3 => ?_
  have k3 : DpAll K H1 ys (rowD (contR 0 Rl)) := k3
  wtm_at "go"
  refine g_ixT k1 (atI_nat (j := 1) rfl) ?_
  wtm_at "go"
  have nd : (keysA (contR 0 Rl)).Nodup := (Xl.rise hw).imp fun h e => by omega
  refine g_dictT k2 k3 nd fun p2 H2 n2 s2 e2 => ?_
  wtm_at "go"
  refine g_rDGet1 e2 (fun R r => g_var rfl r) fun v hv => ?_
  rw [← eV] at hv
  exact q v H2 (s1.trans s2) hv
theorem ok_check_width (T : Tx K mg) : FnOk P w K mg base CX0 2 T.a_check_width T.d_check_width ["width"] sp_check_width := by
  refine T.F_check_width.ok sc_check_width (fun vs H Q E h => ?_) (fun cdv A outer s H vs Q E hr h => ?_)
  · obtain ⟨z, rfl, _⟩ := h
    rfl
  obtain ⟨z, rfl, h1, h2, q⟩ := h
  refine ⟨_, (pss_one (ps_if (pw_or (pt_not (pt_val (pe_call (ok_is_whole T) hr (by rfl) T.g_is_whole T.F_is_whole.kp T.b_is_whole .nil pass0 (pa_cons (pv 0) pa_nil)))) (pw_or1 (pt_not (pt_chain op_le op_le pe_int (pv 0) pe_int)))).pt
      (pss_one ps_never)
      pss_nil)), ?_⟩
  wtm_at "go"
  refine ⟨.int z, rfl, ⟨_, .int z⟩, ?_⟩
  wtm_at "go"
  refine g_orK (fun c => nomatch c) (fun _ => ?_)
  wtm_at "go"
  refine g_chK (fun _ => ?_) (fun c => absurd h1 (of_decide_eq_false c))
  wtm_at "go"
  refine g_br (fun c => ?_) (fun _ => ?_)
  · rw [decide_eq_true h2] at c
    exact nomatch c
  wtm_at "go"
  exact q
theorem ok_check_room (T : Tx K mg) : FnOk P w K mg base CX0 2 T.a_check_room T.d_check_room ["room"] sp_check_room := by
  refine T.F_check_room.ok sc_check_room (fun vs H Q E h => ?_) (fun cdv A outer s H vs Q E hr h => ?_)
  · obtain ⟨z, rfl, _⟩ := h
    rfl
  obtain ⟨z, rfl, h1, h2, q⟩ := h
  refine ⟨_, (pss_one (ps_if (pw_or (pt_not (pt_val (pe_call (ok_is_whole T) hr (by rfl) T.g_is_whole T.F_is_whole.kp T.b_is_whole .nil pass0 (pa_cons (pv 0) pa_nil)))) (pw_or1 (pt_not (pt_chain op_le op_le pe_int (pv 0) pe_int)))).pt
      (pss_one ps_never)
      pss_nil)), ?_⟩
  wtm_at "go"
  refine ⟨.int z, rfl, ⟨_, .int z⟩, ?_⟩
  wtm_at "go"
  refine g_orK (fun c => nomatch c) (fun _ => ?_)
  wtm_at "go"
  refine g_chK (fun _ => ?_) (fun c => absurd h1 (of_decide_eq_false c))
  wtm_at "go"
  refine g_br (fun c => ?_) (fun _ => ?_)
  · rw [decide_eq_true h2] at c
    exact nomatch c
  wtm_at "go"
  exact q
theorem ok_check_key (T : Tx K mg) : FnOk P w K mg base CX0 3 T.a_check_key T.d_check_key ["key"] sp_check_key := by
  refine T.F_check_key.ok sc_check_key (fun vs H Q E h => ?_) (fun cdv A outer s H vs Q E hr h => ?_)
  · obtain ⟨k, rfl, _⟩ := h
    rfl
  obtain ⟨k, rfl, hk, q⟩ := h
  refine ⟨_, (pss_one (ps_if (pt_not (pt_val (pe_call (ok_is_key T) hr (by rfl) T.g_is_key T.F_is_key.kp T.b_is_key .nil pass0 (pa_cons (pv 0) pa_nil))))
      (pss_one ps_never)
      pss_nil)), ?_⟩
  wtm_at "go"
  refine ⟨.int k, rfl, ⟨_, .int k⟩, ?_⟩
  rw [hk]
  wtm_at "go"
  refine g_br (fun c => nomatch c) (fun _ => ?_)
  wtm_at "go"
  exact q
theorem ok_check_value (T : Tx K mg) : FnOk P w K mg base CX0 2 T.a_check_value T.d_check_value ["value"] sp_check_value := by
  refine T.F_check_value.ok sc_check_value (fun vs H Q E h => ?_) (fun cdv A outer s H vs Q E hr h => ?_)
  · obtain ⟨z, rfl, _⟩ := h
    rfl
  obtain ⟨z, rfl, hz, hl, q⟩ := h
  refine ⟨_, (pss_one (ps_if (pt_not (pt_val (pe_call (ok_is_value T) hr (by rfl) T.g_is_value T.F_is_value.kp T.b_is_value .nil pass0 (pa_cons (pv 0) pa_nil))))
      (pss_one ps_never)
      pss_nil)), ?_⟩
  wtm_at "go"
  refine ⟨.str z, rfl, ⟨_, .str z, fun y e => by cases e; rw [sizeLine_eq]; omega⟩, fun H1 s1 => ?_⟩
  rw [hz]
  wtm_at "go"
  refine g_br (fun c => nomatch c) (fun _ => ?_)
  wtm_at "go"
  exact q H1 s1
theorem ok_rooted (T : Tx K mg) : FnOk P w K mg base CX0 1 T.a_rooted T.d_rooted ["blocks"] (sp_rooted K) := by
  refine T.F_rooted.ok sc_rooted (fun vs H Q E h => ?_) (fun cdv A outer s H vs Q E hr h => ?_)
  · obtain ⟨b, m, rfl, _⟩ := h
    rfl
  obtain ⟨b, m, rfl, hb, hl, q⟩ := h
  refine ⟨_, (pss_cons (ps_if (pt_cmp (pc_din (hu_of hr) pe_int (pv 0)))
      (pss_one (ps_ret (pv 0)))
      pss_nil)
    (pss_one (ps_ret (MyD.pe_spread (pv 0) pe_int (pe_tup (pa_cons pe_str (pa_cons (MyD.pe_tupF pa_nil) pa_nil))))))), ?_⟩
  wtm_at "go"
  refine g_rDIn hb.dd ?_
  wtm_at "go"
  refine g_br (fun c => ?_) (fun c => ?_)
  · wtm_at "go"
    refine q b H (L2.Same.refl H) ?_
    unfold rootA
    rw [if_pos c]
    exact hb
  wtm_at "go"
  refine MyD.g_spreadP (d := noneTB.D) (k := 0) hb hl (fun H' R r => ?_) (fun H' R r => ?_) (fun H' R r => ?_) fun p H1 np s1 h1 => ?_
  · wtm_at "go"
    exact r
  · wtm_at "go"
    exact r
  · wtm_at "go"
    refine MyD.g_tupE fun p1 H1 n1 s1 h1 => ?_
    wtm_at "go"
    refine g_tupK (by wtm_at "ln") fun p2 H2 n2 s2 e2 => ?_
    exact r _ H2 (s1.trans s2) (PlW.blk (lf := true) (P := []) (SqT.of e2) (h1.fx (Fx.of s2)) .nil)
  refine q p H1 s1 ?_
  unfold rootA
  rw [if_neg (by rw [c]; exact Bool.false_ne_true)]
  exact h1
theorem ok_Store_log (T : Tx K mg) : FnOk P w K mg base CX0 1 T.a_Store_log T.d_Store_log ["self", "entry"] (sp_Store_log K T.C_Store) := by
  refine T.F_Store_log.ok sc_Store_log (fun vs H Q E h => ?_) (fun cdv A outer s H vs Q E hr h => ?_)
  · obtain ⟨p, b, l, u, st, x, e, rfl, _⟩ := h
    rfl
  obtain ⟨p, b, l, u, st, x, e, rfl, hS, hx, he, hl, q⟩ := h
  refine ⟨_, (pss_cons (ps_expr (pe_bm PySem.F.plainAttrs_list PySem.F.slot_list_append PySem.F.type_list_append mt_append (pe_fld (pv 0) rfl) (pa_cons (pe_tup (pa_cons pe_str (pa_cons (pv 1) pa_nil))) pa_nil)))
    (pss_one (ps_fldaug (pv 0) pe_int in_add))), ?_⟩
  wtm_at "go"
  refine hS.get stF_deeds T.cl_Store T.n_Store_deeds ?_
  wtm_at "go"
  obtain ⟨vs, hvs, hd⟩ := hS.de
  have ln := paired_len hd
  refine g_tyL hvs ?_
  wtm_at "go"
  refine g_tupK (by wtm_at "ln") fun t1 H1 n1 s1 e1 => ?_
  wtm_at "go"
  refine g_appendB (s1 _ _ hvs) (by omega) fun H2 o2 e2 => ?_
  have a1 : ActW K H1 (.ref t1) (.log e) := ⟨t1, x, rfl, SqT.of e1, hx.go s1⟩
  have fx : Fx H1 H2 := Fx.lst (s1 _ _ hvs) o2
  have st1 : (Act.log e).strict := by
    cases e with
    | none => exact True.intro
    | some z => exact he z rfl
  have hS2 := (hS.go s1).more (s1 _ _ hvs) o2 e2 (a1.fx fx st1) st1
  wtm_at "go"
  refine hS2.logUp T.cl_Store T.n_Store__logged (fun R r => by wtm_at "go"; exact r) (fun R r => by wtm_at "go"; exact r) fun H3 o3 hS3 => ?_
  wtm_at "go"
  exact q H3 ((Oth4.of s1).trans ((Oth4.ol o2).trans (Oth4.op o3))) hS3
theorem ok_Store_settle (T : Tx K mg) : FnOk P w K mg base CX0 1 T.a_Store_settle T.d_Store_settle ["self", "many"] (sp_Store_settle K T.C_Store) := by
  refine T.F_Store_settle.ok sc_Store_settle (fun vs H Q E h => ?_) (fun cdv A outer s H vs Q E hr h => ?_)
  · obtain ⟨p, b, l, u, st, many, rfl, _⟩ := h
    rfl
  obtain ⟨p, b, l, u, st, many, rfl, hS, hl, hw, q⟩ := h
  refine ⟨_, (pss_cons (ps_set (i := 2) sc_Store_settle.nd rfl (Or.inl rfl) (pe_slice sl_list (pe_callB (my_sortedD rfl) (by rfl) T.z_sorted (by decide +kernel) (pa_cons (pe_fld (pv 0) rfl) pa_nil)) po_none (po_some (pe_callB (my_max2 rfl) (by rfl) T.z_max (by decide +kernel) (pa_cons (pv 1) (pa_cons pe_int pa_nil))))))
    (pss_cons (ps_for PassesOwn.never rfl (pi_list (pv 2)) (pg_name (i := 3) sc_Store_settle.nd rfl (Or.inl rfl))
      (pss_cons (ps_expr (pe_bm PySem.F.plainAttrs_list PySem.F.slot_list_append PySem.F.type_list_append mt_append (pe_fld (pv 0) rfl) (pa_cons (pe_tup (pa_cons pe_str (pa_cons (pv 3) (pa_cons (pe_dget1 (hu_of hr) (pe_fld (pv 0) rfl) (pv 3) ⟨rfl, rfl, rfl, rfl⟩) pa_nil)))) pa_nil)))
      (pss_one (ps_ddel (pe_fld (pv 0) rfl) (pv 3)))))
    (pss_cons (ps_set (i := 4) sc_Store_settle.nd rfl (Or.inl rfl) (pe_callB my_len (by rfl) T.z_len PySem.boot_len (pa_cons (pv 2) pa_nil)))
    (Evl.pss_cut (ps_if (pw_and (pt_cmpR op_lt (pv 4) (pv 1) (nomark _)) (pw_and1 (pt_cmpR op_gt (pe_fld (pv 0) rfl) pe_int (nomark _)))).pt
      (pss_cons (ps_expr (pe_bm PySem.F.plainAttrs_list PySem.F.slot_list_append PySem.F.type_list_append mt_append (pe_fld (pv 0) rfl) (pa_cons (pe_tup (pa_cons pe_str pa_nil)) pa_nil)))
      (pss_cons (ps_fld (pv 0) pe_int rfl)
      (pss_one (ps_aug (i := 4) sc_Store_settle.nd rfl (Or.inl rfl) pe_int ip_add))))
      pss_nil)
    (pss_one (ps_ret (pv 4))))))), ?_⟩
  wtm_at "go"
  refine hS.get stF_waiting T.cl_Store T.n_Store__waiting ?_
  wtm_at "go"
  refine g_sortedDd hS.wa fun ys pa H1 hp hr1 n1 s1 e1 => ?_
  rw [seen_keys] at hp
  have ey := sortI_uniq hp hr1
  subst ey
  have hS1 := hS.go s1
  wtm_at "go"
  refine g_slL (SqL.of e1) fun pn H2 n2 s2 e2 => ?_
  have ec : cutV ((sortI st.wait).map V.int) none (some (if 0 > many then 0 else many)) = (firstI st.wait many).map V.int := first_cut
  rw [ec] at e2
  obtain ⟨F, eF⟩ : ∃ F, F = firstI st.wait many := ⟨_, rfl⟩
  have hF : ∀ n ∈ F, n ∈ st.wait := fun n hn => hp.subset (List.mem_of_mem_take (eF ▸ hn))
  have nF : F.Nodup := by
    rw [eF]
    exact (List.take_sublist _ _).nodup (hp.symm.nodup hS.nd)
  have lF : F.length ≤ st.wait.length := by
    rw [eF]
    unfold firstI
    rw [List.length_take, hp.length_eq]
    omega
  rw [← eF] at e2
  have hS2 := hS1.go s2
  have pnl : pn ≠ l := fun z => by
    obtain ⟨vs, e, _⟩ := hS1.de
    rw [z, e] at n2
    cases n2
  have pnp : pn ≠ p := fun z => by
    obtain ⟨dx, e⟩ := hS1.ob
    rw [z, e] at n2
    cases n2
  have pnu : pn ≠ u := fun z => by
    obtain ⟨kvs, e, _⟩ := hS1.wa
    rw [z, e] at n2
    cases n2
  wtm_at "go"
  refine g_forLk (fun i σ' H' => Oth4 p b l u H H' ∧ H' pn = some (.lst (F.map V.int)) ∧ StS K T.C_Store H' p b l u (writeS st (F.take i)) ∧ ∃ o1 o2, σ' = [some (.ref p), some (.int many), some (.ref pn), o1, o2])
    (SqL.of e2) ⟨Oth4.of (s1.trans s2), e2, by rw [List.take_zero, writeS_nil]; exact hS2, _, _, rfl⟩ (fun i σ' H' _ hp => SqL.of hp.2.1) (fun i x σ' H' hx hp => ?_) (fun σ' H' hp => ?_)
  · obtain ⟨o4, e4, hS4, o1, o2, rfl⟩ := hp
    rw [List.getElem?_map] at hx
    obtain ⟨n, hn, rfl⟩ := Option.map_eq_some_iff.mp hx
    have et : F.take (i + 1) = F.take i ++ [n] := by rw [List.take_add_one, hn]; rfl
    have li := (List.getElem?_eq_some_iff.mp hn).1
    have hnw : n ∈ st.wait := hF n (List.mem_of_getElem? hn)
    have nti : n ∉ F.take i := fun hm => by
      have nd2 : (F.take (i + 1)).Nodup := (List.take_sublist _ _).nodup nF
      rw [et, List.nodup_append] at nd2
      exact nd2.2.2 n hm n (List.mem_singleton.mpr rfl) rfl
    have nw : n ∈ (writeS st (F.take i)).wait := List.mem_filter.mpr ⟨hnw, decide_eq_true nti⟩
    wtm_at "go"
    refine hS4.get stF_deeds T.cl_Store T.n_Store_deeds ?_
    wtm_at "go"
    obtain ⟨vs, hvs, hd⟩ := hS4.de
    have ln := paired_len hd
    have ln2 : (writeS st (F.take i)).deeds.length ≤ st.deeds.length + st.wait.length := by
      show (st.deeds ++ (F.take i).map _).length ≤ _
      rw [List.length_append, List.length_map, List.length_take]
      omega
    refine g_tyL hvs ?_
    wtm_at "go"
    refine hS4.get stF_blocks T.cl_Store T.n_Store__blocks ?_
    wtm_at "go"
    refine g_rDGet1P hS4.bl (fun R r => by wtm_at "go"; exact r) fun v hv => ?_
    wtm_at "go"
    refine g_tupK (by wtm_at "ln") fun t5 H5 n5 s5 e5 => ?_
    wtm_at "go"
    refine g_appendB (s5 _ _ hvs) (by omega) fun H6 o6 e6 => ?_
    have a5 : ActW K H5 (.ref t5) (.write n (optD (getA st.m n))) := ⟨t5, v, rfl, SqT.of e5, hv.go s5⟩
    have fx : Fx H5 H6 := Fx.lst (s5 _ _ hvs) o6
    have st5 : (Act.write n (optD (getA st.m n))).strict := by
      show strictD (optD (getA st.m n)) = true
      cases g : getA st.m n with
      | none => rfl
      | some d => exact hS.str (n, d) (getA_mem g)
    have hS6 := (hS4.go s5).more (s5 _ _ hvs) o6 e6 (a5.fx fx st5) st5
    wtm_at "go"
    refine hS6.gone (fun R r => ?_) (fun R r => by wtm_at "go"; exact r) nw fun H7 o7 hS7 => ?_
    · wtm_at "go"
      refine hS6.get stF_waiting T.cl_Store T.n_Store__waiting ?_
      exact r
    wtm_at "go"
    refine ⟨o4.trans ((Oth4.of s5).trans ((Oth4.ol o6).trans (Oth4.ou o7))), o7 _ _ pnu (o6 _ _ pnl (s5 _ _ e4)), ?_, _, _, rfl⟩
    rw [et, writeS_snoc]
    exact hS7
  · obtain ⟨o4, e4, hS4, o1, o2, rfl⟩ := hp
    rw [List.length_map, List.take_length] at hS4
    wtm_at "go"
    rw [List.length_map]
    unfold settleS settleN at q
    rw [← eF] at q
    refine g_cut (fun σ' H2 => ∃ H3 k, σ' = [some (.ref p), some (.int many), some (.ref pn), o1, some (.int k)] ∧ H2 = H3 ∧ Q (.int k) H2) ?_ fun σ' H2 hp => ?_
    · have no : ¬ ((F.length : Int) < many ∧ 0 < st.logged) → Q (.int (F.length : Int)) H' := fun hn => by
        rw [if_neg hn, if_neg hn] at q
        exact q H' o4 hS4
      wtm_at "go"
      refine g_andK (fun c1 => ?_) (fun c1 => ?_)
      · wtm_at "go"
        refine hS4.get stF_logged T.cl_Store T.n_Store__logged ?_
        wtm_at "go"
        refine g_br (fun c2 => ?_) (fun c2 => ?_)
        · have yes : (F.length : Int) < many ∧ 0 < st.logged := ⟨of_decide_eq_true c1, of_decide_eq_true c2⟩
          rw [if_pos yes, if_pos yes] at q
          wtm_at "go"
          refine hS4.get stF_deeds T.cl_Store T.n_Store_deeds ?_
          wtm_at "go"
          obtain ⟨vs, hvs, hd⟩ := hS4.de
          have ln := paired_len hd
          have ln2 : (writeS st F).deeds.length ≤ st.deeds.length + st.wait.length := by
            show (st.deeds ++ F.map _).length ≤ _
            rw [List.length_append, List.length_map]
            omega
          refine g_tyL hvs ?_
          wtm_at "go"
          refine g_tupK (by wtm_at "ln") fun t5 H5 n5 s5 e5 => ?_
          wtm_at "go"
          refine g_appendB (s5 _ _ hvs) (by omega) fun H6 o6 e6 => ?_
          have a6 : ActW K H6 (.ref t5) .clear := ⟨t5, rfl, SqT.fx (Fx.lst (s5 _ _ hvs) o6) (SqT.of e5)⟩
          have hS6 := (hS4.go s5).more (s5 _ _ hvs) o6 e6 a6 True.intro
          wtm_at "go"
          refine hS6.logTo T.cl_Store T.n_Store__logged fun H7 o7 hS7 => ?_
          wtm_at "go"
          refine ⟨_, rfl, ?_⟩
          wtm_at "go"
          refine ⟨_, _, rfl, rfl, ?_⟩
          wtm_at "go"
          exact ⟨H7, _, rfl, rfl, q H7 (o4.trans ((Oth4.of s5).trans ((Oth4.ol o6).trans (Oth4.op o7)))) hS7⟩
        · wtm_at "go"
          exact ⟨H', _, rfl, rfl, no fun h => absurd h.2 (of_decide_eq_false c2)⟩
      · refine g_br (fun c2 => nomatch c2) (fun _ => ?_)
        wtm_at "go"
        exact ⟨H', _, rfl, rfl, no fun h => absurd h.1 (of_decide_eq_false c1)⟩
    · obtain ⟨H3, k, rfl, rfl, q2⟩ := hp
      wtm_at "go"
      exact q2
theorem ok_Store_settle_wholly (T : Tx K mg) : FnOk P w K mg base CX0 2 T.a_Store_settle_wholly T.d_Store_settle_wholly ["self"] (sp_Store_settle_wholly K T.C_Store) := by
  refine T.F_Store_settle_wholly.ok sc_Store_settle_wholly (fun vs H Q E h => ?_) (fun cdv A outer s H vs Q E hr h => ?_)
  · obtain ⟨p, b, l, u, st, rfl, _⟩ := h
    rfl
  obtain ⟨p, b, l, u, st, rfl, hS, hl, hw, q⟩ := h
  refine ⟨_, (pss_one (ps_expr (pe_meth (pv 0) T.cl_Store T.m_Store_settle (ok_Store_settle T) hr T.b_Store_settle .nil pass0 (pa_cons (pe_op op_add (pe_callB my_lenD (by rfl) T.z_len PySem.boot_len (pa_cons (pe_fld (pv 0) rfl) pa_nil)) pe_int) pa_nil)))), ?_⟩
  wtm_at "go"
  refine hS.meth (by decide +kernel) (by decide +kernel) (by decide +kernel) (by decide +kernel) (by decide +kernel) (by decide +kernel) ?_
  wtm_at "go"
  refine hS.get stF_waiting T.cl_Store T.n_Store__waiting ?_
  wtm_at "go"
  refine g_lenDd hS.wa ?_
  have lw : (seenD st.wait).length = st.wait.length := List.length_map ..
  rw [lw]
  wtm_at "go"
  refine ⟨p, b, l, u, st, _, rfl, hS, hl, hw, fun H1 o1 hS1 => ?_⟩
  wtm_at "go"
  exact q H1 o1 hS1
theorem ok_lay (T : Tx K mg) : FnOk P w K mg base CX0 1 T.a_lay T.d_lay ["blocks", "number", "block"] (sp_layP K) := by
  refine T.F_lay.ok sc_lay (fun vs H Q E h => ?_) (fun cdv A outer s H vs Q E hr h => ?_)
  · obtain ⟨a, m, n, x, b, rfl, _⟩ := h
    rfl
  obtain ⟨a, m, n, x, b, rfl, ha, hb, hl, q⟩ := h
  refine ⟨_, (pss_one (ps_if (pt_cmpR my_isN (pv 2) pe_non (nomark _))
      (pss_one (ps_expr (pe_dpop2 (pv 0) (pv 1) pe_non ⟨rfl, rfl, rfl, rfl⟩)))
      (pss_one (ps_dput (hu_of hr) (pv 0) (pv 1) (pv 2) rfl)))), ?_⟩
  wtm_at "go"
  refine g_br (fun c => ?_) (fun c => ?_)
  · have e := plw_none hb (of_decide_eq_true c)
    subst e
    wtm_at "go"
    refine g_rDPop2P ha (fun R r => by wtm_at "go"; exact r) (fun R r => by wtm_at "go"; exact r) fun u H1 o1 d1 => ?_
    exact q H1 o1 d1
  · have ne := plw_some hb (of_decide_eq_false c)
    have e : layA m n b = putA m n b := by cases b <;> first | rfl | exact absurd rfl ne
    rw [e] at q
    wtm_at "go"
    refine g_rDPutP ha hb hl fun H1 o1 d1 => ?_
    exact q H1 o1 d1
theorem ok_Store_value_at (T : Tx K mg) : FnOk P w K mg base CX0 4 T.a_Store_value_at T.d_Store_value_at ["self", "key"] (sp_Store_value_at K T.C_Store) := by
  refine T.F_Store_value_at.ok sc_Store_value_at (fun vs H Q E h => ?_) (fun cdv A outer s H vs Q E hr h => ?_)
  · obtain ⟨p, b, l, u, st, PP, d, R, key, rfl, _⟩ := h
    rfl
  obtain ⟨p, b, l, u, st, PP, d, R, key, rfl, hS, ⟨hT, hw, hw2, hP, hm⟩, hk, q⟩ := h
  refine ⟨_, (pss_cons (ps_expr (pe_call (ok_check_key T) hr (by rfl) T.g_check_key T.F_check_key.kp T.b_check_key .nil pass0 (pa_cons (pv 1) pa_nil)))
    (pss_one (ps_ret (pe_call (ok_value_in T) hr (by rfl) T.g_value_in T.F_value_in.kp T.b_value_in .nil pass0 (pa_cons (pe_call (ok_rooted T) (hr.mono (by decide)) (by rfl) T.g_rooted T.F_rooted.kp T.b_rooted .nil pass0 (pa_cons (pe_fld (pv 0) rfl) pa_nil)) (pa_cons (pv 1) pa_nil)))))), ?_⟩
  wtm_at "go"
  refine ⟨key, rfl, hk, ?_⟩
  wtm_at "go"
  refine hS.get stF_blocks T.cl_Store T.n_Store__blocks ?_
  wtm_at "go"
  refine ⟨b, st.m, rfl, hS.bl, by omega, fun p1 H1 s1 h1 => ?_⟩
  wtm_at "go"
  refine ⟨p1, _, st.w, PP, d, R, key, rfl, h1, hT, hw, hw2, hP, fun v H2 s2 hv => ?_⟩
  wtm_at "go"
  exact q v H2 (s1.trans s2) hv
theorem ok_Store_pairs (T : Tx K mg) : FnOk P w K mg base CX0 3 T.a_Store_pairs T.d_Store_pairs ["self"] (sp_Store_pairs K T.C_Store) := by
  refine T.F_Store_pairs.ok sc_Store_pairs (fun vs H Q E h => ?_) (fun cdv A outer s H vs Q E hr h => ?_)
  · obtain ⟨p, b, l, u, st, PP, d, R, rfl, _⟩ := h
    rfl
  obtain ⟨p, b, l, u, st, PP, d, R, rfl, hS, ⟨hT, hw, hw2, hP, hm⟩, q⟩ := h
  refine ⟨_, (pss_one (ps_ret (pe_call (ok_listed T) hr (by rfl) T.g_listed T.F_listed.kp T.b_listed .nil pass0 (pa_cons (pe_call (ok_rooted T) (hr.mono (by decide)) (by rfl) T.g_rooted T.F_rooted.kp T.b_rooted .nil pass0 (pa_cons (pe_fld (pv 0) rfl) pa_nil)) pa_nil)))), ?_⟩
  wtm_at "go"
  refine hS.get stF_blocks T.cl_Store T.n_Store__blocks ?_
  wtm_at "go"
  refine ⟨b, st.m, rfl, hS.bl, by omega, fun p1 H1 s1 h1 => ?_⟩
  wtm_at "go"
  refine ⟨p1, _, st.w, PP, d, R, rfl, h1.dd, hT, hw, by omega, fun t ys H2 n2 s2 e2 hy => ?_⟩
  wtm_at "go"
  exact q t ys H2 (s1.free n2) (s1.trans s2) e2 hy
theorem ok_Store_request (T : Tx K mg) : FnOk P w K mg base CX0 3 T.a_Store_request T.d_Store_request ["self", "changes"] (sp_Store_request K T.C_Store) := by
  refine T.F_Store_request.ok sc_Store_request (fun vs H Q E h => ?_) (fun cdv A outer s H vs Q E hr h => ?_)
  · obtain ⟨p, b, l, u, c, st, TT, rfl, _⟩ := h
    rfl
  obtain ⟨p, b, l, u, c, st, TT, rfl, hS, hT, ncb, ncu, nd, okT, n1, n2, n3, n4, q⟩ := h
  refine ⟨_, (pss_cons (ps_if (pt_not (pt_truth (pv 1) (fun _ => rfl)))
      (pss_one ps_retN)
      pss_nil)
    (pss_cons (ps_for PassesOwn.never rfl (pi_list (pe_callB (my_sortedD rfl) (by rfl) T.z_sorted (by decide +kernel) (pa_cons (pv 1) pa_nil))) (pg_name (i := 2) sc_Store_request.nd rfl (Or.inl rfl))
      (pss_one (ps_expr (pe_meth (pv 0) T.cl_Store T.m_Store_log (ok_Store_log T) (hr.mono (by decide)) T.b_Store_log .nil pass0 (pa_cons (pe_tup (pa_cons pe_str (pa_cons (pv 2) (pa_cons (pe_dget (hu_of hr) (pv 1) (pv 2) (fun _ _ => rfl)) pa_nil)))) pa_nil)))))
    (pss_cons (ps_expr (pe_meth (pv 0) T.cl_Store T.m_Store_log (ok_Store_log T) (hr.mono (by decide)) T.b_Store_log .nil pass0 (pa_cons (pe_tup (pa_cons pe_str pa_nil)) pa_nil)))
    (pss_cons (ps_lock (ps_for PassesOwn.never rfl (pi_items (pv 1)) (pg_tup rfl (pgs_cons (pg_name (i := 2) sc_Store_request.nd rfl (Or.inl rfl)) (pgs_cons (pg_name (i := 3) sc_Store_request.nd rfl (Or.inl rfl)) pgs_nil)))
      (pss_cons (ps_expr (pe_call (ok_lay T) (hr.mono (by decide)) (by rfl) T.g_lay T.F_lay.kp T.b_lay .nil pass0 (pa_cons (pe_fld (pv 0) rfl) (pa_cons (pv 2) (pa_cons (pv 3) pa_nil)))))
      (pss_one (ps_dput (hu_of hr) (pe_fld (pv 0) rfl) (pv 2) pe_bl rfl)))))
    (pss_one (ps_if (pt_cmpR op_ge (pe_fld (pv 0) rfl) (pe_fld (pv 0) rfl) (nomark _))
      (pss_one (ps_expr (pe_meth0 (pv 0) T.cl_Store T.m_Store_settle_wholly (ok_Store_settle_wholly T) hr T.b_Store_settle_wholly .nil pass0)))
      pss_nil)))))), ?_⟩
  obtain ⟨kvs, ek, hk⟩ := id hT
  have lk := hk.dd.len
  have ncp : c ≠ p := fun z => by
    obtain ⟨dx, e⟩ := hS.ob
    rw [← z, ek] at e
    cases e
  have ncl : c ≠ l := fun z => by
    obtain ⟨vs, e, _⟩ := hS.de
    rw [← z, ek] at e
    cases e
  have strT : ∀ z ∈ TT, strictD z.2 = true := fun z hz => (okT z hz).1
  wtm_at "go"
  refine ⟨_, .inr (.inr ⟨kvs, ek, rfl⟩), ?_⟩
  wtm_at "go"
  refine g_br (fun z => ?_) (fun z => ?_)
  · have e0 : TT = [] := by
      cases kvs with
      | nil => exact List.length_eq_zero_iff.mp lk.symm
      | cons _ _ => exact nomatch z
    wtm_at "go"
    refine q H (Oth4.of (L2.Same.refl H)) ?_
    unfold requestS
    rw [if_pos e0]
    exact hS
  have ne0 : TT ≠ [] := fun e => by
    rw [e] at lk
    rw [List.length_eq_zero_iff.mp lk] at z
    exact nomatch z
  unfold requestS at q
  rw [if_neg ne0] at q
  wtm_at "go"
  refine g_sortedDd hT.dd fun ys pa H1 hp hr1 np s1 e1 => ?_
  have ey := sortI_uniq hp hr1
  subst ey
  have hS1 := hS.go s1
  have pap : pa ≠ p := fun z => by
    obtain ⟨dx, e⟩ := hS.ob
    rw [z, e] at np
    cases np
  have pab : pa ≠ b := fun z => by
    obtain ⟨kvs, e, _⟩ := hS.bl
    rw [z, e] at np
    cases np
  have pal : pa ≠ l := fun z => by
    obtain ⟨vs, e, _⟩ := hS.de
    rw [z, e] at np
    cases np
  have pau : pa ≠ u := fun z => by
    obtain ⟨kvs, e, _⟩ := hS.wa
    rw [z, e] at np
    cases np
  obtain ⟨N, eN⟩ : ∃ N, N = sortI (keysA TT) := ⟨_, rfl⟩
  rw [← eN] at e1 hp
  have lN : N.length = TT.length := by
    rw [hp.length_eq]
    exact List.length_map ..
  have eE : entsT TT = N.map fun n => some (n, optD (getA TT n)) := by rw [eN]; rfl
  wtm_at "go"
  refine g_forLk (fun i σ' H' => Oth4 p b l u H H' ∧ H' pa = some (.lst (N.map V.int)) ∧ StS K T.C_Store H' p b l u (logS st ((entsT TT).take i)) ∧ Pd K H' c TT ∧ ∃ o2, σ' = [some (.ref p), some (.ref c), o2, none])
    (SqL.of e1) ⟨Oth4.of s1, e1, by rw [List.take_zero, logS_nil]; exact hS1, hT.go s1, _, rfl⟩ (fun i σ' H' _ hp => SqL.of hp.2.1) (fun i x σ' H' hx hp => ?_) (fun σ' H' hp => ?_)
  · obtain ⟨o4, e4, hS4, hT4, o2, rfl⟩ := hp
    rw [List.getElem?_map] at hx
    obtain ⟨n, hn, rfl⟩ := Option.map_eq_some_iff.mp hx
    have li := (List.getElem?_eq_some_iff.mp hn).1
    have et : (entsT TT).take (i + 1) = (entsT TT).take i ++ [some (n, optD (getA TT n))] := by
      rw [List.take_add_one, eE, List.getElem?_map, hn]
      rfl
    have hin : n ∈ keysA TT := hp.subset (List.mem_of_getElem? hn)
    obtain ⟨d, hd⟩ := Option.isSome_iff_exists.mp (mem_keysA.mp hin)
    rw [hd] at et
    have okd := okT (n, d) (getA_mem hd)
    wtm_at "go"
    refine hS4.meth (by decide +kernel) (by decide +kernel) (by decide +kernel) (by decide +kernel) (by decide +kernel) (by decide +kernel) ?_
    wtm_at "go"
    refine g_rDGetW hT4 hd fun v hv => ?_
    wtm_at "go"
    refine g_tupK (by wtm_at "ln") fun t5 H5 n5 s5 e5 => ?_
    wtm_at "go"
    have ld : (logS st ((entsT TT).take i)).deeds.length ≤ 8000000 := by
      show (st.deeds ++ ((entsT TT).take i).map Act.log).length ≤ _
      rw [List.length_append, List.length_map, List.length_take]
      omega
    refine ⟨p, b, l, u, _, _, some (n, d), rfl, hS4.go s5, ⟨t5, v, rfl, SqT.of e5, hv.go s5⟩, fun z hz => by cases hz; exact okd.1, ld, fun H6 o6 hS6 => ?_⟩
    wtm_at "go"
    have o46 : Oth4 p b l u H' H6 := (Oth4.of s5).trans o6
    refine ⟨o4.trans o46, o46 _ _ pap pab pal pau e4, ?_, hT4.tk (hS4.tk4 o46) (fun x e => o46 _ _ ncp ncb ncl ncu e) strT, _, rfl⟩
    rw [et, logS_snoc]
    exact hS6
  · obtain ⟨o4, e4, hS4, hT4, o2, rfl⟩ := hp
    have eA : (entsT TT).take (N.map V.int).length = entsT TT := by
      rw [List.length_map, eE]
      exact List.take_of_length_le (by rw [List.length_map]; exact Nat.le_refl _)
    rw [eA] at hS4
    wtm_at "go"
    refine hS4.meth (by decide +kernel) (by decide +kernel) (by decide +kernel) (by decide +kernel) (by decide +kernel) (by decide +kernel) ?_
    wtm_at "go"
    refine g_tupK (by wtm_at "ln") fun t5 H5 n5 s5 e5 => ?_
    wtm_at "go"
    have lE : (entsT TT).length = TT.length := by rw [eE, List.length_map, lN]
    have ld : (logS st (entsT TT)).deeds.length ≤ 8000000 := by
      show (st.deeds ++ (entsT TT).map Act.log).length ≤ _
      rw [List.length_append, List.length_map]
      omega
    refine ⟨p, b, l, u, _, _, none, rfl, hS4.go s5, ⟨t5, rfl, SqT.of e5⟩, (fun z hz => nomatch hz), ld, fun H6 o6 hS6 => ?_⟩
    have o46 : Oth4 p b l u H' H6 := (Oth4.of s5).trans o6
    have oH6 := o4.trans o46
    have hT6 := hT4.tk (hS4.tk4 o46) (fun x e => o46 _ _ ncp ncb ncl ncu e) strT
    have ec6 : H6 c = some (.dK kvs) := oH6 _ _ ncp ncb ncl ncu ek
    have hk6 : PlAll K H6 kvs TT := by
      obtain ⟨kv2, e2, h2⟩ := hT6
      rw [ec6] at e2
      cases Option.some.inj e2
      exact h2
    obtain ⟨sL, eL⟩ : ∃ sL, sL = logS st (entsT TT ++ [none]) := ⟨_, rfl⟩
    have hS6 : StS K T.C_Store H6 p b l u sL := by
      rw [eL, logS_snoc]
      exact hS6
    have mL : sL.m = st.m := by rw [eL]; rfl
    have wL : sL.wait = st.wait := by rw [eL]; rfl
    wtm_at "go"
    refine ⟨c, _, ec6, trivial, fun od => ?_⟩
    refine g_for ?_
    refine g_var rfl ?_
    refine ⟨c, od, kvs, rfl, upd_same, g_forW walk_items (fun i σ' H' => ∃ U, H' = upd U c (.frz od (.dK kvs)) ∧ U c = some (.dK kvs) ∧ Oth4 p b l u H U ∧ StS K T.C_Store U p b l u (laidS sL (TT.take i)) ∧ PlAll K U kvs TT ∧ ∃ o2 o3, σ' = [some (.ref p), some (.ref c), o2, o3])
      ⟨H6, rfl, ec6, oH6, by rw [List.take_zero, laidS_nil]; exact hS6, hk6, _, _, rfl⟩ (fun i σ' H' _ hp => ?_) (fun i x σ' H' H2 hi hp hy => ?_) (fun σ' H' hp => ?_)⟩
    · obtain ⟨U, rfl, _⟩ := hp
      exact upd_same
    · obtain ⟨U, rfl, eU, oU, hU, kU, o2, o3, rfl⟩ := hp
      obtain ⟨t7, x7, y7, rfl, n7, rfl, hx7, hy7⟩ := hy
      obtain ⟨q7, hq7⟩ : ∃ q7, kvs[i]? = some q7 := ⟨_, List.getElem?_eq_getElem hi⟩
      obtain ⟨k7, v7⟩ := q7
      have hx7 : (kvs[i]?.map fun kv => kV kv.1) = some x7 := hx7
      have hy7 : kvs[i]?.map Prod.snd = some y7 := hy7
      rw [hq7] at hx7 hy7
      cases Option.some.inj hx7
      cases Option.some.inj hy7
      obtain ⟨n, d, hn, rfl, hd⟩ := kU.at hq7
      have okd := okT _ (List.mem_of_getElem? hn)
      have et : TT.take (i + 1) = TT.take i ++ [(n, d)] := by rw [List.take_add_one, hn]; rfl
      have tk1 : Tk U (upd U c (.frz od (.dK kvs))) := Tk.put eU (fun z => z)
      have hU1 := hU.oth tk1 Oth.upd ncp.symm ncb.symm ncl.symm ncu.symm
      have s7 : Same (upd U c (.frz od (.dK kvs))) (upd (upd U c (.frz od (.dK kvs))) t7 (.tup [kV (.inl n), v7])) := Same.new n7 _
      have hU2 := hU1.go s7
      have tk2 := tk1.trans (Tk.of s7)
      have ec7 : upd (upd U c (.frz od (.dK kvs))) t7 (.tup [kV (.inl n), v7]) c = some (.frz od (.dK kvs)) := s7 _ _ upd_same
      have et7 : upd (upd U c (.frz od (.dK kvs))) t7 (.tup [kV (.inl n), v7]) t7 = some (.tup [.int n, v7]) := upd_same
      generalize eH7 : upd (upd U c (.frz od (.dK kvs))) t7 (.tup [kV (.inl n), v7]) = H7 at *
      refine g_gtup (SqT.of et7) rfl ?_
      refine g_gcons (g_name (g_gcons (g_name (g_gnil ?_))))
      wtm_at "go"
      have bU : Blk (laidS sL (TT.take i)).m := hU.okm
      have lm : (laidS sL (TT.take i)).m.length ≤ 100000 := by
        show (layAll sL.m (TT.take i)).length ≤ _
        have h1 := layAll_len (m := sL.m) (g := TT.take i)
        have h2 : (TT.take i).length ≤ TT.length := by rw [List.length_take]; omega
        have h3 := congrArg List.length mL
        omega
      have lw : (seenD (laidS sL (TT.take i)).wait).length ≤ 8000000 := by
        show ((waitAll sL.wait (keysA (TT.take i))).map _).length ≤ _
        rw [List.length_map]
        have h1 := waitAll_len (w := sL.wait) (ns := keysA (TT.take i))
        have h2 : (keysA (TT.take i)).length ≤ TT.length := by
          unfold keysA
          rw [List.length_map, List.length_take]
          omega
        have h3 := congrArg List.length wL
        omega
      refine hU2.get stF_blocks T.cl_Store T.n_Store__blocks ?_
      wtm_at "go"
      refine ⟨b, _, n, v7, d, rfl, hU2.bl, hd.tk tk2 okd.1, lm, fun H8 o8 h8 => ?_⟩
      have hS8 := hU2.lay o8 h8 (bU.lay okd)
      wtm_at "go"
      refine hS8.get stF_waiting T.cl_Store T.n_Store__waiting ?_
      wtm_at "go"
      refine g_rDPutB hS8.wa (.bl true) lw fun H9 o9 d9 => ?_
      rw [put_wait] at d9
      have hS9 := hS8.waits o9 d9 (waitA_nd hS8.nd)
      have ec9 : H9 c = some (.frz od (.dK kvs)) := o9 _ _ ncu (o8 _ _ ncb ec7)
      have tk3 : Tk H9 (upd H9 c (.dK kvs)) := Tk.put ec9 (fun z => z)
      have tkU : Tk U (upd H9 c (.dK kvs)) := tk2.trans ((hU2.tk4 (Oth4.ob o8)).trans ((hS8.tk4 (Oth4.ou o9)).trans tk3))
      refine ⟨upd H9 c (.dK kvs), (upd_twice ec9).symm, upd_same, ?_, ?_, kU.map fun h ⟨k, hk⟩ => h.tk tkU (strT _ hk), _, _, rfl⟩
      · intro x o m1 m2 m3 m4 hx
        by_cases xc : x = c
        · rw [xc, upd_same]
          rw [xc, ek] at hx
          exact hx
        · rw [upd_ne xc]
          refine o9 _ _ m4 (o8 _ _ m2 ?_)
          refine s7 _ _ ?_
          rw [upd_ne xc]
          exact oU x o m1 m2 m3 m4 hx
      · rw [et, laidS_snoc]
        exact hS9.oth tk3 Oth.upd ncp.symm ncb.symm ncl.symm ncu.symm
    · obtain ⟨U, rfl, eU, oU, hU, kU, o2, o3, rfl⟩ := hp
      refine ⟨upd_same, ?_⟩
      rw [upd_twice eU]
      rw [lk, List.take_length] at hU
      have eR : loggedS st TT = laidS sL TT := by rw [eL]; rfl
      rw [← eR] at hU
      wtm_at "go"
      refine hU.get stF_logged T.cl_Store T.n_Store__logged ?_
      wtm_at "go"
      refine hU.get stF_room T.cl_Store T.n_Store__room ?_
      wtm_at "go"
      refine g_br (fun z => ?_) (fun z => ?_)
      · rw [if_pos (show st.room ≤ (loggedS st TT).logged from of_decide_eq_true z)] at q
        wtm_at "go"
        refine hU.meth (by decide +kernel) (by decide +kernel) (by decide +kernel) (by decide +kernel) (by decide +kernel) (by decide +kernel) ?_
        wtm_at "go"
        have lw : (loggedS st TT).wait.length ≤ st.wait.length + TT.length := by
          show (waitAll st.wait (keysA TT)).length ≤ _
          have h1 := waitAll_len (w := st.wait) (ns := keysA TT)
          have h2 : (keysA TT).length = TT.length := List.length_map ..
          omega
        have ldd : (loggedS st TT).deeds.length = st.deeds.length + (TT.length + 1) := by
          show (st.deeds ++ (entsT TT ++ [none]).map Act.log).length = _
          rw [List.length_append, List.length_map, List.length_append, lE]
          rfl
        refine ⟨p, b, l, u, _, rfl, hU, by omega, by omega, fun H9 o9 hS9 => ?_⟩
        wtm_at "go"
        exact q H9 (oU.trans o9) hS9
      · rw [if_neg (show ¬ st.room ≤ (loggedS st TT).logged from of_decide_eq_false z)] at q
        wtm_at "go"
        exact q U oU hU
theorem ok_within (T : Tx K mg) : FnOk P w K mg base CX0 2 T.a_within T.d_within ["blocks", "low", "high"] (sp_within K) := by
  refine T.F_within.ok sc_within (fun vs H Q E h => ?_) (fun cdv A outer s H vs Q E hr h => ?_)
  · obtain ⟨b, m, w, PP, d, R, low, high, rfl, _⟩ := h
    rfl
  obtain ⟨b, m, w, PP, d, R, low, high, rfl, hb, hT, hw, hw2, hP, q⟩ := h
  refine ⟨_, (pss_cons (ps_if (pt_cmpR op_gt (pv 1) (pv 2) (nomark _))
      (pss_one (ps_ret (pe_lst pa_nil)))
      pss_nil)
    (pss_cons (ps_set (i := 3) sc_within.nd rfl (Or.inl rfl) (pe_lst (pa_cons (pe_dget (hu_of hr) (pv 0) pe_int (fun _ _ => rfl)) pa_nil)))
    (pss_cons (ps_while PassesOwn.never (pt_val (pe_call (ok_all_are T) hr (by rfl) T.g_all_are T.F_all_are.kp T.b_all_are .nil pass0 (pa_cons pe_str (pa_cons (pv 3) pa_nil))))
      (pss_cons (ps_setLc (i := 4) (own := [("word", 5), ("pairs", 6)]) (g := gTup K 2 (gCons (gName 5) (gCons (gName 6) gNil))) (tt := tYes) rfl sc_within.nd rfl rfl (sw_true rfl rfl rfl (by decide +kernel)) (pi_list (pv 3)) (blkOk_by (own := [("word", 5), ("pairs", 6)]) (N := N_within) (sc := defScope s_within) (by decide +kernel)) (fun _ _ _ _ _ => (pg_tup rfl (pgs_cons (pg_name (i := 5) sc_within.nd rfl (Or.inl rfl)) (pgs_cons (pg_name (i := 6) sc_within.nd rfl (Or.inl rfl)) pgs_nil)))) (fun _ _ _ _ _ => pts_nil) (fun _ _ _ _ _ => (pe_slice (slAK (K := K) rfl) (pv 6) (po_some (pe_call (ok_place T) hr (by rfl) T.g_place T.F_place.kp T.b_place .nil pass0 (pa_cons (pv 6) (pa_cons (pv 1) pa_nil)))) (po_some (pe_op op_add (pe_call (ok_place T) hr (by rfl) T.g_place T.F_place.kp T.b_place .nil pass0 (pa_cons (pv 6) (pa_cons (pv 2) pa_nil))) pe_int)))))
      (pss_one (ps_setLc2 (i := 3) (own := [("row", 7), ("key", 8), ("number", 9)]) (vs1 := [8, 9]) (g := gName 7) (tt := tYes) (wi1 := iTup K (tVar 7)) (g1 := gTup K 2 (gCons (gName 8) (gCons (gName 9) gNil))) (tt1 := tYes) rfl sc_within.nd rfl rfl (sw_true rfl rfl rfl (by decide +kernel)) (pi_list (pv 4)) (blkOk_by (own := [("row", 7), ("key", 8), ("number", 9)]) (N := N_within) (sc := defScope s_within) (by decide +kernel)) (by decide) (fun _ _ _ _ _ => (pg_name (i := 7) sc_within.nd rfl (Or.inl rfl))) (fun _ _ _ _ _ => pts_nil) (fun _ _ _ _ _ => (pi_tup (pv 7))) (fun _ _ _ _ _ => (pg_tup rfl (pgs_cons (pg_name (i := 8) sc_within.nd rfl (Or.inl rfl)) (pgs_cons (pg_name (i := 9) sc_within.nd rfl (Or.inl rfl)) pgs_nil)))) (fun _ _ _ _ _ => pts_nil) (fun _ _ _ _ _ => (pe_dget (hu_of hr) (pv 0) (pv 9) (fun _ _ => rfl)))))))
    (pss_one (ps_ret (pe_lc (own := [("pair", 10)]) (g := gName 10) rfl sc_within.nd (pi_list (pe_call (ok_row_of T) hr (by rfl) T.g_row_of T.F_row_of.kp T.b_row_of .nil pass0 (pa_cons (pv 3) pa_nil))) (blkOk_by (own := [("pair", 10)]) (N := N_within) (sc := defScope s_within) (by decide +kernel)) (fun _ _ _ _ _ => (pg_name (i := 10) sc_within.nd rfl (Or.inl rfl))) (fun _ _ _ _ _ => (pts_one (pt_chain op_le op_le (pv 1) (pe_ix (ixTK (K := K) rfl) (pv 10) pe_int (fun _ _ => rfl)) (pv 2)))) (fun _ _ _ _ _ => (pv 10)))))))), ?_⟩
  wtm_at "go"
  refine g_br (fun c => ?_) (fun c => ?_)
  · have c' : high < low := of_decide_eq_true c
    wtm_at "go"
    refine g_lstK (by wtm_at "ln") fun t1 H1 n1 s1 e1 => ?_
    refine q t1 [] H1 n1 s1 e1 ?_
    rw [betwP_out c']
    exact .nil
  have hlh : low ≤ high := by
    have := of_decide_eq_false c
    omega
  have rise := hT.okp.2
  wtm_at "go"
  refine g_rDGet hb hT.root fun v0 hv0 => ?_
  wtm_at "go"
  refine g_lstK (by wtm_at "ln") fun lv H1 n1 s1 e1 => ?_
  wtm_at "go"
  refine g_while (fun f σ' H' => ∃ (Rs : List (List (Item f))) (P' : PL) (l : Addr) (xs : List V) (o4 : Option V), σ' = [some (.ref b), some (.int low), some (.int high), some (.ref l), o4, none, none, none, none, none, none] ∧ Same H H' ∧ SqL K H' l xs ∧ DpAll K H' xs (lsD (lvL f Rs)) ∧ LB m w PP low high f Rs P' ∧ Rs.length ≤ 20000)
    d ⟨[R], PP, lv, _, _, rfl, s1, SqL.of e1, .cons (Dp.go s1 hv0) .nil, hT.lb, by simp⟩ (fun f σ' H' hp => ?_)
  obtain ⟨Rs, P', l, xs, o4, rfl, s2, hl, hd, hV, hsz⟩ := hp
  have lvl : (lvL f Rs).length = Rs.length := List.length_map ..
  have hrl := hV.lv.row_len hw
  have lP' := hV.sub.length_le
  wtm_at "go"
  refine ⟨_, l, xs, lvL f Rs, rfl, hl, hd, by omega, fun H3 s3 => ?_⟩
  rw [hV.lv.all_br]
  wtm_at "go"
  have hl3 := L2.Same.seq s3 hl
  have hd3 := DpAll.go s3 hd
  have s03 := s2.trans s3
  have lx := dpAll_len hd
  unfold lsD at lx
  rw [List.length_map, lvl] at lx
  cases f with
  | zero =>
    refine g_whF ?_
    wtm_at "go"
    refine ⟨l, xs, lvL 0 Rs, rfl, hl3, hd3, by omega, fun p ys H4 n4 s4 e4 d4 => ?_⟩
    have e : rowT (lvL 0 Rs) = P' := by
      rw [lvL_row, ← hV.lv.leaves, leavesR_zero]
      exact contR_zero
    rw [e] at d4
    have ly := dpAll_len d4
    unfold rowD at ly
    rw [List.length_map] at ly
    have smP' : smP P' := fun y hy => hT.smp y (hV.sub.subset hy)
    wtm_at "go"
    refine g_wLk (SqL.of e4) ?_
    refine g_lcDW (K := K) walk_list (fun i => rowD (betwP (P'.take i) low high)) (by omega) (fun H' s => L2.Same.seq s (SqL.of e4)) rfl (fun i _ => smP.strict fun y hy => smP' y (List.mem_of_mem_take (List.mem_filter.mp hy).1)) (fun i _ => ?_) (fun i z H5 H6 QN QE hi s5 hy kn ke => ?_) (fun p5 ys5 H5 n5 s5 e5 d5 => ?_)
    · unfold rowD
      rw [List.length_map]
      refine Nat.le_trans betwP_len ?_
      rw [List.length_take]
      omega
    · obtain ⟨rfl, hxi⟩ := hy
      obtain ⟨pr, hpr, hpx⟩ := dpAll_at' (f := pairD) d4 hxi
      have et : P'.take (i + 1) = P'.take i ++ [pr] := by rw [List.take_add_one, hpr]; rfl
      obtain ⟨ta, y, rfl, ht, hy⟩ := dp_pair hpx
      refine g_name ⟨rfl, ?_⟩
      wtm_at "go"
      refine g_ixT (Same.seqT s5 ht) (atI_nat (j := 0) rfl) ?_
      wtm_at "go"
      have no : ¬ (low ≤ pr.1 ∧ pr.1 ≤ high) → rowD (betwP (P'.take (i + 1)) low high) = rowD (betwP (P'.take i) low high) := fun c => by
        rw [et, betwP_app]
        have e1 : betwP [pr] low high = [] := by
          unfold betwP
          rw [List.filter_cons, if_neg (by rw [Bool.and_eq_true, decide_eq_true_eq, decide_eq_true_eq]; exact c)]
          rfl
        rw [e1, List.append_nil]
      refine g_chK (fun c1 => ?_) (fun c1 => ?_)
      · wtm_at "go"
        by_cases c2 : pr.1 ≤ high
        · rw [decide_eq_true c2]
          refine iteT (g_var rfl (ke _ (pairD pr) _ ?_ (L2.Same.refl _) (Dp.go s5 hpx)))
          rw [et, betwP_app]
          have e1 : betwP [pr] low high = [pr] := by
            unfold betwP
            rw [List.filter_cons, if_pos (by rw [Bool.and_eq_true]; exact ⟨c1, decide_eq_true c2⟩)]
            rfl
          rw [e1]
          unfold rowD
          rw [List.map_append]
          rfl
        · rw [decide_eq_false c2]
          exact iteF (kn (no fun z => c2 z.2) _ (L2.Same.refl _))
      · wtm_at "go"
        exact iteF (kn (no fun z => absurd z.1 (of_decide_eq_false c1)) _ (L2.Same.refl _))
    · rw [ly, List.take_length, hV.bt] at d5
      have s04 := s03.trans s4
      exact q p5 ys5 H5 (s04.free n5) (s04.trans s5) e5 d5
  | succ f =>
    obtain ⟨P'', Vc, Vn, hsub⟩ := hV.next hw rise hlh
    obtain ⟨hV2, hrow, hnum, hlen⟩ := Vc.next hw
    obtain ⟨Rc, eRc⟩ : ∃ Rc, Rc = Rs.map fun R => cutN (f + 1) R low high := ⟨_, rfl⟩
    rw [← eRc] at Vc Vn hV2 hrow hnum hlen
    have lRc : Rc.length = Rs.length := by rw [eRc, List.length_map]
    have lP2 := hsub.length_le
    refine g_whT ?_
    wtm_at "go"
    refine g_wLk hl3 ?_
    refine g_lcDW (K := K) walk_list (fun i => rowsD ((Rc.take i).map (contR (f + 1)))) (by omega) (fun H' s => L2.Same.seq s hl3) rfl (fun i _ => rowsD_strict fun r hr => ?_) (fun i _ => ?_) (fun i z H5 H6 QN QE hi s5 hy kn ke => ?_) (fun p5 ys5 H5 n5 s5 e5 d5 => ?_)
    · obtain ⟨R', _, rfl⟩ := List.mem_map.mp hr
      exact smP_up
    · unfold rowsD
      rw [List.length_map, List.length_map, List.length_take]
      omega
    · obtain ⟨rfl, hxi⟩ := hy
      obtain ⟨tb, htb, hpx⟩ := dpAll_at' (f := TB.D) hd3 hxi
      unfold lvL at htb
      rw [List.getElem?_map] at htb
      obtain ⟨R', hR', rfl⟩ := Option.map_eq_some_iff.mp htb
      have et : Rc.take (i + 1) = Rc.take i ++ [cutN (f + 1) R' low high] := by
        rw [List.take_add_one, eRc, List.getElem?_map, hR']
        rfl
      have mR := List.mem_of_getElem? hR'
      have okR : ∀ x ∈ R', okI w (f + 1) x := fun x hx => hV.lv.ok x (List.mem_flatten.mpr ⟨R', mR, hx⟩)
      have rR : (keysT (leavesR (f + 1) R')).Pairwise (· < ·) := by
        have sR : (leavesR (f + 1) R').Sublist (leavesR (f + 1) Rs.flatten) := leavesR_subl (List.sublist_flatten_of_mem mR)
        rw [hV.lv.leaves] at sR
        exact rise.sublist ((sR.trans hV.sub).map _)
      have lR : (contR (f + 1) R').length ≤ 1000 := by
        rw [contR_len]
        have := hV.size R' mR
        omega
      have cr : (keysT (contR (f + 1) R')).Pairwise (· < ·) := contR_rise (by unfold halfI; omega) okR rR
      obtain ⟨ta, tp, zs, rfl, h1, h2, h3⟩ := dp_blk hpx
      refine g_gtup (Same.seqT s5 h1) rfl ?_
      refine g_gcons (g_name (g_gcons (g_name (g_gnil ⟨rfl, ?_⟩))))
      refine g_yes ?_
      have h2' := Same.seqT s5 h2
      have h3' := DpAll.go s5 h3
      wtm_at "go"
      refine ⟨tp, zs, contR (f + 1) R', low, rfl, .inr h2', h3', cr, lR, ?_⟩
      wtm_at "go"
      refine ⟨tp, zs, contR (f + 1) R', high, rfl, .inr h2', h3', cr, lR, ?_⟩
      wtm_at "go"
      refine g_slA h2' fun p6 H6 s6 e6 => ?_
      rw [show ((placeN (keysT (contR (f + 1) R')) high : Nat) : Int) + 1 = ((placeN (keysT (contR (f + 1) R')) high + 1 : Nat) : Int) by omega, cut_mid] at e6
      refine ke _ (.tuple (rowD (contR (f + 1) (cutN (f + 1) R' low high)))) _ ?_ s6 (.tup e6 ?_)
      · rw [et, List.map_append]
        unfold rowsD
        rw [List.map_append]
        rfl
      · rw [contR_cut]
        exact dpAll_mid (DpAll.go s6 h3') _ _
    rw [lx, ← lRc, List.take_length] at d5
    have l5 := dpAll_len d5
    unfold rowsD at l5
    rw [List.length_map, List.length_map] at l5
    wtm_at "go"
    refine g_wLk (SqL.of e5) ?_
    have s05 := s03.trans s5
    have hb5 := hb.go s05
    refine g_lc2W (walk_list (xs := ys5)) (fun D i H' => Same H5 H' ∧ ∃ ys, H' D = some (.lst ys) ∧ DpAll K H5 ys ((contR (f + 1) (Rc.take i).flatten).map fun q => blockAt m (numD q.2))) (fun D hD => ⟨Same.new hD _, [], upd_same, .nil⟩) (fun D i H' _ h => L2.Same.seq h.1 (SqL.of e5)) (fun D i x H6 H7 hD hi hp hy => ?_) (fun D H' hD hp => ?_)
    · obtain ⟨s6, ys6, e6, d6⟩ := hp
      obtain ⟨rfl, hx⟩ := hy
      obtain ⟨r, ta, zs, hr, rfl, h1, h2⟩ := dp_rows d5 hx
      rw [List.getElem?_map] at hr
      obtain ⟨Rx, hRx, rfl⟩ := Option.map_eq_some_iff.mp hr
      have et : Rc.take (i + 1) = Rc.take i ++ [Rx] := by rw [List.take_add_one, hRx]; rfl
      have lz := dpAll_len h2
      unfold rowD at lz
      rw [List.length_map] at lz
      have er : contR (f + 1) (Rc.take (i + 1)).flatten = contR (f + 1) (Rc.take i).flatten ++ contR (f + 1) Rx := by
        rw [et, List.flatten_append, contR_app]
        simp
      have hle : (contR (f + 1) (Rc.take (i + 1)).flatten).length ≤ (contR (f + 1) Rc.flatten).length := by
        have e : contR (f + 1) Rc.flatten = contR (f + 1) (Rc.take (i + 1)).flatten ++ contR (f + 1) (Rc.drop (i + 1)).flatten := by
          rw [← contR_app, ← List.flatten_append, List.take_append_drop]
        rw [e, List.length_append]
        omega
      have hall : (contR (f + 1) Rc.flatten).length ≤ P''.length := by
        have := Vc.row_len hw
        rw [lvL_row] at this
        exact this
      rw [er, List.length_append] at hle
      refine g_name ⟨rfl, ?_⟩
      refine g_wT (g_var rfl (g_wTk (Same.seqT s6 h1) ?_))
      refine g_inW (walk_tup (xs := zs)) (fun j H' => Same H5 H' ∧ ∃ ys, H' D = some (.lst ys) ∧ DpAll K H5 ys ((contR (f + 1) (Rc.take i).flatten ++ (contR (f + 1) Rx).take j).map fun q => blockAt m (numD q.2))) ⟨s6, ys6, e6, by rw [List.take_zero, List.append_nil]; exact d6⟩ (fun j H' _ h => Same.seqT h.1 h1) (fun j y H8 H9 hj hp hy => ?_) (fun H' hp => ?_)
      · obtain ⟨s8, ys8, e8, d8⟩ := hp
        obtain ⟨rfl, hy⟩ := hy
        obtain ⟨pr, hpr, hpy⟩ := dpAll_at' (f := pairD) h2 hy
        have et2 : (contR (f + 1) Rx).take (j + 1) = (contR (f + 1) Rx).take j ++ [pr] := by rw [List.take_add_one, hpr]; rfl
        have ly := dpAll_len d8
        rw [List.length_map, List.length_append, List.length_take] at ly
        obtain ⟨n, en, hn⟩ := hnum pr (by
          rw [lvL_row]
          obtain ⟨c, hc, rfl⟩ := List.mem_map.mp (List.mem_of_getElem? hpr)
          exact List.mem_map.mpr ⟨c, List.mem_flatten.mpr ⟨Rx, List.mem_of_getElem? hRx, hc⟩, rfl⟩)
        obtain ⟨tz, y2, rfl, ht, hy2⟩ := dp_pair hpy
        rw [en] at hy2
        cases dp_i hy2
        have eb : getA m n = some (blockAt m n) := by
          unfold blockAt
          cases e : getA m n with
          | some d => rfl
          | none => rw [e] at hn; cases hn
        refine g_gtup (Same.seqT s8 ht) rfl ?_
        refine g_gcons (g_name (g_gcons (g_name (g_gnil ⟨rfl, ?_⟩))))
        refine g_dget (g_var rfl (g_var rfl ?_))
        obtain ⟨kvs, hk1, hk2⟩ := id hb5
        rcases hk2.val n with ⟨e2, _⟩ | ⟨v, d', e2, e3, hv⟩
        · rw [eb] at e2
          cases e2
        · rw [eb] at e2
          cases Option.some.inj e2
          refine ⟨b, v, rfl, by rw [← e3]; exact DdAll.dget (s8 _ _ hk1) n, ys8, e8, Evl.sz_lt (by omega), fun o ob h => ?_, ys8 ++ [v], upd_same, ?_⟩
          · rw [upd_ne (ne_of_none h hD)]
            exact s8 _ _ h
          · rw [et2, ← List.append_assoc, List.map_append]
            refine dpAll_app d8 (.cons ?_ .nil)
            show Dp K H5 v (blockAt m (numD pr.2))
            rw [en]
            exact hv
      · obtain ⟨s8, ys8, e8, d8⟩ := hp
        rw [lz, List.take_length, ← er] at d8
        exact ⟨s8, ys8, e8, d8⟩
    · obtain ⟨s6, ys6, e6, d6⟩ := hp
      rw [l5, List.take_length, ← lvL_row, hrow] at d6
      wtm_at "go"
      exact ⟨f, Nat.lt_succ_self _, nextR f Rc, P'', D, ys6, _, rfl, s05.trans s6, SqL.of e6, DpAll.go s6 d6, Vn, by omega⟩
theorem ok_Store_between (T : Tx K mg) : FnOk P w K mg base CX0 4 T.a_Store_between T.d_Store_between ["self", "low", "high"] (sp_Store_between K T.C_Store) := by
  refine T.F_Store_between.ok sc_Store_between (fun vs H Q E h => ?_) (fun cdv A outer s H vs Q E hr h => ?_)
  · obtain ⟨p, b, l, u, st, PP, d, R, low, high, rfl, _⟩ := h
    rfl
  obtain ⟨p, b, l, u, st, PP, d, R, low, high, rfl, hS, ⟨hT, hw, hw2, hP, hm⟩, hk1, hk2, q⟩ := h
  refine ⟨_, (pss_cons (ps_expr (pe_call (ok_check_key T) hr (by rfl) T.g_check_key T.F_check_key.kp T.b_check_key .nil pass0 (pa_cons (pv 1) pa_nil)))
    (pss_cons (ps_expr (pe_call (ok_check_key T) hr (by rfl) T.g_check_key T.F_check_key.kp T.b_check_key .nil pass0 (pa_cons (pv 2) pa_nil)))
    (pss_one (ps_ret (pe_call (ok_within T) (hr.mono (by decide)) (by rfl) T.g_within T.F_within.kp T.b_within .nil pass0 (pa_cons (pe_call (ok_rooted T) (hr.mono (by decide)) (by rfl) T.g_rooted T.F_rooted.kp T.b_rooted .nil pass0 (pa_cons (pe_fld (pv 0) rfl) pa_nil)) (pa_cons (pv 1) (pa_cons (pv 2) pa_nil)))))))), ?_⟩
  wtm_at "go"
  refine ⟨low, rfl, hk1, ?_⟩
  wtm_at "go"
  refine ⟨high, rfl, hk2, ?_⟩
  wtm_at "go"
  refine hS.get stF_blocks T.cl_Store T.n_Store__blocks ?_
  wtm_at "go"
  refine ⟨b, st.m, rfl, hS.bl, by omega, fun p1 H1 s1 h1 => ?_⟩
  wtm_at "go"
  refine ⟨p1, _, st.w, PP, d, R, low, high, rfl, h1.dd, hT, hw, hw2, hP, fun t ys H2 n2 s2 e2 hy => ?_⟩
  wtm_at "go"
  exact q t ys H2 (s1.free n2) (s1.trans s2) e2 hy
theorem ok_redone (T : Tx K mg) : FnOk P w K mg base CX0 2 T.a_redone T.d_redone ["blocks", "log"] (sp_redoneP K) := by
  refine T.F_redone.ok sc_redone (fun vs H Q E h => ?_) (fun cdv A outer s H vs Q E hr h => ?_)
  · obtain ⟨a, l, m, xs, en, rfl, _⟩ := h
    rfl
  obtain ⟨a, l, m, xs, en, rfl, ha, hl, hes, oe, bm, hlen, q⟩ := h
  refine ⟨_, (pss_cons (ps_set (i := 2) sc_redone.nd rfl (Or.inl rfl) (pe_callTy my_dictD (by rfl) T.z_dict (by decide +kernel) (pa_cons (pv 0) pa_nil)))
    (pss_cons (ps_set (i := 3) sc_redone.nd rfl (Or.inl rfl) (pe_lst pa_nil))
    (pss_cons (ps_for PassesOwn.never rfl (pi_list (pv 1)) (pg_name (i := 4) sc_redone.nd rfl (Or.inl rfl))
      (pss_one (ps_if (pt_cmpR op_eq (pe_ix ix_tup (pv 4) pe_int (fun _ _ => rfl)) pe_str (nomark _))
        (pss_one (ps_expr (pe_bm PySem.F.plainAttrs_list PySem.F.slot_list_append PySem.F.type_list_append mt_append (pv 3) (pa_cons (pv 4) pa_nil))))
        (pss_cons (ps_for PassesOwn.never rfl (pi_list (pv 3)) (pg_tup rfl (pgs_cons (pg_name (i := 5) sc_redone.nd rfl (Or.inl rfl)) (pgs_cons (pg_name (i := 6) sc_redone.nd rfl (Or.inl rfl)) (pgs_cons (pg_name (i := 7) sc_redone.nd rfl (Or.inl rfl)) pgs_nil))))
          (pss_one (ps_expr (pe_call (ok_lay T) hr (by rfl) T.g_lay T.F_lay.kp T.b_lay .nil pass0 (pa_cons (pv 2) (pa_cons (pv 6) (pa_cons (pv 7) pa_nil)))))))
        (pss_one (ps_set (i := 3) sc_redone.nd rfl (Or.inl rfl) (pe_lst pa_nil)))))))
    (pss_one (ps_ret (pv 2)))))), ?_⟩
  have lx := paired_len hes
  wtm_at "go"
  refine g_dictPd ha fun da H1 n1 s1 d1 => ?_
  wtm_at "go"
  refine g_lstK (by wtm_at "ln") fun ga H2 n2 s2 e2 => ?_
  wtm_at "go"
  have hok := fun i : Nat => redoS_ok bm (E := en.take i) fun p hp => oe p (List.mem_of_mem_take hp)
  refine g_forLk (fun i σ' H' => Same H H' ∧ Pd K H' da (redoS m (en.take i)).1 ∧ ∃ g ys o1 o2 o3 o4, σ' = [some (.ref a), some (.ref l), some (.ref da), some (.ref g), o1, o2, o3, o4] ∧ H g = none ∧ H' g = some (.lst ys) ∧ Paired (EntW K H') ys ((redoS m (en.take i)).2.map some))
    (L2.Same.seq (s1.trans s2) hl) ⟨s1.trans s2, d1.go s2, ga, [], none, none, none, none, rfl, s1.free n2, e2, .nil⟩ (fun i σ' H' _ hp => L2.Same.seq hp.1 hl) (fun i x σ' H' hx hp => ?_) (fun σ' H' hp => ?_)
  · obtain ⟨s3, d3, g, ys, o1, o2, o3, o4, rfl, ng, eg, dg⟩ := hp
    obtain ⟨e, he, hd⟩ := entsW_at hes hx
    have et : en.take (i + 1) = en.take i ++ [e] := by rw [List.take_add_one, he]; rfl
    have hi := (List.getElem?_eq_some_iff.mp he).1
    obtain ⟨b3, k3, l3⟩ := hok i
    have lt : (en.take i).length ≤ en.length := by rw [List.length_take]; omega
    have lys := paired_len dg
    rw [List.length_map] at lys
    rw [et, redoS_snoc]
    wtm_at "go0"
    cases e with
    | some p =>
      obtain ⟨ta, y, rfl, ht, hy⟩ := hd
      wtm_at "go"
      refine g_ixT (Same.seqT s3 ht) (atI_nat (j := 0) rfl) ?_
      wtm_at "go"
      refine g_br (fun _ => ?_) (fun c => absurd rfl (of_decide_eq_false c))
      wtm_at "go"
      refine g_tyL eg ?_
      wtm_at "go"
      refine g_appendO eg (by omega) fun H4 q4 e4 => ?_
      have s4 := q4.same s3 ng
      have okg : okE ((redoS m (en.take i)).2.map some) := fun r hr => by
        obtain ⟨r', hr', er⟩ := List.mem_map.mp hr
        cases er
        exact k3 r hr'
      refine ⟨s4, Pd.othL eg q4 b3.strict d3, g, _, _, _, _, _, rfl, ng, e4, ?_⟩
      show Paired (EntW K H4) _ (((redoS m (en.take i)).2 ++ [p]).map _)
      rw [List.map_append]
      exact paired_app (entsW_fx (Fx.lst eg q4) okg dg) (.cons ⟨ta, y, rfl, Same.seqT s4 ht, hy.go s4⟩ .nil)
    | none =>
      obtain ⟨ta, rfl, ht⟩ := hd
      wtm_at "go"
      refine g_ixT (Same.seqT s3 ht) (atI_nat (j := 0) rfl) ?_
      wtm_at "go"
      refine g_br (fun c => absurd (V.str.inj (of_decide_eq_true c)) w_kb) (fun _ => ?_)
      wtm_at "go"
      have es : stepR (redoS m (en.take i)) none = (layAll (redoS m (en.take i)).1 (redoS m (en.take i)).2, []) := rfl
      rw [es]
      clear es
      generalize (redoS m (en.take i)).1 = m3 at *
      generalize (redoS m (en.take i)).2 = g3 at *
      have okg : okE (g3.map some) := fun r hr => by
        obtain ⟨r', hr', er⟩ := List.mem_map.mp hr
        cases er
        exact k3 r hr'
      refine g_forLk (fun j σ' H' => Same H H' ∧ Pd K H' da (layAll m3 (g3.take j)) ∧ SqL K H' g ys ∧ Paired (EntW K H') ys (g3.map some) ∧ ∃ o1 o2 o3 o4, σ' = [some (.ref a), some (.ref l), some (.ref da), some (.ref g), o1, o2, o3, o4])
        (SqL.of eg) ⟨s3, d3, SqL.of eg, dg, _, _, _, _, rfl⟩ (fun j σ' H' _ hp => hp.2.2.1) (fun j x σ' H' hx hp => ?_) (fun σ' H' hp => ?_)
      · obtain ⟨s5, d5, g5, dg5, o1, o2, o3, o4, rfl⟩ := hp
        obtain ⟨pe, hpe, hpx⟩ := entsW_at dg5 hx
        rw [List.getElem?_map] at hpe
        obtain ⟨p, hp, rfl⟩ := Option.map_eq_some_iff.mp hpe
        have et : g3.take (j + 1) = g3.take j ++ [p] := by rw [List.take_add_one, hp]; rfl
        have hj := (List.getElem?_eq_some_iff.mp hp).1
        obtain ⟨tb, y, rfl, ht5, hy5⟩ := hpx
        wtm_at "go"
        have lz := layAll_len (m := m3) (g := g3.take j)
        have lz2 : (g3.take j).length ≤ g3.length := by rw [List.length_take]; omega
        refine ⟨da, _, p.1, y, p.2, rfl, d5, hy5, by omega, fun H6 q6 d6 => ?_⟩
        wtm_at "go"
        obtain ⟨kv5, ekv5, _⟩ := id d5
        refine ⟨q6.same s5 n1, ?_, q6.seqL ekv5 g5, entsW_fx (Fx.dict d5.dd q6) okg dg5, _, _, _, _, rfl⟩
        rw [et, layAll_app]
        exact d6
      · obtain ⟨s5, d5, g5, dg5, o1, o2, o3, o4, rfl⟩ := hp
        have e5 : g3.take ys.length = g3 := by rw [lys, List.take_length]
        rw [e5] at d5
        wtm_at "go"
        refine g_lstK (by wtm_at "ln") fun gb H6 n6 s6 e6 => ?_
        wtm_at "go"
        exact ⟨s5.trans s6, d5.go s6, gb, [], _, _, _, _, rfl, s5.free n6, e6, .nil⟩
  · obtain ⟨s3, d3, g, ys, o1, o2, o3, o4, rfl, ng, eg, dg⟩ := hp
    have e3 : en.take xs.length = en := by rw [lx, List.take_length]
    rw [e3] at d3
    wtm_at "go"
    exact q da H' n1 s3 d3
theorem ok_Store_init (T : Tx K mg) : FnOk P w K mg base CX0 7 T.a_Store_init T.d_Store_init ["self", "width", "room", "blocks", "log"] (sp_Store_init K T.C_Store) := by
  refine T.F_Store_init.ok sc_Store_init (fun vs H Q E h => ?_) (fun cdv A outer s H vs Q E hr h => ?_)
  · obtain ⟨p, dx, b, l, m, xs, en, wi, room, rfl, _⟩ := h
    rfl
  obtain ⟨p, dx, b, l, m, xs, en, wi, room, rfl, hp, hb, hl, hes, oe, bm, hlen, w1, w2, r1, r2, fm, hsz, snd, q⟩ := h
  refine ⟨_, (pss_cons (ps_expr (pe_call (ok_check_width T) (hr.mono (by decide)) (by rfl) T.g_check_width T.F_check_width.kp T.b_check_width .nil pass0 (pa_cons (pv 1) pa_nil)))
    (pss_cons (ps_expr (pe_call (ok_check_room T) (hr.mono (by decide)) (by rfl) T.g_check_room T.F_check_room.kp T.b_check_room .nil pass0 (pa_cons (pv 2) pa_nil)))
    (pss_cons (ps_fld (pv 0) (pe_call (ok_redone T) (hr.mono (by decide)) (by rfl) T.g_redone T.F_redone.kp T.b_redone .nil pass0 (pa_cons (pv 3) (pa_cons (pv 4) pa_nil))) rfl)
    (pss_cons (ps_if (pt_not (pt_val (pe_call (ok_sound T) hr (by rfl) T.g_sound T.F_sound.kp T.b_sound .nil pass0 (pa_cons (pe_call (ok_rooted T) (hr.mono (by decide)) (by rfl) T.g_rooted T.F_rooted.kp T.b_rooted .nil pass0 (pa_cons (pe_fld (pv 0) rfl) pa_nil)) (pa_cons (pv 1) pa_nil)))))
      (pss_one ps_never)
      pss_nil)
    (pss_cons (ps_fld (pv 0) (pe_lst pa_nil) rfl)
    (pss_cons (ps_fld (pv 0) (pv 1) rfl)
    (pss_cons (ps_fld (pv 0) (pv 2) rfl)
    (pss_cons (ps_fld (pv 0) (pe_callB my_len (by rfl) T.z_len PySem.boot_len (pa_cons (pv 4) pa_nil)) rfl)
    (pss_cons (ps_setLc (i := 5) (own := [("entry", 6)]) (g := gName 6) rfl sc_Store_init.nd rfl rfl (sw_true rfl rfl rfl (by decide +kernel)) (pi_list (pv 4)) (blkOk_by (own := [("entry", 6)]) (N := N_Store_init) (sc := defScope s_Store_init) (by decide +kernel)) (fun _ _ _ _ _ => (pg_name (i := 6) sc_Store_init.nd rfl (Or.inl rfl))) (fun _ _ _ _ _ => (pts_one (pt_cmpR op_eq (pe_ix (ixTK (K := K) rfl) (pv 6) pe_int (fun _ _ => rfl)) pe_str (nomark _)))) (fun _ _ _ _ _ => (pe_ix (ixTK (K := K) rfl) (pv 6) pe_int (fun _ _ => rfl))))
    (pss_cons (ps_fld (pv 0) (pe_dc (own := [("number", 7)]) (g := gName 7) rfl sc_Store_init.nd (pi_list (pv 5)) (blkOk_by (own := [("number", 7)]) (N := N_Store_init) (sc := defScope s_Store_init) (by decide +kernel)) (fun _ _ _ _ _ => (pg_name (i := 7) sc_Store_init.nd rfl (Or.inl rfl))) (fun _ _ _ _ _ => (pts_one (pt_cmpR (neDK (K := K) rfl hr.units) (pe_dget1 (hu_of hr) (pv 3) (pv 7) ⟨rfl, rfl, rfl, rfl⟩) (pe_dget1 (hu_of hr) (fldK (K := K) rfl (pv 0) rfl) (pv 7) ⟨rfl, rfl, rfl, rfl⟩) (nomark _)))) (fun _ _ _ _ _ => (pv 7)) (fun _ _ _ _ _ => pe_bl)) rfl)
    (pss_one (ps_expr (pe_meth0 (pv 0) T.cl_Store T.m_Store_settle_wholly (ok_Store_settle_wholly T) (hr.mono (by decide)) T.b_Store_settle_wholly .nil pass0))))))))))))), ?_⟩
  have lx := paired_len hes
  have bR : Blk (redoA m en) := redoA_blk bm oe
  have lR := redoA_len bm oe
  have lN := logN_len (E := en)
  wtm_at "go"
  refine ⟨wi, rfl, w1, w2, ?_⟩
  wtm_at "go"
  refine ⟨room, rfl, r1, r2, ?_⟩
  wtm_at "go"
  refine ⟨b, l, m, xs, en, rfl, hb, hl, hes, oe, bm, by omega, fun da H1 n1 s1 d1 => ?_⟩
  have I1 : Ini K T.C_Store H1 p dx da b l (redoA m en) m xs en [] := ⟨s1 _ _ hp, d1, hb.go s1, L2.Same.seq s1 hl, entsW_go s1 hes, bR, bm, oe⟩
  wtm_at "go"
  refine I1.set T.cl_Store T.n_Store__blocks (by simp) [] rfl (by simp) fun H2 o2 I2 => ?_
  have o2 : Oth p H H2 := (Oth.of s1).trans o2
  wtm_at "go"
  refine I2.get look_hit T.cl_Store T.n_Store__blocks ?_
  wtm_at "go"
  refine ⟨da, _, rfl, I2.bl, by omega, fun p3 H3 s3 d3 => ?_⟩
  wtm_at "go"
  refine ⟨p3, _, wi, rfl, d3.dd, (rootA_blk bR).1, fm, hsz, w1, w2, fun H4 s4 => ?_⟩
  rw [snd]
  wtm_at "go"
  refine g_br (fun c => nomatch c) (fun _ => ?_)
  have I4 := I2.go (s3.trans s4)
  have o4 := o2.and (s3.trans s4)
  wtm_at "go"
  refine g_lstK (by wtm_at "ln") fun ld H5 n5 s5 e5 => ?_
  have I5 := I4.go s5
  have o5 := o4.and s5
  have ne : H4 p ≠ none := by rw [I4.ob]; exact fun z => nomatch z
  obtain ⟨fl, lp⟩ := o4.free ne n5
  wtm_at "go"
  refine I5.set T.cl_Store T.n_Store_deeds (by simp) ["_blocks"] rfl (by decide +kernel) fun H6 o6' I6 => ?_
  have e6 := o6' _ _ lp e5
  have o6 := o5.trans o6'
  wtm_at "go"
  refine I6.set T.cl_Store T.n_Store__width (by simp) ["_blocks", "deeds"] rfl (by decide +kernel) fun H7 o7' I7 => ?_
  have e7 := o7' _ _ lp e6
  have o7 := o6.trans o7'
  wtm_at "go"
  refine I7.set T.cl_Store T.n_Store__room (by simp) ["_blocks", "deeds", "_width"] rfl (by decide +kernel) fun H8 o8' I8 => ?_
  have e8 := o8' _ _ lp e7
  have o8 := o7.trans o8'
  wtm_at "go"
  refine g_len (.inl I8.ll) ?_
  wtm_at "go"
  refine I8.set T.cl_Store T.n_Store__logged (by simp) ["_blocks", "deeds", "_width", "_room"] rfl (by decide +kernel) fun H9 o9' I9 => ?_
  have e9 := o9' _ _ lp e8
  have o9 := o8.trans o9'
  wtm_at "go"
  have es9 := I9.es
  refine g_wLk I9.ll ?_
  refine g_lcDW (K := K) walk_list (fun i => (logN (en.take i)).map PyData.int) (by omega) (fun H' s => L2.Same.seq s I9.ll) rfl (fun i _ => strictAll_iff.mpr fun d hd => by obtain ⟨_, _, rfl⟩ := List.mem_map.mp hd; rfl) (fun i _ => ?_) (fun i z Ha Hb QN QE hi sa hy kn ke => ?_) (fun pa ys Ha na sa ea da_ => ?_)
  · rw [List.length_map]
    refine Nat.le_trans logN_len ?_
    rw [List.length_take]
    omega
  · obtain ⟨rfl, hxi⟩ := hy
    obtain ⟨e, he, hd⟩ := entsW_at es9 hxi
    have et : en.take (i + 1) = en.take i ++ [e] := by rw [List.take_add_one, he]; rfl
    refine g_name ⟨rfl, ?_⟩
    cases e with
    | some pr =>
      obtain ⟨ta, y, rfl, ht, hy⟩ := hd
      wtm_at "go"
      refine g_ixT (Same.seqT sa ht) (atI_nat (j := 0) rfl) ?_
      wtm_at "go"
      refine iteT ?_
      wtm_at "go"
      refine g_ixT (Same.seqT sa ht) (atI_nat (j := 1) rfl) ?_
      refine ke _ (.int pr.1) _ ?_ (L2.Same.refl _) (.int _)
      rw [et, logN_snoc, List.map_append]
      rfl
    | none =>
      obtain ⟨ta, rfl, ht⟩ := hd
      wtm_at "go"
      refine g_ixT (Same.seqT sa ht) (atI_nat (j := 0) rfl) ?_
      wtm_at "go"
      have ef : decide (V.str (Str.ofString "kept") = V.str (Str.ofString "block")) = false := by decide +kernel
      rw [ef]
      refine iteF (kn ?_ _ (L2.Same.refl _))
      rw [et, logN_snoc, List.append_nil]
  rw [lx, List.take_length] at da_
  have eys := dpAll_ints da_
  subst eys
  have Ia := I9.go sa
  have oa := o9.and sa
  have ela := sa _ _ e9
  wtm_at "go"
  refine g_dcO (g_wL (g_var rfl (g_wLk (SqL.of ea) ?_)))
  intro D nD
  have neA : Ha p ≠ none := by rw [Ia.ob]; exact fun z => nomatch z
  obtain ⟨fD, nDp⟩ := oa.free neA nD
  have neP : H9 p ≠ none := by rw [I9.ob]; exact fun z => nomatch z
  obtain ⟨N, eN⟩ : ∃ N, N = logN en := ⟨_, rfl⟩
  rw [← eN] at ea da_ lN
  obtain ⟨fw, efw⟩ : ∃ fw : Int → Bool, fw = fun n => !PyData.eqv (optD (getA m n)) (optD (getA (redoA m en) n)) := ⟨_, rfl⟩
  refine dc_it (walk_list (xs := N.map V.int)) (fun i H' => Same Ha H' ∧ Dd K H' D (seenD (waitAll [] ((N.take i).filter fw))))
    ⟨Same.new nD _, [], upd_same, .nil⟩ (fun i H' _ hh => L2.Same.seq hh.1 (SqL.of ea)) (fun i x Hb Hc hi hh hy => ?_) (fun Hb hh => ?_)
  · obtain ⟨sb, kvs, eD, dD⟩ := hh
    obtain ⟨rfl, hx⟩ := hy
    rw [List.getElem?_map] at hx
    obtain ⟨n, hn, rfl⟩ := Option.map_eq_some_iff.mp hx
    have et : N.take (i + 1) = N.take i ++ [n] := by rw [List.take_add_one, hn]; rfl
    have Ib := Ia.go sb
    have oko : ∀ mm : BT, Blk mm → okD (optD (getA mm n)) := fun mm hm => by
      cases e : getA mm n with
      | none => exact ⟨rfl, by simp [optD, PyData.depth]⟩
      | some d2 => exact hm.2 _ (getA_mem e)
    refine g_name ⟨rfl, ?_⟩
    wtm_at "go"
    refine g_rDGet1P Ib.hb (fun R r => g_var rfl r) fun v1 hv1 => ?_
    wtm_at "go"
    refine Ib.get look_hit T.cl_Store T.n_Store__blocks ?_
    refine g_rDGet1P Ib.bl (fun R r => g_var rfl r) fun v2 hv2 => ?_
    refine g_neD hv1.dp hv2.dp (shaped_ok (oko _ bm)) (shaped_ok (oko _ bR)) ?_
    have eq := eqv_strict (oko _ bm).1 (oko _ bR).1
    by_cases hde : optD (getA m n) = optD (getA (redoA m en) n)
    · rw [eq.mpr hde]
      refine g_isB ?_
      refine iteF ?_
      refine ⟨sb, kvs, eD, ?_⟩
      rw [et, List.filter_append, List.filter_cons, if_neg (by rw [efw]; dsimp only; rw [eq.mpr hde]; exact Bool.false_ne_true)]
      rw [List.filter_nil, List.append_nil]
      exact dD
    · have ef : PyData.eqv (optD (getA m n)) (optD (getA (redoA m en) n)) = false := by
        cases h : PyData.eqv (optD (getA m n)) (optD (getA (redoA m en) n)) with
        | false => rfl
        | true => exact absurd (eq.mp h) hde
      rw [ef]
      refine g_isB ?_
      refine iteT ?_
      have lk : kvs.length ≤ i := by
        rw [dD.len]
        unfold seenD
        rw [List.length_map]
        have h1 := waitAll_len (w := []) (ns := (N.take i).filter fw)
        have h2 := List.length_filter_le fw (N.take i)
        rw [List.length_take] at h2
        rw [List.length_nil] at h1
        omega
      rw [List.length_map] at hi
      refine g_var rfl (⟨kvs, .inl n, rfl, eD, Evl.sz_lt (by omega), fun o ob h => ?_, _, upd_same, ?_⟩)
      · rw [upd_ne (ne_of_none h nD)]
        exact sb _ _ h
      · rw [et, List.filter_append, List.filter_cons, if_pos (by rw [efw]; dsimp only; rw [ef]; rfl), List.filter_nil, waitAll_snoc, ← put_wait]
        exact (dD.put (.bl true)).map fun h _ => Dp.oth eD Oth.upd h
  · obtain ⟨sb, dD⟩ := hh
    rw [List.length_map, List.take_length] at dD
    have Ib := Ia.go sb
    have ob := oa.and sb
    wtm_at "go"
    refine Ib.set T.cl_Store T.n_Store__waiting (by simp) ["_blocks", "deeds", "_width", "_room", "_logged"] rfl (by decide +kernel) fun Hc oc' Ic => ?_
    have oc := ob.trans oc'
    have elc := oc' _ _ lp (sb _ _ ela)
    have dc : Dd K Hc D (seenD (waitAll [] (N.filter fw))) := seenD_move dD oc' nDp
    have DA : da ≠ D := fun z => by
      obtain ⟨k, e, _⟩ := Ia.bl
      rw [z, nD] at e
      cases e
    obtain ⟨fda, _⟩ : H da = none ∧ da ≠ p := ⟨n1, I1.nb.2⟩
    have hS : StS K T.C_Store Hc p da ld D (upS0 wi room m en) := by
      refine ⟨⟨dx, ?_⟩, Ic.bl, ⟨[], elc, .nil⟩, ?_, DA, bR, (fun e he => nomatch he), ?_⟩
      · rw [Ic.ob, lx]
        rfl
      · show Dd K Hc D (seenD (waitAll [] ((logN en).filter _)))
        rw [← eN, ← efw]
        exact dc
      · exact waitAll_nd List.nodup_nil
    have lw : (upS0 wi room m en).wait.length ≤ en.length := by
      show (waitAll [] ((logN en).filter _)).length ≤ _
      have h1 := waitAll_len (w := []) (ns := (logN en).filter fun n => !PyData.eqv (optD (getA m n)) (optD (getA (redoA m en) n)))
      have h2 := List.length_filter_le (fun n => !PyData.eqv (optD (getA m n)) (optD (getA (redoA m en) n))) (logN en)
      have h3 := logN_len (E := en)
      rw [List.length_nil] at h1
      omega
    have ld0 : (upS0 wi room m en).deeds.length = 0 := rfl
    wtm_at "go"
    refine hS.meth (by decide +kernel) (by decide +kernel) (by decide +kernel) (by decide +kernel) (by decide +kernel) (by decide +kernel) ?_
    wtm_at "go"
    refine ⟨p, da, ld, D, _, rfl, hS, by omega, by omega, fun Hd od hSd => ?_⟩
    wtm_at "go"
    refine q da ld D Hd fda fl fD (fun x o nx hx => ?_) hSd
    have x1 : x ≠ da := fun z => by rw [z, fda] at hx; cases hx
    have x2 : x ≠ ld := fun z => by rw [z, fl] at hx; cases hx
    have x3 : x ≠ D := fun z => by rw [z, fD] at hx; cases hx
    exact od _ _ nx x1 x2 x3 (oc _ _ nx hx)
theorem ok_put_in (T : Tx K mg) : FnOk P w K mg base CX0 5 T.a_put_in T.d_put_in ["blocks", "width", "key", "value"] (sp_put_inL K) := by
  refine T.F_put_in.ok sc_put_in (fun vs H Q E h => ?_) (fun cdv A outer s H vs Q E hr h => ?_)
  · obtain ⟨b, m, w, PP, d, R, key, v, x, rfl, _⟩ := h
    rfl
  obtain ⟨b, m, w, PP, d, R, key, v, x, rfl, hb, hT, hv, hx1, hx2, hw, hw2, hPP, q⟩ := h
  refine ⟨_, (pss_cons (ps_set (i := 4) sc_put_in.nd rfl (Or.inl rfl) (pe_make T.m_Change_init (ok_Change_init T) (hr.mono (by decide)) (by rfl) T.gC_Change T.b_Change_init .nil pass0 (pa_cons (pv 0) (pa_cons (pv 1) pa_nil))))
    (pss_cons (ps_expr (pe_meth (pv 4) T.cl_Change T.m_Change_hold (ok_Change_hold T) hr T.b_Change_hold .nil pass0 (pa_cons (pv 2) (pa_cons (pe_lst (pa_cons (pe_tup (pa_cons (pv 2) (pa_cons (pv 3) pa_nil))) pa_nil)) pa_nil))))
    (pss_one (ps_ret (pe_meth0 (pv 4) T.cl_Change T.m_Change_told (ok_Change_told T) (hr.mono (by decide)) T.b_Change_told .nil pass0))))), ?_⟩
  have sh : smP [(key, x)] := fun p hp => by rw [List.mem_singleton.mp hp]; exact ⟨hx1, hx2⟩
  wtm_at "go"
  refine g_make ?_
  wtm_at "go"
  refine g_made fun p dx H1 np ndx s1 e1 => ?_
  refine ⟨p, dx, b, w, rfl, e1, fun a H2 na nap o2 hC2 ha2 => ⟨rfl, ?_⟩⟩
  have hC := CS.start (hb.go s1) hT.blk e1 o2 hC2 ha2 na
  have s02 : Same H H2 := o2.same s1 np
  have na0 : H a = none := s1.free na
  wtm_at "go"
  refine hC.ob.meth (by decide +kernel) (by decide +kernel) (by decide +kernel) (by decide +kernel) ?_
  wtm_at "go"
  refine g_tupK (by wtm_at "ln") fun p3 H3 n3 s3 e3 => ?_
  wtm_at "go"
  refine g_lstK (by wtm_at "ln") fun p4 H4 n4 s4 e4 => ?_
  have s24 := s3.trans s4
  have dh : DpAll K H4 [V.ref p3] (rowD [(key, x)]) := .cons (.tup (SqT.of (s4 _ _ e3)) (.cons (.int _) (.cons (Dp.go (s02.trans s24) hv) .nil))) .nil
  wtm_at "go"
  refine ⟨p, b, a, w, m, PP, d, R, key, p4, _, [(key, x)], rfl, hC.go s24, hT, e4, dh, sh, by simp, hw, hw2, hPP, fun H5 o5 hC5 => ?_⟩
  wtm_at "go"
  refine hC5.ob.meth (by decide +kernel) (by decide +kernel) (by decide +kernel) (by decide +kernel) ?_
  refine ⟨p, b, a, w, _, m, rfl, hC5.ob, hC5.bl.dd, hC5.af, hC5.okm.2, hC5.okc, reqC_len hw hT hPP, hC5.ne, hC5.ndc, fun t H6 nt s6 d6 => ?_⟩
  have s05 : Same H H5 := o5.same (s02.trans s24) np na0
  exact q t _ H6 (s05.free nt) (s05.trans s6) d6 (hT.told hw sh (by simp)) told_short
theorem ok_drop_from (T : Tx K mg) : FnOk P w K mg base CX0 5 T.a_drop_from T.d_drop_from ["blocks", "width", "key"] (sp_drop_fromL K) := by
  refine T.F_drop_from.ok sc_drop_from (fun vs H Q E h => ?_) (fun cdv A outer s H vs Q E hr h => ?_)
  · obtain ⟨b, m, w, PP, d, R, key, rfl, _⟩ := h
    rfl
  obtain ⟨b, m, w, PP, d, R, key, rfl, hb, hT, hw, hw2, hPP, q⟩ := h
  refine ⟨_, (pss_cons (ps_set (i := 3) sc_drop_from.nd rfl (Or.inl rfl) (pe_make T.m_Change_init (ok_Change_init T) (hr.mono (by decide)) (by rfl) T.gC_Change T.b_Change_init .nil pass0 (pa_cons (pv 0) (pa_cons (pv 1) pa_nil))))
    (pss_cons (ps_expr (pe_meth (pv 3) T.cl_Change T.m_Change_hold (ok_Change_hold T) hr T.b_Change_hold .nil pass0 (pa_cons (pv 2) (pa_cons (pe_lst pa_nil) pa_nil))))
    (pss_one (ps_ret (pe_meth0 (pv 3) T.cl_Change T.m_Change_told (ok_Change_told T) (hr.mono (by decide)) T.b_Change_told .nil pass0))))), ?_⟩
  have sh : smP [] := fun p hp => nomatch hp
  wtm_at "go"
  refine g_make ?_
  wtm_at "go"
  refine g_made fun p dx H1 np ndx s1 e1 => ?_
  refine ⟨p, dx, b, w, rfl, e1, fun a H2 na nap o2 hC2 ha2 => ⟨rfl, ?_⟩⟩
  have hC := CS.start (hb.go s1) hT.blk e1 o2 hC2 ha2 na
  have s02 : Same H H2 := o2.same s1 np
  have na0 : H a = none := s1.free na
  wtm_at "go"
  refine hC.ob.meth (by decide +kernel) (by decide +kernel) (by decide +kernel) (by decide +kernel) ?_
  wtm_at "go"
  refine g_lstK (by wtm_at "ln") fun p4 H4 n4 s4 e4 => ?_
  wtm_at "go"
  refine ⟨p, b, a, w, m, PP, d, R, key, p4, _, [], rfl, hC.go s4, hT, e4, .nil, sh, by simp, hw, hw2, hPP, fun H5 o5 hC5 => ?_⟩
  wtm_at "go"
  refine hC5.ob.meth (by decide +kernel) (by decide +kernel) (by decide +kernel) (by decide +kernel) ?_
  refine ⟨p, b, a, w, _, m, rfl, hC5.ob, hC5.bl.dd, hC5.af, hC5.okm.2, hC5.okc, reqC_len hw hT hPP, hC5.ne, hC5.ndc, fun t H6 nt s6 d6 => ?_⟩
  have s05 : Same H H5 := o5.same (s02.trans s4) np na0
  exact q t _ H6 (s05.free nt) (s05.trans s6) d6 (hT.told hw sh (by simp)) told_short
theorem ok_Store_put (T : Tx K mg) : FnOk P w K mg base CX0 6 T.a_Store_put T.d_Store_put ["self", "key", "value"] (sp_Store_put K T.C_Store) := by
  refine T.F_Store_put.ok sc_Store_put (fun vs H Q E h => ?_) (fun cdv A outer s H vs Q E hr h => ?_)
  · obtain ⟨p, b, l, u, st, PP, d, R, key, z, rfl, _⟩ := h
    rfl
  obtain ⟨p, b, l, u, st, PP, d, R, key, z, rfl, hS, hH, hk, hz, hD, q⟩ := h
  obtain ⟨hT, hw, hw2, hP, hm⟩ := id hH
  refine ⟨_, (pss_cons (ps_expr (pe_call (ok_check_key T) (hr.mono (by decide)) (by rfl) T.g_check_key T.F_check_key.kp T.b_check_key .nil pass0 (pa_cons (pv 1) pa_nil)))
    (pss_cons (ps_expr (pe_call (ok_check_value T) (hr.mono (by decide)) (by rfl) T.g_check_value T.F_check_value.kp T.b_check_value .nil pass0 (pa_cons (pv 2) pa_nil)))
    (pss_one (ps_expr (pe_meth (pv 0) T.cl_Store T.m_Store_request (ok_Store_request T) (hr.mono (by decide)) T.b_Store_request .nil pass0 (pa_cons (pe_call (ok_put_in T) hr (by rfl) T.g_put_in T.F_put_in.kp T.b_put_in .nil pass0 (pa_cons (pe_call (ok_rooted T) (hr.mono (by decide)) (by rfl) T.g_rooted T.F_rooted.kp T.b_rooted .nil pass0 (pa_cons (pe_fld (pv 0) rfl) pa_nil)) (pa_cons (pe_fld (pv 0) rfl) (pa_cons (pv 1) (pa_cons (pv 2) pa_nil))))) pa_nil)))))), ?_⟩
  have hd13 := hT.depth hw (by omega)
  have hml := hT.m_len hw
  have hzv : isValV (.str z) = true := hz
  have hz60 : z.length ≤ 1000 := by
    have h' : (decide (z.length ≤ 60) && z.cps.toList.all signOk) = true := hz
    rw [Bool.and_eq_true] at h'
    have := of_decide_eq_true h'.1
    omega
  unfold allD at hD
  wtm_at "go"
  refine ⟨key, rfl, hk, ?_⟩
  wtm_at "go"
  refine ⟨z, rfl, hzv, hz60, fun H1 s1 => ?_⟩
  have hS1 := hS.go s1
  wtm_at "go"
  refine hS1.meth (by decide +kernel) (by decide +kernel) (by decide +kernel) (by decide +kernel) (by decide +kernel) (by decide +kernel) ?_
  wtm_at "go"
  refine hS1.get stF_blocks T.cl_Store T.n_Store__blocks ?_
  wtm_at "go"
  refine ⟨b, st.m, rfl, hS1.bl, by omega, fun p2 H2 s2 h2 => ?_⟩
  have hS2 := hS1.go s2
  wtm_at "go"
  refine hS2.get stF_width T.cl_Store T.n_Store__width ?_
  wtm_at "go"
  refine ⟨p2, rootA st.m, st.w, PP, d, R, key, .str z, .str z, rfl, h2, hT, .str z, strok_val hz, (by simp [PyData.depth]), hw, hw2, hP, fun t TT H3 n3 s3 d3 told len => ?_⟩
  have tb : t ≠ b := fun e => by
    obtain ⟨kv, e2, _⟩ := hS2.bl
    rw [← e, n3] at e2
    cases e2
  have tu : t ≠ u := fun e => by
    obtain ⟨kv, e2, _⟩ := hS2.wa
    rw [← e, n3] at e2
    cases e2
  wtm_at "go"
  refine ⟨p, b, l, u, t, st, TT, rfl, hS2.go s3, d3, tb, tu, told.nd, told.ok, by omega, by omega, by omega, by omega, fun H4 o4 hS4 => ?_⟩
  wtm_at "go"
  exact q TT H4 ((Oth4.of (s1.trans (s2.trans s3))).trans o4) told (by omega) hS4
theorem ok_Store_drop (T : Tx K mg) : FnOk P w K mg base (L2.CX P w) 6 T.a_Store_drop T.d_Store_drop ["self", "key"] (sp_Store_drop K T.C_Store T.E_NotThere) := by
  refine T.F_Store_drop.okX sc_Store_drop (fun vs H Q E h => ?_) (fun cdv A outer s H vs Q E hr h => ?_)
  · obtain ⟨p, b, l, u, st, PP, d, R, key, rfl, _⟩ := h
    rfl
  obtain ⟨p, b, l, u, st, PP, d, R, key, rfl, hS, hH, hk, hD, qn, qy⟩ := h
  obtain ⟨hT, hw, hw2, hP, hm⟩ := id hH
  refine ⟨_, (pss_cons (ps_if (pt_cmpR my_isN (pe_meth (pv 0) T.cl_Store T.m_Store_value_at (ok_Store_value_at T) (hr.mono (by decide)) T.b_Store_value_at .nil pass0 (pa_cons (pv 1) pa_nil)) pe_non (nomark _))
      (pss_one (ps_raise rfl (takes_of rfl rfl rfl rfl) (pmk_own PySem.F.excBase_ValueError T.ex_NotThere T.eg_NotThere T.ek_NotThere (raises_own T.eb_NotThere T.et_NotThere) (by exact rfl))))
      pss_nil)
    (pss_one (ps_expr (pe_meth (pv 0) T.cl_Store T.m_Store_request (ok_Store_request T) (hr.mono (by decide)) T.b_Store_request .nil pass0 (pa_cons (pe_call (ok_drop_from T) hr (by rfl) T.g_drop_from T.F_drop_from.kp T.b_drop_from .nil pass0 (pa_cons (pe_fld (pv 0) rfl) (pa_cons (pe_fld (pv 0) rfl) (pa_cons (pv 1) pa_nil)))) pa_nil))))), ?_⟩
  have hd13 := hT.depth hw (by omega)
  have hml := hT.m_len hw
  unfold allD at hD
  wtm_at "go"
  refine hS.meth (by decide +kernel) (by decide +kernel) (by decide +kernel) (by decide +kernel) (by decide +kernel) (by decide +kernel) ?_
  wtm_at "go"
  refine ⟨p, b, l, u, st, PP, d, R, key, rfl, hS, hH, hk, fun v H1 s1 hv => ?_⟩
  have hS1 := hS.go s1
  wtm_at "go"
  cases e : getA PP key with
  | none =>
    unfold valP at hv
    rw [e] at hv
    cases dp_none hv
    wtm_at "go"
    exact qn e H1 s1
  | some x =>
    have hx := hT.okp.1 _ (getA_mem e)
    have hne : x ≠ .none := fun z => by
      rw [z] at hx
      exact nomatch hx.2
    unfold valP at hv
    rw [e] at hv
    rw [dp_some hv hne]
    wtm_at "go"
    have eR : rootA st.m = st.m := hT.root_some fun z => by
      rw [z] at e
      exact nomatch e
    have hT' := hT
    rw [eR] at hT'
    refine hS1.meth (by decide +kernel) (by decide +kernel) (by decide +kernel) (by decide +kernel) (by decide +kernel) (by decide +kernel) ?_
    wtm_at "go"
    refine hS1.get stF_blocks T.cl_Store T.n_Store__blocks ?_
    wtm_at "go"
    refine hS1.get stF_width T.cl_Store T.n_Store__width ?_
    wtm_at "go"
    refine ⟨b, st.m, st.w, PP, d, R, key, rfl, hS1.bl, hT', hw, hw2, hP, fun t TT H3 n3 s3 d3 told len => ?_⟩
    have tb : t ≠ b := fun e => by
      obtain ⟨kv, e2, _⟩ := hS1.bl
      rw [← e, n3] at e2
      cases e2
    have tu : t ≠ u := fun e => by
      obtain ⟨kv, e2, _⟩ := hS1.wa
      rw [← e, n3] at e2
      cases e2
    wtm_at "go"
    refine ⟨p, b, l, u, t, st, TT, rfl, hS1.go s3, d3, tb, tu, told.nd, told.ok, by omega, by omega, by omega, by omega, fun H4 o4 hS4 => ?_⟩
    wtm_at "go"
    refine qy (by rw [e]; rfl) TT H4 ((Oth4.of (s1.trans s3)).trans o4) ?_ (by omega) hS4
    rw [eR]
    exact told
theorem ok_opened (T : Tx K mg) : FnOk P w K mg base CX0 9 T.a_opened T.d_opened ["width", "room"] (sp_opened K T.C_Store) := by
  refine T.F_opened.ok sc_opened (fun vs H Q E h => ?_) (fun cdv A outer s H vs Q E hr h => ?_)
  · obtain ⟨wi, room, rfl, _⟩ := h
    rfl
  obtain ⟨wi, room, rfl, w1, w2, r1, r2, q⟩ := h
  refine ⟨_, (pss_one (ps_ret (pe_make T.m_Store_init (ok_Store_init T) hr (by rfl) T.gC_Store T.b_Store_init .nil pass0 (pa_cons (pv 0) (pa_cons (pv 1) (pa_cons pe_dnewK (pa_cons (pe_lst pa_nil) pa_nil))))))), ?_⟩
  wtm_at "go"
  refine g_make ?_
  wtm_at "go"
  refine g_dnewPd (K := K) fun b0 H1 n1 s1 d1 => ?_
  wtm_at "go"
  refine g_lstK (by wtm_at "ln") fun l0 H2 n2 s2 e2 => ?_
  wtm_at "go"
  refine g_made fun p dx H3 np ndx s3 e3 => ?_
  refine ⟨p, dx, b0, l0, [], [], [], wi, room, rfl, e3, (d1.go s2).go s3, SqL.of (s3 _ _ e2), .nil, (fun z hz => nomatch hz), Blk.nil, by simp, w1, w2, r1, r2, fit_none, (by show 1 * wi.toNat ≤ 25000; omega), (tree_none w1).sound, fun b' l' u' H4 nb nl nu o4 hS => ⟨rfl, ?_⟩⟩
  rw [upS_nil] at hS
  have s12 := s1.trans s2
  have s123 := s12.trans s3
  exact q p b' l' u' H4 (s12.free np) (s123.free nb) (s123.free nl) (s123.free nu) (o4.same s123 (s12.free np)) hS
theorem ok_l_cell_at (T : Tx K mg) : FnOk P w K mg base CX0 1 T.a_l_cell_at T.d_l_cell_at ["_law_script", "_law_k"] (sp_cell K) := by
  refine T.F_l_cell_at.ok sc_l_cell_at (fun vs H Q E h => ?_) (fun cdv A outer s H vs Q E hr h => ?_)
  · obtain ⟨a, ns, k, rfl, _⟩ := h
    rfl
  obtain ⟨a, ns, k, rfl, hS, h0, q⟩ := h
  refine ⟨_, (pss_cons (ps_if (pt_cmpR op_lt (pv 1) (pe_callB my_len (by rfl) T.z_len PySem.boot_len (pa_cons (pv 0) pa_nil)) (nomark _))
      (pss_one (ps_ret (pe_ix ix_list (pv 0) (pv 1) (fun _ _ => rfl))))
      pss_nil)
    (pss_one (ps_ret pe_int))), ?_⟩
  wtm_at "go"
  refine g_br (fun c => ?_) (fun c => ?_)
  · have c' : k < ((ns.map V.int).length : Int) := of_decide_eq_true c
    rw [List.length_map] at c'
    wtm_at "go"
    exact g_ixL hS (atI_cell h0 c') q
  · have c' : ¬ k < ((ns.map V.int).length : Int) := of_decide_eq_false c
    rw [List.length_map] at c'
    rw [cell_out c'] at q
    wtm_at "go"
    exact q
def sp_l_width_by : Sp := fun vs H Q _ => ∃ c : Int, vs = [.int c] ∧ ∀ w : Int, 3 ≤ w → w ≤ 64 → Q (.int w) H
theorem ok_l_width_by (T : Tx K mg) : FnOk P w K mg base CX0 1 T.a_l_width_by T.d_l_width_by ["_law_cell"] sp_l_width_by := by
  refine T.F_l_width_by.ok sc_l_width_by (fun vs H Q E h => ?_) (fun cdv A outer s H vs Q E hr h => ?_)
  · obtain ⟨c, rfl, _⟩ := h
    rfl
  obtain ⟨c, rfl, q⟩ := h
  refine ⟨_, (pss_cons (ps_if (pt_cmpR op_eq (pe_op op_mod (pv 0) pe_int) pe_int (nomark _))
      (pss_one (ps_ret (pe_op op_add pe_int (pe_op op_mod (pe_op op_fdiv (pv 0) pe_int) pe_int))))
      pss_nil)
    (pss_one (ps_ret (pe_op op_add pe_int (pe_op op_mod (pe_op op_fdiv (pv 0) pe_int) pe_int))))), ?_⟩
  wtm_at "go"
  refine g_br (fun _ => ?_) (fun _ => ?_)
  · wtm_at "go"
    exact q _ (by omega) (by omega)
  · wtm_at "go"
    exact q _ (by omega) (by omega)
theorem ok_l_room_by (T : Tx K mg) : FnOk P w K mg base CX0 1 T.a_l_room_by T.d_l_room_by ["_law_cell"] sp_l_room_by := by
  refine T.F_l_room_by.ok sc_l_room_by (fun vs H Q E h => ?_) (fun cdv A outer s H vs Q E hr h => ?_)
  · obtain ⟨c, rfl, _⟩ := h
    rfl
  obtain ⟨c, rfl, q⟩ := h
  refine ⟨_, (pss_cons (ps_if (pt_cmpR op_eq (pe_op op_mod (pv 0) pe_int) pe_int (nomark _))
      (pss_one (ps_ret (pe_op op_add pe_int (pe_op op_mod (pe_op op_fdiv (pv 0) pe_int) pe_int))))
      pss_nil)
    (pss_one (ps_ret (pe_op op_add pe_int (pe_op op_mod (pe_op op_fdiv (pv 0) pe_int) pe_int))))), ?_⟩
  wtm_at "go"
  refine g_br (fun _ => ?_) (fun _ => ?_)
  · wtm_at "go"
    exact q _ (by omega) (by omega)
  · wtm_at "go"
    exact q _ (by omega) (by omega)
theorem ok_l_key_by (T : Tx K mg) : FnOk P w K mg base CX0 1 T.a_l_key_by T.d_l_key_by ["_law_cell"] sp_l_key_by := by
  refine T.F_l_key_by.ok sc_l_key_by (fun vs H Q E h => ?_) (fun cdv A outer s H vs Q E hr h => ?_)
  · obtain ⟨c, rfl, _⟩ := h
    rfl
  obtain ⟨c, rfl, hb, q⟩ := h
  refine ⟨_, (pss_cons (ps_if (pt_cmpR op_eq (pe_op op_mod (pv 0) pe_int) pe_int (nomark _))
      (pss_one (ps_ret (pe_op op_add (pe_op op_sub (pe_op op_mod (pe_op op_mulX (pe_op op_fdiv (pv 0) pe_int) (pe_op op_add (pe_op op_pow pe_int pe_int) pe_int)) (pe_op op_sub (pe_op op_mulX pe_int (pe_op op_pow pe_int pe_int)) pe_int)) (pe_op op_pow pe_int pe_int)) pe_int)))
      pss_nil)
    (pss_one (ps_ret (pe_op op_sub (pe_op op_mod (pe_op op_fdiv (pv 0) pe_int) pe_int) pe_int)))), ?_⟩
  have hKB : KB = 1000000000000000000000000000000000000000000000000000000000000 := by decide +kernel
  have e41 : (10 : Int) ^ (41 : Int).toNat = 100000000000000000000000000000000000000000 := by decide +kernel
  have e60 : (10 : Int) ^ (60 : Int).toNat = 1000000000000000000000000000000000000000000000000000000000000 := by decide +kernel
  wtm_at "go"
  refine g_br (fun _ => ?_) (fun _ => ?_)
  · wtm_at "go"
    rw [e41]
    refine g_rI (mulBits (Nat.le_trans (bits_near (n := 9000000) hb (by omega)) (by decide)) (by decide +kernel)) ?_
    wtm_at "go"
    rw [e60]
    wtm_at "go"
    refine q _ (keyD_iff ?_ ?_) <;> omega
  · wtm_at "go"
    refine q _ (keyD_iff ?_ ?_) <;> omega
theorem ok_l_value_by (T : Tx K mg) : FnOk P w K mg base CX0 1 T.a_l_value_by T.d_l_value_by ["_law_cell"] sp_l_value_by := by
  refine T.F_l_value_by.ok sc_l_value_by (fun vs H Q E h => ?_) (fun cdv A outer s H vs Q E hr h => ?_)
  · obtain ⟨c, rfl, _⟩ := h
    rfl
  obtain ⟨c, rfl, hbits, q⟩ := h
  refine ⟨_, (pss_cons (ps_set (i := 1) sc_l_value_by.nd rfl (Or.inr rfl) pe_str)
    (pss_cons (ps_set (i := 1) sc_l_value_by.nd rfl (Or.inr rfl) (pe_op my_addS (pv 1) pe_str))
    (pss_cons (ps_set (i := 0) sc_l_value_by.nd rfl (Or.inr rfl) (pe_op op_mod (pe_op op_mulX (pv 0) pe_int) pe_int))
    (pss_cons (ps_set (i := 2) sc_l_value_by.nd rfl (Or.inl rfl) (pe_op op_mod (pv 0) pe_int))
    (Evl.pss_cut (ps_if (pt_cmpR op_eq (pe_op op_mod (pe_op op_fdiv (pv 0) pe_int) pe_int) pe_int (nomark _))
      (pss_one (ps_set (i := 2) sc_l_value_by.nd rfl (Or.inl rfl) (pe_op op_mod (pe_op op_fdiv (pv 0) pe_int) pe_int)))
      pss_nil)
    (pss_cons (ps_set (i := 3) sc_l_value_by.nd rfl (Or.inr rfl) (pe_ix ix_list (pe_lst (pa_cons pe_int (pa_cons pe_int (pa_cons pe_int pa_nil)))) (pe_op op_mod (pe_op op_fdiv (pv 0) pe_int) pe_int) (fun _ _ => rfl)))
    (pss_one (ps_ret (my_join pe_str (pe_lc (own := [("_law_k", 4)]) (g := gName 4) (tt := tYes) rfl sc_l_value_by.nd (pi_range1 (by rfl) T.z_range (pa_cons (pv 2) pa_nil)) (blkOk_by (own := [("_law_k", 4)]) (N := N_l_value_by) (sc := defScope s_l_value_by) (by decide +kernel)) (fun _ _ _ _ _ => (pg_name (i := 4) sc_l_value_by.nd rfl (Or.inl rfl))) (fun _ _ _ _ _ => pts_nil) (fun _ _ _ _ _ => (pe_ix ix_str (pv 1) (pe_op op_mod (pe_op op_add (pe_op op_fdiv (pv 0) pe_int) (pe_op op_mulX (pv 3) (pv 4))) pe_int) (fun _ _ => rfl))))))))))))), ?_⟩
  wtm_at "go"
  refine g_addS (by decide +kernel) ?_
  have el : ((Str.ofString " !\"#$&'()*+,-./0123456789:;<=>?@ABCDEFGHIJKLMNOPQRSTUVWXYZ[\\]^_`") ++ (Str.ofString "abcdefghijklmnopqrstuvwxyz{|}~")).cps.toList = someL := rfl
  generalize (Str.ofString " !\"#$&'()*+,-./0123456789:;<=>?@ABCDEFGHIJKLMNOPQRSTUVWXYZ[\\]^_`") ++ (Str.ofString "abcdefghijklmnopqrstuvwxyz{|}~") = so at el
  have hso : so.length ≤ sizeLine := by rw [str_len, el, someL_len]; decide
  wtm_at "go"
  have hc0 := Int.emod_nonneg (c * 69621) (show (2097143 : Int) ≠ 0 by decide)
  have hc1 := Int.emod_lt_of_pos (c * 69621) (show (0 : Int) < 2097143 by decide)
  generalize c * 69621 % 2097143 = m at hc0 hc1
  refine g_cut (fun σ' H' => ∃ z : Int, σ' = [some (.int m), some (.str so), some (.int z), none, none] ∧ H' = H ∧ 0 ≤ z ∧ z ≤ 60) ?_ ?_
  · wtm_at "go"
    refine g_br (fun c => ?_) (fun c => ?_) <;> (wtm_at "go"; exact ⟨_, rfl, rfl, by omega, by omega⟩)
  rintro σ' H1 ⟨z, rfl, rfl, hz0, hz1⟩
  wtm_at "go"
  refine g_lstK (by wtm_at "ln") fun p H2 n2 s2 e2 => ?_
  wtm_at "go"
  have hst : ∃ st : Int, atI [V.int 0, V.int 1, V.int 7] (m / 915 % 3) = some (.int st) ∧ 0 ≤ st ∧ st ≤ 7 := by
    have h3 : m / 915 % 3 = 0 ∨ m / 915 % 3 = 1 ∨ m / 915 % 3 = 2 := by omega
    rcases h3 with h | h | h <;> rw [h]
    · exact ⟨0, atI_nat (j := 0) rfl, by decide, by decide⟩
    · exact ⟨1, atI_nat (j := 1) rfl, by decide, by decide⟩
    · exact ⟨7, atI_nat (j := 2) rfl, by decide, by decide⟩
  obtain ⟨st, est, hst0, hst1⟩ := hst
  refine g_ixL (SqL.of e2) est ?_
  wtm_at "go"
  refine g_m1 (fun R r => by wtm_at "go"; exact r) ?_
  refine g_lcR1 (n := z) (fun i y H => y = .str ⟨#[someL.getD ((m / 2745 + st * (i : Int)) % 94).toNat 0]⟩) (fun R r => by wtm_at "go"; exact r) (by omega) (fun x => rfl)
    (fun i y H1 H2 st e => e) (fun i H1 QE hi s1 k => ?_) (fun p ys H1 n1 s1 e1 hyl hys => ?_)
  · have b1 := Int.emod_nonneg (m / 2745 + st * (i : Int)) (show (94 : Int) ≠ 0 by decide)
    have b2 := Int.emod_lt_of_pos (m / 2745 + st * (i : Int)) (show (0 : Int) < 94 by decide)
    wtm_at "go"
    generalize (m / 2745 + st * (i : Int)) % 94 = ix at b1 b2 k
    have e3 : atI so.cps.toList ix = some (someL.getD ix.toNat 0) := by
      rw [el, show ix = ((ix.toNat : Nat) : Int) by omega]
      refine atI_nat ?_
      have h3 : ix.toNat < someL.length := by rw [someL_len]; omega
      rw [Int.toNat_natCast, List.getD_eq_getElem?_getD, List.getElem?_eq_getElem h3]
      rfl
    exact g_ixS hso e3 (k _ H1 (L2.Same.refl _) rfl)
  · have ey : ys = ((signsF (fun i => m / 2745 + st * (i : Int)) z.toNat).map fun c => (⟨#[c]⟩ : Str)).map V.str := by
      rw [← strL]
      refine list_eq (by rw [hyl, List.length_map, signsF_len]) fun i y hy => ?_
      have hi := (List.getElem?_eq_some_iff.mp hy).1
      rw [hys i y hy]
      unfold signsF
      rw [List.map_map, List.getElem?_map, List.getElem?_range (by omega)]
      rfl
    subst ey
    have hj := join_signs (signsF (fun i => m / 2745 + st * (i : Int)) z.toNat)
    refine g_join (SqL.of e1) ?_ ?_
    · rw [sum_ones, List.length_map, signsF_len, show (Str.ofString "").length = 0 by decide +kernel]
      omega
    · have hl : (Txt.join (Str.ofString "") ((signsF (fun i => m / 2745 + st * (i : Int)) z.toNat).map fun c => (⟨#[c]⟩ : Str))).length = z.toNat := by rw [str_len, hj, signsF_len]
      refine q _ H1 (s2.trans s1) ?_
      show (decide (_ ≤ 60) && _) = true
      rw [hj, signsF_ok, Bool.and_true]
      exact decide_eq_true (by omega)
theorem ok_l_held (T : Tx K mg) : FnOk P w K mg base CX0 1 T.a_l_held T.d_l_held ["_law_row", "_law_key", "_law_value"] (sp_l_held K) := by
  refine T.F_l_held.ok sc_l_held (fun vs H Q E h => ?_) (fun cdv A outer s H vs Q E hr h => ?_)
  · obtain ⟨r, xs, P, key, v, x, rfl, _⟩ := h
    rfl
  obtain ⟨r, xs, P, key, v, x, rfl, hx, hd, sm, hl, hv, hx1, hx2, q⟩ := h
  refine ⟨_, (pss_cons (ps_setLc (i := 3) (own := [("_law_pair", 4)]) (g := gName 4) rfl sc_l_held.nd rfl rfl (sw_true rfl rfl rfl (by decide +kernel)) (pi_list (pv 0)) (blkOk_by (own := [("_law_pair", 4)]) (N := N_l_held) (sc := defScope s_l_held) (by decide +kernel)) (fun _ _ _ _ _ => (pg_name (i := 4) sc_l_held.nd rfl (Or.inl rfl))) (fun _ _ _ _ _ => (pts_one (pt_cmpR op_lt (pe_ix (ixTK (K := K) rfl) (pv 4) pe_int (fun _ _ => rfl)) (pv 1) (nomark _)))) (fun _ _ _ _ _ => (pv 4)))
    (Evl.pss_cut (ps_if (pt_cmpR my_notN (pv 2) pe_non (nomark _))
      (pss_one (ps_expr (pe_bm PySem.F.plainAttrs_list PySem.F.slot_list_append PySem.F.type_list_append mt_append (pv 3) (pa_cons (pe_tup (pa_cons (pv 1) (pa_cons (pv 2) pa_nil))) pa_nil))))
      pss_nil)
    (pss_one (ps_ret (pe_op op_cat (pv 3) (pe_lc (own := [("_law_pair", 4)]) (g := gName 4) rfl sc_l_held.nd (pi_list (pv 0)) (blkOk_by (own := [("_law_pair", 4)]) (N := N_l_held) (sc := defScope s_l_held) (by decide +kernel)) (fun _ _ _ _ _ => (pg_name (i := 4) sc_l_held.nd rfl (Or.inl rfl))) (fun _ _ _ _ _ => (pts_one (pt_cmpR op_gt (pe_ix (ixTK (K := K) rfl) (pv 4) pe_int (fun _ _ => rfl)) (pv 1) (nomark _)))) (fun _ _ _ _ _ => (pv 4)))))))), ?_⟩
  have lx := dpAll_len hd
  unfold rowD at lx
  rw [List.length_map] at lx
  wtm_at "go"
  refine g_wLk hx ?_
  refine g_lcDW (K := K) walk_list (fun i => rowD ((P.take i).filter fun y => decide (y.1 < key))) (by omega) (fun H' s => L2.Same.seq s hx) rfl (fun i _ => smP.strict fun y hy => sm y (List.mem_of_mem_take (List.mem_filter.mp hy).1)) (fun i _ => ?_) (fun i z H3 H4 QN QE hi s3 hy kn ke => ?_) (fun p3 ys3 H3 n3 s3 e3 d3 => ?_)
  · unfold rowD
    rw [List.length_map]
    refine Nat.le_trans (List.length_filter_le ..) ?_
    rw [List.length_take]
    omega
  · obtain ⟨rfl, hxi⟩ := hy
    obtain ⟨pr, hpr, hpx⟩ := dpAll_at' (f := pairD) hd hxi
    have et : P.take (i + 1) = P.take i ++ [pr] := by rw [List.take_add_one, hpr]; rfl
    obtain ⟨ta, y, rfl, ht, hy⟩ := dp_pair hpx
    refine g_name ⟨rfl, ?_⟩
    wtm_at "go"
    refine g_ixT (Same.seqT s3 ht) (atI_nat (j := 0) rfl) ?_
    wtm_at "go"
    by_cases c : pr.1 < key
    · rw [decide_eq_true c]
      refine iteT (g_var rfl (ke _ (pairD pr) _ ?_ (L2.Same.refl _) (Dp.go s3 hpx)))
      rw [et, List.filter_append, List.filter_cons, if_pos (decide_eq_true c)]
      unfold rowD
      rw [List.map_append]
      rfl
    · rw [decide_eq_false c]
      refine iteF (kn ?_ _ (L2.Same.refl _))
      rw [et, List.filter_append, List.filter_cons, if_neg (by simpa using c)]
      simp
  rw [lx, List.take_length] at d3
  have l3 := dpAll_len d3
  unfold rowD at l3
  rw [List.length_map] at l3
  have l3' := List.length_filter_le (fun y : Int × PyData => decide (y.1 < key)) P
  have sm3 : smP (P.filter fun y => decide (y.1 < key)) := fun y hy => sm y (List.mem_filter.mp hy).1
  have smh : smP (heldV key x) := fun y hy => by
    unfold heldV at hy
    cases x <;> first | (rw [List.mem_singleton.mp hy]; exact ⟨hx1, hx2⟩) | exact nomatch hy
  have lh : (heldV key x).length ≤ 1 := by unfold heldV; split <;> simp
  wtm_at "go"
  refine g_cut (fun σ' H' => σ' = [some (.ref r), some (.int key), some v, some (.ref p3), none] ∧ Same H H' ∧ ∃ ys, H' p3 = some (.lst ys) ∧ DpAll K H' ys (rowD ((P.filter fun y => decide (y.1 < key)) ++ heldV key x))) ?_ (fun σ' H' hp => ?_)
  · wtm_at "go"
    by_cases hxn : x = .none
    · subst hxn
      cases dp_none hv
      wtm_at "go"
      refine g_br (fun c => nomatch c) (fun _ => ?_)
      wtm_at "go"
      exact ⟨rfl, s3, ys3, e3, by unfold heldV; rw [List.append_nil]; exact d3⟩
    · rw [dp_some hv hxn, heldV_some hxn]
      wtm_at "go"
      refine g_br (fun _ => ?_) (fun c => nomatch c)
      wtm_at "go"
      refine g_tyL e3 ?_
      wtm_at "go"
      refine g_tupK (by wtm_at "ln") fun p4 H4 n4 s4 e4 => ?_
      wtm_at "go"
      refine g_appendO (s4 _ _ e3) (by omega) fun H5 o5 e5 => ?_
      wtm_at "go"
      refine ⟨rfl, o5.same (s3.trans s4) n3, _, e5, ?_⟩
      unfold rowD
      rw [List.map_append]
      refine dpAll_app (DpAll.othL (s4 _ _ e3) o5 sm3.strict (DpAll.go s4 d3)) ?_
      exact .cons (Dp.othL (s4 _ _ e3) o5 (pairD_strict hx1) (.tup (SqT.of e4) (.cons (.int _) (.cons (Dp.go (s3.trans s4) hv) .nil)))) .nil
  obtain ⟨rfl, s5, ys5, e5, d5⟩ := hp
  have l5 := dpAll_len d5
  unfold rowD at l5
  rw [List.length_map, List.length_append] at l5
  have hx5 := L2.Same.seq s5 hx
  have hd5 := DpAll.go s5 hd
  wtm_at "go"
  refine g_wLk hx5 ?_
  refine g_lcDW (K := K) walk_list (fun i => rowD ((P.take i).filter fun y => decide (y.1 > key))) (by omega) (fun H' s => L2.Same.seq s hx5) rfl (fun i _ => smP.strict fun y hy => sm y (List.mem_of_mem_take (List.mem_filter.mp hy).1)) (fun i _ => ?_) (fun i z H6 H7 QN QE hi s6 hy kn ke => ?_) (fun p6 ys6 H6 n6 s6 e6 d6 => ?_)
  · unfold rowD
    rw [List.length_map]
    refine Nat.le_trans (List.length_filter_le ..) ?_
    rw [List.length_take]
    omega
  · obtain ⟨rfl, hxi⟩ := hy
    obtain ⟨pr, hpr, hpx⟩ := dpAll_at' (f := pairD) hd5 hxi
    have et : P.take (i + 1) = P.take i ++ [pr] := by rw [List.take_add_one, hpr]; rfl
    obtain ⟨ta, y, rfl, ht, hy⟩ := dp_pair hpx
    refine g_name ⟨rfl, ?_⟩
    wtm_at "go"
    refine g_ixT (Same.seqT s6 ht) (atI_nat (j := 0) rfl) ?_
    wtm_at "go"
    by_cases c : key < pr.1
    · rw [decide_eq_true c]
      refine iteT (g_var rfl (ke _ (pairD pr) _ ?_ (L2.Same.refl _) (Dp.go s6 hpx)))
      rw [et, List.filter_append, List.filter_cons, if_pos (decide_eq_true c)]
      unfold rowD
      rw [List.map_append]
      rfl
    · rw [decide_eq_false c]
      refine iteF (kn ?_ _ (L2.Same.refl _))
      rw [et, List.filter_append, List.filter_cons, if_neg (by simpa using c)]
      simp
  rw [lx, List.take_length] at d6
  have l6 := dpAll_len d6
  unfold rowD at l6
  rw [List.length_map] at l6
  have l6' := List.length_filter_le (fun y : Int × PyData => decide (y.1 > key)) P
  wtm_at "go"
  refine g_cat (s6 _ _ e5) e6 (by omega) fun p7 H7 n7 s7 e7 => ?_
  have s07 := s5.trans (s6.trans s7)
  refine q p7 _ H7 ((s5.trans s6).free n7) s07 e7 ?_
  unfold heldP rowD
  rw [List.map_append]
  exact dpAll_app (DpAll.go (s6.trans s7) d5) (DpAll.go s7 d6)
theorem ok_l_requests (T : Tx K mg) : FnOk P w K mg base CX0 2 T.a_l_requests T.d_l_requests ["_law_cell", "_law_row", "_law_most"] (sp_l_requests K) := by
  refine T.F_l_requests.ok sc_l_requests (fun vs H Q E h => ?_) (fun cdv A outer s H vs Q E hr h => ?_)
  · obtain ⟨c, r, xs, PP, most, rfl, _⟩ := h
    rfl
  obtain ⟨c, r, xs, PP, most, rfl, hb, hx, hd, okp, hP, hm0, hm1, q⟩ := h
  refine ⟨_, (pss_cons (ps_set (i := 3) sc_l_requests.nd rfl (Or.inl rfl) (pe_op op_mod (pe_op op_mulX (pv 0) pe_int) pe_int))
    (pss_cons (ps_set (i := 4) sc_l_requests.nd rfl (Or.inl rfl) (pe_op op_mod (pv 3) pe_int))
    (pss_cons (ps_set (i := 5) sc_l_requests.nd rfl (Or.inr rfl) (pe_op op_fdiv (pv 3) pe_int))
    (pss_cons (ps_if (pt_cmpR op_lt (pv 4) pe_int (nomark _))
      (pss_cons (ps_if (pt_cmpR op_eq (pe_op op_mod (pv 5) pe_int) pe_int (nomark _))
        (pss_one (ps_ret (pe_lst (pa_cons (pe_tup (pa_cons (pe_call (ok_l_key_by T) hr (by rfl) T.g_l_key_by T.F_l_key_by.kp T.b_l_key_by .nil pass0 (pa_cons (pe_op op_add (pe_op op_mulX (pe_op op_fdiv (pv 0) pe_int) pe_int) pe_int) pa_nil)) (pa_cons (pe_call (ok_l_value_by T) hr (by rfl) T.g_l_value_by T.F_l_value_by.kp T.b_l_value_by .nil pass0 (pa_cons (pv 0) pa_nil)) pa_nil))) pa_nil))))
        pss_nil)
      (pss_one (ps_ret (pe_lst (pa_cons (pe_tup (pa_cons (pe_call (ok_l_key_by T) hr (by rfl) T.g_l_key_by T.F_l_key_by.kp T.b_l_key_by .nil pass0 (pa_cons (pe_op op_mod (pe_op op_fdiv (pv 5) pe_int) pe_int) pa_nil)) (pa_cons (pe_call (ok_l_value_by T) hr (by rfl) T.g_l_value_by T.F_l_value_by.kp T.b_l_value_by .nil pass0 (pa_cons (pv 0) pa_nil)) pa_nil))) pa_nil)))))
      pss_nil)
    (pss_cons (ps_if (pw_and (pt_cmpR op_lt (pv 4) pe_int (nomark _)) (pw_and (pt_cmpR op_gt (pe_callB my_len (by rfl) T.z_len PySem.boot_len (pa_cons (pv 1) pa_nil)) pe_int (nomark _)) (pw_and1 (pt_cmpR op_lt (pe_op op_mod (pv 5) pe_int) pe_int (nomark _))))).pt
      (pss_one (ps_ret (pe_lst (pa_cons (pe_tup (pa_cons (pe_ix ix_tup (pe_ix ix_list (pv 1) (pe_op op_mod (pe_op op_fdiv (pv 5) pe_int) (pe_callB my_len (by rfl) T.z_len PySem.boot_len (pa_cons (pv 1) pa_nil))) (fun _ _ => rfl)) pe_int (fun _ _ => rfl)) (pa_cons pe_non pa_nil))) pa_nil))))
      pss_nil)
    (pss_cons (ps_if (pt_cmpR op_lt (pv 4) pe_int (nomark _))
      (pss_one (ps_ret (pe_lst (pa_cons (pe_tup (pa_cons (pe_call (ok_l_key_by T) hr (by rfl) T.g_l_key_by T.F_l_key_by.kp T.b_l_key_by .nil pass0 (pa_cons (pe_op op_mod (pe_op op_fdiv (pv 5) pe_int) pe_int) pa_nil)) (pa_cons pe_non pa_nil))) pa_nil))))
      pss_nil)
    (pss_cons (ps_if (pt_cmpR op_eq (pv 4) pe_int (nomark _))
      (pss_one (ps_ret (pe_lc (own := [("_law_pair", 6)]) (g := gName 6) (tt := tYes) rfl sc_l_requests.nd (pi_list (pe_slice sl_list (pe_slice sl_list (pv 1) (po_some (pe_op op_mod (pe_op op_fdiv (pv 5) (pv 2)) (pe_op op_add (pe_callB my_len (by rfl) T.z_len PySem.boot_len (pa_cons (pv 1) pa_nil)) pe_int))) po_none) po_none (po_some (pe_op op_mod (pv 5) (pv 2))))) (blkOk_by (own := [("_law_pair", 6)]) (N := N_l_requests) (sc := defScope s_l_requests) (by decide +kernel)) (fun _ _ _ _ _ => (pg_name (i := 6) sc_l_requests.nd rfl (Or.inl rfl))) (fun _ _ _ _ _ => pts_nil) (fun _ _ _ _ _ => (pe_tup (pa_cons (pe_ix (ixTK (K := K) rfl) (pv 6) pe_int (fun _ _ => rfl)) (pa_cons pe_non pa_nil)))))))
      pss_nil)
    (pss_cons (ps_if (pt_cmpR op_eq (pv 4) pe_int (nomark _))
      (pss_one (ps_ret (pe_lst pa_nil)))
      pss_nil)
    (pss_one (ps_ret (pe_lc (own := [("_law_k", 7)]) (g := gName 7) (tt := tYes) rfl sc_l_requests.nd (pi_range1 (by rfl) T.z_range (pa_cons (pe_op op_mod (pv 5) (pv 2)) pa_nil)) (blkOk_by (own := [("_law_k", 7)]) (N := N_l_requests) (sc := defScope s_l_requests) (by decide +kernel)) (fun _ _ _ _ _ => (pg_name (i := 7) sc_l_requests.nd rfl (Or.inl rfl))) (fun _ _ _ _ _ => pts_nil) (fun _ _ _ _ _ => (pe_tup (pa_cons (pe_op op_add (pe_op op_sub (pe_op op_mod (pe_op op_fdiv (pv 5) (pv 2)) pe_int) pe_int) (pe_op op_mulX pe_int (pv 7))) (pa_cons (pe_call (ok_l_value_by T) hr (by rfl) T.g_l_value_by T.F_l_value_by.kp T.b_l_value_by .nil pass0 (pa_cons (pe_op op_add (pv 0) (pv 7)) pa_nil)) pa_nil))))))))))))))), ?_⟩
  have lx := dpAll_len hd
  unfold rowD at lx
  rw [List.length_map] at lx
  have small : ∀ n : Int, -(2 ^ 64) < n → n < 2 ^ 64 → Builtin.Int.intBits n ≤ 9000000 := fun n h1 h2 => Nat.le_trans (intBits_le_64 h1 h2) (by decide)
  have fin : ∀ (k : Int) (x : PyData) (v : V) (H1 : Hp) (p1 : Addr), Same H H1 → isKeyD (.int k) = true → (x = .none ∨ ∃ z, x = .str z ∧ isValD (.str z) = true) → H1 p1 = some (.tup [.int k, v]) → Dp K H1 v x → lstK Q [.ref p1] H1 := fun k x v H1 p1 s1 hk hx e1 hv =>
    g_lstK (by wtm_at "ln") fun p2 H2 n2 s2 e2 => q p2 _ [(k, x)] H2 (s1.free n2) (s1.trans s2) e2 (.cons (.tup (SqT.of (s2 _ _ e1)) (.cons (.int _) (.cons (Dp.go s2 hv) .nil))) .nil) (fun e he => by rw [List.mem_singleton.mp he]; exact ⟨hk, hx⟩) (by simp)
  have h0 := Int.emod_nonneg (c * 48271) (show (1000003 : Int) ≠ 0 by decide)
  have h1 := Int.emod_lt_of_pos (c * 48271) (show (0 : Int) < 1000003 by decide)
  wtm_at "go"
  generalize c * 48271 % 1000003 = mx at h0 h1
  refine g_br (fun cw => ?_) (fun cw => ?_)
  · wtm_at "go"
    refine g_br (fun c2 => ?_) (fun c2 => ?_)
    · wtm_at "go"
      refine ⟨_, rfl, Nat.le_trans (bits_near (n := 2000000) hb (by omega)) (by decide), fun k hk => ?_⟩
      wtm_at "go"
      refine ⟨c, rfl, by omega, fun z H1 s1 hz => ?_⟩
      wtm_at "go"
      refine g_tupK (by wtm_at "ln") fun p1 H2 n2 s2 e2 => ?_
      wtm_at "go"
      exact fin k (.str z) _ H2 p1 (s1.trans s2) hk (.inr ⟨z, rfl, hz⟩) e2 (.str z)
    · wtm_at "go"
      refine ⟨_, rfl, small _ (by omega) (by omega), fun k hk => ?_⟩
      wtm_at "go"
      refine ⟨c, rfl, by omega, fun z H1 s1 hz => ?_⟩
      wtm_at "go"
      refine g_tupK (by wtm_at "ln") fun p1 H2 n2 s2 e2 => ?_
      wtm_at "go"
      exact fin k (.str z) _ H2 p1 (s1.trans s2) hk (.inr ⟨z, rfl, hz⟩) e2 (.str z)
  wtm_at "go"
  refine g_andTJ (b := decide ((xs.length : Int) > 0) && decide (mx / 8 % 5 < 4)) (fun _ R r => ?_) ?_
  · wtm_at "go"
    refine g_andTJ (b := decide (mx / 8 % 5 < 4)) (fun _ R2 r2 => ?_) r
    wtm_at "go"
    exact r2
  refine g_br (fun c3 => ?_) (fun c3 => ?_)
  · rw [Bool.and_eq_true, Bool.and_eq_true, decide_eq_true_eq, decide_eq_true_eq, decide_eq_true_eq] at c3
    obtain ⟨c31, c32, c33⟩ := c3
    wtm_at "go"
    have i0 := Int.emod_nonneg (mx / 8 / 5) (show (xs.length : Int) ≠ 0 by omega)
    have i1 := Int.emod_lt_of_pos (mx / 8 / 5) (show (0 : Int) < xs.length by omega)
    generalize mx / 8 / 5 % (xs.length : Int) = ix at i0 i1
    obtain ⟨n, en⟩ : ∃ n : Nat, ix = (n : Int) := ⟨ix.toNat, by omega⟩
    subst en
    obtain ⟨x0, hx0⟩ : ∃ x0, xs[n]? = some x0 := ⟨_, List.getElem?_eq_getElem (by omega)⟩
    obtain ⟨pr, hpr, hpx⟩ := dpAll_at' (f := pairD) hd hx0
    obtain ⟨ta, y, rfl, ht, hy⟩ := dp_pair hpx
    refine g_ixL hx (atI_nat hx0) ?_
    wtm_at "go"
    refine g_ixT ht (atI_nat (j := 0) rfl) ?_
    wtm_at "go"
    refine g_tupK (by wtm_at "ln") fun p1 H2 n2 s2 e2 => ?_
    wtm_at "go"
    exact fin pr.1 .none _ H2 p1 s2 (okp.1 pr (List.mem_of_getElem? hpr)).1 (.inl rfl) e2 .non
  wtm_at "go"
  refine g_br (fun c4 => ?_) (fun c4 => ?_)
  · wtm_at "go"
    refine ⟨_, rfl, small _ (by omega) (by omega), fun k hk => ?_⟩
    wtm_at "go"
    refine g_tupK (by wtm_at "ln") fun p1 H2 n2 s2 e2 => ?_
    wtm_at "go"
    exact fin k .none _ H2 p1 s2 hk (.inl rfl) e2 .non
  wtm_at "go"
  refine g_br (fun c5 => ?_) (fun c5 => ?_)
  · wtm_at "go"
    have i0 := Int.emod_nonneg (mx / 8 / most) (show (xs.length : Int) + 1 ≠ 0 by omega)
    have i1 := Int.emod_lt_of_pos (mx / 8 / most) (show (0 : Int) < xs.length + 1 by omega)
    generalize mx / 8 / most % ((xs.length : Int) + 1) = ix at i0 i1
    obtain ⟨n, en⟩ : ∃ n : Nat, ix = (n : Int) := ⟨ix.toNat, by omega⟩
    subst en
    refine g_slL hx fun p1 H1 n1 s1 e1 => ?_
    rw [cut_from] at e1
    wtm_at "go"
    have j0 := Int.emod_nonneg (mx / 8) (show most ≠ 0 by omega)
    have j1 := Int.emod_lt_of_pos (mx / 8) (show 0 < most by omega)
    generalize mx / 8 % most = jx at j0 j1
    obtain ⟨k, ek⟩ : ∃ k : Nat, jx = (k : Int) := ⟨jx.toNat, by omega⟩
    subst ek
    refine g_slL (SqL.of e1) fun p2 H2 n2 s2 e2 => ?_
    rw [cut_to] at e2
    have s12 := s1.trans s2
    have d2 : DpAll K H2 ((xs.drop n).take k) (rowD ((PP.drop n).take k)) := by
      unfold rowD
      rw [List.map_take, List.map_drop]
      exact dpAll_take k (dpAll_drop n (DpAll.go s12 hd))
    obtain ⟨ys, eys⟩ : ∃ ys, ys = (xs.drop n).take k := ⟨_, rfl⟩
    obtain ⟨PQ, ePQ⟩ : ∃ PQ, PQ = (PP.drop n).take k := ⟨_, rfl⟩
    have okq : ∀ e ∈ PQ, isKeyD (.int e.1) = true := fun e he => (okp.1 e (by rw [ePQ] at he; exact List.mem_of_mem_drop (List.mem_of_mem_take he))).1
    have lq : PQ.length ≤ k := by rw [ePQ, List.length_take]; omega
    rw [← eys] at e2
    rw [← eys, ← ePQ] at d2
    have ly := dpAll_len d2
    unfold rowD at ly
    rw [List.length_map] at ly
    wtm_at "go"
    refine g_wLk (SqL.of e2) ?_
    refine g_lcDW (K := K) walk_list (fun i => rowD ((PQ.take i).map fun e => (e.1, PyData.none))) (by omega) (fun H' s => L2.Same.seq s (SqL.of e2)) rfl (fun i _ => smP.strict fun y hy => ?_) (fun i _ => ?_) (fun i z H3 H4 QN QE hi s3 hy kn ke => ?_) (fun p3 ys3 H3 n3 s3 e3 d3 => ?_)
    · obtain ⟨_, _, rfl⟩ := List.mem_map.mp hy
      exact ⟨rfl, by simp [PyData.depth]⟩
    · unfold rowD
      rw [List.length_map, List.length_map, List.length_take]
      omega
    · obtain ⟨rfl, hxi⟩ := hy
      obtain ⟨pr, hpr, hpx⟩ := dpAll_at' (f := pairD) d2 hxi
      have et : PQ.take (i + 1) = PQ.take i ++ [pr] := by rw [List.take_add_one, hpr]; rfl
      obtain ⟨ta, y, rfl, ht, hy⟩ := dp_pair hpx
      refine g_name ⟨rfl, ?_⟩
      refine g_yes ?_
      wtm_at "go"
      refine g_ixT (Same.seqT s3 ht) (atI_nat (j := 0) rfl) ?_
      wtm_at "go"
      refine g_tupK (by wtm_at "ln") fun p4 H4 n4 s4 e4 => ?_
      refine ke _ (pairD (pr.1, .none)) _ ?_ s4 (.tup (SqT.of e4) (.cons (.int _) (.cons .non .nil)))
      rw [et, List.map_append]
      unfold rowD
      rw [List.map_append]
      rfl
    · rw [ly, List.take_length] at d3
      refine q p3 ys3 _ H3 (s12.free n3) (s12.trans s3) e3 d3 (fun e he => ?_) (by rw [List.length_map]; omega)
      obtain ⟨e', he', rfl⟩ := List.mem_map.mp he
      exact ⟨okq e' he', .inl rfl⟩
  wtm_at "go"
  refine g_br (fun c6 => ?_) (fun c6 => ?_)
  · wtm_at "go"
    exact g_lstK (by wtm_at "ln") fun p2 H2 n2 s2 e2 => q p2 _ [] H2 n2 s2 e2 .nil (fun e he => nomatch he) (Nat.zero_le _)
  wtm_at "go"
  have j0 := Int.emod_nonneg (mx / 8) (show most ≠ 0 by omega)
  have j1 := Int.emod_lt_of_pos (mx / 8) (show 0 < most by omega)
  have k0 := Int.emod_nonneg (mx / 8 / most) (show (200 : Int) ≠ 0 by decide)
  have k1 := Int.emod_lt_of_pos (mx / 8 / most) (show (0 : Int) < 200 by decide)
  refine g_lcR1k (fun i y H => ∃ (k : Int) (z : Str) (t : Addr), y = .ref t ∧ H t = some (.tup [.int k, .str z]) ∧ isKeyD (.int k) = true ∧ isValD (.str z) = true) (by omega) (fun x => rfl)
    (fun i y H1 H2 st e => ?_) (fun i H1 QE hi s1 k => ?_) (fun p ys H1 n1 s1 e1 hyl hys => ?_)
  · obtain ⟨k, z, t, h1, h2, h3⟩ := e
    exact ⟨k, z, t, h1, st.tup h2, h3⟩
  · wtm_at "go"
    refine ⟨_, rfl, Nat.le_trans (bits_near (n := 2000000) hb (by omega)) (by decide), fun z H2 s2 hz => ?_⟩
    wtm_at "go"
    refine g_tupK (by wtm_at "ln") fun p4 H4 n4 s4 e4 => ?_
    refine k _ H4 (s2.trans s4) ⟨_, z, p4, rfl, e4, ?_, hz⟩
    have hKB : KB = 1000000000000000000000000000000000000000000000000000000000000 := by decide +kernel
    exact keyD_iff (by omega) (by omega)
  · obtain ⟨RQ, dq, okq, lq⟩ := rq_of (K := K) (H := H1) (ys := ys) fun y hy => by
      obtain ⟨i, hi⟩ := List.mem_iff_getElem?.mp hy
      exact hys i y hi
    exact q p ys RQ H1 n1 s1 e1 dq okq (by omega)
theorem ok_l_asked (T : Tx K mg) : FnOk P w K mg base CX0 7 T.a_l_asked T.d_l_asked ["_law_store", "_law_row", "_law_key", "_law_value"] (sp_l_asked K T.C_Store) := by
  refine T.F_l_asked.ok sc_l_asked (fun vs H Q E h => ?_) (fun cdv A outer s H vs Q E hr h => ?_)
  · obtain ⟨p, b, l, u, r, st, PP, key, v, x, rfl, _⟩ := h
    rfl
  obtain ⟨p, b, l, u, r, st, PP, key, v, x, rfl, hS, hL, hP, hD, hR, hrl, hk, hv, hx, q⟩ := h
  refine ⟨_, (pss_cons (ps_if (pt_cmpR my_notN (pv 3) pe_non (nomark _))
      (pss_cons (ps_if (pt_cmpR my_notN (pe_meth (pv 0) T.cl_Store T.m_Store_put (ok_Store_put T) hr T.b_Store_put .nil pass0 (pa_cons (pv 2) (pa_cons (pv 3) pa_nil))) pe_non (nomark _))
        (pss_one (ps_ret pe_non))
        pss_nil)
      (pss_one (ps_ret (pe_call (ok_l_held T) (hr.mono (by decide)) (by rfl) T.g_l_held T.F_l_held.kp T.b_l_held .nil pass0 (pa_cons (pv 1) (pa_cons (pv 2) (pa_cons (pv 3) pa_nil)))))))
      pss_nil)
    (pss_cons (ps_set (i := 4) sc_l_asked.nd rfl (Or.inl rfl) (pe_cmpR op_gt (pe_callB my_len (by rfl) T.z_len PySem.boot_len (pa_cons (pe_lc (own := [("_law_pair", 5)]) (g := gName 5) rfl sc_l_asked.nd (pi_list (pv 1)) (blkOk_by (own := [("_law_pair", 5)]) (N := N_l_asked) (sc := defScope s_l_asked) (by decide +kernel)) (fun _ _ _ _ _ => (pg_name (i := 5) sc_l_asked.nd rfl (Or.inl rfl))) (fun _ _ _ _ _ => (pts_one (pt_cmpR op_eq (pe_ix (ixTK (K := K) rfl) (pv 5) pe_int (fun _ _ => rfl)) (pv 2) (nomark _)))) (fun _ _ _ _ _ => (pv 5))) pa_nil)) pe_int (nomark _)))
    (pss_cons (ps_try_only (Wout := fun _ _ _ _ => False) rfl rfl ⟨rfl, by decide, Or.inl T.eg_NotThere⟩ takes0
      (fun W pn xe tk _ => (pss_one (ps_set (i := 6) sc_l_asked.nd rfl (Or.inl rfl) (MyD.pe_methX (pl := _) (pv 0) T.cl_Store T.m_Store_drop (ok_Store_drop T) hr T.b_Store_drop (fun σ => passAt tk σ) (by exact (pa_cons (pv 2) pa_nil))))))
      (fun _ _ _ _ _ _ _ => (pss_cons (ps_if (pt_val (pv 4))
        (pss_one (ps_ret pe_non))
        pss_nil)
      (pss_one (ps_ret (pv 1))))))
    (pss_cons (ps_if (pw_and (pt_val (pv 4)) (pw_and1 (pt_cmpR my_isN (pv 6) pe_non (nomark _)))).pt
      (pss_one (ps_ret (pe_call (ok_l_held T) (hr.mono (by decide)) (by rfl) T.g_l_held T.F_l_held.kp T.b_l_held .nil pass0 (pa_cons (pv 1) (pa_cons (pv 2) (pa_cons pe_non pa_nil))))))
      pss_nil)
    (pss_one (ps_ret pe_non)))))), ?_⟩
  have okp := hL.okp
  have smp := hL.smp
  have hkV : isKeyV (.int key) = true := hk
  obtain ⟨d, R, hH⟩ := hL.holds (by omega)
  obtain ⟨k1, k2, k3, k4⟩ := heldV_ok hk hx
  -- what is made of the row, behind the store's change
  have fin : ∀ (st' : Sto) (H1 : Hp) (v' : V), Oth4 p b l u H H1 → StS K T.C_Store H1 p b l u st' → AskS st st' PP key x → Dp K H1 v' x → sp_l_held K [.ref r, .int key, v'] H1 Q E0 := fun st' H1 v' o1 hS1 ha hv1 => by
    obtain ⟨ys, e, hd⟩ := hR.o4 hS o1 hrl smp
    have hx1 : strictD x = true ∧ PyData.depth x ≤ 5 := by
      rcases hx with rfl | ⟨z, rfl, hz⟩
      · exact ⟨rfl, by simp [PyData.depth]⟩
      · exact ⟨strok_val hz, by simp [PyData.depth]⟩
    refine ⟨r, ys, PP, key, v', x, rfl, SqL.of e, hd, smp, by omega, hv1, hx1.1, hx1.2, fun q2 ys2 H2 n2 s2 e2 d2 => ?_⟩
    exact q q2 st' H2 (.inr (o1.free hS1 n2)) (o1.trans (Oth4.of s2)) (hS1.go s2) ha ⟨ys2, e2, d2⟩
  wtm_at "go"
  rcases hx with rfl | ⟨z, rfl, hz⟩
  · cases dp_none hv
    refine g_br (fun c => nomatch c) (fun _ => ?_)
    wtm_at "go"
    obtain ⟨xs, e, hd⟩ := id hR
    have lx := dpAll_len hd
    unfold rowD at lx
    rw [List.length_map] at lx
    refine g_wLk (SqL.of e) ?_
    refine g_lcDW (K := K) walk_list (fun i => rowD ((PP.take i).filter fun y => decide (y.1 = key))) (by omega) (fun H' s => L2.Same.seq s (SqL.of e)) rfl (fun i _ => smP.strict fun y hy => smp y (List.mem_of_mem_take (List.mem_filter.mp hy).1)) (fun i _ => ?_) (fun i z H3 H4 QN QE hi s3 hy kn ke => ?_) (fun p3 ys3 H3 n3 s3 e3 d3 => ?_)
    · unfold rowD
      rw [List.length_map]
      refine Nat.le_trans (List.length_filter_le ..) ?_
      rw [List.length_take]
      omega
    · obtain ⟨rfl, hxi⟩ := hy
      obtain ⟨pr, hpr, hpx⟩ := dpAll_at' (f := pairD) hd hxi
      have et : PP.take (i + 1) = PP.take i ++ [pr] := by rw [List.take_add_one, hpr]; rfl
      obtain ⟨ta, y, rfl, ht, hy⟩ := dp_pair hpx
      refine g_name ⟨rfl, ?_⟩
      wtm_at "go"
      refine g_ixT (Same.seqT s3 ht) (atI_nat (j := 0) rfl) ?_
      wtm_at "go"
      by_cases c : pr.1 = key
      · rw [show decide (V.int pr.1 = V.int key) = true from decide_eq_true (by rw [c])]
        refine iteT (g_var rfl (ke _ (pairD pr) _ ?_ (L2.Same.refl _) (Dp.go s3 hpx)))
        rw [et, List.filter_append, List.filter_cons, if_pos (decide_eq_true c)]
        unfold rowD
        rw [List.map_append]
        rfl
      · rw [show decide (V.int pr.1 = V.int key) = false from decide_eq_false fun z => c (V.int.inj z)]
        refine iteF (kn ?_ _ (L2.Same.refl _))
        rw [et, List.filter_append, List.filter_cons, if_neg (by simpa using c)]
        simp
    rw [lx, List.take_length] at d3
    have l3 := dpAll_len d3
    unfold rowD at l3
    rw [List.length_map] at l3
    wtm_at "go"
    rw [l3, mem_keyN]
    have hS3 := hS.go s3
    refine g_methX (g_var rfl (hS3.meth (by decide +kernel) (by decide +kernel) (by decide +kernel) (by decide +kernel) (by decide +kernel) (by decide +kernel) ?_))
    wtm_at "go"
    refine ⟨p, b, l, u, st, PP, d, R, key, rfl, hS3, hH, hkV, by omega, fun hn H4 s4 => ?_, fun hy TT H4 o4 told lt hS4 => ?_⟩
    · refine g_caught T.em_NotThere fun a na => ?_
      rw [hn]
      wtm_at "go"
      refine g_br (fun c => nomatch c) (fun _ => ?_)
      wtm_at "go"
      refine q r st H4 (.inl rfl) (Oth4.of (s3.trans s4)) (hS3.go s4) (.inl ⟨rfl, hn, rfl⟩) ?_
      show RowAt K H4 r (heldP PP key [])
      rw [heldP_gone okp.2 (getA_noneP hn)]
      exact hR.go (s3.trans s4)
    · rw [hy]
      wtm_at "go"
      refine g_andK (fun _ => ?_) (fun c => nomatch c)
      wtm_at "go"
      refine g_br (fun _ => ?_) (fun c => nomatch c)
      wtm_at "go"
      exact fin _ H4 .non ((Oth4.of s3).trans o4) hS4 (.inr ⟨d, R, TT, hH, told, lt, rfl, fun _ => hy⟩) .non
  · cases hv
    refine g_br (fun _ => ?_) (fun c => nomatch c)
    wtm_at "go"
    refine hS.meth (by decide +kernel) (by decide +kernel) (by decide +kernel) (by decide +kernel) (by decide +kernel) (by decide +kernel) ?_
    wtm_at "go"
    refine ⟨p, b, l, u, st, PP, d, R, key, z, rfl, hS, hH, hkV, hz, by omega, fun TT H4 o4 told lt hS4 => ?_⟩
    wtm_at "go"
    refine g_br (fun c => nomatch c) (fun _ => ?_)
    wtm_at "go"
    exact fin _ H4 (.str z) o4 hS4 (.inr ⟨d, R, TT, hH, told, lt, rfl, fun e => nomatch e⟩) (.str z)
theorem ok_l_history (T : Tx K mg) : FnOk P w K mg base CX0 8 T.a_l_history T.d_l_history ["_law_store", "_law_row", "_law_cells", "_law_most"] (sp_l_history K T.C_Store) := by
  refine T.F_l_history.ok sc_l_history (fun vs H Q E h => ?_) (fun cdv A outer s H vs Q E hr h => ?_)
  · obtain ⟨p, b, l, u, r, c, st, PP, ns, most, rfl, _⟩ := h
    rfl
  obtain ⟨p, b, l, u, r, c, st, PP, ns, most, rfl, hS, hL, hP, hD, hR, hrl, hc, hcl, hns, hbits, m0, m1, q⟩ := h
  refine ⟨_, (pss_cons (ps_set (i := 4) sc_l_history.nd rfl (Or.inl rfl) (pe_lst (pa_cons (pv 1) pa_nil)))
    (pss_cons (ps_for PassesOwn.never rfl (pi_enum (by rfl) T.z_enumerate (pa_cons (pv 2) pa_nil)) (pg_tup rfl (pgs_cons (pg_name (i := 5) sc_l_history.nd rfl (Or.inl rfl)) (pgs_cons (pg_name (i := 6) sc_l_history.nd rfl (Or.inl rfl)) pgs_nil)))
      (pss_cons (ps_set (i := 7) sc_l_history.nd rfl (Or.inl rfl) (pe_call (ok_l_requests T) (hr.mono (by decide)) (by rfl) T.g_l_requests T.F_l_requests.kp T.b_l_requests .nil pass0 (pa_cons (pe_op op_add (pv 6) (pe_op op_mulX pe_int (pv 5))) (pa_cons (pe_ix ix_list (pv 4) (pe_un un_neg pe_int) (fun _ _ => rfl)) (pa_cons (pv 3) pa_nil)))))
      (Evl.pss_cut (ps_if (pt_cmpR op_eq (pe_callB my_len (by rfl) T.z_len PySem.boot_len (pa_cons (pv 7) pa_nil)) pe_int (nomark _))
        (pss_one (ps_expr (pe_meth (pv 0) T.cl_Store T.m_Store_settle (ok_Store_settle T) (hr.mono (by decide)) T.b_Store_settle .nil pass0 (pa_cons (pe_op op_mod (pe_op op_fdiv (pe_op op_add (pv 6) (pe_op op_mulX pe_int (pv 5))) pe_int) pe_int) pa_nil))))
        pss_nil)
      (pss_one (ps_for PassesOwn.never rfl (pi_list (pv 7)) (pg_name (i := 8) sc_l_history.nd rfl (Or.inl rfl))
        (pss_cons (ps_set (i := 1) sc_l_history.nd rfl (Or.inl rfl) (pe_call (ok_l_asked T) hr (by rfl) T.g_l_asked T.F_l_asked.kp T.b_l_asked .nil pass0 (pa_cons (pv 0) (pa_cons (pe_ix ix_list (pv 4) (pe_un un_neg pe_int) (fun _ _ => rfl)) (pa_cons (pe_ix ix_tup (pv 8) pe_int (fun _ _ => rfl)) (pa_cons (pe_ix ix_tup (pv 8) pe_int (fun _ _ => rfl)) pa_nil))))))
        (pss_cons (ps_if (pt_cmpR my_isN (pv 1) pe_non (nomark _))
          (pss_one (ps_ret pe_non))
          pss_nil)
        (pss_one (ps_if (pt_cmpR (op_neD hr.units) (pv 1) (pe_ix ix_list (pv 4) (pe_un un_neg pe_int) (fun _ _ => rfl)) (nomark _))
          (pss_one (ps_expr (pe_bm PySem.F.plainAttrs_list PySem.F.slot_list_append PySem.F.type_list_append mt_append (pv 4) (pa_cons (pv 1) pa_nil))))
          pss_nil)))))))))
    (pss_one (ps_ret (pv 4))))), ?_⟩
  have smp := hL.smp
  wtm_at "go"
  refine g_lstK (by wtm_at "ln") fun rw H1 n1 s1 e1 => ?_
  obtain ⟨f1, f2, f3, f4⟩ := hS.fresh n1
  have rrw : r ≠ rw := fun z => by
    obtain ⟨ys, e, _⟩ := hR
    rw [z, n1] at e
    cases e
  have crw : c ≠ rw := fun z => by
    rw [z, n1] at hc
    cases hc
  have I1 : HInv K T.C_Store H H1 p b l u r c rw st PP (ns.map V.int) (100 * 0) (12000 * 0) [] r [] PP st :=
    ⟨Oth4.of s1, hS.go s1, s1 _ _ hc, e1, .cons (hR.go s1) .nil, fun a ha => by rw [List.mem_singleton.mp ha]; exact ⟨.inl rfl, rrw⟩, fun Z hZ => by rw [List.mem_singleton.mp hZ]; exact smp, .nil, hL, Nat.le_refl _, by omega, by omega⟩
  wtm_at "go"
  refine g_forEk (fun i σ' H' => ∃ (rs : List Addr) (a1 : Addr) (Ps : List PL) (P1 : PL) (st1 : Sto) (o1 o5 o6 o7 o8 : Option V), σ' = [some (.ref p), o1, some (.ref c), some (.int most), some (.ref rw), o5, o6, o7, o8] ∧ HInv K T.C_Store H H' p b l u r c rw st PP (ns.map V.int) (100 * i) (12000 * i) rs a1 Ps P1 st1)
    (SqL.of (s1 _ _ hc)) ⟨[], r, [], PP, st, _, _, _, _, _, rfl, I1⟩ (fun i σ' H' _ hp => ?_) (fun i x σ' H' TT H2 hx hp nT s2 eT => ?_) (fun σ' H' hp => ?_)
  · obtain ⟨rs, a1, Ps, P1, st1, o1, o5, o6, o7, o8, rfl, I⟩ := hp
    exact SqL.of I.cl
  · obtain ⟨rs, a1, Ps, P1, st1, o1, o5, o6, o7, o8, rfl, I⟩ := hp
    have I := I.go s2
    rw [List.getElem?_map] at hx
    obtain ⟨z, hz, rfl⟩ := Option.map_eq_some_iff.mp hx
    have hi := (List.getElem?_eq_some_iff.mp hz).1
    have bz := hbits z (List.mem_of_getElem? hz)
    have okp1 := I.live.okp
    obtain ⟨ya, ea, da⟩ := I.row
    have len1 := I.len
    have all1 := I.all
    refine g_gtup (SqT.of eT) rfl (g_gcons (g_name (g_gcons (g_name (g_gnil ?_)))))
    wtm_at "go"
    have erl := I.rl
    rw [List.map_append] at erl
    refine g_ixL (SqL.of erl) (atI_last _ _) ?_
    wtm_at "go"
    refine ⟨_, a1, ya, P1, most, rfl, Nat.le_trans (bits_near (n := 1048576) bz (by omega)) (by decide), SqL.of ea, da, okp1, by omega, m0, m1, fun q2 ys2 RQ H3 n3 s3 e3 d3 rok rl => ?_⟩
    have I3 := I.go s3
    have ly2 := dpAll_len d3
    unfold rowD at ly2
    rw [List.length_map] at ly2
    obtain ⟨g1, g2, g3, g4⟩ := (I.st).fresh n3
    have q2rw : q2 ≠ rw := fun z => by
      rw [z, I.rl] at n3
      cases n3
    wtm_at "go"
    refine g_cut (fun σ' H' => ∃ (st2 : Sto) (o1' o8' : Option V), σ' = [some (.ref p), o1', some (.ref c), some (.int most), some (.ref rw), some (.int i), some (.int z), some (.ref q2), o8'] ∧ HInv K T.C_Store H H' p b l u r c rw st PP (ns.map V.int) (100 * i) (12000 * i + 1) rs a1 Ps P1 st2 ∧ H' q2 = some (.lst ys2) ∧ DpAll K H' ys2 (rowD RQ)) ?_ (fun σ' H' hp => ?_)
    · wtm_at "go"
      refine g_br (fun c0 => ?_) (fun c0 => ?_)
      · wtm_at "go"
        refine I3.st.meth (by decide +kernel) (by decide +kernel) (by decide +kernel) (by decide +kernel) (by decide +kernel) (by decide +kernel) ?_
        wtm_at "go"
        have all3 := I3.all
        unfold allD at all3 hD
        refine ⟨p, b, l, u, st1, _, rfl, I3.st, by omega, by omega, fun H4 o4 hS4 => ?_⟩
        have hl := settle_len (s := st1) (many := (z + 31 * (i : Int)) / 3 % 4) I3.st.nd
        wtm_at "go"
        refine ⟨_, _, _, rfl, I3.own hS hrl hcl f3 o4 hS4 (.set _ I3.hist) I3.live.settle (by have := I3.all; omega), o4.lst I3.st g3 e3, DpAll.tk (I3.st.tk4 o4) rok.sm.strict d3⟩
      · wtm_at "go"
        exact ⟨st1, _, _, rfl, I3.le (Nat.le_refl _) (by omega), e3, d3⟩
    · obtain ⟨st2, o1', o8', rfl, I4, e4, d4⟩ := hp
      wtm_at "go"
      refine g_forLk (fun j σ' H' => ∃ (rs : List Addr) (a1 : Addr) (Ps : List PL) (P1 : PL) (st1 : Sto) (o1 o8 : Option V), σ' = [some (.ref p), o1, some (.ref c), some (.int most), some (.ref rw), some (.int i), some (.int z), some (.ref q2), o8] ∧ HInv K T.C_Store H H' p b l u r c rw st PP (ns.map V.int) (100 * i + j) (12000 * i + 1 + 114 * j) rs a1 Ps P1 st1 ∧ H' q2 = some (.lst ys2) ∧ DpAll K H' ys2 (rowD RQ))
        (SqL.of e4) ⟨rs, a1, Ps, P1, st2, _, _, rfl, I4, e4, d4⟩ (fun j σ' H' _ hp => ?_) (fun j x σ' H' hx hp => ?_) (fun σ' H' hp => ?_)
      · obtain ⟨_, _, _, _, _, _, _, _, _, e5, _⟩ := hp
        exact SqL.of e5
      · obtain ⟨rs, a1, Ps, P1, st1, o1, o8, rfl, I5, e5, d5⟩ := hp
        have hj := (List.getElem?_eq_some_iff.mp hx).1
        obtain ⟨pr, hpr, hpx⟩ := dpAll_at' (f := pairD) d5 hx
        obtain ⟨ta, y, rfl, ht, hy⟩ := dp_pair hpx
        obtain ⟨hk, hxv⟩ := rok pr (List.mem_of_getElem? hpr)
        have len5 := I5.len
        have all5 := I5.all
        have rn5 := I5.rn
        have okp5 := I5.live.okp
        obtain ⟨k1, k2, k3, k4⟩ := heldV_ok hk hxv
        have erl := I5.rl
        rw [List.map_append] at erl
        wtm_at "go"
        refine g_ixL (SqL.of erl) (atI_last _ _) ?_
        wtm_at "go"
        refine g_ixT ht (atI_nat (j := 0) rfl) ?_
        wtm_at "go"
        refine g_ixT ht (atI_nat (j := 1) rfl) ?_
        wtm_at "go"
        refine ⟨p, b, l, u, a1, st1, P1, pr.1, y, pr.2, rfl, I5.st, I5.live, by omega, by omega, I5.row, I5.nl hS hrl a1 (List.mem_append_right _ (List.mem_singleton.mpr rfl)), hk, hy, hxv, fun q3 st3 H6 fr6 o6 hS6 ask6 row6 => ?_⟩
        have lv3 := ask6.live I5.live I5.st.okm hk hxv
        have al3 := ask6.len I5.st.nd
        have ln3 := heldP_len1 okp5 k3
        have e6 := o6.lst I5.st g3 e5
        have d6 : DpAll K H6 ys2 (rowD RQ) := DpAll.tk (I5.st.tk4 o6) rok.sm.strict d5
        have erl6 := o6.lst I5.st f3 erl
        have sm3 : smP (heldP P1 pr.1 (heldV pr.1 pr.2)) := heldP_sm I5.live.smp k2
        obtain ⟨ya1, ea1, da1⟩ := I5.row.o4 I5.st o6 (I5.nl hS hrl a1 (List.mem_append_right _ (List.mem_singleton.mpr rfl))) I5.live.smp
        obtain ⟨yq, eq, dq⟩ := id row6
        have frH : q3 = r ∨ H q3 = none := by
          rcases fr6 with e | e
          · rw [e]
            exact (I5.fr a1 (List.mem_append_right _ (List.mem_singleton.mpr rfl))).1
          · exact .inr (I5.o4.free I5.st e)
        have q3rw : q3 ≠ rw := by
          rcases fr6 with e | e
          · rw [e]
            exact (I5.fr a1 (List.mem_append_right _ (List.mem_singleton.mpr rfl))).2
          · exact fun z => by
              rw [z, I5.rl] at e
              cases e
        wtm_at "go"
        refine g_br (fun c => nomatch c) (fun _ => ?_)
        wtm_at "go"
        refine g_ixL (SqL.of erl6) (atI_last _ _) ?_
        wtm_at "go"
        refine g_neD (.lst (SqL.of eq) dq) (.lst (SqL.of ea1) da1) (shaped_rowL sm3) (shaped_rowL I5.live.smp) ?_
        wtm_at "go"
        by_cases same : heldP P1 pr.1 (heldV pr.1 pr.2) = P1
        · rw [(eqv_rows sm3 I5.live.smp).mpr same]
          refine g_br (fun c => nomatch c) (fun _ => ?_)
          wtm_at "go"
          rw [same] at lv3
          exact ⟨rs, a1, Ps, P1, st3, _, _, rfl, (I5.own hS hrl hcl f3 o6 hS6 (.same I5.hist ask6 hk hxv same) lv3 (d2 := 12000 * i + 1 + 114 * (j + 1)) (by omega)).le (by omega) (Nat.le_refl _), e6, d6⟩
        · have ne : PyData.eqv (.list (rowD (heldP P1 pr.1 (heldV pr.1 pr.2)))) (.list (rowD P1)) = false := by
            cases hh : PyData.eqv (.list (rowD (heldP P1 pr.1 (heldV pr.1 pr.2)))) (.list (rowD P1)) with
            | false => rfl
            | true => exact absurd ((eqv_rows sm3 I5.live.smp).mp hh) same
          rw [ne]
          refine g_br (fun _ => ?_) (fun c => nomatch c)
          wtm_at "go"
          refine g_tyL erl6 ?_
          wtm_at "go"
          have ll : ((rs.map V.ref) ++ [V.ref a1]).length ≤ 100000 := by
            rw [List.length_append, List.length_map]
            simp
            omega
          refine g_appendO erl6 ll fun H7 o7 e7 => ?_
          wtm_at "go"
          have o4' := I5.o4.trans o6
          have rows6 := rows_o4 I5.st o6 (I5.nl hS hrl) I5.sm I5.rows
          have J : HInv K T.C_Store H H7 p b l u r c rw st PP (ns.map V.int) (100 * i + j + 1) (12000 * i + 1 + 114 * (j + 1)) (rs ++ [a1]) q3 (Ps ++ [P1]) (heldP P1 pr.1 (heldV pr.1 pr.2)) st3 :=
            HInv.grow o4' hS6 (o6.lst I5.st hcl I5.cl) erl6 rows6 I5.fr I5.sm I5.rn o7 (by rw [e7, List.map_append, List.map_append]; rfl) n1 crw q3rw row6 frH sm3 ⟨f1, f2, f3, f4⟩ (.more I5.hist ask6 hk hxv same) lv3 (by omega) (by omega)
          have fx7 : Fx H6 H7 := Fx.lst erl6 o7
          exact ⟨rs ++ [a1], q3, Ps ++ [P1], _, st3, _, _, rfl, J, o7 _ _ q2rw e6, DpAll.fx fx7 rok.sm.strict d6⟩
      · obtain ⟨rs, a1, Ps, P1, st1, o1, o8, rfl, I5, e5, d5⟩ := hp
        wtm_at "go"
        exact ⟨rs, a1, Ps, P1, st1, _, _, _, _, _, rfl, I5.le (by omega) (by omega)⟩
  · obtain ⟨rs, a1, Ps, P1, st1, o1, o5, o6, o7, o8, rfl, I⟩ := hp
    wtm_at "go"
    have h1 := I.len
    have h2 := I.all
    rw [List.length_map] at h1 h2
    exact q rw (rs ++ [a1]) Ps P1 st1 H' n1 I.o4 I.st I.rl I.rows (fun a ha => (I.fr a ha).1) I.sm I.hist I.live h1 h2
theorem ok_l_values (T : Tx K mg) : FnOk P w K mg base CX0 5 T.a_l_values T.d_l_values ["_law_store", "_law_row", "_law_key"] (sp_l_values K T.C_Store) := by
  refine T.F_l_values.ok sc_l_values (fun vs H Q E h => ?_) (fun cdv A outer s H vs Q E hr h => ?_)
  · obtain ⟨p, b, l, u, r, st, PP, key, rfl, _⟩ := h
    rfl
  obtain ⟨p, b, l, u, r, st, PP, key, rfl, hS, hL, hP, ⟨xs, e, hd⟩, hk, q⟩ := h
  refine ⟨_, (pss_cons (ps_set (i := 3) sc_l_values.nd rfl (Or.inl rfl) pe_non)
    (pss_cons (ps_for PassesOwn.never rfl (pi_list (pv 1)) (pg_name (i := 4) sc_l_values.nd rfl (Or.inl rfl))
      (pss_one (ps_if (pt_cmpR op_eq (pe_ix ix_tup (pv 4) pe_int (fun _ _ => rfl)) (pv 2) (nomark _))
        (pss_one (ps_set (i := 3) sc_l_values.nd rfl (Or.inl rfl) (pe_ix ix_tup (pv 4) pe_int (fun _ _ => rfl))))
        pss_nil)))
    (pss_cons (ps_set (i := 5) sc_l_values.nd rfl (Or.inl rfl) (pe_meth (pv 0) T.cl_Store T.m_Store_value_at (ok_Store_value_at T) hr T.b_Store_value_at .nil pass0 (pa_cons (pv 2) pa_nil)))
    (pss_cons (ps_if (pt_cmpR my_isN (pv 3) pe_non (nomark _))
      (pss_one (ps_ret (pe_cmpR my_isN (pv 5) pe_non (nomark _))))
      pss_nil)
    (pss_one (ps_ret (pe_and (pe_callB call_isi (by rfl) T.z_isinstance (by decide +kernel) (pa_cons (pv 5) (pa_cons (pe_bltn (v := .ty "str") (by rfl) T.z_str (by decide +kernel) rfl) pa_nil))) (pe_one (pe_cmpR op_eq (pv 5) (pv 3) (nomark _)))))))))), ?_⟩
  have okp := hL.okp
  have hkV : isKeyV (.int key) = true := hk
  obtain ⟨d, R, hH⟩ := hL.holds hP
  have lx := dpAll_len hd
  unfold rowD at lx
  rw [List.length_map] at lx
  have nd : (keysA PP).Nodup := okp.2.imp fun h e => by omega
  wtm_at "go"
  refine g_forLk (fun i σ' H' => H' = H ∧ ∃ (v : V) (o4 : Option V), σ' = [some (.ref p), some (.ref r), some (.int key), some v, o4, none] ∧ Dp K H v (optD (getA (PP.take i) key)))
    (SqL.of e) ⟨rfl, .non, _, rfl, .non⟩ (fun i σ' H' _ hp => by rw [hp.1]; exact SqL.of e) (fun i x σ' H' hx hp => ?_) (fun σ' H' hp => ?_)
  · obtain ⟨rfl, v, o4, rfl, hv⟩ := hp
    obtain ⟨pr, hpr, hpx⟩ := dpAll_at' (f := pairD) hd hx
    have et : PP.take (i + 1) = PP.take i ++ [pr] := by rw [List.take_add_one, hpr]; rfl
    obtain ⟨ta, y, rfl, ht, hy⟩ := dp_pair hpx
    wtm_at "go"
    refine g_ixT ht (atI_nat (j := 0) rfl) ?_
    wtm_at "go"
    by_cases c : pr.1 = key
    · rw [show decide (V.int pr.1 = V.int key) = true from decide_eq_true (by rw [c])]
      refine g_br (fun _ => ?_) (fun z => nomatch z)
      wtm_at "go"
      refine g_ixT ht (atI_nat (j := 1) rfl) ?_
      wtm_at "go"
      refine ⟨rfl, y, _, rfl, ?_⟩
      have en : getA (PP.take i) key = none := by
        cases g : getA (PP.take i) key with
        | none => rfl
        | some d0 =>
          have m1 := getA_mem g
          have nd2 : (keysA (PP.take (i + 1))).Nodup := ((List.take_sublist (i + 1) PP).map _).nodup nd
          rw [et] at nd2
          unfold keysA at nd2
          rw [List.map_append, List.nodup_append] at nd2
          exact absurd c.symm (nd2.2.2 key (List.mem_map.mpr ⟨_, m1, rfl⟩) pr.1 (List.mem_singleton.mpr rfl))
      rw [et, getA_app, en, getA_cons, if_pos c]
      exact hy
    · rw [show decide (V.int pr.1 = V.int key) = false from decide_eq_false fun z => c (V.int.inj z)]
      refine g_br (fun z => nomatch z) (fun _ => ?_)
      wtm_at "go"
      refine ⟨rfl, v, _, rfl, ?_⟩
      rw [et, getA_app, getA_cons, if_neg c, getA_nil, Option.or_none]
      exact hv
  · obtain ⟨rfl, v, o4, rfl, hv⟩ := hp
    rw [lx, List.take_length] at hv
    wtm_at "go"
    refine hS.meth (by decide +kernel) (by decide +kernel) (by decide +kernel) (by decide +kernel) (by decide +kernel) (by decide +kernel) ?_
    wtm_at "go"
    refine ⟨p, b, l, u, st, PP, d, R, key, rfl, hS, hH, hkV, fun v2 H1 s1 hv2 => ?_⟩
    wtm_at "go"
    cases g : getA PP key with
    | none =>
      unfold valP at hv2
      rw [g] at hv hv2
      cases dp_none hv
      cases dp_none hv2
      refine g_br (fun _ => ?_) (fun z => nomatch z)
      wtm_at "go"
      exact q H1 s1
    | some d0 =>
      have hh := (okp.1 _ (getA_mem g)).2
      unfold heldD at hh
      rw [if_pos (show wordT true = leafW from rfl)] at hh
      unfold valP at hv2
      rw [g] at hv hv2
      cases d0 with
      | str z =>
        cases hv
        cases hv2
        refine g_br (fun z => nomatch z) (fun _ => ?_)
        wtm_at "go"
        refine g_isiS ?_
        wtm_at "go"
        refine g_andV (fun _ => ?_) (fun z => nomatch z)
        wtm_at "go"
        rw [decide_eq_true rfl]
        exact q H1 s1
      | _ => exact nomatch hh
theorem ok_l_shown (T : Tx K mg) : FnOk P w K mg base CX0 6 T.a_l_shown T.d_l_shown ["_law_store", "_law_row", "_law_keys"] (sp_l_shown K T.C_Store) := by
  refine T.F_l_shown.ok sc_l_shown (fun vs H Q E h => ?_) (fun cdv A outer s H vs Q E hr h => ?_)
  · obtain ⟨p, b, l, u, r, kk, st, PP, k1, k2, rfl, _⟩ := h
    rfl
  obtain ⟨p, b, l, u, r, kk, st, PP, k1, k2, rfl, hS, hL, hP, hR, hkk, hk1, hk2, q⟩ := h
  refine ⟨_, (pss_cons (ps_if (pw_or (pt_not (pt_val (pe_call (ok_l_values T) hr (by rfl) T.g_l_values T.F_l_values.kp T.b_l_values .nil pass0 (pa_cons (pv 0) (pa_cons (pv 1) (pa_cons (pe_ix ix_list (pv 2) pe_int (fun _ _ => rfl)) pa_nil)))))) (pw_or1 (pt_not (pt_val (pe_call (ok_l_values T) hr (by rfl) T.g_l_values T.F_l_values.kp T.b_l_values .nil pass0 (pa_cons (pv 0) (pa_cons (pv 1) (pa_cons (pe_ix ix_list (pv 2) pe_int (fun _ _ => rfl)) pa_nil)))))))).pt
      (pss_one (ps_ret pe_bl))
      pss_nil)
    (pss_cons (ps_set (i := 3) sc_l_shown.nd rfl (Or.inl rfl) (pe_meth0 (pv 0) T.cl_Store T.m_Store_pairs (ok_Store_pairs T) (hr.mono (by decide)) T.b_Store_pairs .nil pass0))
    (pss_cons (ps_set (i := 4) sc_l_shown.nd rfl (Or.inl rfl) (pe_meth (pv 0) T.cl_Store T.m_Store_between (ok_Store_between T) (hr.mono (by decide)) T.b_Store_between .nil pass0 (pa_cons (pe_ix ix_list (pv 2) pe_int (fun _ _ => rfl)) (pa_cons (pe_ix ix_list (pv 2) pe_int (fun _ _ => rfl)) pa_nil))))
    (pss_cons (ps_setLc (i := 5) (own := [("_law_pair", 6)]) (g := gName 6) rfl sc_l_shown.nd rfl rfl (sw_true rfl rfl rfl (by decide +kernel)) (pi_list (pv 1)) (blkOk_by (own := [("_law_pair", 6)]) (N := N_l_shown) (sc := defScope s_l_shown) (by decide +kernel)) (fun _ _ _ _ _ => (pg_name (i := 6) sc_l_shown.nd rfl (Or.inl rfl))) (fun _ _ _ _ _ => (pts_one (pw_and (pt_cmpR op_le (pe_ix (ixLK (K := K) rfl) (pv 2) pe_int (fun _ _ => rfl)) (pe_ix (ixTK (K := K) rfl) (pv 6) pe_int (fun _ _ => rfl)) (nomark _)) (pw_and1 (pt_cmpR op_le (pe_ix (ixTK (K := K) rfl) (pv 6) pe_int (fun _ _ => rfl)) (pe_ix (ixLK (K := K) rfl) (pv 2) pe_int (fun _ _ => rfl)) (nomark _)))).pt)) (fun _ _ _ _ _ => (pv 6)))
    (pss_cons (ps_if (pw_or (pt_not (pt_val (pe_callB call_isi (by rfl) T.z_isinstance (by decide +kernel) (pa_cons (pv 3) (pa_cons (pe_bltn (v := .ty "list") (by rfl) T.z_list (by decide +kernel) rfl) pa_nil))))) (pw_or (pt_cmpR (op_neD hr.units) (pv 3) (pv 1) (nomark _)) (pw_or (pt_not (pt_val (pe_callB call_isi (by rfl) T.z_isinstance (by decide +kernel) (pa_cons (pv 4) (pa_cons (pe_bltn (v := .ty "list") (by rfl) T.z_list (by decide +kernel) rfl) pa_nil))))) (pw_or1 (pt_cmpR (op_neD hr.units) (pv 4) (pv 5) (nomark _)))))).pt
      (pss_one (ps_ret pe_bl))
      pss_nil)
    (pss_cons (ps_expr (pe_bm0 PySem.F.plainAttrs_list PySem.F.slot_list_clear PySem.F.type_list_clear mt_clear (pv 3)))
    (pss_cons (ps_expr (pe_bm PySem.F.plainAttrs_list PySem.F.slot_list_append PySem.F.type_list_append mt_append (pv 4) (pa_cons (pe_tup (pa_cons pe_int (pa_cons pe_str pa_nil))) pa_nil)))
    (pss_one (ps_ret (pe_and (pe_cmpR (op_eqD hr.units) (pe_meth0 (pv 0) T.cl_Store T.m_Store_pairs (ok_Store_pairs T) (hr.mono (by decide)) T.b_Store_pairs .nil pass0) (pv 1) (nomark _)) (pe_one (pe_cmpR (op_eqD hr.units) (pe_meth (pv 0) T.cl_Store T.m_Store_between (ok_Store_between T) (hr.mono (by decide)) T.b_Store_between .nil pass0 (pa_cons (pe_ix ix_list (pv 2) pe_int (fun _ _ => rfl)) (pa_cons (pe_ix ix_list (pv 2) pe_int (fun _ _ => rfl)) pa_nil))) (pv 5) (nomark _))))))))))))), ?_⟩
  have okp := hL.okp
  have smp := hL.smp
  have smb : smP (betwP PP k1 k2) := fun y hy => smp y (List.mem_filter.mp hy).1
  have hkV1 : isKeyV (.int k1) = true := hk1
  have hkV2 : isKeyV (.int k2) = true := hk2
  obtain ⟨d, R, hH⟩ := hL.holds hP
  wtm_at "go"
  refine g_ixL (SqL.of hkk) (atI_nat (j := 0) rfl) ?_
  wtm_at "go"
  refine ⟨p, b, l, u, r, st, PP, k1, rfl, hS, hL, hP, hR, hk1, fun H1 s1 => ?_⟩
  wtm_at "go"
  refine g_orK (fun z => nomatch z) (fun _ => ?_)
  wtm_at "go"
  refine g_ixL (SqL.of (s1 _ _ hkk)) (atI_nat (j := 1) rfl) ?_
  wtm_at "go"
  refine ⟨p, b, l, u, r, st, PP, k2, rfl, hS.go s1, hL, hP, hR.go s1, hk2, fun H2 s2 => ?_⟩
  have s12 := s1.trans s2
  wtm_at "go"
  refine g_br (fun z => nomatch z) (fun _ => ?_)
  wtm_at "go"
  refine (hS.go s12).meth (by decide +kernel) (by decide +kernel) (by decide +kernel) (by decide +kernel) (by decide +kernel) (by decide +kernel) ?_
  refine ⟨p, b, l, u, st, PP, d, R, rfl, hS.go s12, hH, fun t ys H3 n3 s3 e3 d3 => ?_⟩
  have s13 := s12.trans s3
  wtm_at "go"
  refine (hS.go s13).meth (by decide +kernel) (by decide +kernel) (by decide +kernel) (by decide +kernel) (by decide +kernel) (by decide +kernel) ?_
  wtm_at "go"
  refine g_ixL (SqL.of (s13 _ _ hkk)) (atI_nat (j := 0) rfl) ?_
  wtm_at "go"
  refine g_ixL (SqL.of (s13 _ _ hkk)) (atI_nat (j := 1) rfl) ?_
  wtm_at "go"
  refine ⟨p, b, l, u, st, PP, d, R, k1, k2, rfl, hS.go s13, hH, hkV1, hkV2, fun t2 ys2 H4 n4 s4 e4 d4 => ?_⟩
  have s14 := s13.trans s4
  wtm_at "go"
  obtain ⟨xs, e, hd⟩ := hR.go s14
  have lx := dpAll_len hd
  unfold rowD at lx
  rw [List.length_map] at lx
  have kk4 := s14 _ _ hkk
  refine g_wLk (SqL.of e) ?_
  refine g_lcDW (K := K) walk_list (fun i => rowD (betwP (PP.take i) k1 k2)) (by omega) (fun H' s => L2.Same.seq s (SqL.of e)) rfl (fun i _ => smP.strict fun y hy => smp y (List.mem_of_mem_take (List.mem_filter.mp hy).1)) (fun i _ => ?_) (fun i z H5 H6 QN QE hi s5 hy kn ke => ?_) (fun p5 ys5 H5 n5 s5 e5 d5 => ?_)
  · unfold rowD
    rw [List.length_map]
    refine Nat.le_trans betwP_len ?_
    rw [List.length_take]
    omega
  · obtain ⟨rfl, hxi⟩ := hy
    obtain ⟨pr, hpr, hpx⟩ := dpAll_at' (f := pairD) hd hxi
    have et : PP.take (i + 1) = PP.take i ++ [pr] := by rw [List.take_add_one, hpr]; rfl
    obtain ⟨ta, y, rfl, ht, hy⟩ := dp_pair hpx
    have ht5 := Same.seqT s5 ht
    have no : ¬ (k1 ≤ pr.1 ∧ pr.1 ≤ k2) → rowD (betwP (PP.take (i + 1)) k1 k2) = rowD (betwP (PP.take i) k1 k2) := fun c => by
      rw [et, betwP_app]
      have e1 : betwP [pr] k1 k2 = [] := by
        unfold betwP
        rw [List.filter_cons, if_neg (by rw [Bool.and_eq_true, decide_eq_true_eq, decide_eq_true_eq]; exact c)]
        rfl
      rw [e1, List.append_nil]
    refine g_name ⟨rfl, ?_⟩
    wtm_at "go"
    refine g_ixL (SqL.of (s5 _ _ kk4)) (atI_nat (j := 0) rfl) ?_
    wtm_at "go"
    refine g_ixT ht5 (atI_nat (j := 0) rfl) ?_
    wtm_at "go"
    refine g_andK (fun c1 => ?_) (fun c1 => ?_)
    · wtm_at "go"
      refine g_ixT ht5 (atI_nat (j := 0) rfl) ?_
      wtm_at "go"
      refine g_ixL (SqL.of (s5 _ _ kk4)) (atI_nat (j := 1) rfl) ?_
      wtm_at "go"
      by_cases c2 : pr.1 ≤ k2
      · rw [decide_eq_true c2]
        refine iteT (g_var rfl (ke _ (pairD pr) _ ?_ (L2.Same.refl _) (Dp.go s5 hpx)))
        rw [et, betwP_app]
        have e1 : betwP [pr] k1 k2 = [pr] := by
          unfold betwP
          rw [List.filter_cons, if_pos (by rw [Bool.and_eq_true]; exact ⟨c1, decide_eq_true c2⟩)]
          rfl
        rw [e1]
        unfold rowD
        rw [List.map_append]
        rfl
      · rw [decide_eq_false c2]
        exact iteF (kn (no fun z => c2 z.2) _ (L2.Same.refl _))
    · exact iteF (kn (no fun z => absurd z.1 (of_decide_eq_false c1)) _ (L2.Same.refl _))
  rw [lx, List.take_length] at d5
  have s15 := s14.trans s5
  have e5' := s5 _ _ e
  have hd5 := DpAll.go s5 hd
  have e35 := (s4.trans s5) _ _ e3
  have d35 := DpAll.go (s4.trans s5) d3
  have e45 := s5 _ _ e4
  have d45 := DpAll.go s5 d4
  wtm_at "go"
  refine g_isiL e35 ?_
  wtm_at "go"
  refine g_orK (fun z => nomatch z) (fun _ => ?_)
  wtm_at "go"
  refine g_neL (SqL.of e35) (SqL.of e5') d35 hd5 (rowD_fit smp) (by decide) ?_
  wtm_at "go"
  refine g_orK (fun z => nomatch z) (fun _ => ?_)
  wtm_at "go"
  refine g_isiL e45 ?_
  wtm_at "go"
  refine g_orK (fun z => nomatch z) (fun _ => ?_)
  wtm_at "go"
  refine g_neL (SqL.of e45) (SqL.of e5) d45 d5 (rowD_fit smb) (by decide) ?_
  wtm_at "go"
  refine g_tyL e35 ?_
  refine g_clear e35 fun H6 o6 e6 => ?_
  have f3 := s12.free n3
  have s16 := o6.same s15 f3
  have t2t : t2 ≠ t := fun z => by
    rw [z, e3] at n4
    cases n4
  have p5t : p5 ≠ t := fun z => by
    rw [z, (s4 _ _ e3)] at n5
    cases n5
  have p5t2 : p5 ≠ t2 := fun z => by
    rw [z, e4] at n5
    cases n5
  have e46 := o6 _ _ t2t e45
  have e56 := o6 _ _ p5t e5
  have d56 := DpAll.othL e35 o6 smb.strict d5
  wtm_at "go"
  refine g_tyL e46 ?_
  wtm_at "go"
  refine g_tupK (by wtm_at "ln") fun t7 H7 n7 s7 e7 => ?_
  wtm_at "go"
  have e47 := s7 _ _ e46
  have e57 := s7 _ _ e56
  have d57 := DpAll.go s7 d56
  have ly2 := dpAll_len d4
  unfold rowD at ly2
  rw [List.length_map] at ly2
  have lb := betwP_len (P := PP) (low := k1) (high := k2)
  refine g_appendO e47 (by omega) fun H8 o8 e8 => ?_
  have f4 := s13.free n4
  have s18 := o8.same (s16.trans s7) f4
  have e58 := o8 _ _ p5t2 e57
  have d58 := DpAll.othL e47 o8 smb.strict d57
  wtm_at "go"
  refine (hS.go s18).meth (by decide +kernel) (by decide +kernel) (by decide +kernel) (by decide +kernel) (by decide +kernel) (by decide +kernel) ?_
  refine ⟨p, b, l, u, st, PP, d, R, rfl, hS.go s18, hH, fun t9 ys9 H9 n9 s9 e9 d9 => ?_⟩
  have s19 := s18.trans s9
  obtain ⟨xs9, er9, hd9⟩ := hR.go s19
  wtm_at "go"
  refine g_eqL (SqL.of e9) (SqL.of er9) d9 hd9 (rowD_fit smp) (by decide) ?_
  refine g_andV (fun _ => ?_) (fun z => nomatch z)
  wtm_at "go"
  refine (hS.go s19).meth (by decide +kernel) (by decide +kernel) (by decide +kernel) (by decide +kernel) (by decide +kernel) (by decide +kernel) ?_
  wtm_at "go"
  refine g_ixL (SqL.of (s19 _ _ hkk)) (atI_nat (j := 0) rfl) ?_
  wtm_at "go"
  refine g_ixL (SqL.of (s19 _ _ hkk)) (atI_nat (j := 1) rfl) ?_
  wtm_at "go"
  refine ⟨p, b, l, u, st, PP, d, R, k1, k2, rfl, hS.go s19, hH, hkV1, hkV2, fun t0 ys0 H0 n0 s0 e0 d0 => ?_⟩
  wtm_at "go"
  exact g_eqL (SqL.of e0) (SqL.of ((s9.trans s0) _ _ e58)) d0 (DpAll.go (s9.trans s0) d58) (rowD_fit smb) (by decide) (q H0 (s19.trans s0))
theorem ok_law {f : Addr} {fd : FuncData} (F : Fun K "law" "law" s_law f fd) (T : Tx K mg) : FnOk P w K mg base CX0 10 f fd ["_law_script"] (spLaw K) := by
  refine F.ok sc_law (fun vs H Q E h => ?_) (fun cdv A outer s H vs Q E hr h => ?_)
  · obtain ⟨a, ns, rfl, _⟩ := h
    rfl
  obtain ⟨a, ns, rfl, ha, hlen, hbits, q⟩ := h
  refine ⟨_, (pss_cons (ps_set (i := 0) sc_law.nd rfl (Or.inl rfl) (pe_slice sl_list (pv 0) po_none (po_some pe_int)))
    (pss_cons (ps_set (i := 1) sc_law.nd rfl (Or.inl rfl) (pe_call (ok_l_width_by T) (hr.mono (by decide)) (by rfl) T.g_l_width_by T.F_l_width_by.kp T.b_l_width_by .nil pass0 (pa_cons (pe_call (ok_l_cell_at T) (hr.mono (by decide)) (by rfl) T.g_l_cell_at T.F_l_cell_at.kp T.b_l_cell_at .nil pass0 (pa_cons (pv 0) (pa_cons pe_int pa_nil))) pa_nil)))
    (pss_cons (ps_set (i := 2) sc_law.nd rfl (Or.inl rfl) (pe_call (ok_opened T) hr (by rfl) T.g_opened T.F_opened.kp T.b_opened .nil pass0 (pa_cons (pv 1) (pa_cons (pe_call (ok_l_room_by T) (hr.mono (by decide)) (by rfl) T.g_l_room_by T.F_l_room_by.kp T.b_l_room_by .nil pass0 (pa_cons (pe_call (ok_l_cell_at T) (hr.mono (by decide)) (by rfl) T.g_l_cell_at T.F_l_cell_at.kp T.b_l_cell_at .nil pass0 (pa_cons (pv 0) (pa_cons pe_int pa_nil))) pa_nil)) pa_nil))))
    (pss_cons (ps_set (i := 3) sc_law.nd rfl (Or.inl rfl) (pe_call (ok_opened T) hr (by rfl) T.g_opened T.F_opened.kp T.b_opened .nil pass0 (pa_cons (pv 1) (pa_cons (pe_call (ok_l_room_by T) (hr.mono (by decide)) (by rfl) T.g_l_room_by T.F_l_room_by.kp T.b_l_room_by .nil pass0 (pa_cons (pe_call (ok_l_cell_at T) (hr.mono (by decide)) (by rfl) T.g_l_cell_at T.F_l_cell_at.kp T.b_l_cell_at .nil pass0 (pa_cons (pv 0) (pa_cons pe_int pa_nil))) pa_nil)) pa_nil))))
    (pss_cons (ps_set (i := 4) sc_law.nd rfl (Or.inl rfl) (pe_op op_add pe_int (pe_op op_mod (pe_op op_fdiv (pe_call (ok_l_cell_at T) (hr.mono (by decide)) (by rfl) T.g_l_cell_at T.F_l_cell_at.kp T.b_l_cell_at .nil pass0 (pa_cons (pv 0) (pa_cons pe_int pa_nil))) pe_int) (pe_callB (my_max2 rfl) (by rfl) T.z_max (by decide +kernel) (pa_cons pe_int (pa_cons (pe_op op_sub (pe_callB my_len (by rfl) T.z_len PySem.boot_len (pa_cons (pv 0) pa_nil)) pe_int) pa_nil))))))
    (pss_cons (ps_set (i := 5) sc_law.nd rfl (Or.inl rfl) (pe_call (ok_l_history T) (hr.mono (by decide)) (by rfl) T.g_l_history T.F_l_history.kp T.b_l_history .nil pass0 (pa_cons (pv 2) (pa_cons (pe_lst pa_nil) (pa_cons (pe_slice sl_list (pv 0) (po_some pe_int) (po_some (pv 4))) (pa_cons (pe_op op_add pe_int (pv 1)) pa_nil))))))
    (pss_cons (ps_set (i := 6) sc_law.nd rfl (Or.inl rfl) (pe_call (ok_l_history T) (hr.mono (by decide)) (by rfl) T.g_l_history T.F_l_history.kp T.b_l_history .nil pass0 (pa_cons (pv 3) (pa_cons (pe_lst pa_nil) (pa_cons (pe_revL (pe_slice sl_list (pv 0) (po_some pe_int) (po_some pe_int))) (pa_cons pe_int pa_nil))))))
    (pss_cons (ps_if (pw_or (pt_cmpR my_isN (pv 5) pe_non (nomark _)) (pw_or (pt_cmpR my_isN (pv 6) pe_non (nomark _)) (pw_or1 (pt_cmpR (op_neD hr.units) (pe_meth0 (pv 3) T.cl_Store T.m_Store_pairs (ok_Store_pairs T) (hr.mono (by decide)) T.b_Store_pairs .nil pass0) (pe_ix ix_list (pv 6) (pe_un un_neg pe_int) (fun _ _ => rfl)) (nomark _))))).pt
      (pss_one (ps_ret pe_bl))
      pss_nil)
    (pss_cons (ps_set (i := 7) sc_law.nd rfl (Or.inl rfl) (pe_ix ix_list (pv 5) (pe_un un_neg pe_int) (fun _ _ => rfl)))
    (pss_cons (ps_set (i := 8) sc_law.nd rfl (Or.inl rfl) (pe_lst (pa_cons (pe_call (ok_l_key_by T) (hr.mono (by decide)) (by rfl) T.g_l_key_by T.F_l_key_by.kp T.b_l_key_by .nil pass0 (pa_cons (pe_call (ok_l_cell_at T) (hr.mono (by decide)) (by rfl) T.g_l_cell_at T.F_l_cell_at.kp T.b_l_cell_at .nil pass0 (pa_cons (pv 0) (pa_cons pe_int pa_nil))) pa_nil)) (pa_cons (pe_call (ok_l_key_by T) (hr.mono (by decide)) (by rfl) T.g_l_key_by T.F_l_key_by.kp T.b_l_key_by .nil pass0 (pa_cons (pe_call (ok_l_cell_at T) (hr.mono (by decide)) (by rfl) T.g_l_cell_at T.F_l_cell_at.kp T.b_l_cell_at .nil pass0 (pa_cons (pv 0) (pa_cons pe_int pa_nil))) pa_nil)) pa_nil))))
    (Evl.pss_cut (ps_if (pw_and (pt_cmpR op_gt (pe_callB my_len (by rfl) T.z_len PySem.boot_len (pa_cons (pv 7) pa_nil)) pe_int (nomark _)) (pw_and1 (pt_cmpR op_eq (pe_op op_mod (pe_call (ok_l_cell_at T) (hr.mono (by decide)) (by rfl) T.g_l_cell_at T.F_l_cell_at.kp T.b_l_cell_at .nil pass0 (pa_cons (pv 0) (pa_cons pe_int pa_nil))) pe_int) pe_int (nomark _)))).pt
      (pss_one (ps_asg (pe_ix ix_tup (pe_ix ix_list (pv 7) (pe_op op_mod (pe_op op_fdiv (pe_call (ok_l_cell_at T) (hr.mono (by decide)) (by rfl) T.g_l_cell_at T.F_l_cell_at.kp T.b_l_cell_at .nil pass0 (pa_cons (pv 0) (pa_cons pe_int pa_nil))) pe_int) (pe_callB my_len (by rfl) T.z_len PySem.boot_len (pa_cons (pv 7) pa_nil))) (fun _ _ => rfl)) pe_int (fun _ _ => rfl)) (pg_sub (pv 8) pe_int set_list)))
      pss_nil)
    (pss_cons (ps_set (i := 9) sc_law.nd rfl (Or.inl rfl) (pe_lst (pa_cons (pe_meth0 (pv 2) T.cl_Store T.m_Store_pairs (ok_Store_pairs T) (hr.mono (by decide)) T.b_Store_pairs .nil pass0) (pa_cons (pe_meth (pv 2) T.cl_Store T.m_Store_between (ok_Store_between T) (hr.mono (by decide)) T.b_Store_between .nil pass0 (pa_cons (pe_ix ix_list (pv 8) pe_int (fun _ _ => rfl)) (pa_cons (pe_ix ix_list (pv 8) pe_int (fun _ _ => rfl)) pa_nil))) pa_nil))))
    (pss_cons (ps_set (i := 10) sc_law.nd rfl (Or.inl rfl) (pe_lst (pa_cons (pe_callTy my_list (by rfl) T.z_list (by decide +kernel) (pa_cons (pe_ix ix_list (pv 9) pe_int (fun _ _ => rfl)) pa_nil)) (pa_cons (pe_callTy my_list (by rfl) T.z_list (by decide +kernel) (pa_cons (pe_ix ix_list (pv 9) pe_int (fun _ _ => rfl)) pa_nil)) pa_nil))))
    (pss_cons (ps_if (pt_not (pt_val (pe_call (ok_l_shown T) (hr.mono (by decide)) (by rfl) T.g_l_shown T.F_l_shown.kp T.b_l_shown .nil pass0 (pa_cons (pv 2) (pa_cons (pv 7) (pa_cons (pv 8) pa_nil))))))
      (pss_one (ps_ret pe_bl))
      pss_nil)
    (pss_cons (ps_set (i := 5) sc_law.nd rfl (Or.inl rfl) (pe_call (ok_l_history T) (hr.mono (by decide)) (by rfl) T.g_l_history T.F_l_history.kp T.b_l_history .nil pass0 (pa_cons (pv 2) (pa_cons (pv 7) (pa_cons (pe_slice sl_list (pv 0) (po_some (pv 4)) po_none) (pa_cons (pe_op op_add pe_int (pv 1)) pa_nil))))))
    (pss_cons (ps_if (pw_or (pt_cmpR my_isN (pv 5) pe_non (nomark _)) (pw_or1 (pt_not (pt_val (pe_call (ok_l_shown T) (hr.mono (by decide)) (by rfl) T.g_l_shown T.F_l_shown.kp T.b_l_shown .nil pass0 (pa_cons (pv 2) (pa_cons (pe_ix ix_list (pv 5) (pe_un un_neg pe_int) (fun _ _ => rfl)) (pa_cons (pv 8) pa_nil)))))))).pt
      (pss_one (ps_ret pe_bl))
      pss_nil)
    (pss_one (ps_ret (pe_and (pe_cmpR (op_eqD hr.units) (pv 9) (pv 10) (nomark _)) (pe_and (pe_cmpR (op_eqD hr.units) (pe_ix ix_list (pv 10) pe_int (fun _ _ => rfl)) (pv 7) (nomark _)) (pe_one (pe_cmpR (op_eqD hr.units) (pe_meth0 (pv 3) T.cl_Store T.m_Store_pairs (ok_Store_pairs T) (hr.mono (by decide)) T.b_Store_pairs .nil pass0) (pe_ix ix_list (pv 6) (pe_un un_neg pe_int) (fun _ _ => rfl)) (nomark _))))))))))))))))))))))), ?_⟩
  wtm_at "go"
  refine g_slL ha fun a1 H1 n1 s1 e1 => ?_
  have ecut : cutV (ns.map V.int) none (some 84) = ns.map V.int := by
    rw [show (84 : Int) = ((84 : Nat) : Int) from rfl, cut_to]
    exact List.take_of_length_le (by rw [List.length_map]; omega)
  rw [ecut] at e1
  wtm_at "go"
  refine ⟨_, rfl, fun wi w1 w2 => ?_⟩
  wtm_at "go"
  refine ⟨_, rfl, fun room r1 r2 => ?_⟩
  wtm_at "go"
  refine ⟨wi, room, rfl, w1, w2, r1, r2, fun p b l u H2 np nb nl nu s2 hS => ?_⟩
  have e2 := s2 _ _ e1
  wtm_at "go"
  refine ⟨_, rfl, fun room2 r3 r4 => ?_⟩
  wtm_at "go"
  refine ⟨wi, room2, rfl, w1, w2, r3, r4, fun p2 b2 l2 u2 H3 np2 nb2 nl2 nu2 s3 hS2 => ?_⟩
  have e3 := s3 _ _ e2
  have hSf := hS
  have hS := hS.go s3
  have op2 : Out4 p b l u p2 := hSf.fresh np2
  have ob2 : Out4 p b l u b2 := hSf.fresh nb2
  have ol2 : Out4 p b l u l2 := hSf.fresh nl2
  have ou2 : Out4 p b l u u2 := hSf.fresh nu2
  have oa : Out4 p b l u a1 := ⟨fun z => (by rw [z, np] at e1; cases e1), fun z => (by rw [z, nb] at e1; cases e1), fun z => (by rw [z, nl] at e1; cases e1), fun z => (by rw [z, nu] at e1; cases e1)⟩
  have oa2 : Out4 p2 b2 l2 u2 a1 := ⟨fun z => (by rw [z, np2] at e2; cases e2), fun z => (by rw [z, nb2] at e2; cases e2), fun z => (by rw [z, nl2] at e2; cases e2), fun z => (by rw [z, nu2] at e2; cases e2)⟩
  have back : Out4 p2 b2 l2 u2 p ∧ Out4 p2 b2 l2 u2 b ∧ Out4 p2 b2 l2 u2 l ∧ Out4 p2 b2 l2 u2 u :=
    ⟨⟨op2.1.symm, ob2.1.symm, ol2.1.symm, ou2.1.symm⟩, ⟨op2.2.1.symm, ob2.2.1.symm, ol2.2.1.symm, ou2.2.1.symm⟩, ⟨op2.2.2.1.symm, ob2.2.2.1.symm, ol2.2.2.1.symm, ou2.2.2.1.symm⟩, ⟨op2.2.2.2.symm, ob2.2.2.2.symm, ol2.2.2.2.symm, ou2.2.2.2.symm⟩⟩
  clear e1 e2 s1 s2 s3
  wtm_at "go"
  obtain ⟨M, eM⟩ : ∃ M : Int, M = (if ((ns.map V.int).length : Int) - 3 > 1 then ((ns.map V.int).length : Int) - 3 else 1) := ⟨_, rfl⟩
  rw [← eM]
  have hM : 1 ≤ M ∧ M ≤ 60 := by
    rw [List.length_map] at eM
    split at eM <;> omega
  wtm_at "go"
  have m0 := Int.emod_nonneg (cell ns 2 / 3) (show M ≠ 0 by omega)
  have m1 := Int.emod_lt_of_pos (cell ns 2 / 3) (show 0 < M by omega)
  generalize cell ns 2 / 3 % M = mm at m0 m1
  obtain ⟨mid, emid⟩ : ∃ mid : Nat, 4 + mm = (mid : Int) := ⟨(4 + mm).toNat, by omega⟩
  rw [emid]
  refine g_lstK (by wtm_at "ln") fun ra H4 n4 s4 e4 => ?_
  wtm_at "go"
  refine g_slL (SqL.of (s4 _ _ e3)) fun ca H5 n5 s5 e5 => ?_
  rw [show (4 : Int) = ((4 : Nat) : Int) from rfl, cut_mid, ← List.map_take, ← List.map_drop] at e5
  wtm_at "go"
  have hSf4 := hS.fresh n4
  have hS5 := (hS.go s4).go s5
  have hSf5 := (hS.go s4).fresh n5
  have hS25 := (hS2.go s4).go s5
  have hS2f4 := hS2.fresh n4
  have hS2f5 := (hS2.go s4).fresh n5
  have sub : ∀ z ∈ (ns.take mid).drop 4, Builtin.Int.intBits z ≤ 1048576 := fun z hz => hbits z (List.mem_of_mem_take (List.mem_of_mem_drop hz))
  have lsub : ((ns.take mid).drop 4).length ≤ 63 := by rw [List.length_drop, List.length_take]; omega
  refine ⟨p, b, l, u, ra, ca, _, [], (ns.take mid).drop 4, 13 + wi, rfl, hS5, live_none w1 w2, by simp, by show 0 ≤ _; omega, ⟨[], s5 _ _ e4, .nil⟩, hSf4.2.2.1, e5, hSf5.2.2.1, lsub, sub, by omega, by omega, fun q1 rs1 Ps1 P1 st1 H6 nq1 o6 hS6 erl1 rows1 fr1 sm1 hist1 live1 len1 all1 => ?_⟩
  have e6 := o6.out oa (s5 _ _ (s4 _ _ e3))
  have hS26 := hS25.apart hS5 o6 op2 ob2 ol2 ou2
  obtain ⟨rs1', ar1, ers1, rows1', row1⟩ := paired_snoc rows1
  have ar1l : ar1 ≠ l ∧ ar1 ≠ l2 := by
    rcases fr1 ar1 (by rw [ers1]; exact List.mem_append_right _ (List.mem_singleton.mpr rfl)) with z | z
    · rw [z]
      exact ⟨hSf4.2.2.1, hS2f4.2.2.1⟩
    · exact ⟨(hS5.fresh z).2.2.1, (hS25.fresh z).2.2.1⟩
  have q1l : q1 ≠ l ∧ q1 ≠ l2 := ⟨(hS5.fresh nq1).2.2.1, (hS25.fresh nq1).2.2.1⟩
  have smP1 : smP P1 := live1.smp
  wtm_at "go"
  -- the second store
  refine g_lstK (by wtm_at "ln") fun rb H7 n7 s7 e7 => ?_
  wtm_at "go"
  refine g_revL ?_
  wtm_at "go"
  refine g_slL (SqL.of (s7 _ _ e6)) fun cb H8 n8 s8 e8 => ?_
  rw [show (4 : Int) = ((4 : Nat) : Int) from rfl, show (24 : Int) = ((24 : Nat) : Int) from rfl, cut_mid, ← List.map_take, ← List.map_drop] at e8
  refine g_rRevL (SqL.of e8) fun cc H9 n9 s9 e9 => ?_
  rw [← List.map_reverse] at e9
  wtm_at "go"
  have s79 := (s7.trans s8).trans s9
  have hS29 := hS26.go s79
  have hS9 := hS6.go s79
  have row9 := row1.go s79
  have eq9 := s79 _ _ erl1
  have hS2f7 := hS26.fresh n7
  have hSf7 := hS6.fresh n7
  have hS2f9 := ((hS26.go s7).go s8).fresh n9
  have sub2 : ∀ z ∈ ((ns.take 24).drop 4).reverse, Builtin.Int.intBits z ≤ 1048576 := fun z hz => hbits z (List.mem_of_mem_take (List.mem_of_mem_drop (List.mem_reverse.mp hz)))
  have lsub2 : (((ns.take 24).drop 4).reverse).length ≤ 63 := by rw [List.length_reverse, List.length_drop, List.length_take]; omega
  refine ⟨p2, b2, l2, u2, rb, cc, _, [], ((ns.take 24).drop 4).reverse, 9, rfl, hS29, live_none w1 w2, by simp, by show 0 ≤ _; omega, ⟨[], (s8.trans s9) _ _ e7, .nil⟩, hS2f7.2.2.1, e9, hS2f9.2.2.1, lsub2, sub2, by omega, by omega, fun q2 rs2 Ps2 P2 st2 HA nq2 oA hS2A erl2 rows2 fr2 sm2 hist2 live2 len2 all2 => ?_⟩
  have eA := oA.out oa2 (s79 _ _ e6)
  have hSA := hS9.apart hS29 oA back.1 back.2.1 back.2.2.1 back.2.2.2
  have rowA := row9.o4 hS29 oA ar1l.2 smP1
  have eqA := oA.lst hS29 q1l.2 eq9
  obtain ⟨rs2', ar2, ers2, rows2', row2⟩ := paired_snoc rows2
  have ar2l : ar2 ≠ l := by
    rcases fr2 ar2 (by rw [ers2]; exact List.mem_append_right _ (List.mem_singleton.mpr rfl)) with z | z
    · rw [z]
      exact hSf7.2.2.1
    · exact (hS9.fresh z).2.2.1
  have q2l : q2 ≠ l := (hS9.fresh nq2).2.2.1
  obtain ⟨d2, R2, hH2⟩ := live2.holds (by rw [List.length_nil] at len2; omega)
  rw [ers2, List.map_append] at erl2
  rw [ers1, List.map_append] at eqA
  wtm_at "go"
  refine g_orK (fun z => nomatch z) (fun _ => ?_)
  wtm_at "go"
  refine g_orK (fun z => nomatch z) (fun _ => ?_)
  wtm_at "go"
  refine hS2A.meth (by decide +kernel) (by decide +kernel) (by decide +kernel) (by decide +kernel) (by decide +kernel) (by decide +kernel) ?_
  refine ⟨p2, b2, l2, u2, st2, P2, d2, R2, rfl, hS2A, hH2, fun t2 yt2 HB nt2 sB et2 dt2 => ?_⟩
  wtm_at "go"
  refine g_ixL (SqL.of (sB _ _ erl2)) (atI_last _ _) ?_
  obtain ⟨xr2, er2, dr2⟩ := row2.go sB
  wtm_at "go"
  refine g_neL (SqL.of et2) (SqL.of er2) dt2 dr2 (rowD_fit live2.smp) (by decide) ?_
  wtm_at "go"
  refine g_ixL (SqL.of (sB _ _ eqA)) (atI_last _ _) ?_
  have eB := sB _ _ eA
  have hSB := hSA.go sB
  have hS2B := hS2A.go sB
  have rowB := rowA.go sB
  have row2B : RowAt K HB ar2 P2 := ⟨xr2, er2, dr2⟩
  have el2B := sB _ _ erl2
  wtm_at "go"
  refine ⟨_, rfl, Nat.le_trans (cell_bits hbits 2) (by decide), fun k1 hk1 => ?_⟩
  wtm_at "go"
  refine ⟨_, rfl, Nat.le_trans (cell_bits hbits 3) (by decide), fun k2 hk2 => ?_⟩
  wtm_at "go"
  refine g_lstK (by wtm_at "ln") fun kk HC nkk sC ekk => ?_
  wtm_at "go"
  have hkf := hSB.fresh nkk
  have hkf2 := hS2B.fresh nkk
  have eC := sC _ _ eB
  have hSC := hSB.go sC
  have hS2C := hS2B.go sC
  have el2C := sC _ _ el2B
  have ne_kk : ∀ {x : Addr} {o : HO}, HB x = some o → x ≠ kk := fun hx z => by
    rw [z, nkk] at hx
    cases hx
  obtain ⟨xr1, er1, dr1⟩ := id rowB
  obtain ⟨yr2, er2', dr2'⟩ := id row2B
  have ar1kk := ne_kk er1
  have ar2kk := ne_kk er2'
  have q2kk := ne_kk el2B
  have lr1 := dpAll_len dr1
  unfold rowD at lr1
  rw [List.length_map] at lr1
  have okp1 := live1.okp
  have len1' : P1.length ≤ 6300 := by
    rw [List.length_nil] at len1
    omega
  have er1C := sC _ _ er1
  refine g_cut (fun σ' H' => ∃ k1 : Int, σ' = [some (.ref a1), some (.int wi), some (.ref p), some (.ref p2), some (.int (mid : Int)), some (.ref q1), some (.ref q2), some (.ref ar1), some (.ref kk), none, none] ∧ isKeyD (.int k1) = true ∧ H' kk = some (.lst [.int k1, .int k2]) ∧ Oth kk HC H') ?_ (fun σ' HD hp => ?_)
  · wtm_at "go"
    refine g_andTJ (b := decide (V.int (cell ns 2 % 2) = V.int 1)) (fun _ R r => ?_) ?_
    · wtm_at "go"
      exact r
    refine g_br (fun c => ?_) (fun c => ?_)
    · rw [Bool.and_eq_true, decide_eq_true_eq] at c
      have c1 := c.1
      wtm_at "go"
      have i0 := Int.emod_nonneg (cell ns 2 / 2) (show (xr1.length : Int) ≠ 0 by omega)
      have i1 := Int.emod_lt_of_pos (cell ns 2 / 2) (show (0 : Int) < xr1.length by omega)
      generalize cell ns 2 / 2 % (xr1.length : Int) = ix at i0 i1
      obtain ⟨n, en⟩ : ∃ n : Nat, ix = (n : Int) := ⟨ix.toNat, by omega⟩
      subst en
      obtain ⟨x0, hx0⟩ : ∃ x0, xr1[n]? = some x0 := ⟨_, List.getElem?_eq_getElem (by omega)⟩
      obtain ⟨pr, hpr, hpx⟩ := dpAll_at' (f := pairD) dr1 hx0
      obtain ⟨ta, y, rfl, ht, hy⟩ := dp_pair hpx
      refine g_ixL (SqL.of er1C) (atI_nat hx0) ?_
      wtm_at "go"
      refine g_ixT (Same.seqT sC ht) (atI_nat (j := 0) rfl) ?_
      refine g_gSub ?_
      wtm_at "go"
      refine g_setL (k := 0) ekk (by simp) fun HD oD eD => ?_
      wtm_at "go"
      exact ⟨pr.1, rfl, (okp1.1 pr (List.mem_of_getElem? hpr)).1, eD, oD⟩
    · wtm_at "go"
      exact ⟨k1, rfl, hk1, ekk, fun x o _ hx => hx⟩
  obtain ⟨k1, rfl, hk1, ekD, oD⟩ := hp
  have fxD : Fx HC HD := Fx.lst ekk oD
  have tkD : Tk HC HD := Tk.fx fxD
  have hSD := hSC.oth tkD oD hkf.1.symm hkf.2.1.symm hkf.2.2.1.symm hkf.2.2.2.symm
  have hS2D := hS2C.oth tkD oD hkf2.1.symm hkf2.2.1.symm hkf2.2.2.1.symm hkf2.2.2.2.symm
  have rowD1 := (rowB.go sC).oth fxD oD ar1kk smP1
  have rowD2 := (row2B.go sC).oth fxD oD ar2kk live2.smp
  have el2D := oD _ _ q2kk el2C
  have eD := oD _ _ (ne_kk eB) eC
  obtain ⟨d1, R1, hH1⟩ := live1.holds (by omega)
  have smb : smP (betwP P1 k1 k2) := fun y hy => smP1 y (List.mem_filter.mp hy).1
  clear eC el2C er1C hSC hS2C eB sC sB
  wtm_at "go"
  refine hSD.meth (by decide +kernel) (by decide +kernel) (by decide +kernel) (by decide +kernel) (by decide +kernel) (by decide +kernel) ?_
  refine ⟨p, b, l, u, st1, P1, d1, R1, rfl, hSD, hH1, fun t3 y3 HE n3 s3 e3 d3 => ?_⟩
  have hSE := hSD.go s3
  wtm_at "go"
  refine hSE.meth (by decide +kernel) (by decide +kernel) (by decide +kernel) (by decide +kernel) (by decide +kernel) (by decide +kernel) ?_
  wtm_at "go"
  refine g_ixL (SqL.of (s3 _ _ ekD)) (atI_nat (j := 0) rfl) ?_
  wtm_at "go"
  refine g_ixL (SqL.of (s3 _ _ ekD)) (atI_nat (j := 1) rfl) ?_
  wtm_at "go"
  refine ⟨p, b, l, u, st1, P1, d1, R1, k1, k2, rfl, hSE, hH1, hk1, hk2, fun t4 y4 HF n4' s4' e4' d4 => ?_⟩
  wtm_at "go"
  refine g_lstK (by wtm_at "ln") fun hh HG nhh sG ehh => ?_
  wtm_at "go"
  have e3G := (s4'.trans sG) _ _ e3
  have d3G := DpAll.go (s4'.trans sG) d3
  have e4G := sG _ _ e4'
  have d4G := DpAll.go sG d4
  refine g_ixL (SqL.of ehh) (atI_nat (j := 0) rfl) ?_
  wtm_at "go"
  refine g_list (.inl (SqL.of e3G)) fun c1 HI nc1 sI ec1 => ?_
  wtm_at "go"
  refine g_ixL (SqL.of (sI _ _ ehh)) (atI_nat (j := 1) rfl) ?_
  wtm_at "go"
  refine g_list (.inl (SqL.of (sI _ _ e4G))) fun c2 HJ nc2 sJ ec2 => ?_
  wtm_at "go"
  refine g_lstK (by wtm_at "ln") fun cp HL ncp sL ecp => ?_
  -- all of it at HL
  have sDG := (s3.trans s4').trans sG
  have sGL := (sI.trans sJ).trans sL
  have sDL := sDG.trans sGL
  have hSL := hSD.go sDL
  have hS2L := hS2D.go sDL
  have rowL1 := rowD1.go sDL
  have rowL2 := rowD2.go sDL
  have el2L := sDL _ _ el2D
  have eL := sDL _ _ eD
  have ekL := sDL _ _ ekD
  have t3L : RowAt K HL t3 P1 := ⟨_, sGL _ _ e3G, DpAll.go sGL d3G⟩
  have t4L : RowAt K HL t4 (betwP P1 k1 k2) := ⟨_, sGL _ _ e4G, DpAll.go sGL d4G⟩
  have c1L : RowAt K HL c1 P1 := ⟨_, (sJ.trans sL) _ _ ec1, DpAll.go sGL d3G⟩
  have c2L : RowAt K HL c2 (betwP P1 k1 k2) := ⟨_, sL _ _ ec2, DpAll.go sGL d4G⟩
  have ehL := sGL _ _ ehh
  have t3f := hSD.fresh n3
  have t4f := hSE.fresh n4'
  have hhf := (hSE.go s4').fresh nhh
  have c1f := ((hSE.go s4').go sG).fresh nc1
  have c2f := (((hSE.go s4').go sG).go sI).fresh nc2
  have cpf := ((((hSE.go s4').go sG).go sI).go sJ).fresh ncp
  clear ekD eD rowD1 rowD2 el2D hSE e3G d3G e4G d4G ehh ec1 ec2 e3 d3 e4' d4 s3 s4' sG sI sJ sL sDG sGL sDL
  wtm_at "go"
  refine ⟨p, b, l, u, ar1, kk, st1, P1, k1, k2, rfl, hSL, live1, by omega, rowL1, ekL, hk1, hk2, fun HM sM => ?_⟩
  have hSM := hSL.go sM
  wtm_at "go"
  refine g_br (fun z => nomatch z) (fun _ => ?_)
  wtm_at "go"
  refine g_slL (SqL.of (sM _ _ eL)) fun cd HN ncd sN ecd => ?_
  rw [cut_from, ← List.map_drop] at ecd
  have sLN := sM.trans sN
  have hSN := hSM.go sN
  have hS2N := hS2L.go sLN
  have cdf := hSM.fresh ncd
  have sub3 : ∀ z ∈ ns.drop mid, Builtin.Int.intBits z ≤ 1048576 := fun z hz => hbits z (List.mem_of_mem_drop hz)
  have lsub3 : (ns.drop mid).length ≤ 63 := by rw [List.length_drop]; omega
  have al1 : allD st1 ≤ 2000000 := by
    have e0 : allD (newS wi room) = 0 := rfl
    rw [e0] at all1
    omega
  wtm_at "go"
  refine ⟨p, b, l, u, ar1, cd, st1, P1, ns.drop mid, 13 + wi, rfl, hSN, live1, by omega, al1, rowL1.go sLN, ar1l.1, ecd, cdf.2.2.1, lsub3, sub3, by omega, by omega, fun q3 rs3 Ps3 P3 st3 HO' nq3 oO hSO erl3 rows3 fr3 sm3 hist3 live3 len3 all3 => ?_⟩
  obtain ⟨rs3', ar3, ers3, rows3', row3⟩ := paired_snoc rows3
  rw [ers3, List.map_append] at erl3
  have hS2O := hS2N.apart hSN oO op2 ob2 ol2 ou2
  have row1O := (rowL1.go sLN).o4 hSN oO ar1l.1 smP1
  have row2O := (rowL2.go sLN).o4 hSN oO ar2l live2.smp
  have el2O := oO.lst hSN q2l (sLN _ _ el2L)
  have ekO := oO.lst hSN hkf.2.2.1 (sLN _ _ ekL)
  have t3O := (t3L.go sLN).o4 hSN oO t3f.2.2.1 smP1
  have t4O := (t4L.go sLN).o4 hSN oO t4f.2.2.1 smb
  have c1O := (c1L.go sLN).o4 hSN oO c1f.2.2.1 smP1
  have c2O := (c2L.go sLN).o4 hSN oO c2f.2.2.1 smb
  have ehO := oO.lst hSN hhf.2.2.1 (sLN _ _ ehL)
  have ecpO := oO.lst hSN cpf.2.2.1 (sLN _ _ ecp)
  have len3' : P3.length ≤ 15000 := by omega
  wtm_at "go"
  refine g_orK (fun z => nomatch z) (fun _ => ?_)
  wtm_at "go"
  refine g_ixL (SqL.of erl3) (atI_last _ _) ?_
  wtm_at "go"
  refine ⟨p, b, l, u, ar3, kk, st3, P3, k1, k2, rfl, hSO, live3, len3', row3, ekO, hk1, hk2, fun HP sP => ?_⟩
  wtm_at "go"
  refine g_br (fun z => nomatch z) (fun _ => ?_)
  wtm_at "go"
  obtain ⟨z3, f3, g3⟩ := t3O.go sP
  obtain ⟨z4, f4, g4⟩ := t4O.go sP
  obtain ⟨w3, i3, j3⟩ := c1O.go sP
  obtain ⟨w4, i4, j4⟩ := c2O.go sP
  obtain ⟨x1, h1, h2⟩ := row1O.go sP
  refine g_eqL (SqL.of (sP _ _ ehO)) (SqL.of (sP _ _ ecpO)) (.cons (.lst (SqL.of f3) g3) (.cons (.lst (SqL.of f4) g4) .nil)) (.cons (.lst (SqL.of i3) j3) (.cons (.lst (SqL.of i4) j4) .nil)) (two_fit smP1 smb) (by decide) ?_
  refine g_andV (fun _ => ?_) (fun z => nomatch z)
  wtm_at "go"
  refine g_ixL (SqL.of (sP _ _ ecpO)) (atI_nat (j := 0) rfl) ?_
  wtm_at "go"
  refine g_eqL (SqL.of i3) (SqL.of h1) j3 h2 (rowD_fit smP1) (by decide) ?_
  refine g_andV (fun _ => ?_) (fun z => nomatch z)
  wtm_at "go"
  refine (hS2O.go sP).meth (by decide +kernel) (by decide +kernel) (by decide +kernel) (by decide +kernel) (by decide +kernel) (by decide +kernel) ?_
  refine ⟨p2, b2, l2, u2, st2, P2, d2, R2, rfl, hS2O.go sP, hH2, fun t9 y9 HQ n9 s9 e9 d9 => ?_⟩
  wtm_at "go"
  refine g_ixL (SqL.of ((sP.trans s9) _ _ el2O)) (atI_last _ _) ?_
  obtain ⟨x2, m2, m3⟩ := row2O.go (sP.trans s9)
  exact g_eqL (SqL.of e9) (SqL.of m2) d9 m3 (rowD_fit live2.smp) (by decide) (q HQ)
theorem all_mk {l : PySem.W.OpenLaw} {w : World} {K : PySem.W.Frag} {h : Heap} {mg : Str → Option Value} {fa : Addr} (X : K.In h) (G : h.Ns mainGlobals mg) (hfa : mg "law" = some (.ref fa))
    {C_Change : Addr} (aC_Change : PySem.W.nsIn K mainGlobals "Change" = some (some (.ref C_Change)))
    (pg_Change : PySem.W.plainGet K C_Change Str.empty = true) (hd_Change : PySem.W.hasDictIn K C_Change = true) (po_Change : PySem.W.plainOver K C_Change = true) (sa_Change : PySem.W.findIn K (.ref C_Change) "__setattr__" = some (some (.builtin "object.__setattr__"))) (mk_Change : PySem.W.makesIn K C_Change = true) (kc_Change : PySem.W.keepIn K (.ref C_Change) = true)
    (n_Change__after : PySem.W.findIn K (.ref C_Change) "_after" = some none)
    (n_Change__blocks : PySem.W.findIn K (.ref C_Change) "_blocks" = some none)
    (n_Change__newest : PySem.W.findIn K (.ref C_Change) "_newest" = some none)
    (n_Change__width : PySem.W.findIn K (.ref C_Change) "_width" = some none)
    {C_Store : Addr} (aC_Store : PySem.W.nsIn K mainGlobals "Store" = some (some (.ref C_Store)))
    (pg_Store : PySem.W.plainGet K C_Store Str.empty = true) (hd_Store : PySem.W.hasDictIn K C_Store = true) (po_Store : PySem.W.plainOver K C_Store = true) (sa_Store : PySem.W.findIn K (.ref C_Store) "__setattr__" = some (some (.builtin "object.__setattr__"))) (mk_Store : PySem.W.makesIn K C_Store = true) (kc_Store : PySem.W.keepIn K (.ref C_Store) = true)
    (n_Store__blocks : PySem.W.findIn K (.ref C_Store) "_blocks" = some none)
    (n_Store__logged : PySem.W.findIn K (.ref C_Store) "_logged" = some none)
    (n_Store__room : PySem.W.findIn K (.ref C_Store) "_room" = some none)
    (n_Store__waiting : PySem.W.findIn K (.ref C_Store) "_waiting" = some none)
    (n_Store__width : PySem.W.findIn K (.ref C_Store) "_width" = some none)
    (n_Store_deeds : PySem.W.findIn K (.ref C_Store) "deeds" = some none)
    {E_NotThere : Addr} (eg_NotThere : PySem.W.nsIn K mainGlobals "NotThere" = some (some (.ref E_NotThere))) (ex_NotThere : PySem.W.excIn K E_NotThere [.type "ValueError", .type "Exception", .type "BaseException", .type "object"] "ValueError.__new__" = true)
    (ek_NotThere : PySem.W.keepIn K (.ref E_NotThere) = true) (eb_NotThere : PySem.W.subIn K (.ref E_NotThere) (.type "BaseException") = some true) (et_NotThere : PySem.W.typeIn K (.ref E_NotThere) = some (.type "type")) (ei_NotThere : PySem.W.isClsIn K E_NotThere = true) (es_NotThere : PySem.W.subIn K (.ref E_NotThere) (.ref E_NotThere) = some true)
    {f0 : Addr} {od0 an0 : Option Addr} {sl0 : Array (Option Value)} {oc0 kV0 dc0 pm0 cd0 ct0 : Value}
    (a0 : PySem.W.nsIn K mainGlobals "is_whole" = some (some (.ref f0))) (l0 : K.lookup f0 = some ⟨oc0, od0, .func (PySem.W.fnOf "is_whole" "is_whole" (defArgs s_is_whole) (defBody s_is_whole) (defScope s_is_whole) .none kV0 dc0 pm0 an0 cd0 ct0), sl0⟩) (c0 : PySem.W.codeIn K cd0 "is_whole" = true) (k0 : PySem.W.keepIn K (.ref f0) = true)
    {f1 : Addr} {od1 an1 : Option Addr} {sl1 : Array (Option Value)} {oc1 kV1 dc1 pm1 cd1 ct1 : Value}
    (a1 : PySem.W.nsIn K mainGlobals "is_key" = some (some (.ref f1))) (l1 : K.lookup f1 = some ⟨oc1, od1, .func (PySem.W.fnOf "is_key" "is_key" (defArgs s_is_key) (defBody s_is_key) (defScope s_is_key) .none kV1 dc1 pm1 an1 cd1 ct1), sl1⟩) (c1 : PySem.W.codeIn K cd1 "is_key" = true) (k1 : PySem.W.keepIn K (.ref f1) = true)
    {f2 : Addr} {od2 an2 : Option Addr} {sl2 : Array (Option Value)} {oc2 kV2 dc2 pm2 cd2 ct2 : Value}
    (a2 : PySem.W.nsIn K mainGlobals "is_value" = some (some (.ref f2))) (l2 : K.lookup f2 = some ⟨oc2, od2, .func (PySem.W.fnOf "is_value" "is_value" (defArgs s_is_value) (defBody s_is_value) (defScope s_is_value) .none kV2 dc2 pm2 an2 cd2 ct2), sl2⟩) (c2 : PySem.W.codeIn K cd2 "is_value" = true) (k2 : PySem.W.keepIn K (.ref f2) = true)
    {f3 : Addr} {od3 an3 : Option Addr} {sl3 : Array (Option Value)} {oc3 kV3 dc3 pm3 cd3 ct3 : Value}
    (a3 : PySem.W.nsIn K mainGlobals "is_number" = some (some (.ref f3))) (l3 : K.lookup f3 = some ⟨oc3, od3, .func (PySem.W.fnOf "is_number" "is_number" (defArgs s_is_number) (defBody s_is_number) (defScope s_is_number) .none kV3 dc3 pm3 an3 cd3 ct3), sl3⟩) (c3 : PySem.W.codeIn K cd3 "is_number" = true) (k3 : PySem.W.keepIn K (.ref f3) = true)
    {f4 : Addr} {od4 an4 : Option Addr} {sl4 : Array (Option Value)} {oc4 kV4 dc4 pm4 cd4 ct4 : Value}
    (a4 : PySem.W.nsIn K mainGlobals "half" = some (some (.ref f4))) (l4 : K.lookup f4 = some ⟨oc4, od4, .func (PySem.W.fnOf "half" "half" (defArgs s_half) (defBody s_half) (defScope s_half) .none kV4 dc4 pm4 an4 cd4 ct4), sl4⟩) (c4 : PySem.W.codeIn K cd4 "half" = true) (k4 : PySem.W.keepIn K (.ref f4) = true)
    {f5 : Addr} {od5 an5 : Option Addr} {sl5 : Array (Option Value)} {oc5 kV5 dc5 pm5 cd5 ct5 : Value}
    (a5 : PySem.W.nsIn K mainGlobals "place" = some (some (.ref f5))) (l5 : K.lookup f5 = some ⟨oc5, od5, .func (PySem.W.fnOf "place" "place" (defArgs s_place) (defBody s_place) (defScope s_place) .none kV5 dc5 pm5 an5 cd5 ct5), sl5⟩) (c5 : PySem.W.codeIn K cd5 "place" = true) (k5 : PySem.W.keepIn K (.ref f5) = true)
    {f6 : Addr} {od6 an6 : Option Addr} {sl6 : Array (Option Value)} {oc6 kV6 dc6 pm6 cd6 ct6 : Value}
    (a6 : PySem.W.nsIn K mainGlobals "parts" = some (some (.ref f6))) (l6 : K.lookup f6 = some ⟨oc6, od6, .func (PySem.W.fnOf "parts" "parts" (defArgs s_parts) (defBody s_parts) (defScope s_parts) .none kV6 dc6 pm6 an6 cd6 ct6), sl6⟩) (c6 : PySem.W.codeIn K cd6 "parts" = true) (k6 : PySem.W.keepIn K (.ref f6) = true)
    {f7 : Addr} {od7 an7 : Option Addr} {sl7 : Array (Option Value)} {oc7 kV7 dc7 pm7 cd7 ct7 : Value}
    (a7 : PySem.W.nsIn K mainGlobals "is_two" = some (some (.ref f7))) (l7 : K.lookup f7 = some ⟨oc7, od7, .func (PySem.W.fnOf "is_two" "is_two" (defArgs s_is_two) (defBody s_is_two) (defScope s_is_two) .none kV7 dc7 pm7 an7 cd7 ct7), sl7⟩) (c7 : PySem.W.codeIn K cd7 "is_two" = true) (k7 : PySem.W.keepIn K (.ref f7) = true)
    {f8 : Addr} {od8 an8 : Option Addr} {sl8 : Array (Option Value)} {oc8 kV8 dc8 pm8 cd8 ct8 : Value}
    (a8 : PySem.W.nsIn K mainGlobals "is_pair" = some (some (.ref f8))) (l8 : K.lookup f8 = some ⟨oc8, od8, .func (PySem.W.fnOf "is_pair" "is_pair" (defArgs s_is_pair) (defBody s_is_pair) (defScope s_is_pair) .none kV8 dc8 pm8 an8 cd8 ct8), sl8⟩) (c8 : PySem.W.codeIn K cd8 "is_pair" = true) (k8 : PySem.W.keepIn K (.ref f8) = true)
    {f9 : Addr} {od9 an9 : Option Addr} {sl9 : Array (Option Value)} {oc9 kV9 dc9 pm9 cd9 ct9 : Value}
    (a9 : PySem.W.nsIn K mainGlobals "rises" = some (some (.ref f9))) (l9 : K.lookup f9 = some ⟨oc9, od9, .func (PySem.W.fnOf "rises" "rises" (defArgs s_rises) (defBody s_rises) (defScope s_rises) .none kV9 dc9 pm9 an9 cd9 ct9), sl9⟩) (c9 : PySem.W.codeIn K cd9 "rises" = true) (k9 : PySem.W.keepIn K (.ref f9) = true)
    {f10 : Addr} {od10 an10 : Option Addr} {sl10 : Array (Option Value)} {oc10 kV10 dc10 pm10 cd10 ct10 : Value}
    (a10 : PySem.W.nsIn K mainGlobals "is_block" = some (some (.ref f10))) (l10 : K.lookup f10 = some ⟨oc10, od10, .func (PySem.W.fnOf "is_block" "is_block" (defArgs s_is_block) (defBody s_is_block) (defScope s_is_block) .none kV10 dc10 pm10 an10 cd10 ct10), sl10⟩) (c10 : PySem.W.codeIn K cd10 "is_block" = true) (k10 : PySem.W.keepIn K (.ref f10) = true)
    {f11 : Addr} {od11 an11 : Option Addr} {sl11 : Array (Option Value)} {oc11 kV11 dc11 pm11 cd11 ct11 : Value}
    (a11 : PySem.W.nsIn K mainGlobals "lay" = some (some (.ref f11))) (l11 : K.lookup f11 = some ⟨oc11, od11, .func (PySem.W.fnOf "lay" "lay" (defArgs s_lay) (defBody s_lay) (defScope s_lay) .none kV11 dc11 pm11 an11 cd11 ct11), sl11⟩) (c11 : PySem.W.codeIn K cd11 "lay" = true) (k11 : PySem.W.keepIn K (.ref f11) = true)
    {f12 : Addr} {od12 an12 : Option Addr} {sl12 : Array (Option Value)} {oc12 kV12 dc12 pm12 cd12 ct12 : Value}
    (a12 : PySem.W.nsIn K mainGlobals "redone" = some (some (.ref f12))) (l12 : K.lookup f12 = some ⟨oc12, od12, .func (PySem.W.fnOf "redone" "redone" (defArgs s_redone) (defBody s_redone) (defScope s_redone) .none kV12 dc12 pm12 an12 cd12 ct12), sl12⟩) (c12 : PySem.W.codeIn K cd12 "redone" = true) (k12 : PySem.W.keepIn K (.ref f12) = true)
    {f13 : Addr} {od13 an13 : Option Addr} {sl13 : Array (Option Value)} {oc13 kV13 dc13 pm13 cd13 ct13 : Value}
    (a13 : PySem.W.nsIn K mainGlobals "row_of" = some (some (.ref f13))) (l13 : K.lookup f13 = some ⟨oc13, od13, .func (PySem.W.fnOf "row_of" "row_of" (defArgs s_row_of) (defBody s_row_of) (defScope s_row_of) .none kV13 dc13 pm13 an13 cd13 ct13), sl13⟩) (c13 : PySem.W.codeIn K cd13 "row_of" = true) (k13 : PySem.W.keepIn K (.ref f13) = true)
    {f14 : Addr} {od14 an14 : Option Addr} {sl14 : Array (Option Value)} {oc14 kV14 dc14 pm14 cd14 ct14 : Value}
    (a14 : PySem.W.nsIn K mainGlobals "named" = some (some (.ref f14))) (l14 : K.lookup f14 = some ⟨oc14, od14, .func (PySem.W.fnOf "named" "named" (defArgs s_named) (defBody s_named) (defScope s_named) .none kV14 dc14 pm14 an14 cd14 ct14), sl14⟩) (c14 : PySem.W.codeIn K cd14 "named" = true) (k14 : PySem.W.keepIn K (.ref f14) = true)
    {f15 : Addr} {od15 an15 : Option Addr} {sl15 : Array (Option Value)} {oc15 kV15 dc15 pm15 cd15 ct15 : Value}
    (a15 : PySem.W.nsIn K mainGlobals "all_are" = some (some (.ref f15))) (l15 : K.lookup f15 = some ⟨oc15, od15, .func (PySem.W.fnOf "all_are" "all_are" (defArgs s_all_are) (defBody s_all_are) (defScope s_all_are) .none kV15 dc15 pm15 an15 cd15 ct15), sl15⟩) (c15 : PySem.W.codeIn K cd15 "all_are" = true) (k15 : PySem.W.keepIn K (.ref f15) = true)
    {f16 : Addr} {od16 an16 : Option Addr} {sl16 : Array (Option Value)} {oc16 kV16 dc16 pm16 cd16 ct16 : Value}
    (a16 : PySem.W.nsIn K mainGlobals "is_root" = some (some (.ref f16))) (l16 : K.lookup f16 = some ⟨oc16, od16, .func (PySem.W.fnOf "is_root" "is_root" (defArgs s_is_root) (defBody s_is_root) (defScope s_is_root) .none kV16 dc16 pm16 an16 cd16 ct16), sl16⟩) (c16 : PySem.W.codeIn K cd16 "is_root" = true) (k16 : PySem.W.keepIn K (.ref f16) = true)
    {f17 : Addr} {od17 an17 : Option Addr} {sl17 : Array (Option Value)} {oc17 kV17 dc17 pm17 cd17 ct17 : Value}
    (a17 : PySem.W.nsIn K mainGlobals "fits" = some (some (.ref f17))) (l17 : K.lookup f17 = some ⟨oc17, od17, .func (PySem.W.fnOf "fits" "fits" (defArgs s_fits) (defBody s_fits) (defScope s_fits) .none kV17 dc17 pm17 an17 cd17 ct17), sl17⟩) (c17 : PySem.W.codeIn K cd17 "fits" = true) (k17 : PySem.W.keepIn K (.ref f17) = true)
    {f18 : Addr} {od18 an18 : Option Addr} {sl18 : Array (Option Value)} {oc18 kV18 dc18 pm18 cd18 ct18 : Value}
    (a18 : PySem.W.nsIn K mainGlobals "sound" = some (some (.ref f18))) (l18 : K.lookup f18 = some ⟨oc18, od18, .func (PySem.W.fnOf "sound" "sound" (defArgs s_sound) (defBody s_sound) (defScope s_sound) .none kV18 dc18 pm18 an18 cd18 ct18), sl18⟩) (c18 : PySem.W.codeIn K cd18 "sound" = true) (k18 : PySem.W.keepIn K (.ref f18) = true)
    {f19 : Addr} {od19 an19 : Option Addr} {sl19 : Array (Option Value)} {oc19 kV19 dc19 pm19 cd19 ct19 : Value}
    (a19 : PySem.W.nsIn K mainGlobals "way" = some (some (.ref f19))) (l19 : K.lookup f19 = some ⟨oc19, od19, .func (PySem.W.fnOf "way" "way" (defArgs s_way) (defBody s_way) (defScope s_way) .none kV19 dc19 pm19 an19 cd19 ct19), sl19⟩) (c19 : PySem.W.codeIn K cd19 "way" = true) (k19 : PySem.W.keepIn K (.ref f19) = true)
    {f20 : Addr} {od20 an20 : Option Addr} {sl20 : Array (Option Value)} {oc20 kV20 dc20 pm20 cd20 ct20 : Value}
    (a20 : PySem.W.nsIn K mainGlobals "value_in" = some (some (.ref f20))) (l20 : K.lookup f20 = some ⟨oc20, od20, .func (PySem.W.fnOf "value_in" "value_in" (defArgs s_value_in) (defBody s_value_in) (defScope s_value_in) .none kV20 dc20 pm20 an20 cd20 ct20), sl20⟩) (c20 : PySem.W.codeIn K cd20 "value_in" = true) (k20 : PySem.W.keepIn K (.ref f20) = true)
    {f21 : Addr} {od21 an21 : Option Addr} {sl21 : Array (Option Value)} {oc21 kV21 dc21 pm21 cd21 ct21 : Value}
    (a21 : PySem.W.nsIn K mainGlobals "listed" = some (some (.ref f21))) (l21 : K.lookup f21 = some ⟨oc21, od21, .func (PySem.W.fnOf "listed" "listed" (defArgs s_listed) (defBody s_listed) (defScope s_listed) .none kV21 dc21 pm21 an21 cd21 ct21), sl21⟩) (c21 : PySem.W.codeIn K cd21 "listed" = true) (k21 : PySem.W.keepIn K (.ref f21) = true)
    {f22 : Addr} {od22 an22 : Option Addr} {sl22 : Array (Option Value)} {oc22 kV22 dc22 pm22 cd22 ct22 : Value}
    (a22 : PySem.W.nsIn K mainGlobals "within" = some (some (.ref f22))) (l22 : K.lookup f22 = some ⟨oc22, od22, .func (PySem.W.fnOf "within" "within" (defArgs s_within) (defBody s_within) (defScope s_within) .none kV22 dc22 pm22 an22 cd22 ct22), sl22⟩) (c22 : PySem.W.codeIn K cd22 "within" = true) (k22 : PySem.W.keepIn K (.ref f22) = true)
    {f23 : Addr} {od23 an23 : Option Addr} {sl23 : Array (Option Value)} {oc23 kV23 dc23 pm23 cd23 ct23 : Value}
    (a23 : PySem.W.findIn K (.ref C_Change) "__init__" = some (some (.ref f23))) (i23 : PySem.W.isFn K (.ref f23) = true) (l23 : K.lookup f23 = some ⟨oc23, od23, .func (PySem.W.fnOf "__init__" "Change.__init__" (defArgs s_Change_init) (defBody s_Change_init) (defScope s_Change_init) .none kV23 dc23 pm23 an23 cd23 ct23), sl23⟩) (c23 : PySem.W.codeIn K cd23 "Change.__init__" = true) (k23 : PySem.W.keepIn K (.ref f23) = true)
    {f24 : Addr} {od24 an24 : Option Addr} {sl24 : Array (Option Value)} {oc24 kV24 dc24 pm24 cd24 ct24 : Value}
    (a24 : PySem.W.findIn K (.ref C_Change) "told" = some (some (.ref f24))) (i24 : PySem.W.isFn K (.ref f24) = true) (l24 : K.lookup f24 = some ⟨oc24, od24, .func (PySem.W.fnOf "told" "Change.told" (defArgs s_Change_told) (defBody s_Change_told) (defScope s_Change_told) .none kV24 dc24 pm24 an24 cd24 ct24), sl24⟩) (c24 : PySem.W.codeIn K cd24 "Change.told" = true) (k24 : PySem.W.keepIn K (.ref f24) = true)
    {f25 : Addr} {od25 an25 : Option Addr} {sl25 : Array (Option Value)} {oc25 kV25 dc25 pm25 cd25 ct25 : Value}
    (a25 : PySem.W.findIn K (.ref C_Change) "hold" = some (some (.ref f25))) (i25 : PySem.W.isFn K (.ref f25) = true) (l25 : K.lookup f25 = some ⟨oc25, od25, .func (PySem.W.fnOf "hold" "Change.hold" (defArgs s_Change_hold) (defBody s_Change_hold) (defScope s_Change_hold) .none kV25 dc25 pm25 an25 cd25 ct25), sl25⟩) (c25 : PySem.W.codeIn K cd25 "Change.hold" = true) (k25 : PySem.W.keepIn K (.ref f25) = true)
    {f26 : Addr} {od26 an26 : Option Addr} {sl26 : Array (Option Value)} {oc26 kV26 dc26 pm26 cd26 ct26 : Value}
    (a26 : PySem.W.findIn K (.ref C_Change) "_fill_below" = some (some (.ref f26))) (i26 : PySem.W.isFn K (.ref f26) = true) (l26 : K.lookup f26 = some ⟨oc26, od26, .func (PySem.W.fnOf "_fill_below" "Change._fill_below" (defArgs s_Change_fill_below) (defBody s_Change_fill_below) (defScope s_Change_fill_below) .none kV26 dc26 pm26 an26 cd26 ct26), sl26⟩) (c26 : PySem.W.codeIn K cd26 "Change._fill_below" = true) (k26 : PySem.W.keepIn K (.ref f26) = true)
    {f27 : Addr} {od27 an27 : Option Addr} {sl27 : Array (Option Value)} {oc27 kV27 dc27 pm27 cd27 ct27 : Value}
    (a27 : PySem.W.findIn K (.ref C_Change) "_fill" = some (some (.ref f27))) (i27 : PySem.W.isFn K (.ref f27) = true) (l27 : K.lookup f27 = some ⟨oc27, od27, .func (PySem.W.fnOf "_fill" "Change._fill" (defArgs s_Change_fill) (defBody s_Change_fill) (defScope s_Change_fill) .none kV27 dc27 pm27 an27 cd27 ct27), sl27⟩) (c27 : PySem.W.codeIn K cd27 "Change._fill" = true) (k27 : PySem.W.keepIn K (.ref f27) = true)
    {f28 : Addr} {od28 an28 : Option Addr} {sl28 : Array (Option Value)} {oc28 kV28 dc28 pm28 cd28 ct28 : Value}
    (a28 : PySem.W.findIn K (.ref C_Change) "_fill_root" = some (some (.ref f28))) (i28 : PySem.W.isFn K (.ref f28) = true) (l28 : K.lookup f28 = some ⟨oc28, od28, .func (PySem.W.fnOf "_fill_root" "Change._fill_root" (defArgs s_Change_fill_root) (defBody s_Change_fill_root) (defScope s_Change_fill_root) .none kV28 dc28 pm28 an28 cd28 ct28), sl28⟩) (c28 : PySem.W.codeIn K cd28 "Change._fill_root" = true) (k28 : PySem.W.keepIn K (.ref f28) = true)
    {f29 : Addr} {od29 an29 : Option Addr} {sl29 : Array (Option Value)} {oc29 kV29 dc29 pm29 cd29 ct29 : Value}
    (a29 : PySem.W.findIn K (.ref C_Change) "_new_number" = some (some (.ref f29))) (i29 : PySem.W.isFn K (.ref f29) = true) (l29 : K.lookup f29 = some ⟨oc29, od29, .func (PySem.W.fnOf "_new_number" "Change._new_number" (defArgs s_Change_new_number) (defBody s_Change_new_number) (defScope s_Change_new_number) .none kV29 dc29 pm29 an29 cd29 ct29), sl29⟩) (c29 : PySem.W.codeIn K cd29 "Change._new_number" = true) (k29 : PySem.W.keepIn K (.ref f29) = true)
    {f30 : Addr} {od30 an30 : Option Addr} {sl30 : Array (Option Value)} {oc30 kV30 dc30 pm30 cd30 ct30 : Value}
    (a30 : PySem.W.nsIn K mainGlobals "put_in" = some (some (.ref f30))) (l30 : K.lookup f30 = some ⟨oc30, od30, .func (PySem.W.fnOf "put_in" "put_in" (defArgs s_put_in) (defBody s_put_in) (defScope s_put_in) .none kV30 dc30 pm30 an30 cd30 ct30), sl30⟩) (c30 : PySem.W.codeIn K cd30 "put_in" = true) (k30 : PySem.W.keepIn K (.ref f30) = true)
    {f31 : Addr} {od31 an31 : Option Addr} {sl31 : Array (Option Value)} {oc31 kV31 dc31 pm31 cd31 ct31 : Value}
    (a31 : PySem.W.nsIn K mainGlobals "drop_from" = some (some (.ref f31))) (l31 : K.lookup f31 = some ⟨oc31, od31, .func (PySem.W.fnOf "drop_from" "drop_from" (defArgs s_drop_from) (defBody s_drop_from) (defScope s_drop_from) .none kV31 dc31 pm31 an31 cd31 ct31), sl31⟩) (c31 : PySem.W.codeIn K cd31 "drop_from" = true) (k31 : PySem.W.keepIn K (.ref f31) = true)
    {f32 : Addr} {od32 an32 : Option Addr} {sl32 : Array (Option Value)} {oc32 kV32 dc32 pm32 cd32 ct32 : Value}
    (a32 : PySem.W.nsIn K mainGlobals "check_width" = some (some (.ref f32))) (l32 : K.lookup f32 = some ⟨oc32, od32, .func (PySem.W.fnOf "check_width" "check_width" (defArgs s_check_width) (defBody s_check_width) (defScope s_check_width) .none kV32 dc32 pm32 an32 cd32 ct32), sl32⟩) (c32 : PySem.W.codeIn K cd32 "check_width" = true) (k32 : PySem.W.keepIn K (.ref f32) = true)
    {f33 : Addr} {od33 an33 : Option Addr} {sl33 : Array (Option Value)} {oc33 kV33 dc33 pm33 cd33 ct33 : Value}
    (a33 : PySem.W.nsIn K mainGlobals "check_room" = some (some (.ref f33))) (l33 : K.lookup f33 = some ⟨oc33, od33, .func (PySem.W.fnOf "check_room" "check_room" (defArgs s_check_room) (defBody s_check_room) (defScope s_check_room) .none kV33 dc33 pm33 an33 cd33 ct33), sl33⟩) (c33 : PySem.W.codeIn K cd33 "check_room" = true) (k33 : PySem.W.keepIn K (.ref f33) = true)
    {f34 : Addr} {od34 an34 : Option Addr} {sl34 : Array (Option Value)} {oc34 kV34 dc34 pm34 cd34 ct34 : Value}
    (a34 : PySem.W.nsIn K mainGlobals "check_key" = some (some (.ref f34))) (l34 : K.lookup f34 = some ⟨oc34, od34, .func (PySem.W.fnOf "check_key" "check_key" (defArgs s_check_key) (defBody s_check_key) (defScope s_check_key) .none kV34 dc34 pm34 an34 cd34 ct34), sl34⟩) (c34 : PySem.W.codeIn K cd34 "check_key" = true) (k34 : PySem.W.keepIn K (.ref f34) = true)
    {f35 : Addr} {od35 an35 : Option Addr} {sl35 : Array (Option Value)} {oc35 kV35 dc35 pm35 cd35 ct35 : Value}
    (a35 : PySem.W.nsIn K mainGlobals "check_value" = some (some (.ref f35))) (l35 : K.lookup f35 = some ⟨oc35, od35, .func (PySem.W.fnOf "check_value" "check_value" (defArgs s_check_value) (defBody s_check_value) (defScope s_check_value) .none kV35 dc35 pm35 an35 cd35 ct35), sl35⟩) (c35 : PySem.W.codeIn K cd35 "check_value" = true) (k35 : PySem.W.keepIn K (.ref f35) = true)
    {f36 : Addr} {od36 an36 : Option Addr} {sl36 : Array (Option Value)} {oc36 kV36 dc36 pm36 cd36 ct36 : Value}
    (a36 : PySem.W.nsIn K mainGlobals "rooted" = some (some (.ref f36))) (l36 : K.lookup f36 = some ⟨oc36, od36, .func (PySem.W.fnOf "rooted" "rooted" (defArgs s_rooted) (defBody s_rooted) (defScope s_rooted) .none kV36 dc36 pm36 an36 cd36 ct36), sl36⟩) (c36 : PySem.W.codeIn K cd36 "rooted" = true) (k36 : PySem.W.keepIn K (.ref f36) = true)
    {f37 : Addr} {od37 an37 : Option Addr} {sl37 : Array (Option Value)} {oc37 kV37 dc37 pm37 cd37 ct37 : Value}
    (a37 : PySem.W.findIn K (.ref C_Store) "__init__" = some (some (.ref f37))) (i37 : PySem.W.isFn K (.ref f37) = true) (l37 : K.lookup f37 = some ⟨oc37, od37, .func (PySem.W.fnOf "__init__" "Store.__init__" (defArgs s_Store_init) (defBody s_Store_init) (defScope s_Store_init) .none kV37 dc37 pm37 an37 cd37 ct37), sl37⟩) (c37 : PySem.W.codeIn K cd37 "Store.__init__" = true) (k37 : PySem.W.keepIn K (.ref f37) = true)
    {f38 : Addr} {od38 an38 : Option Addr} {sl38 : Array (Option Value)} {oc38 kV38 dc38 pm38 cd38 ct38 : Value}
    (a38 : PySem.W.findIn K (.ref C_Store) "put" = some (some (.ref f38))) (i38 : PySem.W.isFn K (.ref f38) = true) (l38 : K.lookup f38 = some ⟨oc38, od38, .func (PySem.W.fnOf "put" "Store.put" (defArgs s_Store_put) (defBody s_Store_put) (defScope s_Store_put) .none kV38 dc38 pm38 an38 cd38 ct38), sl38⟩) (c38 : PySem.W.codeIn K cd38 "Store.put" = true) (k38 : PySem.W.keepIn K (.ref f38) = true)
    {f39 : Addr} {od39 an39 : Option Addr} {sl39 : Array (Option Value)} {oc39 kV39 dc39 pm39 cd39 ct39 : Value}
    (a39 : PySem.W.findIn K (.ref C_Store) "drop" = some (some (.ref f39))) (i39 : PySem.W.isFn K (.ref f39) = true) (l39 : K.lookup f39 = some ⟨oc39, od39, .func (PySem.W.fnOf "drop" "Store.drop" (defArgs s_Store_drop) (defBody s_Store_drop) (defScope s_Store_drop) .none kV39 dc39 pm39 an39 cd39 ct39), sl39⟩) (c39 : PySem.W.codeIn K cd39 "Store.drop" = true) (k39 : PySem.W.keepIn K (.ref f39) = true)
    {f40 : Addr} {od40 an40 : Option Addr} {sl40 : Array (Option Value)} {oc40 kV40 dc40 pm40 cd40 ct40 : Value}
    (a40 : PySem.W.findIn K (.ref C_Store) "settle" = some (some (.ref f40))) (i40 : PySem.W.isFn K (.ref f40) = true) (l40 : K.lookup f40 = some ⟨oc40, od40, .func (PySem.W.fnOf "settle" "Store.settle" (defArgs s_Store_settle) (defBody s_Store_settle) (defScope s_Store_settle) .none kV40 dc40 pm40 an40 cd40 ct40), sl40⟩) (c40 : PySem.W.codeIn K cd40 "Store.settle" = true) (k40 : PySem.W.keepIn K (.ref f40) = true)
    {f41 : Addr} {od41 an41 : Option Addr} {sl41 : Array (Option Value)} {oc41 kV41 dc41 pm41 cd41 ct41 : Value}
    (a41 : PySem.W.findIn K (.ref C_Store) "value_at" = some (some (.ref f41))) (i41 : PySem.W.isFn K (.ref f41) = true) (l41 : K.lookup f41 = some ⟨oc41, od41, .func (PySem.W.fnOf "value_at" "Store.value_at" (defArgs s_Store_value_at) (defBody s_Store_value_at) (defScope s_Store_value_at) .none kV41 dc41 pm41 an41 cd41 ct41), sl41⟩) (c41 : PySem.W.codeIn K cd41 "Store.value_at" = true) (k41 : PySem.W.keepIn K (.ref f41) = true)
    {f42 : Addr} {od42 an42 : Option Addr} {sl42 : Array (Option Value)} {oc42 kV42 dc42 pm42 cd42 ct42 : Value}
    (a42 : PySem.W.findIn K (.ref C_Store) "pairs" = some (some (.ref f42))) (i42 : PySem.W.isFn K (.ref f42) = true) (l42 : K.lookup f42 = some ⟨oc42, od42, .func (PySem.W.fnOf "pairs" "Store.pairs" (defArgs s_Store_pairs) (defBody s_Store_pairs) (defScope s_Store_pairs) .none kV42 dc42 pm42 an42 cd42 ct42), sl42⟩) (c42 : PySem.W.codeIn K cd42 "Store.pairs" = true) (k42 : PySem.W.keepIn K (.ref f42) = true)
    {f43 : Addr} {od43 an43 : Option Addr} {sl43 : Array (Option Value)} {oc43 kV43 dc43 pm43 cd43 ct43 : Value}
    (a43 : PySem.W.findIn K (.ref C_Store) "between" = some (some (.ref f43))) (i43 : PySem.W.isFn K (.ref f43) = true) (l43 : K.lookup f43 = some ⟨oc43, od43, .func (PySem.W.fnOf "between" "Store.between" (defArgs s_Store_between) (defBody s_Store_between) (defScope s_Store_between) .none kV43 dc43 pm43 an43 cd43 ct43), sl43⟩) (c43 : PySem.W.codeIn K cd43 "Store.between" = true) (k43 : PySem.W.keepIn K (.ref f43) = true)
    {f44 : Addr} {od44 an44 : Option Addr} {sl44 : Array (Option Value)} {oc44 kV44 dc44 pm44 cd44 ct44 : Value}
    (a44 : PySem.W.findIn K (.ref C_Store) "_request" = some (some (.ref f44))) (i44 : PySem.W.isFn K (.ref f44) = true) (l44 : K.lookup f44 = some ⟨oc44, od44, .func (PySem.W.fnOf "_request" "Store._request" (defArgs s_Store_request) (defBody s_Store_request) (defScope s_Store_request) .none kV44 dc44 pm44 an44 cd44 ct44), sl44⟩) (c44 : PySem.W.codeIn K cd44 "Store._request" = true) (k44 : PySem.W.keepIn K (.ref f44) = true)
    {f45 : Addr} {od45 an45 : Option Addr} {sl45 : Array (Option Value)} {oc45 kV45 dc45 pm45 cd45 ct45 : Value}
    (a45 : PySem.W.findIn K (.ref C_Store) "_log" = some (some (.ref f45))) (i45 : PySem.W.isFn K (.ref f45) = true) (l45 : K.lookup f45 = some ⟨oc45, od45, .func (PySem.W.fnOf "_log" "Store._log" (defArgs s_Store_log) (defBody s_Store_log) (defScope s_Store_log) .none kV45 dc45 pm45 an45 cd45 ct45), sl45⟩) (c45 : PySem.W.codeIn K cd45 "Store._log" = true) (k45 : PySem.W.keepIn K (.ref f45) = true)
    {f46 : Addr} {od46 an46 : Option Addr} {sl46 : Array (Option Value)} {oc46 kV46 dc46 pm46 cd46 ct46 : Value}
    (a46 : PySem.W.findIn K (.ref C_Store) "_settle_wholly" = some (some (.ref f46))) (i46 : PySem.W.isFn K (.ref f46) = true) (l46 : K.lookup f46 = some ⟨oc46, od46, .func (PySem.W.fnOf "_settle_wholly" "Store._settle_wholly" (defArgs s_Store_settle_wholly) (defBody s_Store_settle_wholly) (defScope s_Store_settle_wholly) .none kV46 dc46 pm46 an46 cd46 ct46), sl46⟩) (c46 : PySem.W.codeIn K cd46 "Store._settle_wholly" = true) (k46 : PySem.W.keepIn K (.ref f46) = true)
    {f47 : Addr} {od47 an47 : Option Addr} {sl47 : Array (Option Value)} {oc47 kV47 dc47 pm47 cd47 ct47 : Value}
    (a47 : PySem.W.nsIn K mainGlobals "opened" = some (some (.ref f47))) (l47 : K.lookup f47 = some ⟨oc47, od47, .func (PySem.W.fnOf "opened" "opened" (defArgs s_opened) (defBody s_opened) (defScope s_opened) .none kV47 dc47 pm47 an47 cd47 ct47), sl47⟩) (c47 : PySem.W.codeIn K cd47 "opened" = true) (k47 : PySem.W.keepIn K (.ref f47) = true)
    {f48 : Addr} {od48 an48 : Option Addr} {sl48 : Array (Option Value)} {oc48 kV48 dc48 pm48 cd48 ct48 : Value}
    (a48 : PySem.W.nsIn K mainGlobals "_law_cell_at" = some (some (.ref f48))) (l48 : K.lookup f48 = some ⟨oc48, od48, .func (PySem.W.fnOf "_law_cell_at" "_law_cell_at" (defArgs s_l_cell_at) (defBody s_l_cell_at) (defScope s_l_cell_at) .none kV48 dc48 pm48 an48 cd48 ct48), sl48⟩) (c48 : PySem.W.codeIn K cd48 "_law_cell_at" = true) (k48 : PySem.W.keepIn K (.ref f48) = true)
    {f49 : Addr} {od49 an49 : Option Addr} {sl49 : Array (Option Value)} {oc49 kV49 dc49 pm49 cd49 ct49 : Value}
    (a49 : PySem.W.nsIn K mainGlobals "_law_width_by" = some (some (.ref f49))) (l49 : K.lookup f49 = some ⟨oc49, od49, .func (PySem.W.fnOf "_law_width_by" "_law_width_by" (defArgs s_l_width_by) (defBody s_l_width_by) (defScope s_l_width_by) .none kV49 dc49 pm49 an49 cd49 ct49), sl49⟩) (c49 : PySem.W.codeIn K cd49 "_law_width_by" = true) (k49 : PySem.W.keepIn K (.ref f49) = true)
    {f50 : Addr} {od50 an50 : Option Addr} {sl50 : Array (Option Value)} {oc50 kV50 dc50 pm50 cd50 ct50 : Value}
    (a50 : PySem.W.nsIn K mainGlobals "_law_room_by" = some (some (.ref f50))) (l50 : K.lookup f50 = some ⟨oc50, od50, .func (PySem.W.fnOf "_law_room_by" "_law_room_by" (defArgs s_l_room_by) (defBody s_l_room_by) (defScope s_l_room_by) .none kV50 dc50 pm50 an50 cd50 ct50), sl50⟩) (c50 : PySem.W.codeIn K cd50 "_law_room_by" = true) (k50 : PySem.W.keepIn K (.ref f50) = true)
    {f51 : Addr} {od51 an51 : Option Addr} {sl51 : Array (Option Value)} {oc51 kV51 dc51 pm51 cd51 ct51 : Value}
    (a51 : PySem.W.nsIn K mainGlobals "_law_key_by" = some (some (.ref f51))) (l51 : K.lookup f51 = some ⟨oc51, od51, .func (PySem.W.fnOf "_law_key_by" "_law_key_by" (defArgs s_l_key_by) (defBody s_l_key_by) (defScope s_l_key_by) .none kV51 dc51 pm51 an51 cd51 ct51), sl51⟩) (c51 : PySem.W.codeIn K cd51 "_law_key_by" = true) (k51 : PySem.W.keepIn K (.ref f51) = true)
    {f52 : Addr} {od52 an52 : Option Addr} {sl52 : Array (Option Value)} {oc52 kV52 dc52 pm52 cd52 ct52 : Value}
    (a52 : PySem.W.nsIn K mainGlobals "_law_value_by" = some (some (.ref f52))) (l52 : K.lookup f52 = some ⟨oc52, od52, .func (PySem.W.fnOf "_law_value_by" "_law_value_by" (defArgs s_l_value_by) (defBody s_l_value_by) (defScope s_l_value_by) .none kV52 dc52 pm52 an52 cd52 ct52), sl52⟩) (c52 : PySem.W.codeIn K cd52 "_law_value_by" = true) (k52 : PySem.W.keepIn K (.ref f52) = true)
    {f53 : Addr} {od53 an53 : Option Addr} {sl53 : Array (Option Value)} {oc53 kV53 dc53 pm53 cd53 ct53 : Value}
    (a53 : PySem.W.nsIn K mainGlobals "_law_held" = some (some (.ref f53))) (l53 : K.lookup f53 = some ⟨oc53, od53, .func (PySem.W.fnOf "_law_held" "_law_held" (defArgs s_l_held) (defBody s_l_held) (defScope s_l_held) .none kV53 dc53 pm53 an53 cd53 ct53), sl53⟩) (c53 : PySem.W.codeIn K cd53 "_law_held" = true) (k53 : PySem.W.keepIn K (.ref f53) = true)
    {f54 : Addr} {od54 an54 : Option Addr} {sl54 : Array (Option Value)} {oc54 kV54 dc54 pm54 cd54 ct54 : Value}
    (a54 : PySem.W.nsIn K mainGlobals "_law_requests" = some (some (.ref f54))) (l54 : K.lookup f54 = some ⟨oc54, od54, .func (PySem.W.fnOf "_law_requests" "_law_requests" (defArgs s_l_requests) (defBody s_l_requests) (defScope s_l_requests) .none kV54 dc54 pm54 an54 cd54 ct54), sl54⟩) (c54 : PySem.W.codeIn K cd54 "_law_requests" = true) (k54 : PySem.W.keepIn K (.ref f54) = true)
    {f55 : Addr} {od55 an55 : Option Addr} {sl55 : Array (Option Value)} {oc55 kV55 dc55 pm55 cd55 ct55 : Value}
    (a55 : PySem.W.nsIn K mainGlobals "_law_asked" = some (some (.ref f55))) (l55 : K.lookup f55 = some ⟨oc55, od55, .func (PySem.W.fnOf "_law_asked" "_law_asked" (defArgs s_l_asked) (defBody s_l_asked) (defScope s_l_asked) .none kV55 dc55 pm55 an55 cd55 ct55), sl55⟩) (c55 : PySem.W.codeIn K cd55 "_law_asked" = true) (k55 : PySem.W.keepIn K (.ref f55) = true)
    {f56 : Addr} {od56 an56 : Option Addr} {sl56 : Array (Option Value)} {oc56 kV56 dc56 pm56 cd56 ct56 : Value}
    (a56 : PySem.W.nsIn K mainGlobals "_law_history" = some (some (.ref f56))) (l56 : K.lookup f56 = some ⟨oc56, od56, .func (PySem.W.fnOf "_law_history" "_law_history" (defArgs s_l_history) (defBody s_l_history) (defScope s_l_history) .none kV56 dc56 pm56 an56 cd56 ct56), sl56⟩) (c56 : PySem.W.codeIn K cd56 "_law_history" = true) (k56 : PySem.W.keepIn K (.ref f56) = true)
    {f57 : Addr} {od57 an57 : Option Addr} {sl57 : Array (Option Value)} {oc57 kV57 dc57 pm57 cd57 ct57 : Value}
    (a57 : PySem.W.nsIn K mainGlobals "_law_values" = some (some (.ref f57))) (l57 : K.lookup f57 = some ⟨oc57, od57, .func (PySem.W.fnOf "_law_values" "_law_values" (defArgs s_l_values) (defBody s_l_values) (defScope s_l_values) .none kV57 dc57 pm57 an57 cd57 ct57), sl57⟩) (c57 : PySem.W.codeIn K cd57 "_law_values" = true) (k57 : PySem.W.keepIn K (.ref f57) = true)
    {f58 : Addr} {od58 an58 : Option Addr} {sl58 : Array (Option Value)} {oc58 kV58 dc58 pm58 cd58 ct58 : Value}
    (a58 : PySem.W.nsIn K mainGlobals "_law_shown" = some (some (.ref f58))) (l58 : K.lookup f58 = some ⟨oc58, od58, .func (PySem.W.fnOf "_law_shown" "_law_shown" (defArgs s_l_shown) (defBody s_l_shown) (defScope s_l_shown) .none kV58 dc58 pm58 an58 cd58 ct58), sl58⟩) (c58 : PySem.W.codeIn K cd58 "_law_shown" = true) (k58 : PySem.W.keepIn K (.ref f58) = true)
    {f59 : Addr} {od59 an59 : Option Addr} {sl59 : Array (Option Value)} {oc59 kV59 dc59 pm59 cd59 ct59 : Value}
    (a59 : PySem.W.nsIn K mainGlobals "law" = some (some (.ref f59))) (l59 : K.lookup f59 = some ⟨oc59, od59, .func (PySem.W.fnOf "law" "law" (defArgs s_law) (defBody s_law) (defScope s_law) .none kV59 dc59 pm59 an59 cd59 ct59), sl59⟩) (c59 : PySem.W.codeIn K cd59 "law" = true) (k59 : PySem.W.keepIn K (.ref f59) = true)
    {tk0 : Tok} (q0 : PySem.W.nsIn K mainGlobals "KEY_BOUND" = some (some (.int (KB) tk0)))
    {tk1 : Tok} (q1 : PySem.W.nsIn K mainGlobals "MOST_SIGNS" = some (some (.int (60) tk1)))
    (z0 : PySem.W.nsIn K mainGlobals "all" = some none)
    (z1 : PySem.W.nsIn K mainGlobals "dict" = some none)
    (z2 : PySem.W.nsIn K mainGlobals "enumerate" = some none)
    (z3 : PySem.W.nsIn K mainGlobals "int" = some none)
    (z4 : PySem.W.nsIn K mainGlobals "isinstance" = some none)
    (z5 : PySem.W.nsIn K mainGlobals "len" = some none)
    (z6 : PySem.W.nsIn K mainGlobals "list" = some none)
    (z7 : PySem.W.nsIn K mainGlobals "max" = some none)
    (z8 : PySem.W.nsIn K mainGlobals "range" = some none)
    (z9 : PySem.W.nsIn K mainGlobals "reversed" = some none)
    (z10 : PySem.W.nsIn K mainGlobals "sorted" = some none)
    (z11 : PySem.W.nsIn K mainGlobals "str" = some none)
    (z12 : PySem.W.nsIn K mainGlobals "tuple" = some none)
    (z13 : PySem.W.nsIn K mainGlobals "type" = some none)
    (z14 : PySem.W.nsIn K mainGlobals "zip" = some none)
    : ∃ fd : FuncData, (∀ (s : Shared) (v : Value), BindsTo s fd ⟨[v], []⟩ [("_law_script", v)]) ∧ ∀ base : Heap, K.In base → base.Ns mainGlobals mg → FnOk l.prog w K mg base CX0 10 fa fd ["_law_script"] (spLaw K) := by
  have e := hfa.symm.trans (PySem.W.mg_of X G a59)
  cases e
  have F0 := fun_mk (st := s_is_whole) l0 c0 k0
  have b0 := F0.binds (ps := ["thing"]) fun _ _ _ _ _ _ us hl => match us, hl with | [_], _ => rfl
  have F1 := fun_mk (st := s_is_key) l1 c1 k1
  have b1 := F1.binds (ps := ["thing"]) fun _ _ _ _ _ _ us hl => match us, hl with | [_], _ => rfl
  have F2 := fun_mk (st := s_is_value) l2 c2 k2
  have b2 := F2.binds (ps := ["thing"]) fun _ _ _ _ _ _ us hl => match us, hl with | [_], _ => rfl
  have F3 := fun_mk (st := s_is_number) l3 c3 k3
  have b3 := F3.binds (ps := ["thing"]) fun _ _ _ _ _ _ us hl => match us, hl with | [_], _ => rfl
  have F4 := fun_mk (st := s_half) l4 c4 k4
  have b4 := F4.binds (ps := ["width"]) fun _ _ _ _ _ _ us hl => match us, hl with | [_], _ => rfl
  have F5 := fun_mk (st := s_place) l5 c5 k5
  have b5 := F5.binds (ps := ["pairs", "key"]) fun _ _ _ _ _ _ us hl => match us, hl with | [_, _], _ => rfl
  have F6 := fun_mk (st := s_parts) l6 c6 k6
  have b6 := F6.binds (ps := ["pairs", "width"]) fun _ _ _ _ _ _ us hl => match us, hl with | [_, _], _ => rfl
  have F7 := fun_mk (st := s_is_two) l7 c7 k7
  have b7 := F7.binds (ps := ["thing"]) fun _ _ _ _ _ _ us hl => match us, hl with | [_], _ => rfl
  have F8 := fun_mk (st := s_is_pair) l8 c8 k8
  have b8 := F8.binds (ps := ["thing", "word"]) fun _ _ _ _ _ _ us hl => match us, hl with | [_, _], _ => rfl
  have F9 := fun_mk (st := s_rises) l9 c9 k9
  have b9 := F9.binds (ps := ["pairs"]) fun _ _ _ _ _ _ us hl => match us, hl with | [_], _ => rfl
  have F10 := fun_mk (st := s_is_block) l10 c10 k10
  have b10 := F10.binds (ps := ["thing", "least", "most"]) fun _ _ _ _ _ _ us hl => match us, hl with | [_, _, _], _ => rfl
  have F11 := fun_mk (st := s_lay) l11 c11 k11
  have b11 := F11.binds (ps := ["blocks", "number", "block"]) fun _ _ _ _ _ _ us hl => match us, hl with | [_, _, _], _ => rfl
  have F12 := fun_mk (st := s_redone) l12 c12 k12
  have b12 := F12.binds (ps := ["blocks", "log"]) fun _ _ _ _ _ _ us hl => match us, hl with | [_, _], _ => rfl
  have F13 := fun_mk (st := s_row_of) l13 c13 k13
  have b13 := F13.binds (ps := ["level"]) fun _ _ _ _ _ _ us hl => match us, hl with | [_], _ => rfl
  have F14 := fun_mk (st := s_named) l14 c14 k14
  have b14 := F14.binds (ps := ["blocks", "pairs"]) fun _ _ _ _ _ _ us hl => match us, hl with | [_, _], _ => rfl
  have F15 := fun_mk (st := s_all_are) l15 c15 k15
  have b15 := F15.binds (ps := ["word", "level"]) fun _ _ _ _ _ _ us hl => match us, hl with | [_, _], _ => rfl
  have F16 := fun_mk (st := s_is_root) l16 c16 k16
  have b16 := F16.binds (ps := ["thing", "width"]) fun _ _ _ _ _ _ us hl => match us, hl with | [_, _], _ => rfl
  have F17 := fun_mk (st := s_fits) l17 c17 k17
  have b17 := F17.binds (ps := ["thing", "width", "key"]) fun _ _ _ _ _ _ us hl => match us, hl with | [_, _, _], _ => rfl
  have F18 := fun_mk (st := s_sound) l18 c18 k18
  have b18 := F18.binds (ps := ["blocks", "width"]) fun _ _ _ _ _ _ us hl => match us, hl with | [_, _], _ => rfl
  have F19 := fun_mk (st := s_way) l19 c19 k19
  have b19 := F19.binds (ps := ["blocks", "key"]) fun _ _ _ _ _ _ us hl => match us, hl with | [_, _], _ => rfl
  have F20 := fun_mk (st := s_value_in) l20 c20 k20
  have b20 := F20.binds (ps := ["blocks", "key"]) fun _ _ _ _ _ _ us hl => match us, hl with | [_, _], _ => rfl
  have F21 := fun_mk (st := s_listed) l21 c21 k21
  have b21 := F21.binds (ps := ["blocks"]) fun _ _ _ _ _ _ us hl => match us, hl with | [_], _ => rfl
  have F22 := fun_mk (st := s_within) l22 c22 k22
  have b22 := F22.binds (ps := ["blocks", "low", "high"]) fun _ _ _ _ _ _ us hl => match us, hl with | [_, _, _], _ => rfl
  have F23 := fun_mk (st := s_Change_init) l23 c23 k23
  have b23 := F23.binds (ps := ["self", "blocks", "width"]) fun _ _ _ _ _ _ us hl => match us, hl with | [_, _, _], _ => rfl
  have F24 := fun_mk (st := s_Change_told) l24 c24 k24
  have b24 := F24.binds (ps := ["self"]) fun _ _ _ _ _ _ us hl => match us, hl with | [_], _ => rfl
  have F25 := fun_mk (st := s_Change_hold) l25 c25 k25
  have b25 := F25.binds (ps := ["self", "key", "held"]) fun _ _ _ _ _ _ us hl => match us, hl with | [_, _, _], _ => rfl
  have F26 := fun_mk (st := s_Change_fill_below) l26 c26 k26
  have b26 := F26.binds (ps := ["self", "above", "key", "word", "row"]) fun _ _ _ _ _ _ us hl => match us, hl with | [_, _, _, _, _], _ => rfl
  have F27 := fun_mk (st := s_Change_fill) l27 c27 k27
  have b27 := F27.binds (ps := ["self", "word", "row", "numbers"]) fun _ _ _ _ _ _ us hl => match us, hl with | [_, _, _, _], _ => rfl
  have F28 := fun_mk (st := s_Change_fill_root) l28 c28 k28
  have b28 := F28.binds (ps := ["self", "word", "row"]) fun _ _ _ _ _ _ us hl => match us, hl with | [_, _, _], _ => rfl
  have F29 := fun_mk (st := s_Change_new_number) l29 c29 k29
  have b29 := F29.binds (ps := ["self"]) fun _ _ _ _ _ _ us hl => match us, hl with | [_], _ => rfl
  have F30 := fun_mk (st := s_put_in) l30 c30 k30
  have b30 := F30.binds (ps := ["blocks", "width", "key", "value"]) fun _ _ _ _ _ _ us hl => match us, hl with | [_, _, _, _], _ => rfl
  have F31 := fun_mk (st := s_drop_from) l31 c31 k31
  have b31 := F31.binds (ps := ["blocks", "width", "key"]) fun _ _ _ _ _ _ us hl => match us, hl with | [_, _, _], _ => rfl
  have F32 := fun_mk (st := s_check_width) l32 c32 k32
  have b32 := F32.binds (ps := ["width"]) fun _ _ _ _ _ _ us hl => match us, hl with | [_], _ => rfl
  have F33 := fun_mk (st := s_check_room) l33 c33 k33
  have b33 := F33.binds (ps := ["room"]) fun _ _ _ _ _ _ us hl => match us, hl with | [_], _ => rfl
  have F34 := fun_mk (st := s_check_key) l34 c34 k34
  have b34 := F34.binds (ps := ["key"]) fun _ _ _ _ _ _ us hl => match us, hl with | [_], _ => rfl
  have F35 := fun_mk (st := s_check_value) l35 c35 k35
  have b35 := F35.binds (ps := ["value"]) fun _ _ _ _ _ _ us hl => match us, hl with | [_], _ => rfl
  have F36 := fun_mk (st := s_rooted) l36 c36 k36
  have b36 := F36.binds (ps := ["blocks"]) fun _ _ _ _ _ _ us hl => match us, hl with | [_], _ => rfl
  have F37 := fun_mk (st := s_Store_init) l37 c37 k37
  have b37 := F37.binds (ps := ["self", "width", "room", "blocks", "log"]) fun _ _ _ _ _ _ us hl => match us, hl with | [_, _, _, _, _], _ => rfl
  have F38 := fun_mk (st := s_Store_put) l38 c38 k38
  have b38 := F38.binds (ps := ["self", "key", "value"]) fun _ _ _ _ _ _ us hl => match us, hl with | [_, _, _], _ => rfl
  have F39 := fun_mk (st := s_Store_drop) l39 c39 k39
  have b39 := F39.binds (ps := ["self", "key"]) fun _ _ _ _ _ _ us hl => match us, hl with | [_, _], _ => rfl
  have F40 := fun_mk (st := s_Store_settle) l40 c40 k40
  have b40 := F40.binds (ps := ["self", "many"]) fun _ _ _ _ _ _ us hl => match us, hl with | [_, _], _ => rfl
  have F41 := fun_mk (st := s_Store_value_at) l41 c41 k41
  have b41 := F41.binds (ps := ["self", "key"]) fun _ _ _ _ _ _ us hl => match us, hl with | [_, _], _ => rfl
  have F42 := fun_mk (st := s_Store_pairs) l42 c42 k42
  have b42 := F42.binds (ps := ["self"]) fun _ _ _ _ _ _ us hl => match us, hl with | [_], _ => rfl
  have F43 := fun_mk (st := s_Store_between) l43 c43 k43
  have b43 := F43.binds (ps := ["self", "low", "high"]) fun _ _ _ _ _ _ us hl => match us, hl with | [_, _, _], _ => rfl
  have F44 := fun_mk (st := s_Store_request) l44 c44 k44
  have b44 := F44.binds (ps := ["self", "changes"]) fun _ _ _ _ _ _ us hl => match us, hl with | [_, _], _ => rfl
  have F45 := fun_mk (st := s_Store_log) l45 c45 k45
  have b45 := F45.binds (ps := ["self", "entry"]) fun _ _ _ _ _ _ us hl => match us, hl with | [_, _], _ => rfl
  have F46 := fun_mk (st := s_Store_settle_wholly) l46 c46 k46
  have b46 := F46.binds (ps := ["self"]) fun _ _ _ _ _ _ us hl => match us, hl with | [_], _ => rfl
  have F47 := fun_mk (st := s_opened) l47 c47 k47
  have b47 := F47.binds (ps := ["width", "room"]) fun _ _ _ _ _ _ us hl => match us, hl with | [_, _], _ => rfl
  have F48 := fun_mk (st := s_l_cell_at) l48 c48 k48
  have b48 := F48.binds (ps := ["_law_script", "_law_k"]) fun _ _ _ _ _ _ us hl => match us, hl with | [_, _], _ => rfl
  have F49 := fun_mk (st := s_l_width_by) l49 c49 k49
  have b49 := F49.binds (ps := ["_law_cell"]) fun _ _ _ _ _ _ us hl => match us, hl with | [_], _ => rfl
  have F50 := fun_mk (st := s_l_room_by) l50 c50 k50
  have b50 := F50.binds (ps := ["_law_cell"]) fun _ _ _ _ _ _ us hl => match us, hl with | [_], _ => rfl
  have F51 := fun_mk (st := s_l_key_by) l51 c51 k51
  have b51 := F51.binds (ps := ["_law_cell"]) fun _ _ _ _ _ _ us hl => match us, hl with | [_], _ => rfl
  have F52 := fun_mk (st := s_l_value_by) l52 c52 k52
  have b52 := F52.binds (ps := ["_law_cell"]) fun _ _ _ _ _ _ us hl => match us, hl with | [_], _ => rfl
  have F53 := fun_mk (st := s_l_held) l53 c53 k53
  have b53 := F53.binds (ps := ["_law_row", "_law_key", "_law_value"]) fun _ _ _ _ _ _ us hl => match us, hl with | [_, _, _], _ => rfl
  have F54 := fun_mk (st := s_l_requests) l54 c54 k54
  have b54 := F54.binds (ps := ["_law_cell", "_law_row", "_law_most"]) fun _ _ _ _ _ _ us hl => match us, hl with | [_, _, _], _ => rfl
  have F55 := fun_mk (st := s_l_asked) l55 c55 k55
  have b55 := F55.binds (ps := ["_law_store", "_law_row", "_law_key", "_law_value"]) fun _ _ _ _ _ _ us hl => match us, hl with | [_, _, _, _], _ => rfl
  have F56 := fun_mk (st := s_l_history) l56 c56 k56
  have b56 := F56.binds (ps := ["_law_store", "_law_row", "_law_cells", "_law_most"]) fun _ _ _ _ _ _ us hl => match us, hl with | [_, _, _, _], _ => rfl
  have F57 := fun_mk (st := s_l_values) l57 c57 k57
  have b57 := F57.binds (ps := ["_law_store", "_law_row", "_law_key"]) fun _ _ _ _ _ _ us hl => match us, hl with | [_, _, _], _ => rfl
  have F58 := fun_mk (st := s_l_shown) l58 c58 k58
  have b58 := F58.binds (ps := ["_law_store", "_law_row", "_law_keys"]) fun _ _ _ _ _ _ us hl => match us, hl with | [_, _, _], _ => rfl
  have F59 := fun_mk (st := s_law) l59 c59 k59
  have T : Tx K mg := ⟨C_Change, ⟨pg_Change, hd_Change, po_Change, sa_Change⟩, PySem.W.mg_of X G aC_Change, n_Change__after, n_Change__blocks, n_Change__newest, n_Change__width, C_Store, ⟨pg_Store, hd_Store, po_Store, sa_Store⟩, PySem.W.mg_of X G aC_Store, n_Store__blocks, n_Store__logged, n_Store__room, n_Store__waiting, n_Store__width, n_Store_deeds, E_NotThere, PySem.W.mg_of X G eg_NotThere, ex_NotThere, ek_NotThere, eb_NotThere, et_NotThere, MyD.met_own eb_NotThere ei_NotThere et_NotThere es_NotThere, f0, _, F0, b0, PySem.W.mg_of X G a0, f1, _, F1, b1, PySem.W.mg_of X G a1, f2, _, F2, b2, PySem.W.mg_of X G a2, f3, _, F3, b3, PySem.W.mg_of X G a3, f4, _, F4, b4, PySem.W.mg_of X G a4, f5, _, F5, b5, PySem.W.mg_of X G a5, f6, _, F6, b6, PySem.W.mg_of X G a6, f7, _, F7, b7, PySem.W.mg_of X G a7, f8, _, F8, b8, PySem.W.mg_of X G a8, f9, _, F9, b9, PySem.W.mg_of X G a9, f10, _, F10, b10, PySem.W.mg_of X G a10, f11, _, F11, b11, PySem.W.mg_of X G a11, f12, _, F12, b12, PySem.W.mg_of X G a12, f13, _, F13, b13, PySem.W.mg_of X G a13, f14, _, F14, b14, PySem.W.mg_of X G a14, f15, _, F15, b15, PySem.W.mg_of X G a15, f16, _, F16, b16, PySem.W.mg_of X G a16, f17, _, F17, b17, PySem.W.mg_of X G a17, f18, _, F18, b18, PySem.W.mg_of X G a18, f19, _, F19, b19, PySem.W.mg_of X G a19, f20, _, F20, b20, PySem.W.mg_of X G a20, f21, _, F21, b21, PySem.W.mg_of X G a21, f22, _, F22, b22, PySem.W.mg_of X G a22, f23, _, F23, b23, ⟨mk_Change, a23, i23, kc_Change⟩, f24, _, F24, b24, ⟨a24, i24, k24⟩, f25, _, F25, b25, ⟨a25, i25, k25⟩, f26, _, F26, b26, ⟨a26, i26, k26⟩, f27, _, F27, b27, ⟨a27, i27, k27⟩, f28, _, F28, b28, ⟨a28, i28, k28⟩, f29, _, F29, b29, ⟨a29, i29, k29⟩, f30, _, F30, b30, PySem.W.mg_of X G a30, f31, _, F31, b31, PySem.W.mg_of X G a31, f32, _, F32, b32, PySem.W.mg_of X G a32, f33, _, F33, b33, PySem.W.mg_of X G a33, f34, _, F34, b34, PySem.W.mg_of X G a34, f35, _, F35, b35, PySem.W.mg_of X G a35, f36, _, F36, b36, PySem.W.mg_of X G a36, f37, _, F37, b37, ⟨mk_Store, a37, i37, kc_Store⟩, f38, _, F38, b38, ⟨a38, i38, k38⟩, f39, _, F39, b39, ⟨a39, i39, k39⟩, f40, _, F40, b40, ⟨a40, i40, k40⟩, f41, _, F41, b41, ⟨a41, i41, k41⟩, f42, _, F42, b42, ⟨a42, i42, k42⟩, f43, _, F43, b43, ⟨a43, i43, k43⟩, f44, _, F44, b44, ⟨a44, i44, k44⟩, f45, _, F45, b45, ⟨a45, i45, k45⟩, f46, _, F46, b46, ⟨a46, i46, k46⟩, f47, _, F47, b47, PySem.W.mg_of X G a47, f48, _, F48, b48, PySem.W.mg_of X G a48, f49, _, F49, b49, PySem.W.mg_of X G a49, f50, _, F50, b50, PySem.W.mg_of X G a50, f51, _, F51, b51, PySem.W.mg_of X G a51, f52, _, F52, b52, PySem.W.mg_of X G a52, f53, _, F53, b53, PySem.W.mg_of X G a53, f54, _, F54, b54, PySem.W.mg_of X G a54, f55, _, F55, b55, PySem.W.mg_of X G a55, f56, _, F56, b56, PySem.W.mg_of X G a56, f57, _, F57, b57, PySem.W.mg_of X G a57, f58, _, F58, b58, PySem.W.mg_of X G a58, _, PySem.W.mg_of X G q0, _, PySem.W.mg_of X G q1, PySem.W.mg_none_of X G z0, PySem.W.mg_none_of X G z1, PySem.W.mg_none_of X G z2, PySem.W.mg_none_of X G z3, PySem.W.mg_none_of X G z4, PySem.W.mg_none_of X G z5, PySem.W.mg_none_of X G z6, PySem.W.mg_none_of X G z7, PySem.W.mg_none_of X G z8, PySem.W.mg_none_of X G z9, PySem.W.mg_none_of X G z10, PySem.W.mg_none_of X G z11, PySem.W.mg_none_of X G z12, PySem.W.mg_none_of X G z13, PySem.W.mg_none_of X G z14⟩
  exact ⟨_, fun s v => .of_eq rfl, fun base _ _ => ok_law F59 T⟩
end
end My
open PySem PySem.W PyProof.Rows
set_option maxRecDepth 100000 in
set_option maxHeartbeats 0 in
theorem PySem.Challenge.cw_btreelog_k09_requests_by_a_row_holds : PySem.Challenge.rw_btreelog_k09_requests_by_a_row.Holds := by
  w_on; o_law; k_head; (case hw => w_witness2)
  k_fill
  refine L2.walk_ofB (l := PySem.Challenge.rw_btreelog_k09_requests_by_a_row) (n := 63) (k := 10) (x := "_law_script") (CX := fun _ => L2.CX0) (sp := fun w => My.spLaw _) rfl (by decide) rfl ⟨rfl, by decide, by decide⟩ (fun w h Y => PySem.W.kIn_of Y) ?F (fun _ _ a ns hl hb _ hS => ⟨a, ns, rfl, hS, hl, hb, fun _ => rfl⟩) (fun _ _ _ _ _ h => h)
  case F =>
    intro w mg fa h KX G hmg
    refine' My.all_mk KX G hmg ?aC_Change ?pg_Change ?hd_Change ?po_Change ?sa_Change ?mk_Change ?kc_Change ?n_Change__after ?n_Change__blocks ?n_Change__newest ?n_Change__width ?aC_Store ?pg_Store ?hd_Store ?po_Store ?sa_Store ?mk_Store ?kc_Store ?n_Store__blocks ?n_Store__logged ?n_Store__room ?n_Store__waiting ?n_Store__width ?n_Store_deeds ?eg_NotThere ?ex_NotThere ?ek_NotThere ?eb_NotThere ?et_NotThere ?ei_NotThere ?es_NotThere ?a0 ?l0 ?c0 ?k0 ?a1 ?l1 ?c1 ?k1 ?a2 ?l2 ?c2 ?k2 ?a3 ?l3 ?c3 ?k3 ?a4 ?l4 ?c4 ?k4 ?a5 ?l5 ?c5 ?k5 ?a6 ?l6 ?c6 ?k6 ?a7 ?l7 ?c7 ?k7 ?a8 ?l8 ?c8 ?k8 ?a9 ?l9 ?c9 ?k9 ?a10 ?l10 ?c10 ?k10 ?a11 ?l11 ?c11 ?k11 ?a12 ?l12 ?c12 ?k12 ?a13 ?l13 ?c13 ?k13 ?a14 ?l14 ?c14 ?k14 ?a15 ?l15 ?c15 ?k15 ?a16 ?l16 ?c16 ?k16 ?a17 ?l17 ?c17 ?k17 ?a18 ?l18 ?c18 ?k18 ?a19 ?l19 ?c19 ?k19 ?a20 ?l20 ?c20 ?k20 ?a21 ?l21 ?c21 ?k21 ?a22 ?l22 ?c22 ?k22 ?a23 ?i23 ?l23 ?c23 ?k23 ?a24 ?i24 ?l24 ?c24 ?k24 ?a25 ?i25 ?l25 ?c25 ?k25 ?a26 ?i26 ?l26 ?c26 ?k26 ?a27 ?i27 ?l27 ?c27 ?k27 ?a28 ?i28 ?l28 ?c28 ?k28 ?a29 ?i29 ?l29 ?c29 ?k29 ?a30 ?l30 ?c30 ?k30 ?a31 ?l31 ?c31 ?k31 ?a32 ?l32 ?c32 ?k32 ?a33 ?l33 ?c33 ?k33 ?a34 ?l34 ?c34 ?k34 ?a35 ?l35 ?c35 ?k35 ?a36 ?l36 ?c36 ?k36 ?a37 ?i37 ?l37 ?c37 ?k37 ?a38 ?i38 ?l38 ?c38 ?k38 ?a39 ?i39 ?l39 ?c39 ?k39 ?a40 ?i40 ?l40 ?c40 ?k40 ?a41 ?i41 ?l41 ?c41 ?k41 ?a42 ?i42 ?l42 ?c42 ?k42 ?a43 ?i43 ?l43 ?c43 ?k43 ?a44 ?i44 ?l44 ?c44 ?k44 ?a45 ?i45 ?l45 ?c45 ?k45 ?a46 ?i46 ?l46 ?c46 ?k46 ?a47 ?l47 ?c47 ?k47 ?a48 ?l48 ?c48 ?k48 ?a49 ?l49 ?c49 ?k49 ?a50 ?l50 ?c50 ?k50 ?a51 ?l51 ?c51 ?k51 ?a52 ?l52 ?c52 ?k52 ?a53 ?l53 ?c53 ?k53 ?a54 ?l54 ?c54 ?k54 ?a55 ?l55 ?c55 ?k55 ?a56 ?l56 ?c56 ?k56 ?a57 ?l57 ?c57 ?k57 ?a58 ?l58 ?c58 ?k58 ?a59 ?l59 ?c59 ?k59 ?q0 ?q1 ?z0 ?z1 ?z2 ?z3 ?z4 ?z5 ?z6 ?z7 ?z8 ?z9 ?z10 ?z11 ?z12 ?z13 ?z14
    (case aC_Change => k_is)
    (case pg_Change => k_is)
    (case hd_Change => k_is)
    (case po_Change => k_is)
    (case sa_Change => k_is)
    (case mk_Change => k_is)
    (case kc_Change => k_is)
    (case n_Change__after => k_is)
    (case n_Change__blocks => k_is)
    (case n_Change__newest => k_is)
    (case n_Change__width => k_is)
    (case aC_Store => k_is)
    (case pg_Store => k_is)
    (case hd_Store => k_is)
    (case po_Store => k_is)
    (case sa_Store => k_is)
    (case mk_Store => k_is)
    (case kc_Store => k_is)
    (case n_Store__blocks => k_is)
    (case n_Store__logged => k_is)
    (case n_Store__room => k_is)
    (case n_Store__waiting => k_is)
    (case n_Store__width => k_is)
    (case n_Store_deeds => k_is)
    (case eg_NotThere => k_is)
    (case ex_NotThere => k_exc)
    (case ek_NotThere => k_is)
    (case eb_NotThere => k_is)
    (case et_NotThere => k_is)
    (case ei_NotThere => k_is)
    (case es_NotThere => first | rfl | k_is)
    (case a0 => k_is)
    (case l0 => k_is)
    (case c0 => k_is)
    (case k0 => k_is)
    (case a1 => k_is)
    (case l1 => k_is)
    (case c1 => k_is)
    (case k1 => k_is)
    (case a2 => k_is)
    (case l2 => k_is)
    (case c2 => k_is)
    (case k2 => k_is)
    (case a3 => k_is)
    (case l3 => k_is)
    (case c3 => k_is)
    (case k3 => k_is)
    (case a4 => k_is)
    (case l4 => k_is)
    (case c4 => k_is)
    (case k4 => k_is)
    (case a5 => k_is)
    (case l5 => k_is)
    (case c5 => k_is)
    (case k5 => k_is)
    (case a6 => k_is)
    (case l6 => k_is)
    (case c6 => k_is)
    (case k6 => k_is)
    (case a7 => k_is)
    (case l7 => k_is)
    (case c7 => k_is)
    (case k7 => k_is)
    (case a8 => k_is)
    (case l8 => k_is)
    (case c8 => k_is)
    (case k8 => k_is)
    (case a9 => k_is)
    (case l9 => k_is)
    (case c9 => k_is)
    (case k9 => k_is)
    (case a10 => k_is)
    (case l10 => k_is)
    (case c10 => k_is)
    (case k10 => k_is)
    (case a11 => k_is)
    (case l11 => k_is)
    (case c11 => k_is)
    (case k11 => k_is)
    (case a12 => k_is)
    (case l12 => k_is)
    (case c12 => k_is)
    (case k12 => k_is)
    (case a13 => k_is)
    (case l13 => k_is)
    (case c13 => k_is)
    (case k13 => k_is)
    (case a14 => k_is)
    (case l14 => k_is)
    (case c14 => k_is)
    (case k14 => k_is)
    (case a15 => k_is)
    (case l15 => k_is)
    (case c15 => k_is)
    (case k15 => k_is)
    (case a16 => k_is)
    (case l16 => k_is)
    (case c16 => k_is)
    (case k16 => k_is)
    (case a17 => k_is)
    (case l17 => k_is)
    (case c17 => k_is)
    (case k17 => k_is)
    (case a18 => k_is)
    (case l18 => k_is)
    (case c18 => k_is)
    (case k18 => k_is)
    (case a19 => k_is)
    (case l19 => k_is)
    (case c19 => k_is)
    (case k19 => k_is)
    (case a20 => k_is)
    (case l20 => k_is)
    (case c20 => k_is)
    (case k20 => k_is)
    (case a21 => k_is)
    (case l21 => k_is)
    (case c21 => k_is)
    (case k21 => k_is)
    (case a22 => k_is)
    (case l22 => k_is)
    (case c22 => k_is)
    (case k22 => k_is)
    (case a23 => k_is)
    (case i23 => k_is)
    (case l23 => k_is)
    (case c23 => k_is)
    (case k23 => k_is)
    (case a24 => k_is)
    (case i24 => k_is)
    (case l24 => k_is)
    (case c24 => k_is)
    (case k24 => k_is)
    (case a25 => k_is)
    (case i25 => k_is)
    (case l25 => k_is)
    (case c25 => k_is)
    (case k25 => k_is)
    (case a26 => k_is)
    (case i26 => k_is)
    (case l26 => k_is)
    (case c26 => k_is)
    (case k26 => k_is)
    (case a27 => k_is)
    (case i27 => k_is)
    (case l27 => k_is)
    (case c27 => k_is)
    (case k27 => k_is)
    (case a28 => k_is)
    (case i28 => k_is)
    (case l28 => k_is)
    (case c28 => k_is)
    (case k28 => k_is)
    (case a29 => k_is)
    (case i29 => k_is)
    (case l29 => k_is)
    (case c29 => k_is)
    (case k29 => k_is)
    (case a30 => k_is)
    (case l30 => k_is)
    (case c30 => k_is)
    (case k30 => k_is)
    (case a31 => k_is)
    (case l31 => k_is)
    (case c31 => k_is)
    (case k31 => k_is)
    (case a32 => k_is)
    (case l32 => k_is)
    (case c32 => k_is)
    (case k32 => k_is)
    (case a33 => k_is)
    (case l33 => k_is)
    (case c33 => k_is)
    (case k33 => k_is)
    (case a34 => k_is)
    (case l34 => k_is)
    (case c34 => k_is)
    (case k34 => k_is)
    (case a35 => k_is)
    (case l35 => k_is)
    (case c35 => k_is)
    (case k35 => k_is)
    (case a36 => k_is)
    (case l36 => k_is)
    (case c36 => k_is)
    (case k36 => k_is)
    (case a37 => k_is)
    (case i37 => k_is)
    (case l37 => k_is)
    (case c37 => k_is)
    (case k37 => k_is)
    (case a38 => k_is)
    (case i38 => k_is)
    (case l38 => k_is)
    (case c38 => k_is)
    (case k38 => k_is)
    (case a39 => k_is)
    (case i39 => k_is)
    (case l39 => k_is)
    (case c39 => k_is)
    (case k39 => k_is)
    (case a40 => k_is)
    (case i40 => k_is)
    (case l40 => k_is)
    (case c40 => k_is)
    (case k40 => k_is)
    (case a41 => k_is)
    (case i41 => k_is)
    (case l41 => k_is)
    (case c41 => k_is)
    (case k41 => k_is)
    (case a42 => k_is)
    (case i42 => k_is)
    (case l42 => k_is)
    (case c42 => k_is)
    (case k42 => k_is)
    (case a43 => k_is)
    (case i43 => k_is)
    (case l43 => k_is)
    (case c43 => k_is)
    (case k43 => k_is)
    (case a44 => k_is)
    (case i44 => k_is)
    (case l44 => k_is)
    (case c44 => k_is)
    (case k44 => k_is)
    (case a45 => k_is)
    (case i45 => k_is)
    (case l45 => k_is)
    (case c45 => k_is)
    (case k45 => k_is)
    (case a46 => k_is)
    (case i46 => k_is)
    (case l46 => k_is)
    (case c46 => k_is)
    (case k46 => k_is)
    (case a47 => k_is)
    (case l47 => k_is)
    (case c47 => k_is)
    (case k47 => k_is)
    (case a48 => k_is)
    (case l48 => k_is)
    (case c48 => k_is)
    (case k48 => k_is)
    (case a49 => k_is)
    (case l49 => k_is)
    (case c49 => k_is)
    (case k49 => k_is)
    (case a50 => k_is)
    (case l50 => k_is)
    (case c50 => k_is)
    (case k50 => k_is)
    (case a51 => k_is)
    (case l51 => k_is)
    (case c51 => k_is)
    (case k51 => k_is)
    (case a52 => k_is)
    (case l52 => k_is)
    (case c52 => k_is)
    (case k52 => k_is)
    (case a53 => k_is)
    (case l53 => k_is)
    (case c53 => k_is)
    (case k53 => k_is)
    (case a54 => k_is)
    (case l54 => k_is)
    (case c54 => k_is)
    (case k54 => k_is)
    (case a55 => k_is)
    (case l55 => k_is)
    (case c55 => k_is)
    (case k55 => k_is)
    (case a56 => k_is)
    (case l56 => k_is)
    (case c56 => k_is)
    (case k56 => k_is)
    (case a57 => k_is)
    (case l57 => k_is)
    (case c57 => k_is)
    (case k57 => k_is)
    (case a58 => k_is)
    (case l58 => k_is)
    (case c58 => k_is)
    (case k58 => k_is)
    (case a59 => k_is)
    (case l59 => k_is)
    (case c59 => k_is)
    (case k59 => k_is)
    (case q0 => k_is)
    (case q1 => k_is)
    (case z0 => k_is)
    (case z1 => k_is)
    (case z2 => k_is)
    (case z3 => k_is)
    (case z4 => k_is)
    (case z5 => k_is)
    (case z6 => k_is)
    (case z7 => k_is)
    (case z8 => k_is)
    (case z9 => k_is)
    (case z10 => k_is)
    (case z11 => k_is)
    (case z12 => k_is)
    (case z13 => k_is)
    (case z14 => k_is)
