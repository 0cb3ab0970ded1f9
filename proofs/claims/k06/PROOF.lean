import PyProof.Rows.All
import Wide.All
import OpenK.AllK
import Wide.FinOn
import HandS.ForMost
import HandS.More
import HandS.IsInst
import HandS.RevRange
import HandS.Style
import HandS.EndBits
import HandS.Evl
import HandS.Walk
import Flt.Len
import HandS.DictComp
import HandS.DictEq
import HandS.SortInts
import KE.KEqDict
import PyProof.StrOps2
import PySem.Challenge.RW_btreelog_k06_groups_redone
set_option Elab.async false
set_option linter.all false
set_option maxRecDepth 100000
set_option maxHeartbeats 1000000
namespace My
open PySem L2
/-! ### facts carried from heap to heap -/
theorem Same.at {H H' : Hp} {a : Addr} {o : HO} (e : Same H H') (h : H a = some o) : H' a = some o := e a o h
theorem Same.seqT {K : PySem.W.Frag} {H H' : Hp} {a : Addr} {xs : List V} (e : Same H H') (h : SqT K H a xs) : SqT K H' a xs := Evl.ex_t e h
theorem Same.new {H : Hp} {p : Addr} (h : H p = none) (o : HO) : Same H (upd H p o) := Evl.Ex.new h
theorem seq_l {K : PySem.W.Frag} {H : Hp} {a : Addr} {xs : List V} (h : SqL K H a xs) : SqL K H a xs ∨ SqT K H a xs := .inl h
theorem seq_t {K : PySem.W.Frag} {H : Hp} {a : Addr} {xs : List V} (h : SqT K H a xs) : SqL K H a xs ∨ SqT K H a xs := .inr h
theorem Same.seqO {K : PySem.W.Frag} {H H' : Hp} {a : Addr} {xs : List V} (e : Same H H') (h : SqL K H a xs ∨ SqT K H a xs) : SqL K H' a xs ∨ SqT K H' a xs :=
  h.elim (fun h => .inl (e.seq h)) fun h => .inr (Same.seqT e h)
mutual
theorem Dp.go {K : PySem.W.Frag} {H H' : Hp} (e : Same H H') : ∀ {v : V} {d : PyData}, Dp K H v d → Dp K H' v d
  | _, _, .non => .non
  | _, _, .bl b => .bl b
  | _, _, .int i => .int i
  | _, _, .str x => .str x
  | _, _, .lst h r => .lst (e.seq h) (DpAll.go e r)
  | _, _, .tup h r => .tup (Same.seqT e h) (DpAll.go e r)
theorem DpAll.go {K : PySem.W.Frag} {H H' : Hp} (e : Same H H') : ∀ {vs : List V} {ds : List PyData}, DpAll K H vs ds → DpAll K H' vs ds
  | _, _, .nil => .nil
  | _, _, .cons h r => .cons (Dp.go e h) (DpAll.go e r)
end
/-! ### readings, a step at a time -/
section
variable {K : PySem.W.Frag} {σ : L2.St} {H : Hp} {Q : VK} {ta tb tc te : TE} {v x y z : V} {D : Ends} {t u : TS} {tt tu : TT} {r r' : R2} {tr : TA} {QA : List V → Hp → Prop} {QB : Bool → Hp → Prop}
theorem g_var {i : Nat} (h : σ[i]? = some (some v)) (q : Q v H) : tVar i σ H Q := ⟨v, h, q⟩
theorem g_c (q : Q v H) : tC v σ H Q := q
theorem g_op (q : ta σ H fun x H1 => tb σ H1 fun y H2 => r x y H2 Q) : tOp r ta tb σ H Q := q
theorem g_un {f : V → Hp → VK → Prop} (q : ta σ H fun x H1 => f x H1 Q) : tUn f ta σ H Q := q
theorem g_rI0 {g : Int → Int → V} {i j : Int} (q : Q (g i j) H) : rI0 g (.int i) (.int j) H Q := ⟨i, j, rfl, rfl, q⟩
theorem g_rI {C : Int → Int → Prop} {g : Int → Int → V} {i j : Int} (c : C i j) (q : Q (g i j) H) : rI C g (.int i) (.int j) H Q := ⟨i, j, rfl, rfl, c, q⟩
theorem g_rU {g : Int → V} {i : Int} (q : Q (g i) H) : rU g (.int i) H Q := ⟨i, rfl, q⟩
theorem g_rEq (s : scal x y = true) (q : Q (.bl (decide (x = y))) H) : rEq x y H Q := ⟨s, q⟩
theorem g_rNe (s : scal x y = true) (q : Q (.bl (!decide (x = y))) H) : rNe x y H Q := ⟨s, q⟩
/-- what a test waits for -/
def isB (QB : Bool → Hp → Prop) : VK := fun x H => ∃ k, x = .bl k ∧ QB k H
theorem g_isB {k : Bool} (q : QB k H) : isB QB (.bl k) H := ⟨k, rfl, q⟩
theorem g_test (q : ta σ H (isB QB)) : tTest ta σ H QB := q
theorem g_tB (q : ta σ H (isB QB)) : tB ta σ H QB := q
def chK (r' : R2) (tc : TE) (y : V) (σ : L2.St) (Q : VK) : Bool → Hp → Prop := fun k H => if k = true then tc σ H fun w H4 => r' y w H4 Q else Q (.bl false) H
theorem g_chain (q : ta σ H fun x H1 => tb σ H1 fun y H2 => r x y H2 (isB (chK r' tc y σ Q))) : tChain r r' ta tb tc σ H Q := q
theorem g_chK {k : Bool} (h1 : k = true → tc σ H fun w H4 => r' y w H4 Q) (h2 : k = false → Q (.bl false) H) : chK r' tc y σ Q k H := by
  cases k
  · exact h2 rfl
  · exact h1 rfl
def andK (u : TT) (σ : L2.St) (Q : Bool → Hp → Prop) : Bool → Hp → Prop := fun c H => if c = true then u σ H Q else Q false H
def orK (u : TT) (σ : L2.St) (Q : Bool → Hp → Prop) : Bool → Hp → Prop := fun c H => if c = true then Q true H else u σ H Q
def notK (Q : Bool → Hp → Prop) : Bool → Hp → Prop := fun c H => Q (!c) H
theorem g_and (q : tt σ H (andK tu σ QB)) : tAnd tt tu σ H QB := q
theorem g_or (q : tt σ H (orK tu σ QB)) : tOr tt tu σ H QB := q
theorem g_not (q : tt σ H (notK QB)) : tNot tt σ H QB := q
theorem g_notK {k : Bool} (q : QB (!k) H) : notK QB k H := q
theorem g_andK {k : Bool} (h1 : k = true → tu σ H QB) (h2 : k = false → QB false H) : andK tu σ QB k H := by
  cases k
  · exact h2 rfl
  · exact h1 rfl
theorem g_orK {k : Bool} (h1 : k = true → QB true H) (h2 : k = false → tu σ H QB) : orK tu σ QB k H := by
  cases k
  · exact h2 rfl
  · exact h1 rfl
/-- .. as values -/
def andV (tb : TE) (σ : L2.St) (Q : VK) : VK := fun x H => ∃ c, x = .bl c ∧ if c = true then tb σ H Q else Q (.bl false) H
def orV (tb : TE) (σ : L2.St) (Q : VK) : VK := fun x H => ∃ c, x = .bl c ∧ if c = true then Q (.bl true) H else tb σ H Q
def notV (Q : VK) : VK := fun x H => ∃ c, x = .bl c ∧ Q (.bl (!c)) H
theorem g_andT (q : ta σ H (andV tb σ Q)) : tAndV ta tb σ H Q := q
theorem g_orT (q : ta σ H (orV tb σ Q)) : tOrV ta tb σ H Q := q
theorem g_notT (q : ta σ H (notV Q)) : tNotV ta σ H Q := q
theorem g_andV {k : Bool} (h1 : k = true → tb σ H Q) (h2 : k = false → Q (.bl false) H) : andV tb σ Q (.bl k) H := ⟨k, rfl, by
  cases k
  · exact h2 rfl
  · exact h1 rfl⟩
theorem g_orV {k : Bool} (h1 : k = true → Q (.bl true) H) (h2 : k = false → tb σ H Q) : orV tb σ Q (.bl k) H := ⟨k, rfl, by
  cases k
  · exact h2 rfl
  · exact h1 rfl⟩
theorem g_notV {k : Bool} (q : Q (.bl (!k)) H) : notV Q (.bl k) H := ⟨k, rfl, q⟩
def ifV (ta tb : TE) (σ : L2.St) (Q : VK) : Bool → Hp → Prop := fun c H => if c = true then ta σ H Q else tb σ H Q
theorem g_ifE (q : tt σ H (ifV ta tb σ Q)) : tIf tt ta tb σ H Q := q
theorem g_ifV {k : Bool} (h1 : k = true → ta σ H Q) (h2 : k = false → tb σ H Q) : ifV ta tb σ Q k H := by
  cases k
  · exact h2 rfl
  · exact h1 rfl
/-! tuples, lists, arguments, calls -/
theorem g_nil (q : QA [] H) : tNil σ H QA := q
theorem g_cons (q : ta σ H fun x H1 => tr σ H1 fun xs H2 => QA (x :: xs) H2) : tCons ta tr σ H QA := q
def tupK (Q : VK) : List V → Hp → Prop := fun xs H => xs.length ≤ sizeLine ∧ ∀ p, H p = none → Q (.ref p) (upd H p (.tup xs))
def lstK (Q : VK) : List V → Hp → Prop := fun xs H => xs.length ≤ sizeLine ∧ ∀ p, H p = none → Q (.ref p) (upd H p (.lst xs))
theorem g_tup (q : tr σ H (tupK Q)) : tTup tr σ H Q := q
theorem g_lst (q : tr σ H (lstK Q)) : tLst tr σ H Q := q
theorem g_tupK {xs : List V} (hl : xs.length ≤ sizeLine) (q : ∀ p H1, H p = none → Same H H1 → H1 p = some (.tup xs) → Q (.ref p) H1) : tupK Q xs H :=
  ⟨hl, fun p hp => q p _ hp (Same.new hp _) upd_same⟩
theorem g_lstK {xs : List V} (hl : xs.length ≤ sizeLine) (q : ∀ p H1, H p = none → Same H H1 → H1 p = some (.lst xs) → Q (.ref p) H1) : lstK Q xs H :=
  ⟨hl, fun p hp => q p _ hp (Same.new hp _) upd_same⟩
theorem g_call {sp : Sp} {dvs : List V} {E : XK} (q : tr σ H fun vs H1 => sp (vs ++ dvs) H1 Q E) : tCall sp dvs E tr σ H Q := q
theorem g_cb {f : List V → Hp → VK → Prop} (q : tr σ H fun vs H1 => f vs H1 Q) : tCB f tr σ H Q := q
theorem g_bm {T : String} {f : V → List V → Hp → VK → Prop} (q : ta σ H fun x H1 => tyV K T x H1 ∧ tr σ H1 fun xs H2 => f x xs H2 Q) : tBM K T f ta tr σ H Q := q
/-! subscripts, slices -/
theorem g_ixL {p : Addr} {xs : List V} {i : Int} (h : SqL K H p xs) (ha : atI xs i = some v) (q : Q v H) : rIxL K (.ref p) (.int i) H Q := ⟨p, xs, i, v, rfl, rfl, h, ha, q⟩
theorem g_ixT {p : Addr} {xs : List V} {i : Int} (h : SqT K H p xs) (ha : atI xs i = some v) (q : Q v H) : rIxT K (.ref p) (.int i) H Q := ⟨p, xs, i, v, rfl, rfl, h, ha, q⟩
theorem g_ixO {p : Addr} {xs : List V} {i : Int} (h : SqL K H p xs ∨ SqT K H p xs) (ha : atI xs i = some v) (q : Q v H) : rIx K (.ref p) (.int i) H Q :=
  h.elim (fun h => .inl ⟨p, xs, i, v, rfl, rfl, h, ha, q⟩) fun h => .inr (.inl ⟨p, xs, i, v, rfl, rfl, h, ha, q⟩)
theorem g_sl {f : V → Option Int → Option Int → Hp → VK → Prop} {tl th : TO} (q : te σ H fun x H1 => tl σ H1 fun l H2 => th σ H2 fun u H3 => f x l u H3 Q) : tSl f te tl th σ H Q := q
theorem g_noPart {QO : Option Int → Hp → Prop} (q : QO none H) : tNoPart σ H QO := q
def partK (QO : Option Int → Hp → Prop) : VK := fun x H => ∃ i, x = .int i ∧ QO (some i) H
theorem g_part {QO : Option Int → Hp → Prop} (q : te σ H (partK QO)) : tPart te σ H QO := q
theorem g_partK {QO : Option Int → Hp → Prop} {i : Int} (q : QO (some i) H) : partK QO (.int i) H := ⟨i, rfl, q⟩
theorem g_slL {a : Addr} {xs : List V} {lo hi : Option Int} (h : SqL K H a xs) (q : ∀ p H1, H p = none → Same H H1 → H1 p = some (.lst (cutV xs lo hi)) → Q (.ref p) H1) : rSlL K (.ref a) lo hi H Q :=
  ⟨a, xs, rfl, h, fun p hp => q p _ hp (Same.new hp _) upd_same⟩
theorem g_slT {a : Addr} {xs : List V} {lo hi : Option Int} (h : SqT K H a xs) (n : ¬ (HT.sIx xs.length 0 lo = 0 ∧ HT.sIx xs.length xs.length hi = xs.length)) (q : ∀ p H1, H p = none → Same H H1 → H1 p = some (.tup (cutV xs lo hi)) → Q (.ref p) H1) : rSlT K (.ref a) lo hi H Q :=
  ⟨a, xs, rfl, h, n, fun p hp => q p _ hp (Same.new hp _) upd_same⟩
/-! statements -/
theorem g_seq (q : t { D with nx := u D } σ H) : tSeq t u D σ H := q
theorem g_next (q : D.nx σ H) : tNext D σ H := q
theorem g_asg {g : TG} (q : te σ H fun x H1 => g x σ H1 D.nx) : tAsg te g D σ H := q
theorem g_name {i : Nat} {QS : L2.St → Hp → Prop} (q : QS (σ.set i (some v)) H) : gName i v σ H QS := q
theorem g_gtup {n : Nat} {tg : TGs} {a : Addr} {xs : List V} {QS : L2.St → Hp → Prop} (h : SqT K H a xs) (hl : xs.length = n) (q : tg xs σ H QS) : gTup K n tg (.ref a) σ H QS := ⟨a, xs, rfl, h, hl, q⟩
theorem g_gcons {g : TG} {tg : TGs} {vs : List V} {QS : L2.St → Hp → Prop} (q : g v σ H fun σ' H' => tg vs σ' H' QS) : gCons g tg (v :: vs) σ H QS := ⟨v, vs, rfl, q⟩
theorem g_gnil {QS : L2.St → Hp → Prop} (q : QS σ H) : gNil [] σ H QS := ⟨rfl, q⟩
theorem g_ret (q : te σ H D.rt) : tRet te D σ H := q
theorem g_retN (q : D.rt .non H) : tRetN D σ H := q
theorem g_drop (q : te σ H fun _ H1 => D.nx σ H1) : tDrop te D σ H := q
def brS (t u : TS) (D : Ends) (σ : L2.St) : Bool → Hp → Prop := fun b H1 => if b = true then t D σ H1 else u D σ H1
theorem g_if (q : tt σ H (brS t u D σ)) : tIfS tt t u D σ H := q
theorem g_br {k : Bool} (h1 : k = true → t D σ H) (h2 : k = false → u D σ H) : brS t u D σ k H := by
  cases k
  · exact h2 rfl
  · exact h1 rfl
theorem g_brT (h1 : t D σ H) : brS t u D σ true H := h1
theorem g_brF (h1 : u D σ H) : brS t u D σ false H := h1
end
/-! ### rules whose relation has a name -/
section
variable {X : Cx}
def rLen (K : PySem.W.Frag) : List V → Hp → VK → Prop := fun xs H Q => ∃ p ys, xs = [.ref p] ∧ (SqL K H p ys ∨ SqT K H p ys) ∧ Q (.int ys.length) H
theorem my_len : CallR X (.builtin "len") (rLen X.K) := call_len_seq
def rLenS : List V → Hp → VK → Prop := fun us H Q => ∃ t, us = [.str t] ∧ t.length ≤ sizeLine ∧ Q (.int t.length) H
theorem my_lenS : CallR X (.builtin "len") rLenS := call_len_str
def rList (K : PySem.W.Frag) : List V → Hp → VK → Prop := fun xs H Q => ∃ p ys, xs = [.ref p] ∧ (SqL K H p ys ∨ SqT K H p ys) ∧ ∀ l, H l = none → Q (.ref l) (upd H l (.lst ys))
theorem my_list : CallR X (.type "list") (rList X.K) := call_list_of
def rTuple (K : PySem.W.Frag) : List V → Hp → VK → Prop := fun xs H Q => ∃ p ys, xs = [.ref p] ∧ ((SqL K H p ys ∧ ∀ l, H l = none → Q (.ref l) (upd H l (.tup ys))) ∨ (SqT K H p ys ∧ Q (.ref p) H))
theorem my_tuple : CallR X (.type "tuple") (rTuple X.K) := call_tuple_of
def rInt : List V → Hp → VK → Prop := fun xs H Q => (∃ i, xs = [.int i] ∧ Q (.int i) H) ∨ ∃ k, xs = [.bl k] ∧ Q (.int (if k then 1 else 0)) H
theorem my_int : CallR X (.type "int") rInt := call_int1
def rMax2 : List V → Hp → VK → Prop := fun us H Q => ∃ i j, us = [.int i, .int j] ∧ Q (.int (if j > i then j else i)) H
theorem my_max2 (hc : X.calm = true) : CallR X (.builtin "max") rMax2 := call_max2 hc
def rStrI : List V → Hp → VK → Prop := fun xs H Q => ∃ i, xs = [.int i] ∧ i.natAbs.log2 < 1920 ∧ Q (.str (toString i)) H
theorem my_strI : CallR X (.type "str") rStrI := call_str_int
def rAddS : R2 := fun x y H Q => ∃ i j, x = .str i ∧ y = .str j ∧ i.length + j.length ≤ sizeLine ∧ Q (.str (i ++ j)) H
theorem my_addS : OpR X (binaryOp .Add) rAddS := op_add_str
def rIsN : R2 := fun u v H Q => v = .non ∧ Q (.bl (decide (u = .non))) H
def rNotN : R2 := fun u v H Q => v = .non ∧ Q (.bl (!decide (u = .non))) H
theorem my_isN : OpR X (compareOp .Is) rIsN := op_isN
theorem my_notN : OpR X (compareOp .IsNot) rNotN := op_notN
def rIsTy : R2 := fun x y H Q => ∃ a b, x = .ty a ∧ y = .ty b ∧ Q (.bl (decide (a = b))) H
theorem my_isTy : OpR X (compareOp .Is) rIsTy := op_isTyB
theorem op_mulX : OpR X (binaryOp .Mult) (rI IntMulOk fun i j => .int (i * j)) := opI fun _ _ _ _ _ _ _ hc q => PyProof.Rows.mul_int q hc
end
section
variable {K : PySem.W.Frag} {H : Hp} {Q : VK} {v x y : V} {a : Addr} {xs : List V}
theorem g_len (h : SqL K H a xs ∨ SqT K H a xs) (q : Q (.int xs.length) H) : rLen K [.ref a] H Q := ⟨a, xs, rfl, h, q⟩
theorem g_lenS {z : Str} (h : z.length ≤ sizeLine) (q : Q (.int z.length) H) : rLenS [.str z] H Q := ⟨z, rfl, h, q⟩
theorem g_list (h : SqL K H a xs ∨ SqT K H a xs) (q : ∀ p H1, H p = none → Same H H1 → H1 p = some (.lst xs) → Q (.ref p) H1) : rList K [.ref a] H Q := ⟨a, xs, rfl, h, fun p hp => q p _ hp (Same.new hp _) upd_same⟩
theorem g_tupleL (h : SqL K H a xs) (q : ∀ p H1, H p = none → Same H H1 → H1 p = some (.tup xs) → Q (.ref p) H1) : rTuple K [.ref a] H Q := ⟨a, xs, rfl, .inl ⟨h, fun p hp => q p _ hp (Same.new hp _) upd_same⟩⟩
theorem g_tupleT (h : SqT K H a xs) (q : Q (.ref a) H) : rTuple K [.ref a] H Q := ⟨a, xs, rfl, .inr ⟨h, q⟩⟩
/-- tuple(x) of either: some tuple of the items -/
theorem g_tupleO (h : SqL K H a xs ∨ SqT K H a xs) (q : ∀ p H1, Same H H1 → SqT K H1 p xs → Q (.ref p) H1) : rTuple K [.ref a] H Q :=
  h.elim (fun h => g_tupleL h fun p H1 _ s e => q p H1 s (SqT.of e)) fun h => g_tupleT h (q a H (L2.Same.refl H) h)
theorem g_intB {k : Bool} (q : Q (.int (if k then 1 else 0)) H) : rInt [.bl k] H Q := .inr ⟨k, rfl, q⟩
theorem g_intI {i : Int} (q : Q (.int i) H) : rInt [.int i] H Q := .inl ⟨i, rfl, q⟩
theorem g_max2 {i j : Int} (q : Q (.int (if j > i then j else i)) H) : rMax2 [.int i, .int j] H Q := ⟨i, j, rfl, q⟩
theorem g_strI {i : Int} (h : i.natAbs.log2 < 1920) (q : Q (.str (toString i)) H) : rStrI [.int i] H Q := ⟨i, rfl, h, q⟩
theorem g_addS {i j : Str} (h : i.length + j.length ≤ sizeLine) (q : Q (.str (i ++ j)) H) : rAddS (.str i) (.str j) H Q := ⟨i, j, rfl, rfl, h, q⟩
theorem g_isN (q : Q (.bl (decide (x = .non))) H) : rIsN x .non H Q := ⟨rfl, q⟩
theorem g_notN (q : Q (.bl (!decide (x = .non))) H) : rNotN x .non H Q := ⟨rfl, q⟩
theorem g_isTy {m n : String} (q : Q (.bl (decide (m = n))) H) : rIsTy (.ty m) (.ty n) H Q := ⟨m, n, rfl, rfl, q⟩
theorem g_notTy {m n : String} (q : Q (.bl (!decide (m = n))) H) : rNT (.ty m) (.ty n) H Q := ⟨m, n, rfl, rfl, q⟩
theorem g_isBl {m n : Bool} (q : Q (.bl (decide (m = n))) H) : rIsB (.bl m) (.bl n) H Q := ⟨m, n, rfl, rfl, q⟩
theorem g_notBl {m n : Bool} (q : Q (.bl (!decide (m = n))) H) : rNotB (.bl m) (.bl n) H Q := ⟨m, n, rfl, rfl, q⟩
theorem g_typ {T : String} (t : TyB K H x T) (q : Q (.ty T) H) : rTyp K [x] H Q := ⟨x, T, rfl, t, q⟩
theorem g_isi {c : V} {t u : Value} {b : Bool} (k : ClsV c u) (ty : TyX K H x t) (e : PySem.W.kitOne K t u = some b) (q : Q (.bl b) H) : rIsi K [x, c] H Q := ⟨x, c, t, u, b, rfl, k, ty, e, q⟩
theorem g_eqD {d e : PyData} (hx : Dp K H x d) (hy : Dp K H y e) (sd : SeqAt.shaped d = true) (se : SeqAt.shaped e = true) (q : Q (.bl (PyData.eqv d e)) H) : rEqD K x y H Q := ⟨d, e, hx, hy, sd, se, q⟩
theorem g_neD {d e : PyData} (hx : Dp K H x d) (hy : Dp K H y e) (sd : SeqAt.shaped d = true) (se : SeqAt.shaped e = true) (q : Q (.bl (!PyData.eqv d e)) H) : rNeD K x y H Q := ⟨d, e, hx, hy, sd, se, q⟩
theorem g_all {bs : List Bool} (h : SqL K H a (bs.map V.bl)) (q : Q (.bl (bs.all id)) H) : rAll K [.ref a] H Q := ⟨a, bs, rfl, h, q⟩
theorem g_in {neg : Bool} (h : SqL K H a xs ∨ SqT K H a xs) (f : flatV x = true) (fs : xs.all flatV = true) (q : Q (.bl (if neg then !inV x xs else inV x xs)) H) : rIn K neg x (.ref a) H Q := ⟨a, xs, rfl, h, f, fs, q⟩
end
end My
namespace My
open PySem L2
section
variable {X : Cx} {K : PySem.W.Frag} {H : Hp} {Q : VK} {a : Addr} {xs : List V} {lo hi : Option Int}
def rSlO (K : PySem.W.Frag) : V → Option Int → Option Int → Hp → VK → Prop := fun x lo hi H Q => rSlL K x lo hi H Q ∨ rSlT K x lo hi H Q
theorem my_slO : SlR X (rSlO X.K) := sl_list.or sl_tup
theorem g_slO (h : SqL K H a xs ∨ SqT K H a xs) (n : ¬ (HT.sIx xs.length 0 lo = 0 ∧ HT.sIx xs.length xs.length hi = xs.length))
    (q : ∀ p H1, H p = none → Same H H1 → (SqL K H1 p (cutV xs lo hi) ∨ SqT K H1 p (cutV xs lo hi)) → Q (.ref p) H1) : rSlO K (.ref a) lo hi H Q :=
  h.elim (fun h => .inl (g_slL h fun p H1 np s e => q p H1 np s (.inl (SqL.of e)))) fun h => .inr (g_slT h n fun p H1 np s e => q p H1 np s (.inr (SqT.of e)))
theorem cut_to (xs : List V) (n : Nat) : cutV xs none (some (n : Int)) = xs.take n := by
  unfold cutV
  rw [HT.sIx_none, HT.sIx_nat, List.drop_zero, Nat.sub_zero]
  by_cases h : n ≤ xs.length
  · rw [Nat.min_eq_left h]
  · rw [Nat.min_eq_right (by omega), List.take_length, List.take_of_length_le (by omega)]
theorem cut_from (xs : List V) (n : Nat) : cutV xs (some (n : Int)) none = xs.drop n := by
  unfold cutV
  rw [HT.sIx_none, HT.sIx_nat]
  by_cases h : n ≤ xs.length
  · rw [Nat.min_eq_left h, List.take_of_length_le (by rw [List.length_drop]; omega)]
  · rw [Nat.min_eq_right (by omega), Nat.sub_self, List.take_zero, List.drop_eq_nil_of_le (by omega)]
theorem sz {n : Nat} (h : n ≤ 100000) : n ≤ sizeLine := Nat.le_trans h (by decide)
end
end My
namespace My
open PySem L2
/-! ### joins, comprehensions, loops -/
section
variable {K : PySem.W.Frag} {σ : L2.St} {H : Hp} {Q : VK} {D : Ends} {t u : TS} {te tl : TE}
theorem g_cut (M : L2.St → Hp → Prop) (h : t { D with nx := M } σ H) (k : ∀ σ' H', M σ' H' → u D σ' H') : Evl.tCut t u D σ H := ⟨M, h, k⟩
/-- all objects but lists stand as they stood -/
def Still (H H' : Hp) : Prop := ∀ b o, (∀ xs, o ≠ .lst xs) → H b = some o → H' b = some o
theorem Still.of (e : Same H H') : Still H H' := fun b o _ h => e b o h
theorem Still.refl (H : Hp) : Still H H := fun _ _ _ h => h
theorem Still.trans {H H1 H2 : Hp} (a : Still H H1) (b : Still H1 H2) : Still H H2 := fun c o n h => b c o n (a c o n h)
theorem Still.upd {H : Hp} {p : Addr} {xs ys : List V} (h : H p = some (.lst xs)) : Still H (upd H p (.lst ys)) := fun b o n e => by
  rw [upd_ne (ne_of e h (n xs))]
  exact e
theorem Still.tup {H H' : Hp} {p : Addr} {xs : List V} (e : Still H H') (h : H p = some (.tup xs)) : H' p = some (.tup xs) := e p _ (fun _ z => nomatch z) h
theorem g_lcR1 {ta : TA} {j : Nat} {vs : List Nat} {n : Int} (Rel : Nat → V → Hp → Prop) (ha : ∀ R : List V → Hp → Prop, R [.int n] H → ta σ H R) (hn : -40000 ≤ n ∧ n ≤ 40000)
    (hw : ∀ x, wipe ((wipe σ vs).set j (some x)) vs = wipe σ vs) (hst : ∀ i y H1 H2, Still H1 H2 → Rel i y H1 → Rel i y H2)
    (he : ∀ (i : Nat) (H1 : Hp) (QE : VK), (i : Int) < n → Same H H1 → (∀ y H2, Same H1 H2 → Rel i y H2 → QE y H2) → te ((wipe σ vs).set j (some (.int (i : Int)))) H1 QE)
    (q : ∀ p ys H1, H p = none → Same H H1 → H1 p = some (.lst ys) → ys.length = n.toNat → (∀ i y, ys[i]? = some y → Rel i y H1) → Q (.ref p) H1) :
    tLc (iRng1 ta) (gName j) tYes te vs σ H Q := by
  refine ha _ ⟨n, rfl, by omega, by omega, fun Dl hD => ?_⟩
  refine lc_range (lo := 0) (n := n.toNat) (fun i H' => Same H H' ∧ ∃ ys, H' Dl = some (.lst ys) ∧ ys.length = i ∧ ∀ k y, ys[k]? = some y → Rel k y H')
    ⟨Same.new hD _, [], upd_same, rfl, fun k y h => nomatch h⟩ (fun i H' hi p => ?_) (fun H' p => ?_)
  · obtain ⟨s, ys, e, hl, hr⟩ := p
    show wipe ((wipe σ vs).set j (some (.int ((0 : Int) + (i : Int))))) vs = wipe σ vs ∧ _
    rw [Int.zero_add]
    refine ⟨hw _, ?_⟩
    show te ((wipe σ vs).set j (some (.int (i : Int)))) H' _
    refine he i H' _ (by omega) s fun y H2 s2 r => ⟨ys, s2 _ _ e, Evl.sz_lt (by omega), ?_⟩
    have st : Still H2 (upd H2 Dl (.lst (ys ++ [y]))) := Still.upd (s2 _ _ e)
    refine ⟨fun b o h => ?_, ys ++ [y], upd_same, by rw [List.length_append, hl]; rfl, fun k z hk => ?_⟩
    · rw [upd_ne (ne_of_none h hD)]
      exact s2 _ _ (s _ _ h)
    · by_cases c : k < ys.length
      · rw [List.getElem?_append_left c] at hk
        exact hst k z _ _ st (hst k z _ _ (Still.of s2) (hr k z hk))
      · rw [List.getElem?_append_right (by omega)] at hk
        by_cases c2 : k - ys.length = 0
        · rw [c2] at hk
          have ez : y = z := Option.some.inj hk
          have ek : k = i := by omega
          subst ez ek
          exact hst _ _ _ _ st r
        · rw [List.getElem?_eq_none (by rw [List.length_singleton]; omega)] at hk
          cases hk
  · obtain ⟨s, ys, e, hl, hr⟩ := p
    exact q Dl ys H' hD s e hl hr
/-- over a list (its items told): a value for each item, no test -/
theorem g_lcL {a : Addr} {xs : List V} {j : Nat} {vs : List Nat} (Rel : Nat → V → Hp → Prop) (ha : ∀ R : VK, R (.ref a) H → tl σ H R) (hx : SqL K H a xs) (hn : xs.length ≤ 40000)
    (hw : ∀ x, wipe ((wipe σ vs).set j (some x)) vs = wipe σ vs) (hst : ∀ i y H1 H2, Still H1 H2 → Rel i y H1 → Rel i y H2)
    (he : ∀ (i : Nat) (x : V) (H1 : Hp) (QE : VK), xs[i]? = some x → Same H H1 → (∀ y H2, Same H1 H2 → Rel i y H2 → QE y H2) → te ((wipe σ vs).set j (some x)) H1 QE)
    (q : ∀ p ys H1, H p = none → Same H H1 → H1 p = some (.lst ys) → ys.length = xs.length → (∀ i y, ys[i]? = some y → Rel i y H1) → Q (.ref p) H1) :
    tLc (iList K tl) (gName j) tYes te vs σ H Q := by
  refine ha _ ⟨a, rfl, ⟨xs, hx⟩, fun Dl hD => ?_⟩
  refine lc_list (xs := xs) (fun i H' => Same H H' ∧ ∃ ys, H' Dl = some (.lst ys) ∧ ys.length = i ∧ ∀ k y, ys[k]? = some y → Rel k y H')
    ⟨Same.new hD _, [], upd_same, rfl, fun k y h => nomatch h⟩ (fun i H' _ p => p.1.seq hx) (fun i x H' hi p => ?_) (fun H' p => ?_)
  · obtain ⟨s, ys, e, hl, hr⟩ := p
    have hi2 := (List.getElem?_eq_some_iff.mp hi).1
    refine ⟨hw _, ?_⟩
    show te ((wipe σ vs).set j (some x)) H' _
    refine he i x H' _ hi s fun y H2 s2 r => ⟨ys, s2 _ _ e, Evl.sz_lt (by omega), ?_⟩
    have st : Still H2 (upd H2 Dl (.lst (ys ++ [y]))) := Still.upd (s2 _ _ e)
    refine ⟨fun b o h => ?_, ys ++ [y], upd_same, by rw [List.length_append, hl]; rfl, fun k z hk => ?_⟩
    · rw [upd_ne (ne_of_none h hD)]
      exact s2 _ _ (s _ _ h)
    · by_cases c : k < ys.length
      · rw [List.getElem?_append_left c] at hk
        exact hst k z _ _ st (hst k z _ _ (Still.of s2) (hr k z hk))
      · rw [List.getElem?_append_right (by omega)] at hk
        by_cases c2 : k - ys.length = 0
        · rw [c2] at hk
          have ez : y = z := Option.some.inj hk
          have ek : k = i := by omega
          subst ez ek
          exact hst _ _ _ _ st r
        · rw [List.getElem?_eq_none (by rw [List.length_singleton]; omega)] at hk
          cases hk
  · obtain ⟨s, ys, e, hl, hr⟩ := p
    exact q Dl ys H' hD s e hl hr
theorem g_lcT {a : Addr} {xs : List V} {j : Nat} {vs : List Nat} (Rel : Nat → V → Hp → Prop) (ha : ∀ R : VK, R (.ref a) H → tl σ H R) (hx : SqT K H a xs) (hn : xs.length ≤ 40000)
    (hw : ∀ x, wipe ((wipe σ vs).set j (some x)) vs = wipe σ vs) (hst : ∀ i y H1 H2, Still H1 H2 → Rel i y H1 → Rel i y H2)
    (he : ∀ (i : Nat) (x : V) (H1 : Hp) (QE : VK), xs[i]? = some x → Same H H1 → (∀ y H2, Same H1 H2 → Rel i y H2 → QE y H2) → te ((wipe σ vs).set j (some x)) H1 QE)
    (q : ∀ p ys H1, H p = none → Same H H1 → H1 p = some (.lst ys) → ys.length = xs.length → (∀ i y, ys[i]? = some y → Rel i y H1) → Q (.ref p) H1) :
    tLc (iTup K tl) (gName j) tYes te vs σ H Q := by
  refine ha _ ⟨a, rfl, ⟨xs, hx⟩, fun Dl hD => ?_⟩
  refine lc_tup (xs := xs) (fun i H' => Same H H' ∧ ∃ ys, H' Dl = some (.lst ys) ∧ ys.length = i ∧ ∀ k y, ys[k]? = some y → Rel k y H')
    ⟨Same.new hD _, [], upd_same, rfl, fun k y h => nomatch h⟩ (fun i H' _ p => Same.seqT p.1 hx) (fun i x H' hi p => ?_) (fun H' p => ?_)
  · obtain ⟨s, ys, e, hl, hr⟩ := p
    have hi2 := (List.getElem?_eq_some_iff.mp hi).1
    refine ⟨hw _, ?_⟩
    show te ((wipe σ vs).set j (some x)) H' _
    refine he i x H' _ hi s fun y H2 s2 r => ⟨ys, s2 _ _ e, Evl.sz_lt (by omega), ?_⟩
    have st : Still H2 (upd H2 Dl (.lst (ys ++ [y]))) := Still.upd (s2 _ _ e)
    refine ⟨fun b o h => ?_, ys ++ [y], upd_same, by rw [List.length_append, hl]; rfl, fun k z hk => ?_⟩
    · rw [upd_ne (ne_of_none h hD)]
      exact s2 _ _ (s _ _ h)
    · by_cases c : k < ys.length
      · rw [List.getElem?_append_left c] at hk
        exact hst k z _ _ st (hst k z _ _ (Still.of s2) (hr k z hk))
      · rw [List.getElem?_append_right (by omega)] at hk
        by_cases c2 : k - ys.length = 0
        · rw [c2] at hk
          have ez : y = z := Option.some.inj hk
          have ek : k = i := by omega
          subst ez ek
          exact hst _ _ _ _ st r
        · rw [List.getElem?_eq_none (by rw [List.length_singleton]; omega)] at hk
          cases hk
  · obtain ⟨s, ys, e, hl, hr⟩ := p
    exact q Dl ys H' hD s e hl hr
/-! loops: Pv of the turn, the slots and the heap -/
theorem g_forL {a : Addr} {xs : List V} {g : TG} (Pv : Nat → L2.St → Hp → Prop) (ha : ∀ R : VK, R (.ref a) H → tl σ H R) (hx : SqL K H a xs) (h0 : Pv 0 σ H) (hl : ∀ i σ' H', i ≤ xs.length → Pv i σ' H' → SqL K H' a xs)
    (hs : ∀ i x σ' H', xs[i]? = some x → Pv i σ' H' → g x σ' H' fun σ2 H2 => t { D with nx := Pv (i + 1), ct := Pv (i + 1), bk := D.nx } σ2 H2) (hd : ∀ σ' H', Pv xs.length σ' H' → D.nx σ' H') : tFor (iList K tl) g t D σ H :=
  ha _ ⟨a, rfl, ⟨xs, hx⟩, for_list Pv h0 hl hs hd⟩
theorem g_forT {a : Addr} {xs : List V} {g : TG} (Pv : Nat → L2.St → Hp → Prop) (ha : ∀ R : VK, R (.ref a) H → tl σ H R) (hx : SqT K H a xs) (h0 : Pv 0 σ H) (hl : ∀ i σ' H', i ≤ xs.length → Pv i σ' H' → SqT K H' a xs)
    (hs : ∀ i x σ' H', xs[i]? = some x → Pv i σ' H' → g x σ' H' fun σ2 H2 => t { D with nx := Pv (i + 1), ct := Pv (i + 1), bk := D.nx } σ2 H2) (hd : ∀ σ' H', Pv xs.length σ' H' → D.nx σ' H') : tFor (iTup K tl) g t D σ H :=
  ha _ ⟨a, rfl, ⟨xs, hx⟩, for_tup Pv h0 hl hs hd⟩
theorem g_forR1 {ta : TA} {j : Nat} {n : Int} (Pv : Nat → L2.St → Hp → Prop) (ha : ∀ R : List V → Hp → Prop, R [.int n] H → ta σ H R) (hn : -1000000 ≤ n ∧ n ≤ 1000000) (h0 : Pv 0 σ H)
    (hs : ∀ (i : Nat) σ' H', (i : Int) < n → Pv i σ' H' → t { D with nx := Pv (i + 1), ct := Pv (i + 1), bk := D.nx } (σ'.set j (some (.int (i : Int)))) H') (hd : ∀ σ' H', Pv n.toNat σ' H' → D.nx σ' H') : tFor (iRng1 ta) (gName j) t D σ H :=
  ha _ ⟨n, rfl, by omega, by omega, for_range (lo := 0) (n := n.toNat) Pv h0 (fun i σ' H' hi p => by
    have e0 : (0 : Int) + (i : Int) = (i : Int) := Int.zero_add _
    show t { D with nx := Pv (i + 1), ct := Pv (i + 1), bk := D.nx } (σ'.set j (some (.int ((0 : Int) + (i : Int))))) H'
    rw [e0]
    exact hs i σ' H' (by omega) p) hd⟩
end
/-! ### data of flat tuples: == and != -/
theorem canAll : ∀ {ds : List PyData}, (∀ d ∈ ds, PyData.canLay0 d = true) → PyData.canLayAll0 ds = true
  | [], _ => by simp [PyData.canLayAll0]
  | d :: ds, h => by
    simp only [PyData.canLayAll0, Bool.and_eq_true]
    exact ⟨h d List.mem_cons_self, canAll fun x hx => h x (List.mem_cons_of_mem _ hx)⟩
end My
namespace My
open PySem L2
theorem depthAll_le {n : Nat} : ∀ {ds : List PyData}, (∀ d ∈ ds, PyData.depth d ≤ n) → PyData.depthAll ds ≤ n
  | [], _ => by simp [PyData.depthAll]
  | d :: ds, h => by
    simp only [PyData.depthAll]
    have h1 := h d List.mem_cons_self
    have h2 := depthAll_le (ds := ds) fun x hx => h x (List.mem_cons_of_mem _ hx)
    omega
theorem shaped_list {ds : List PyData} {n : Nat} (h : ∀ d ∈ ds, PyData.canLay0 d = true ∧ PyData.depth d ≤ n) (hn : n < 64) : SeqAt.shaped (.list ds) = true := by
  unfold SeqAt.shaped
  rw [Bool.and_eq_true, decide_eq_true_eq]
  refine ⟨?_, ?_⟩
  · simp only [PyData.canLay0]
    exact canAll fun d hd => (h d hd).1
  · simp only [PyData.depth]
    have := depthAll_le (n := n) fun d hd => (h d hd).2
    omega
theorem dpAll_of {K : PySem.W.Frag} {H : Hp} : ∀ {vs : List V} {ds : List PyData}, vs.length = ds.length → (∀ (i : Nat) v d, vs[i]? = some v → ds[i]? = some d → Dp K H v d) → DpAll K H vs ds
  | [], [], _, _ => .nil
  | [], _ :: _, h, _ => nomatch h
  | _ :: _, [], h, _ => nomatch h
  | v :: vs, d :: ds, h, f => .cons (f 0 v d rfl rfl) (dpAll_of (by simpa using h) fun i x y hx hy => f (i + 1) x y (by simpa using hx) (by simpa using hy))
theorem dpAll_get {K : PySem.W.Frag} {H : Hp} : ∀ {vs : List V} {ds : List PyData}, DpAll K H vs ds → ∀ (i : Nat) (v : V), vs[i]? = some v → ∃ d, ds[i]? = some d ∧ Dp K H v d
  | _, _, .nil, i, v, h => nomatch h
  | _, _, .cons h1 h2, 0, v, h => ⟨_, rfl, by cases Option.some.inj h; exact h1⟩
  | _, _, .cons h1 h2, i + 1, v, h => dpAll_get h2 i v (by simpa using h)
theorem dpAll_len {K : PySem.W.Frag} {H : Hp} : ∀ {vs : List V} {ds : List PyData}, DpAll K H vs ds → vs.length = ds.length
  | _, _, .nil => rfl
  | _, _, .cons _ h => by simp [dpAll_len h]
theorem dpAll_take {K : PySem.W.Frag} {H : Hp} : ∀ {vs : List V} {ds : List PyData} (n : Nat), DpAll K H vs ds → DpAll K H (vs.take n) (ds.take n)
  | _, _, 0, _ => .nil
  | _, _, _ + 1, .nil => .nil
  | _, _, n + 1, .cons h r => .cons h (dpAll_take n r)
theorem dpAll_drop {K : PySem.W.Frag} {H : Hp} : ∀ {vs : List V} {ds : List PyData} (n : Nat), DpAll K H vs ds → DpAll K H (vs.drop n) (ds.drop n)
  | _, _, 0, h => h
  | _, _, _ + 1, .nil => .nil
  | _, _, n + 1, .cons _ r => dpAll_drop n r
theorem eqv_list {ds : List PyData} (h : SeqAt.shaped (.list ds) = true) : PyData.eqv (.list ds) (.list ds) = true := SeqAt.eqv_refl _ (SeqAt.canLay_of_shaped h)
/-- two lists of the same data: == is True, != is False -/
theorem g_eqL {K : PySem.W.Frag} {H : Hp} {Q : VK} {a b : Addr} {xs ys : List V} {ds : List PyData} {n : Nat} (ha : SqL K H a xs) (hb : SqL K H b ys) (h1 : DpAll K H xs ds) (h2 : DpAll K H ys ds) (hd : ∀ d ∈ ds, PyData.canLay0 d = true ∧ PyData.depth d ≤ n) (hn : n < 64)
    (q : Q (.bl true) H) : rEqD K (.ref a) (.ref b) H Q := by
  have sh := shaped_list hd hn
  refine ⟨_, _, .lst ha h1, .lst hb h2, sh, sh, ?_⟩
  rw [eqv_list sh]
  exact q
theorem g_neL {K : PySem.W.Frag} {H : Hp} {Q : VK} {a b : Addr} {xs ys : List V} {ds : List PyData} {n : Nat} (ha : SqL K H a xs) (hb : SqL K H b ys) (h1 : DpAll K H xs ds) (h2 : DpAll K H ys ds) (hd : ∀ d ∈ ds, PyData.canLay0 d = true ∧ PyData.depth d ≤ n) (hn : n < 64)
    (q : Q (.bl false) H) : rNeD K (.ref a) (.ref b) H Q := by
  have sh := shaped_list hd hn
  refine ⟨_, _, .lst ha h1, .lst hb h2, sh, sh, ?_⟩
  rw [eqv_list sh]
  exact q
end My
namespace My
open PySem L2
theorem kit_ll : PySem.W.kitOne K (.type "list") (.type "list") = some true := kit_ty (by decide +kernel)
theorem kit_tt : PySem.W.kitOne K (.type "tuple") (.type "tuple") = some true := kit_ty (by decide +kernel)
theorem g_isiL {K : PySem.W.Frag} {H : Hp} {Q : VK} {a : Addr} {xs : List V} (h : H a = some (.lst xs)) (q : Q (.bl true) H) : rIsi K [.ref a, .ty "list"] H Q := g_isi (.ty "list") (.base (.lst h)) kit_ll q
theorem tyx_t {K : PySem.W.Frag} {H : Hp} {a : Addr} {xs : List V} (h : SqT K H a xs) : TyX K H (.ref a) (.type "tuple") := by
  rcases h with (h | ⟨o, h⟩) | ⟨o, its, n, h, hc, _⟩
  · exact .base (.tup h)
  · exact .fTuple h
  · exact .kTuple h hc
theorem g_isiT {K : PySem.W.Frag} {H : Hp} {Q : VK} {a : Addr} {xs : List V} (h : SqT K H a xs) (q : Q (.bl true) H) : rIsi K [.ref a, .ty "tuple"] H Q := g_isi (.ty "tuple") (tyx_t h) kit_tt q
end My
namespace My
open PySem L2
theorem pair_at {α β : Type} {R : α → β → Prop} : ∀ {as : List α} {bs : List β}, Paired R as bs → ∀ {n : Nat} {a : α}, as[n]? = some a → ∃ b, bs[n]? = some b ∧ R a b
  | _, _, .nil, i, x, h => nomatch h
  | _, _, .cons r t, 0, x, h => ⟨_, rfl, by cases Option.some.inj h; exact r⟩
  | _, _, .cons r t, i + 1, x, h => pair_at t (by simpa using h)
end My
namespace My
open PySem L2
section
variable {K : PySem.W.Frag} {σ : L2.St} {H : Hp} {Q : VK} {D : Ends} {t u : TS} {te tl : TE}
theorem g_forRev {n : Int} {j : Nat} (Pv : Nat → L2.St → Hp → Prop) (ha : ∀ R : VK, R (.int n) H → te σ H R) (hn : 0 ≤ n ∧ n ≤ 1000000) (h0 : Pv 0 σ H)
    (hs : ∀ (i : Nat) σ' H', (i : Int) < n → Pv i σ' H' → t { D with nx := Pv (i + 1), ct := Pv (i + 1), bk := D.nx } (σ'.set j (some (.int (n - 1 - (i : Int))))) H') (hd : ∀ σ' H', Pv n.toNat σ' H' → D.nx σ' H') :
    tFor (iRevR (tRg1 te)) (gName j) t D σ H := by
  refine ha _ ⟨n, rfl, by omega, by omega, by omega, by omega, ?_⟩
  have e1 : (n - 0).toNat = n.toNat := by omega
  have e2 : 0 + ((n.toNat : Nat) : Int) - 1 = n - 1 := by omega
  rw [e1, e2]
  exact for_rangeC (lo := n - 1) (c := -1) (n := n.toNat) Pv h0 (fun i σ' H' hi p => by
    show t { D with nx := Pv (i + 1), ct := Pv (i + 1), bk := D.nx } (σ'.set j (some (.int (n - 1 + ((i : Nat) : Int) * (-1))))) H'
    have e3 : n - 1 + ((i : Nat) : Int) * (-1) = n - 1 - (i : Int) := by omega
    rw [e3]
    exact hs i σ' H' (by omega) p) hd
theorem g_tyL {P : Prop} {l : Addr} {xs : List V} (h : H l = some (.lst xs)) (q : P) : tyV K "list" (.ref l) H ∧ P := ⟨.inl ⟨rfl, _, SqL.of h⟩, q⟩
theorem g_append {l : Addr} {xs : List V} {v : V} (h : H l = some (.lst xs)) (hl : xs.length ≤ 100000) (q : Q .non (upd H l (.lst (xs ++ [v])))) : rAppend (.ref l) [v] H Q := ⟨l, xs, v, rfl, rfl, h, Nat.lt_of_le_of_lt hl (by decide), q⟩
/-- a comprehension over a list with a test: pure test, pure value -/
theorem g_lcF {tt : TT} {a : Addr} {xs : List V} {j : Nat} {vs : List Nat} (p : V → Bool) (f : V → V) (ha : ∀ R : VK, R (.ref a) H → tl σ H R) (hx : SqL K H a xs) (hn : xs.length ≤ 40000)
    (hw : ∀ x, wipe ((wipe σ vs).set j (some x)) vs = wipe σ vs)
    (ht : ∀ (i : Nat) (x : V) (H1 : Hp) (QB : Bool → Hp → Prop), xs[i]? = some x → Same H H1 → QB (p x) H1 → tt ((wipe σ vs).set j (some x)) H1 QB)
    (he : ∀ (i : Nat) (x : V) (H1 : Hp) (QE : VK), xs[i]? = some x → p x = true → Same H H1 → QE (f x) H1 → te ((wipe σ vs).set j (some x)) H1 QE)
    (q : ∀ pp H1, H pp = none → Same H H1 → H1 pp = some (.lst ((xs.filter p).map f)) → Q (.ref pp) H1) :
    tLc (iList K tl) (gName j) tt te vs σ H Q := by
  refine ha _ ⟨a, rfl, ⟨xs, hx⟩, fun Dl hD => ?_⟩
  refine lc_list (xs := xs) (fun i H' => Same H H' ∧ H' Dl = some (.lst (((xs.take i).filter p).map f)))
    ⟨Same.new hD _, upd_same⟩ (fun i H' _ p => p.1.seq hx) (fun i x H' hi pr => ?_) (fun H' pr => ?_)
  · obtain ⟨s, e⟩ := pr
    have hi2 := (List.getElem?_eq_some_iff.mp hi).1
    have et : xs.take (i + 1) = xs.take i ++ [x] := by rw [List.take_add_one, hi]; rfl
    have hz : (((xs.take i).filter p).map f).length < sizeLine := by
      rw [List.length_map]
      have h1 := List.length_filter_le p (xs.take i)
      rw [List.length_take] at h1
      exact Evl.sz_lt (by omega)
    refine ⟨hw _, ht i x H' _ hi s ?_⟩
    cases hp : p x with
    | true =>
      show te ((wipe σ vs).set j (some x)) H' _
      refine he i x H' _ hi hp s ⟨_, e, hz, fun b o h => ?_, ?_⟩
      · rw [upd_ne (ne_of_none h hD)]
        exact s _ _ h
      · rw [upd_same, et, List.filter_append, List.map_append, List.filter_cons, if_pos hp]
        rfl
    | false =>
      show Same H H' ∧ H' Dl = some (.lst (((xs.take (i + 1)).filter p).map f))
      refine ⟨s, ?_⟩
      rw [et, List.filter_append, List.map_append, List.filter_cons, if_neg (by rw [hp]; decide), e]
      simp
  · obtain ⟨s, e⟩ := pr
    rw [List.take_length] at e
    exact q Dl H' hD s e
end
theorem mulBits {a b : Int} (ha : Builtin.Int.intBits a ≤ 10000000) (hb : Builtin.Int.intBits b ≤ 10000000) : IntMulOk a b := by
  unfold IntMulOk Builtin.Int.intTooBig
  intro z
  rw [Bool.and_eq_true, decide_eq_true_eq] at z
  have z2 := z.2
  have e : bitsLine = 134217728 := by decide
  rw [e] at z2
  omega
/-! ### what all laws have: the script's cells, whole numbers, the answer -/
def cell (ns : List Int) (k : Int) : Int := ns.getD k.toNat 0
def sp_cell (K : PySem.W.Frag) : Sp := fun vs H Q _ => ∃ (a : Addr) (ns : List Int) (k : Int), vs = [.ref a, .int k] ∧ SqL K H a (ns.map V.int) ∧ 0 ≤ k ∧ Q (.int (cell ns k)) H
theorem use_cell {K : PySem.W.Frag} {H : Hp} {Q : VK} {E : XK} {a : Addr} {ns : List Int} {k : Int} (h : SqL K H a (ns.map V.int)) (h0 : 0 ≤ k) (q : Q (.int (cell ns k)) H) : sp_cell K [.ref a, .int k] H Q E := ⟨a, ns, k, rfl, h, h0, q⟩
def spLaw (K : PySem.W.Frag) : Sp := fun vs H Q _ => ∃ (a : Addr) (ns : List Int), vs = [.ref a] ∧ SqL K H a (ns.map V.int) ∧ ns.length ≤ 63 ∧ (∀ z ∈ ns, Builtin.Int.intBits z ≤ 1048576) ∧ ∀ H', Q (.bl true) H'
theorem atI_cell {ns : List Int} {k : Int} (h0 : 0 ≤ k) (h : k < (ns.length : Int)) : atI (ns.map V.int) k = some (.int (cell ns k)) := by
  have hk : k.toNat < ns.length := by omega
  have ek : k = ((k.toNat : Nat) : Int) := by omega
  rw [ek]
  refine atI_nat ?_
  rw [List.getElem?_map, List.getElem?_eq_getElem hk]
  show some (V.int ns[k.toNat]) = some (V.int (cell ns _))
  unfold cell
  rw [Int.toNat_natCast, List.getD_eq_getElem?_getD, List.getElem?_eq_getElem hk]
  rfl
theorem cell_out {ns : List Int} {k : Int} (h : ¬ k < (ns.length : Int)) : cell ns k = 0 := by
  unfold cell
  rw [List.getD_eq_getElem?_getD, List.getElem?_eq_none (by omega)]
  rfl
theorem cell_bits {ns : List Int} (h : ∀ z ∈ ns, Builtin.Int.intBits z ≤ 1048576) (k : Int) : Builtin.Int.intBits (cell ns k) ≤ 1048576 := by
  unfold cell
  rw [List.getD_eq_getElem?_getD]
  cases e : ns[k.toNat]? with
  | none => exact Nat.zero_le _
  | some z => exact h z (List.mem_of_getElem? e)
end My
namespace My
open PySem L2
section
variable {X : Cx} {K : PySem.W.Frag}
theorem ixTK (h : X.K = K) : IxR X (rIxT K) := h ▸ ix_tup
theorem ixLK (h : X.K = K) : IxR X (rIxL K) := h ▸ ix_list
theorem ixOK (h : X.K = K) : IxR X (rIx K) := h ▸ ix_seq
theorem lenK (h : X.K = K) : CallR X (.builtin "len") (rLen K) := h ▸ my_len
theorem listK (h : X.K = K) : CallR X (.type "list") (rList K) := h ▸ my_list
theorem tupleK (h : X.K = K) : CallR X (.type "tuple") (rTuple K) := h ▸ my_tuple
theorem typK (h : X.K = K) : CallR X (.type "type") (rTyp K) := h ▸ call_type1
theorem isiK (h : X.K = K) : CallR X (.builtin "isinstance") (rIsi K) := h ▸ call_isi
theorem inK (h : X.K = K) : OpR X (compareOp .In) (rIn K false) := h ▸ op_in_seq
theorem ninK (h : X.K = K) : OpR X (compareOp .NotIn) (rIn K true) := h ▸ op_notIn_seq
theorem slLK (h : X.K = K) : SlR X (rSlL K) := h ▸ sl_list
theorem slTK (h : X.K = K) : SlR X (rSlT K) := h ▸ sl_tup
end
end My

set_option Elab.async false
set_option linter.all false
set_option maxRecDepth 100000
set_option maxHeartbeats 1000000
/-! texts, and what keys and values are -/
namespace My
open PySem L2
section
variable {X : Cx} {K : PySem.W.Frag} {σ : L2.St} {H : Hp} {Q : VK} {D : Ends} {t u : TS} {te tl : TE}
/-- a comprehension over a text: a pure value for each sign -/
theorem g_lcS {z : Str} {j : Nat} {vs : List Nat} (f : Nat → V) (ha : ∀ R : VK, R (.str z) H → tl σ H R) (hn : z.cps.size ≤ 40000)
    (hw : ∀ x, wipe ((wipe σ vs).set j (some x)) vs = wipe σ vs)
    (he : ∀ (c : Nat) (H1 : Hp) (QE : VK), c ∈ z.cps.toList → Same H H1 → QE (f c) H1 → te ((wipe σ vs).set j (some (.str ⟨#[c]⟩))) H1 QE)
    (q : ∀ p H1, H p = none → Same H H1 → H1 p = some (.lst (z.cps.toList.map f)) → Q (.ref p) H1) :
    tLc (iStr tl) (gName j) tYes te vs σ H Q := by
  refine ha _ ⟨z, rfl, fun Dl hD => ?_⟩
  refine lc_it walk_str (fun i H' => Same H H' ∧ H' Dl = some (.lst ((z.cps.toList.take i).map f)))
    ⟨Same.new hD _, upd_same⟩ (fun _ _ _ _ => trivial) (fun i x H1 H' hi pr y => ?_) (fun H' pr => ?_)
  · obtain ⟨s, e⟩ := pr
    obtain ⟨rfl, c, hc, rfl⟩ := y
    have hc2 : z.cps.toList[i]? = some c := by rw [Array.getElem?_toList]; exact hc
    refine ⟨hw _, ?_⟩
    show te ((wipe σ vs).set j (some (.str ⟨#[c]⟩))) H' _
    refine he c H' _ (List.mem_of_getElem? hc2) s ⟨_, e, by rw [List.length_map, List.length_take]; exact Evl.sz_lt (by omega), fun b o h => ?_, ?_⟩
    · rw [upd_ne (ne_of_none h hD)]
      exact s _ _ h
    · rw [upd_same, List.take_add_one, hc2, List.map_append]
      rfl
  · obtain ⟨s, e⟩ := pr
    rw [show z.cps.size = z.cps.toList.length from Array.length_toList.symm, List.take_length] at e
    exact q Dl H' hD s e
theorem pe_gI {x : Str} {i : Int} {t : Tok} {pos : Pos} (hg : Gl X x) (hm : X.mg x = some (.int i t)) (hd : (x == ("__debug__" : Str)) = false := by decide) : PE X (.Name x pos) (tC (.int i)) := pe_glob hg hm ⟨t, rfl⟩ hd
theorem g_dnewK (q : ∀ p H1, H p = none → Same H H1 → H1 p = some (.dK []) → Q (.ref p) H1) : tDNewK σ H Q := fun p hp => q p _ hp (Same.new hp _) upd_same
def rLeS : R2 := fun x y H Q => ∃ i j, x = .str i ∧ y = .str j ∧ Q (.bl (!decide (j.cps.toList < i.cps.toList))) H
theorem my_leS : OpR X (compareOp .LtE) rLeS := op_le_str
theorem g_leS {i j : Str} (q : Q (.bl (!decide (j.cps.toList < i.cps.toList))) H) : rLeS (.str i) (.str j) H Q := ⟨i, j, rfl, rfl, q⟩
theorem g_slS {z : Str} {lo hi : Option Int} (h : z.length ≤ sizeLine) (q : Q (.str (cutS z lo hi)) H) : rSlS (.str z) lo hi H Q := ⟨z, rfl, h, q⟩
theorem g_ixS {z : Str} {i : Int} {c : Nat} (h : z.length ≤ sizeLine) (ha : atI z.cps.toList i = some c) (q : Q (.str ⟨#[c]⟩) H) : rIxS (.str z) (.int i) H Q := ⟨z, i, c, rfl, rfl, h, ha, q⟩
def rJoin (K : PySem.W.Frag) : V → List V → Hp → VK → Prop := fun x xs H Q => ∃ a p, ∃ ys : List Str, x = .str a ∧ xs = [.ref p] ∧ (SqL K H p (ys.map V.str) ∨ SqT K H p (ys.map V.str)) ∧
      (ys.map (·.length)).sum + ys.length * a.length ≤ 16777216 ∧ Q (.str (Txt.join a ys)) H
theorem my_join {o e : Expr} {to te : TE} {apos pos : Pos} (ho : PE X o to) (he : PE X e te) (hs : starEach [e] X.env = [(false, eval e X.env)] := by rfl) (hbase : attributeBase o "join" X.env (eval o X.env) = eval o X.env := by rfl) (hline : (apos.endLine == pos.line) = true := by rfl) :
    PE X (.Call (.Attribute o "join" apos) [e] [] pos) (tM1 (rJoin X.K) to te) := pe_join ho he hs hbase hline
theorem g_m1 {r : V → List V → Hp → VK → Prop} {to te : TE} {z : Str} (q : ∀ R : VK, R (.str z) H → to σ H R) (k : te σ H fun y H2 => r (.str z) [y] H2 Q) : tM1 r to te σ H Q := q _ ⟨⟨z, rfl⟩, k⟩
theorem g_join {a : Str} {p : Addr} {ys : List Str} (h : SqL K H p (ys.map V.str)) (hz : (ys.map (·.length)).sum + ys.length * a.length ≤ 16777216) (q : Q (.str (Txt.join a ys)) H) : rJoin K (.str a) [.ref p] H Q := ⟨a, p, ys, rfl, rfl, .inl h, hz, q⟩
end
/-! signs -/
theorem str_ext {a b : Str} (h : a.cps.toList = b.cps.toList) : a = b := by
  obtain ⟨⟨x⟩⟩ := a
  obtain ⟨⟨y⟩⟩ := b
  have : x = y := h
  rw [this]
theorem str_len (z : Str) : z.length = z.cps.toList.length := Array.length_toList.symm
theorem app_toList (a b : Str) : (a ++ b).cps.toList = a.cps.toList ++ b.cps.toList := Array.toList_append
theorem app_len (a b : Str) : (a ++ b).length = a.length + b.length := by rw [str_len, str_len, str_len, app_toList, List.length_append]
theorem join_signs : ∀ cs : List Nat, (Txt.join (Str.ofString "") (cs.map fun c => (⟨#[c]⟩ : Str))).cps.toList = cs := fun cs => by
  have e0 : (Str.ofString "") = (⟨#[]⟩ : Str) := by decide +kernel
  rw [e0, show Txt.join = Str.join from by funext y parts; exact TL.join_eq y parts]
  induction cs with
  | nil => rfl
  | cons c r ih =>
    cases r with
    | nil => rfl
    | cons d r =>
      show ((⟨#[c]⟩ : Str) ++ ⟨#[]⟩ ++ Str.join ⟨#[]⟩ ((d :: r).map fun c => (⟨#[c]⟩ : Str))).cps.toList = _
      rw [app_toList, app_toList, ih]
      rfl
theorem sum_ones (cs : List Nat) : ((cs.map fun c => (⟨#[c]⟩ : Str)).map (·.length)).sum = cs.length := by
  induction cs with
  | nil => rfl
  | cons c r ih =>
    rw [List.map_cons, List.map_cons, List.sum_cons, ih, List.length_cons]
    exact Nat.add_comm 1 r.length
theorem cutS_to (z : Str) (n : Nat) : (cutS z none (some (n : Int))).cps.toList = z.cps.toList.take n := by
  unfold cutS
  show (z.cps.toList.drop _).take _ = _
  rw [HT.sIx_none, HT.sIx_nat, List.drop_zero, Nat.sub_zero, str_len]
  by_cases h : n ≤ z.cps.toList.length
  · rw [Nat.min_eq_left h]
  · rw [Nat.min_eq_right (by omega), List.take_length, List.take_of_length_le (by omega)]
theorem cutS_from (z : Str) (n : Nat) : (cutS z (some (n : Int)) none).cps.toList = z.cps.toList.drop n := by
  unfold cutS
  show (z.cps.toList.drop _).take _ = _
  rw [HT.sIx_none, HT.sIx_nat, str_len]
  by_cases h : n ≤ z.cps.toList.length
  · rw [Nat.min_eq_left h, List.take_of_length_le (by rw [List.length_drop]; omega)]
  · rw [Nat.min_eq_right (by omega), Nat.sub_self, List.take_zero, List.drop_eq_nil_of_le (by omega)]
/-! ### keys and values -/
def KB : Int := 1000000000000000000000000000000000000000000000000000000000000
theorem KB_eq : KB = 10 ^ Int.toNat 60 := by decide +kernel
def isInt : V → Bool
  | .int _ => true
  | _ => false
def isStr : V → Bool
  | .str _ => true
  | _ => false
def isKeyV : V → Bool
  | .int i => decide (-KB < i) && decide (i < KB)
  | _ => false
def signOk (c : Nat) : Bool := decide (32 ≤ c) && decide (c ≤ 126)
def isValV : V → Bool
  | .str z => decide (z.length ≤ 60) && z.cps.toList.all signOk
  | _ => false
/-- a thing whose kind is known -/
def Thing (K : PySem.W.Frag) (H : Hp) (x : V) : Prop := ∃ T, TyB K H x T ∧ (∀ z, x = .str z → z.length ≤ sizeLine)
theorem Thing.int {K : PySem.W.Frag} {H : Hp} (i : Int) : Thing K H (.int i) := ⟨_, .int i, fun _ h => nomatch h⟩
theorem Thing.str {K : PySem.W.Frag} {H : Hp} (z : Str) (h : z.length ≤ sizeLine) : Thing K H (.str z) := ⟨_, .str z, fun y e => by cases e; exact h⟩
theorem tyb_int {K : PySem.W.Frag} {H : Hp} {x : V} {T : String} (t : TyB K H x T) : decide (T = "int") = isInt x := by cases t <;> rfl
theorem tyb_str {K : PySem.W.Frag} {H : Hp} {x : V} {T : String} (t : TyB K H x T) : decide (T = "str") = isStr x := by cases t <;> rfl
theorem isKeyV_no {x : V} (h : isInt x = false) : isKeyV x = false := by
  cases x <;> first | rfl | cases h
theorem isValV_no {x : V} (h : isStr x = false) : isValV x = false := by
  cases x <;> first | rfl | cases h
theorem sign_lo (c : Nat) : (!decide ((⟨#[c]⟩ : Str).cps.toList < (Str.ofString " ").cps.toList)) = decide (32 ≤ c) := by
  have e : (Str.ofString " ").cps.toList = [32] := by decide +kernel
  rw [e]
  show (!decide (([c] : List Nat) < [32])) = decide (32 ≤ c)
  by_cases h : 32 ≤ c
  · rw [decide_eq_true h, Bool.not_eq_true', decide_eq_false_iff_not, List.cons_lt_cons_iff]
    simp
    omega
  · rw [decide_eq_false h, Bool.not_eq_false', decide_eq_true_iff, List.cons_lt_cons_iff]
    exact .inl (by omega)
theorem sign_hi (c : Nat) : (!decide ((Str.ofString "~").cps.toList < (⟨#[c]⟩ : Str).cps.toList)) = decide (c ≤ 126) := by
  have e : (Str.ofString "~").cps.toList = [126] := by decide +kernel
  rw [e]
  show (!decide (([126] : List Nat) < [c])) = decide (c ≤ 126)
  by_cases h : c ≤ 126
  · rw [decide_eq_true h, Bool.not_eq_true', decide_eq_false_iff_not, List.cons_lt_cons_iff]
    simp
    omega
  · rw [decide_eq_false h, Bool.not_eq_false', decide_eq_true_iff, List.cons_lt_cons_iff]
    exact .inl (by omega)
def Thing0 (K : PySem.W.Frag) (H : Hp) (x : V) : Prop := ∃ T, TyB K H x T
theorem Thing.zero {K : PySem.W.Frag} {H : Hp} {x : V} (h : Thing K H x) : Thing0 K H x := ⟨_, h.choose_spec.1⟩
def sp_is_whole (K : PySem.W.Frag) : Sp := fun vs H Q _ => ∃ x : V, vs = [x] ∧ Thing0 K H x ∧ Q (.bl (isInt x)) H
def sp_is_key (K : PySem.W.Frag) : Sp := fun vs H Q _ => ∃ x : V, vs = [x] ∧ Thing0 K H x ∧ Q (.bl (isKeyV x)) H
def sp_is_value (K : PySem.W.Frag) : Sp := fun vs H Q _ => ∃ x : V, vs = [x] ∧ Thing K H x ∧ ∀ H', Same H H' → Q (.bl (isValV x)) H'
def sp_l_says : Sp := fun vs H Q _ => ∃ f d : Bool, vs = [.bl f, .bl d] ∧ Q (.bl (decide (f = d))) H
end My
namespace My
open PySem L2
theorem list_eq {α : Type} {xs ys : List α} (hl : xs.length = ys.length) (h : ∀ (i : Nat) x, xs[i]? = some x → ys[i]? = some x) : xs = ys := by
  refine List.ext_getElem? fun i => ?_
  cases e : xs[i]? with
  | some x => exact (h i x e).symm
  | none =>
    have := List.getElem?_eq_none_iff.mp e
    exact (List.getElem?_eq_none (by omega)).symm
theorem strL {cs : List Nat} : (cs.map fun c => V.str ⟨#[c]⟩) = (cs.map fun c => (⟨#[c]⟩ : Str)).map V.str := by rw [List.map_map]; rfl
end My
namespace My
open PySem L2
section
variable {σ : L2.St} {H : Hp} {Q : VK} {tb : TE}
theorem g_andVJ {k b : Bool} (h : k = true → ∀ R : VK, R (.bl b) H → tb σ H R) (q : Q (.bl (k && b)) H) : andV tb σ Q (.bl k) H := ⟨k, rfl, by
  cases k
  · exact q
  · exact h rfl _ q⟩
theorem g_orVJ {k b : Bool} (h : k = false → ∀ R : VK, R (.bl b) H → tb σ H R) (q : Q (.bl (k || b)) H) : orV tb σ Q (.bl k) H := ⟨k, rfl, by
  cases k
  · exact h rfl _ q
  · exact q⟩
end
theorem notval_of_mem {z : Str} {c : Nat} (h : c ∈ z.cps.toList) (hc : signOk c = false) : isValV (.str z) = false := by
  have e : isValV (.str z) = (decide (z.length ≤ 60) && z.cps.toList.all signOk) := rfl
  rw [e, Bool.and_eq_false_iff]
  refine .inr ?_
  rw [List.all_eq_false]
  exact ⟨c, h, by rw [hc]; decide⟩
end My
namespace My
open PySem L2
theorem tyof_same {K : PySem.W.Frag} {H H' : Hp} (e : Same H H') {x : V} {t : Value} (h : TyOf K H x t) : TyOf K H' x t := by
  cases h with
  | non => exact .non
  | bl b => exact .bl b
  | int i => exact .int i
  | str x => exact .str x
  | flt x => exact .flt x
  | lst ea => exact .lst (e _ _ ea)
  | frz ea => exact .frz (e _ _ ea)
  | tup ea => exact .tup (e _ _ ea)
  | dK ea => exact .dK (e _ _ ea)
  | dT ea => exact .dT (e _ _ ea)
  | ins ea cl ha hn htk hm => exact .ins (e _ _ ea) cl ha hn htk hm
end My

set_option Elab.async false
set_option linter.all false
set_option maxRecDepth 100000
set_option maxHeartbeats 1000000
/-! what a block is, told of data -/
namespace My
open PySem L2
def isKeyD : PyData → Bool
  | .int i => decide (-KB < i) && decide (i < KB)
  | _ => false
def isValD : PyData → Bool
  | .str z => decide (z.length ≤ 60) && z.cps.toList.all signOk
  | _ => false
def isNumD : PyData → Bool
  | .int i => decide (1 ≤ i)
  | _ => false
def isTwoD : PyData → Bool
  | .tuple ds => decide (ds.length = 2)
  | _ => false
def tyD : PyData → String
  | .none => "NoneType"
  | .bool _ => "bool"
  | .int _ => "int"
  | .str _ => "str"
  | .list _ => "list"
  | .tuple _ => "tuple"
  | .dict _ => "dict"
def leafW : Str := Str.ofString "leaf"
def branchW : Str := Str.ofString "branch"
def heldD (w : Str) (h : PyData) : Bool := if w = leafW then isValD h else isNumD h
def isPairD (w : Str) : PyData → Bool
  | .tuple [k, h] => isKeyD k && heldD w h
  | _ => false
def keyD : PyData → Int
  | .tuple (.int k :: _) => k
  | _ => 0
def risesI (ks : List Int) : Bool := (List.range (ks.length - 1)).all fun i => decide (ks.getD i 0 < ks.getD (i + 1) 0)
def isBlockD (least most : Int) : PyData → Bool
  | .tuple [.str w, .tuple ps] => (decide (w = leafW) || decide (w = branchW)) && (decide (least ≤ (ps.length : Int)) && decide ((ps.length : Int) ≤ most)) && (ps.all (isPairD w) && risesI (ps.map keyD))
  | _ => false
/-- texts that are held are no longer than the line -/
def FitP (d : PyData) : Prop := ∀ k z, d = .tuple [k, .str z] → z.length ≤ sizeLine
def FitB (d : PyData) : Prop := ∀ w ps, d = .tuple [w, .tuple ps] → ps.length ≤ 30000 ∧ ∀ p ∈ ps, FitP p
theorem rises_iff (ks : List Int) : risesI ks = true ↔ ks.Pairwise (· < ·) := by
  unfold risesI
  rw [List.all_eq_true]
  constructor
  · intro h
    induction ks with
    | nil => exact .nil
    | cons x r ih =>
      have hr : r.Pairwise (· < ·) := ih fun i hi => by
        rw [List.mem_range] at hi
        have := h (i + 1) (by rw [List.mem_range, List.length_cons]; omega)
        simpa using this
      refine List.pairwise_cons.mpr ⟨fun y hy => ?_, hr⟩
      cases r with
      | nil => cases hy
      | cons z t =>
        have hz : x < z := by
          have := h 0 (by rw [List.mem_range, List.length_cons, List.length_cons]; omega)
          simpa using this
        rcases List.mem_cons.mp hy with e | e
        · rw [e]; exact hz
        · exact Int.lt_trans hz ((List.pairwise_cons.mp hr).1 y e)
  · intro h i hi
    rw [List.mem_range] at hi
    have h1 : i < ks.length := by omega
    have h2 : i + 1 < ks.length := by omega
    rw [List.getD_eq_getElem?_getD, List.getD_eq_getElem?_getD, List.getElem?_eq_getElem h1, List.getElem?_eq_getElem h2]
    exact decide_eq_true (List.pairwise_iff_getElem.mp h i (i + 1) h1 h2 (by omega))
theorem rises_not {as bs : List Int} {x y : Int} (h : ¬ x < y) : risesI (as ++ x :: y :: bs) = false := by
  rw [Bool.eq_false_iff]
  intro e
  have := (List.pairwise_append.mp ((rises_iff _).mp e)).2.1
  exact h ((List.pairwise_cons.mp this).1 y List.mem_cons_self)
/-! data and values -/
theorem dp_tyb {K : PySem.W.Frag} {H : Hp} {x : V} {d : PyData} (h : Dp K H x d) : TyB K H x (tyD d) := by
  cases h with
  | non => exact .non
  | bl b => exact .bl b
  | int i => exact .int i
  | str z => exact .str z
  | lst h _ => exact .lst h
  | tup h _ => exact .tup h
theorem dp_key {K : PySem.W.Frag} {H : Hp} {x : V} {d : PyData} (h : Dp K H x d) : isKeyV x = isKeyD d := by cases h <;> rfl
theorem dp_val {K : PySem.W.Frag} {H : Hp} {x : V} {d : PyData} (h : Dp K H x d) : isValV x = isValD d := by cases h <;> rfl
theorem dp_int {K : PySem.W.Frag} {H : Hp} {x : V} {d : PyData} (h : Dp K H x d) : isInt x = decide (tyD d = "int") := by cases h <;> rfl
theorem dp_tuple {K : PySem.W.Frag} {H : Hp} {x : V} {ds : List PyData} (h : Dp K H x (.tuple ds)) : ∃ a xs, x = .ref a ∧ SqT K H a xs ∧ DpAll K H xs ds := by
  cases h with
  | tup h r => exact ⟨_, _, rfl, h, r⟩
theorem dpAll_two {K : PySem.W.Frag} {H : Hp} {xs : List V} {k h : PyData} (r : DpAll K H xs [k, h]) : ∃ x y, xs = [x, y] ∧ Dp K H x k ∧ Dp K H y h := by
  cases r with
  | cons h1 r =>
    cases r with
    | cons h2 r =>
      cases r
      exact ⟨_, _, rfl, h1, h2⟩
theorem dp_str {K : PySem.W.Frag} {H : Hp} {x : V} {z : Str} (h : Dp K H x (.str z)) : x = .str z := by cases h; rfl
theorem dp_i {K : PySem.W.Frag} {H : Hp} {x : V} {i : Int} (h : Dp K H x (.int i)) : x = .int i := by cases h; rfl
theorem tyD_tuple {d : PyData} (h : tyD d = "tuple") : ∃ ds, d = .tuple ds := by
  cases d <;> first | exact ⟨_, rfl⟩ | (simp [tyD] at h)
theorem tyD_str {d : PyData} (h : tyD d = "str") : ∃ z, d = .str z := by
  cases d <;> first | exact ⟨_, rfl⟩ | (simp [tyD] at h)
theorem tyD_int {d : PyData} (h : tyD d = "int") : ∃ z, d = .int z := by
  cases d <;> first | exact ⟨_, rfl⟩ | (simp [tyD] at h)
theorem isTwoD_two {d : PyData} (h : isTwoD d = true) : ∃ k x, d = .tuple [k, x] := by
  match d, h with
  | .tuple [k, x], _ => exact ⟨k, x, rfl⟩
theorem isPairD_not2 {w : Str} {d : PyData} (h : isTwoD d = false) : isPairD w d = false := by
  match d, h with
  | .tuple [], _ => rfl
  | .tuple [_], _ => rfl
  | .tuple (_ :: _ :: _ :: _), _ => rfl
  | .none, _ => rfl
  | .bool _, _ => rfl
  | .int _, _ => rfl
  | .str _, _ => rfl
  | .list _, _ => rfl
  | .dict _, _ => rfl
theorem isPairD_key {w : Str} {d : PyData} (h : isPairD w d = true) : ∃ k x, d = .tuple [.int k, x] := by
  cases e : isTwoD d with
  | false =>
    rw [isPairD_not2 e] at h
    cases h
  | true =>
    obtain ⟨k, x, rfl⟩ := isTwoD_two e
    cases k <;> first | exact ⟨_, _, rfl⟩ | (simp [isPairD, isKeyD] at h)
theorem isBlockD_one {l m : Int} (x : PyData) : isBlockD l m (.tuple [x]) = false := by
  cases x <;> rfl
theorem isBlockD_three {l m : Int} (x y z : PyData) (r : List PyData) : isBlockD l m (.tuple (x :: y :: z :: r)) = false := by
  cases x <;> first | rfl | (cases y <;> rfl)
theorem isBlockD_not2 {l m : Int} {d : PyData} (h : isTwoD d = false) : isBlockD l m d = false := by
  match d, h with
  | .tuple [], _ => rfl
  | .tuple [x], _ => exact isBlockD_one x
  | .tuple (x :: y :: z :: r), _ => exact isBlockD_three x y z r
  | .none, _ => rfl
  | .bool _, _ => rfl
  | .int _, _ => rfl
  | .str _, _ => rfl
  | .list _, _ => rfl
  | .dict _, _ => rfl
theorem isBlockD_word {l m : Int} {w p : PyData} (h : tyD w ≠ "str") : isBlockD l m (.tuple [w, p]) = false := by
  cases w <;> first | rfl | exact absurd rfl h
theorem isBlockD_pairs {l m : Int} {w : Str} {p : PyData} (h : tyD p ≠ "tuple") : isBlockD l m (.tuple [.str w, p]) = false := by
  cases p <;> first | rfl | exact absurd rfl h
/-! promises -/
def sp_is_number (K : PySem.W.Frag) : Sp := fun vs H Q _ => ∃ (x : V) (d : PyData), vs = [x] ∧ Dp K H x d ∧ Q (.bl (isNumD d)) H
def sp_is_two (K : PySem.W.Frag) : Sp := fun vs H Q _ => ∃ (x : V) (d : PyData), vs = [x] ∧ Dp K H x d ∧ Q (.bl (isTwoD d)) H
def sp_is_pair (K : PySem.W.Frag) : Sp := fun vs H Q _ => ∃ (x : V) (d : PyData) (w : Str), vs = [x, .str w] ∧ Dp K H x d ∧ FitP d ∧ ∀ H', Same H H' → Q (.bl (isPairD w d)) H'
def sp_rises (K : PySem.W.Frag) : Sp := fun vs H Q _ => ∃ (a : Addr) (xs : List V) (ds : List PyData), vs = [.ref a] ∧ SqT K H a xs ∧ DpAll K H xs ds ∧ ds.length ≤ 30000 ∧ (∀ d ∈ ds, ∃ k x, d = .tuple [.int k, x]) ∧
  ∀ H', Same H H' → Q (.bl (risesI (ds.map keyD))) H'
def sp_is_block (K : PySem.W.Frag) : Sp := fun vs H Q _ => ∃ (x : V) (d : PyData) (l m : Int), vs = [x, .int l, .int m] ∧ Dp K H x d ∧ FitB d ∧ ∀ H', Same H H' → Q (.bl (isBlockD l m d)) H'
/-- items that are bools by a function of the data -/
theorem bools_of {ys : List V} {ds : List PyData} {f : PyData → Bool} (hl : ys.length = ds.length) (h : ∀ (i : Nat) y, ys[i]? = some y → ∃ d, ds[i]? = some d ∧ y = .bl (f d)) : ys = (ds.map f).map V.bl := by
  refine list_eq (by rw [hl, List.length_map, List.length_map]) fun i y hy => ?_
  obtain ⟨d, hd, rfl⟩ := h i y hy
  rw [List.getElem?_map, List.getElem?_map, hd]
  rfl
end My

set_option Elab.async false
set_option linter.all false
set_option maxRecDepth 100000
set_option maxHeartbeats 1000000
/-! expressions that give data, whatever heap comes behind -/
namespace My
open PySem L2
def EvD (K : PySem.W.Frag) (te : TE) (σ : L2.St) (H : Hp) (d : PyData) : Prop := ∀ H1, Same H H1 → ∀ Q : VK, (∀ x H2, Same H1 H2 → Dp K H2 x d → Q x H2) → te σ H1 Q
def EvDs (K : PySem.W.Frag) (tr : TA) (σ : L2.St) (H : Hp) (ds : List PyData) : Prop := ∀ H1, Same H H1 → ∀ Q : List V → Hp → Prop, (∀ xs H2, Same H1 H2 → DpAll K H2 xs ds → Q xs H2) → tr σ H1 Q
/-- a new list -/
def EvN (K : PySem.W.Frag) (te : TE) (σ : L2.St) (H : Hp) (ds : List PyData) : Prop := ∀ H1, Same H H1 → ∀ Q : VK, (∀ p xs H2, H1 p = none → Same H1 H2 → H2 p = some (.lst xs) → DpAll K H2 xs ds → Q (.ref p) H2) → te σ H1 Q
def EvO (K : PySem.W.Frag) (to : TO) (σ : L2.St) (H : Hp) (o : Option Int) : Prop := ∀ H1, Same H H1 → ∀ Q : Option Int → Hp → Prop, (∀ H2, Same H1 H2 → Q o H2) → to σ H1 Q
section
variable {K : PySem.W.Frag} {σ : L2.St} {H H' : Hp} {ta tb te : TE} {tr : TA} {d e : PyData} {ds es : List PyData} {i j k : Int}
theorem EvD.mono (s : Same H H') (h : EvD K te σ H d) : EvD K te σ H' d := fun H1 s1 => h H1 (s.trans s1)
theorem EvN.mono (s : Same H H') (h : EvN K te σ H ds) : EvN K te σ H' ds := fun H1 s1 => h H1 (s.trans s1)
theorem EvN.toD (h : EvN K te σ H ds) : EvD K te σ H (.list ds) := fun H1 s1 Q q => h H1 s1 Q fun p xs H2 np s2 e hd => q _ H2 s2 (.lst (SqL.of e) hd)
theorem evd_i : EvD K (tC (.int i)) σ H (.int i) := fun H1 _ Q q => q _ H1 (L2.Same.refl H1) (.int i)
theorem evd_b {b : Bool} : EvD K (tC (.bl b)) σ H (.bool b) := fun H1 _ Q q => q _ H1 (L2.Same.refl H1) (.bl b)
theorem evd_n : EvD K (tC .non) σ H .none := fun H1 _ Q q => q _ H1 (L2.Same.refl H1) .non
theorem evd_s {z : Str} : EvD K (tC (.str z)) σ H (.str z) := fun H1 _ Q q => q _ H1 (L2.Same.refl H1) (.str z)
theorem evd_v {n : Nat} {x : V} (h : σ[n]? = some (some x)) (hd : Dp K H x d) : EvD K (tVar n) σ H d := fun H1 s1 Q q => ⟨x, h, q x H1 (L2.Same.refl H1) (Dp.go s1 hd)⟩
theorem evd_op0 {g : Int → Int → V} (ha : EvD K ta σ H (.int i)) (hb : EvD K tb σ H (.int j)) (hg : g i j = .int k) : EvD K (tOp (rI0 g) ta tb) σ H (.int k) := fun H1 s1 Q q =>
  ha H1 s1 _ fun x H2 s2 hx => hb H2 (s1.trans s2) _ fun y H3 s3 hy => by
    cases dp_i hx
    cases dp_i hy
    exact ⟨i, j, rfl, rfl, q _ H3 (s2.trans s3) (by rw [hg]; exact .int k)⟩
theorem evd_op {C : Int → Int → Prop} {g : Int → Int → V} (ha : EvD K ta σ H (.int i)) (hb : EvD K tb σ H (.int j)) (hc : C i j) (hg : g i j = .int k) : EvD K (tOp (rI C g) ta tb) σ H (.int k) := fun H1 s1 Q q =>
  ha H1 s1 _ fun x H2 s2 hx => hb H2 (s1.trans s2) _ fun y H3 s3 hy => by
    cases dp_i hx
    cases dp_i hy
    exact ⟨i, j, rfl, rfl, hc, q _ H3 (s2.trans s3) (by rw [hg]; exact .int k)⟩
theorem evd_neg (ha : EvD K ta σ H (.int i)) : EvD K (tUn (rU fun i => .int (-i)) ta) σ H (.int (-i)) := fun H1 s1 Q q => ha H1 s1 _ fun x H2 s2 hx => by
  cases dp_i hx
  exact ⟨i, rfl, q _ H2 s2 (.int _)⟩
theorem evds_nil : EvDs K tNil σ H [] := fun H1 _ Q q => q [] H1 (L2.Same.refl H1) .nil
theorem evds_cons (h : EvD K te σ H d) (hr : EvDs K tr σ H ds) : EvDs K (tCons te tr) σ H (d :: ds) := fun H1 s1 Q q =>
  h H1 s1 _ fun x H2 s2 hx => hr H2 (s1.trans s2) _ fun xs H3 s3 hxs => q _ H3 (s2.trans s3) (.cons (Dp.go s3 hx) hxs)
theorem evd_tup (h : EvDs K tr σ H ds) (hl : ds.length ≤ 100000) : EvD K (tTup tr) σ H (.tuple ds) := fun H1 s1 Q q =>
  h H1 s1 _ fun xs H2 s2 hxs => g_tupK (by rw [dpAll_len hxs]; exact sz hl) fun p H3 np s3 e => q _ H3 (s2.trans s3) (.tup (SqT.of e) (DpAll.go s3 hxs))
theorem evn_lst (h : EvDs K tr σ H ds) (hl : ds.length ≤ 100000) : EvN K (tLst tr) σ H ds := fun H1 s1 Q q =>
  h H1 s1 _ fun xs H2 s2 hxs => g_lstK (by rw [dpAll_len hxs]; exact sz hl) fun p H3 np s3 e => q p xs H3 (s2.free np) (s2.trans s3) e (DpAll.go s3 hxs)
theorem dpAll_at {xs : List V} (h : DpAll K H xs ds) {n : Nat} (hd : ds[n]? = some d) : ∃ x, xs[n]? = some x ∧ Dp K H x d := by
  have hl := dpAll_len h
  have hn := (List.getElem?_eq_some_iff.mp hd).1
  obtain ⟨d', e1, e2⟩ := dpAll_get h n xs[n] (List.getElem?_eq_getElem (by omega))
  rw [hd] at e1
  cases Option.some.inj e1
  exact ⟨_, List.getElem?_eq_getElem (by omega), e2⟩
theorem evd_ixT (h : EvD K ta σ H (.tuple ds)) (hi : EvD K tb σ H (.int i)) (h0 : 0 ≤ i) (hd : ds[i.toNat]? = some d) : EvD K (tOp (rIxT K) ta tb) σ H d := fun H1 s1 Q q =>
  h H1 s1 _ fun x H2 s2 hx => hi H2 (s1.trans s2) _ fun y H3 s3 hy => by
    cases dp_i hy
    obtain ⟨a, xs, rfl, hs, hxs⟩ := dp_tuple (Dp.go s3 hx)
    obtain ⟨x, e1, e2⟩ := dpAll_at hxs hd
    have ei : i = ((i.toNat : Nat) : Int) := by omega
    exact ⟨a, xs, i, x, rfl, rfl, hs, (by rw [ei]; exact atI_nat e1), q x H3 (s2.trans s3) e2⟩
theorem dp_list {x : V} (h : Dp K H x (.list ds)) : ∃ a xs, x = .ref a ∧ SqL K H a xs ∧ DpAll K H xs ds := by
  cases h with
  | lst h r => exact ⟨_, _, rfl, h, r⟩
theorem evd_ixL (h : EvD K ta σ H (.list ds)) (hi : EvD K tb σ H (.int i)) (h0 : 0 ≤ i) (hd : ds[i.toNat]? = some d) : EvD K (tOp (rIxL K) ta tb) σ H d := fun H1 s1 Q q =>
  h H1 s1 _ fun x H2 s2 hx => hi H2 (s1.trans s2) _ fun y H3 s3 hy => by
    cases dp_i hy
    obtain ⟨a, xs, rfl, hs, hxs⟩ := dp_list (Dp.go s3 hx)
    obtain ⟨x, e1, e2⟩ := dpAll_at hxs hd
    have ei : i = ((i.toNat : Nat) : Int) := by omega
    exact ⟨a, xs, i, x, rfl, rfl, hs, (by rw [ei]; exact atI_nat e1), q x H3 (s2.trans s3) e2⟩
theorem dpAll_app : ∀ {xs ys : List V} {ds es : List PyData}, DpAll K H xs ds → DpAll K H ys es → DpAll K H (xs ++ ys) (ds ++ es)
  | _, _, _, _, .nil, h => h
  | _, _, _, _, .cons a r, h => .cons a (dpAll_app r h)
theorem evn_cat (ha : EvN K ta σ H ds) (hb : EvN K tb σ H es) (hl : ds.length + es.length ≤ 100000) : EvN K (tOp rCat ta tb) σ H (ds ++ es) := fun H1 s1 Q q =>
  ha H1 s1 _ fun p xs H2 np s2 e1 h1 => hb H2 (s1.trans s2) _ fun r ys H3 nr s3 e2 h2 =>
    ⟨p, r, xs, ys, rfl, rfl, s3 _ _ e1, e2, by rw [dpAll_len h1, dpAll_len h2]; exact sz hl, fun t nt =>
      q t (xs ++ ys) _ ((s2.trans s3).free nt) ((s2.trans s3).trans (Same.new nt _)) upd_same (DpAll.go (Same.new nt _) (dpAll_app (DpAll.go s3 h1) h2))⟩
/-- a list that stands: x + [..] wants its very object -/
theorem evn_v {n : Nat} {p : Addr} {xs : List V} (h : σ[n]? = some (some (.ref p))) (hp : H p = some (.lst xs)) (hd : DpAll K H xs ds) {tb : TE} (hb : EvN K tb σ H es) (hl : ds.length + es.length ≤ 100000) : EvN K (tOp rCat (tVar n) tb) σ H (ds ++ es) := fun H1 s1 Q q =>
  ⟨_, h, hb H1 s1 _ fun r ys H3 nr s3 e2 h2 =>
    ⟨p, r, xs, ys, rfl, rfl, s3 _ _ (s1 _ _ hp), e2, by rw [dpAll_len hd, dpAll_len h2]; exact sz hl, fun t nt =>
      q t (xs ++ ys) _ (s3.free nt) (s3.trans (Same.new nt _)) upd_same (DpAll.go (Same.new nt _) (dpAll_app (DpAll.go (s1.trans s3) hd) h2))⟩⟩
theorem evo_none : EvO K tNoPart σ H none := fun H1 _ Q q => q H1 (L2.Same.refl H1)
theorem evo_some (h : EvD K te σ H (.int i)) : EvO K (tPart te) σ H (some i) := fun H1 s1 Q q => h H1 s1 _ fun x H2 s2 hx => by
  cases dp_i hx
  exact ⟨i, rfl, q H2 s2⟩
theorem evn_slTo {th : TO} (h : EvD K te σ H (.list ds)) (hi : EvO K th σ H (some i)) (h0 : 0 ≤ i) : EvN K (tSl (rSlL K) te tNoPart th) σ H (ds.take i.toNat) := fun H1 s1 Q q =>
  h H1 s1 _ fun x H2 s2 hx => hi H2 (s1.trans s2) _ fun H3 s3 => by
    obtain ⟨a, xs, rfl, hs, hxs⟩ := dp_list (Dp.go s3 hx)
    refine ⟨a, xs, rfl, hs, fun p np => q p (xs.take i.toNat) _ ((s2.trans s3).free np) ((s2.trans s3).trans (Same.new np _)) ?_ (DpAll.go (Same.new np _) (dpAll_take _ hxs))⟩
    rw [show i = ((i.toNat : Nat) : Int) by omega, cut_to, Int.toNat_natCast]
    exact upd_same
theorem evn_slFrom {tl : TO} (h : EvD K te σ H (.list ds)) (hi : EvO K tl σ H (some i)) (h0 : 0 ≤ i) : EvN K (tSl (rSlL K) te tl tNoPart) σ H (ds.drop i.toNat) := fun H1 s1 Q q =>
  h H1 s1 _ fun x H2 s2 hx => hi H2 (s1.trans s2) _ fun H3 s3 => by
    obtain ⟨a, xs, rfl, hs, hxs⟩ := dp_list (Dp.go s3 hx)
    refine ⟨a, xs, rfl, hs, fun p np => q p (xs.drop i.toNat) _ ((s2.trans s3).free np) ((s2.trans s3).trans (Same.new np _)) ?_ (DpAll.go (Same.new np _) (dpAll_drop _ hxs))⟩
    rw [show i = ((i.toNat : Nat) : Int) by omega, cut_from, Int.toNat_natCast]
    exact upd_same
theorem evn_listL (h : EvD K te σ H (.list ds)) : EvN K (tCB (rList K) (tCons te tNil)) σ H ds := fun H1 s1 Q q => h H1 s1 _ fun x H2 s2 hx => by
  obtain ⟨a, xs, rfl, hs, hxs⟩ := dp_list hx
  exact ⟨a, xs, rfl, .inl hs, fun p np => q p xs _ (s2.free np) (s2.trans (Same.new np _)) upd_same (DpAll.go (Same.new np _) hxs)⟩
theorem evn_listT (h : EvD K te σ H (.tuple ds)) : EvN K (tCB (rList K) (tCons te tNil)) σ H ds := fun H1 s1 Q q => h H1 s1 _ fun x H2 s2 hx => by
  obtain ⟨a, xs, rfl, hs, hxs⟩ := dp_tuple hx
  exact ⟨a, xs, rfl, .inr hs, fun p np => q p xs _ (s2.free np) (s2.trans (Same.new np _)) upd_same (DpAll.go (Same.new np _) hxs)⟩
theorem evd_tupleL (h : EvD K te σ H (.list ds)) : EvD K (tCB (rTuple K) (tCons te tNil)) σ H (.tuple ds) := fun H1 s1 Q q => h H1 s1 _ fun x H2 s2 hx => by
  obtain ⟨a, xs, rfl, hs, hxs⟩ := dp_list hx
  exact ⟨a, xs, rfl, .inl ⟨hs, fun p np => q _ _ (s2.trans (Same.new np _)) (.tup (SqT.of upd_same) (DpAll.go (Same.new np _) hxs))⟩⟩
theorem evd_tupleT (h : EvD K te σ H (.tuple ds)) : EvD K (tCB (rTuple K) (tCons te tNil)) σ H (.tuple ds) := fun H1 s1 Q q => h H1 s1 _ fun x H2 s2 hx => by
  obtain ⟨a, xs, rfl, hs, hxs⟩ := dp_tuple hx
  exact ⟨a, xs, rfl, .inr ⟨hs, q _ _ s2 (.tup hs hxs)⟩⟩
theorem evd_strI (h : EvD K te σ H (.int i)) (hl : i.natAbs.log2 < 1920) : EvD K (tCB rStrI (tCons te tNil)) σ H (.str (toString i)) := fun H1 s1 Q q => h H1 s1 _ fun x H2 s2 hx => by
  cases dp_i hx
  exact ⟨i, rfl, hl, q _ H2 s2 (.str _)⟩
theorem evd_addS {a b : Str} (ha : EvD K ta σ H (.str a)) (hb : EvD K tb σ H (.str b)) (hl : a.length + b.length ≤ 100000) : EvD K (tOp rAddS ta tb) σ H (.str (a ++ b)) := fun H1 s1 Q q =>
  ha H1 s1 _ fun x H2 s2 hx => hb H2 (s1.trans s2) _ fun y H3 s3 hy => by
    cases dp_str hx
    cases dp_str hy
    exact ⟨a, b, rfl, rfl, sz hl, q _ H3 (s2.trans s3) (.str _)⟩
/-- data behind items that each read as something -/
theorem exists_data : ∀ {ys : List V} {R : Nat → V → PyData → Prop}, (∀ (i : Nat) y, ys[i]? = some y → ∃ d, R i y d) → ∃ ds : List PyData, ds.length = ys.length ∧ ∀ (i : Nat) y d, ys[i]? = some y → ds[i]? = some d → R i y d
  | [], R, _ => ⟨[], rfl, fun i y d h => nomatch h⟩
  | y :: ys, R, h => by
    obtain ⟨d, hd⟩ := h 0 y rfl
    obtain ⟨ds, hl, hr⟩ := exists_data (ys := ys) (R := fun i => R (i + 1)) fun i z hz => h (i + 1) z (by simpa using hz)
    refine ⟨d :: ds, by simp [hl], fun i z e h1 h2 => ?_⟩
    cases i with
    | zero =>
      cases Option.some.inj h1
      cases Option.some.inj h2
      exact hd
    | succ i => exact hr i z e (by simpa using h1) (by simpa using h2)
end
end My
namespace My
open PySem L2
section
variable {K : PySem.W.Frag} {σ : L2.St} {H : Hp} {te : TE} {d : PyData} {ds : List PyData} {D : Ends} {u : TS} {i : Nat} {Q : VK}
theorem evn_asg (h : EvN K te σ H ds) (k : ∀ p xs H1, H p = none → Same H H1 → H1 p = some (.lst xs) → DpAll K H1 xs ds → u D (σ.set i (some (.ref p))) H1) : tSeq (tAsg te (gName i)) u D σ H := h H (L2.Same.refl H) _ k
theorem evd_asg (h : EvD K te σ H d) (k : ∀ x H1, Same H H1 → Dp K H1 x d → u D (σ.set i (some x)) H1) : tSeq (tAsg te (gName i)) u D σ H := h H (L2.Same.refl H) _ k
theorem evn_ret (h : EvN K te σ H ds) (k : ∀ p xs H1, H p = none → Same H H1 → H1 p = some (.lst xs) → DpAll K H1 xs ds → D.rt (.ref p) H1) : tRet te D σ H := h H (L2.Same.refl H) _ k
theorem evd_ret (h : EvD K te σ H d) (k : ∀ x H1, Same H H1 → Dp K H1 x d → D.rt x H1) : tRet te D σ H := h H (L2.Same.refl H) _ k
theorem evd_to (h : EvD K te σ H d) (k : ∀ x H1, Same H H1 → Dp K H1 x d → Q x H1) : te σ H Q := h H (L2.Same.refl H) _ k
end
theorem held_no {w : Str} {h : PyData} (h1 : isValD h = false) (h2 : isNumD h = false) : heldD w h = false := by
  unfold heldD
  split <;> assumption
theorem all_mid {as bs : List PyData} {x : PyData} {p : PyData → Bool} (h : p x = false) : ((as ++ [x]) ++ bs).all p = false := by
  rw [List.all_append, List.all_append, List.all_cons, h, Bool.false_and, Bool.and_false, Bool.false_and]
theorem rises_mid {as bs : List PyData} {x y : PyData} (h : ¬ keyD x < keyD y) : risesI (((as ++ [x, y]) ++ bs).map keyD) = false := by
  rw [List.map_append, List.map_append, List.append_assoc]
  exact rises_not h
theorem log_small {k : Int} (h1 : -(2 ^ 300) < k) (h2 : k < 2 ^ 300) : k.natAbs.log2 < 1920 :=
  Nat.lt_of_lt_of_le (PySem.Flt.log2_lt_of (k := 300) (by decide) (by omega)) (by decide)
end My
namespace My
open PySem L2
section
variable {σ : L2.St} {H : Hp} {D : Ends} {t u : TS} {c : TT}
theorem g_ifP (P1 P2 : Prop) (hc : ∀ QB : Bool → Hp → Prop, (P1 → QB true H) → (P2 → QB false H) → c σ H QB) (h1 : P1 → t D σ H) (h2 : P2 → u D σ H) : tIfS c t u D σ H := hc _ (fun p => h1 p) (fun p => h2 p)
end
end My

set_option Elab.async false
set_option linter.all false
set_option maxRecDepth 100000
set_option maxHeartbeats 1000000
/-! dicts: their steps, their data, == and != -/
namespace My
open PySem L2
/-! ### named relations -/
section
variable {X : Cx}
def rDictD : List V → Hp → VK → Prop := fun us H Q => ∃ (d : Addr) (m : List (Key × V)), us = [.ref d] ∧ Rd H d (.dK m) ∧ ∀ p, H p = none → Q (.ref p) (upd H p (.dK m))
theorem my_dictD : CallR X (.type "dict") rDictD := call_dictD
def rListD : List V → Hp → VK → Prop := fun us H Q => ∃ (d : Addr) (m : List (Key × V)), us = [.ref d] ∧ Rd H d (.dK m) ∧ ∀ p, H p = none → Q (.ref p) (upd H p (.lst (m.map fun kv => kV kv.1)))
theorem my_listD (hc : X.calm = true) : CallR X (.type "list") rListD := call_listD hc
def rLenD : List V → Hp → VK → Prop := fun us H Q => ∃ (d : Addr) (m : List (Key × V)), us = [.ref d] ∧ Rd H d (.dK m) ∧ Q (.int m.length) H
theorem my_lenD : CallR X (.builtin "len") rLenD := by
  intro pins s σ H xs us Q I r h
  obtain ⟨d, m, rfl, hd, q⟩ := h
  cases r with
  | cons r0 r1 =>
    cases r1
    cases (show _ = Value.ref d from r0)
    exact d_len I hd fun t s' I' => ⟨.int _, H, I', ⟨_, rfl⟩, q⟩
/-- text * int -/
def repS (z : Str) (n : Nat) : Str := ⟨(List.replicate n z.cps.toList).flatten.toArray⟩
theorem repS_toList (z : Str) (n : Nat) : (repS z n).cps.toList = (List.replicate n z.cps.toList).flatten := rfl
theorem repS_len (z : Str) (n : Nat) : (repS z n).length = n * z.length := by
  rw [str_len, repS_toList, str_len, List.length_flatten, List.map_replicate, List.sum_replicate_nat]
def rMulS : R2 := fun x y H Q => ∃ (z : Str) (n : Int), x = .str z ∧ y = .int n ∧ 0 ≤ n ∧ n ≤ 1000 ∧ z.length ≤ 1000 ∧ Q (.str (repS z n.toNat)) H
theorem fold_app (z : Array Nat) : ∀ (n : Nat) (acc : Array Nat), ((List.replicate n z).foldl (· ++ ·) acc).toList = acc.toList ++ (List.replicate n z.toList).flatten
  | 0, acc => by simp
  | n + 1, acc => by
    rw [List.replicate_succ, List.foldl_cons, fold_app z n, Array.toList_append, List.replicate_succ, List.flatten_cons, List.append_assoc]
theorem op_mulS : OpR X (binaryOp .Mult) rMulS := by
  intro pins s σ H x y v u Q I rx ry h
  obtain ⟨z, n, rfl, rfl, h0, h1, hz, q⟩ := h
  obtain ⟨t, rfl⟩ := (show ∃ t, v = Value.str z t from rx)
  obtain ⟨t', rfl⟩ := (show ∃ t, u = Value.int n t from ry)
  have hlen : z.length * n.toNat ≤ 1000000 := Nat.mul_le_mul hz (show n.toNat ≤ 1000 by omega)
  have fin : ∀ (y : Str) (tk : Tok) (k : Nat), y = repS z n.toNat → EP X pins σ Q (.str y tk) { s with toks := k } := fun y tk k e => ⟨.str y, H, I.tok k, ⟨tk, rfl⟩, by rw [e]; exact q⟩
  refine P.mul_str (by rw [decide_eq_false (by omega), decide_eq_false (by omega)]; rfl) (fun h2 _ h3 => ?_) (fun h2 h3 => ?_) ?_
  · have hn : 0 < n := by omega
    have : (2 ^ 63 - 1 : Int) / 1000 ≤ (2 ^ 63 - 1) / n := Int.le_ediv_of_mul_le hn (by have := Int.mul_le_mul_of_nonneg_left h1 (show (0:Int) ≤ (2^63-1)/1000 by decide); omega)
    omega
  · unfold Builtin.Str.tooLong
    exact decide_eq_false (by have : sizeLine = 16777216 := sizeLine_eq; omega)
  · by_cases c1 : n < 1
    · rw [if_pos c1]
      refine ⟨by decide, fin _ _ _ ?_⟩
      have e0 : n.toNat = 0 := by omega
      rw [e0]
      rfl
    · rw [if_neg c1]
      by_cases c2 : (n == 1 || z.length == 0) = true
      · rw [if_pos c2]
        refine fin z t s.toks ?_
        refine str_ext ?_
        rw [repS_toList]
        rcases Bool.or_eq_true_iff.mp c2 with c | c
        · have e1 : n = 1 := of_decide_eq_true c
          subst e1
          simp
        · have e1 : z.cps.toList = [] := by
            have := of_decide_eq_true c
            rw [str_len] at this
            exact List.length_eq_zero_iff.mp this
          rw [e1]
          simp
      · rw [if_neg c2]
        refine ⟨?_, fin _ _ _ (str_ext ?_)⟩
        · have e : (⟨List.foldl (fun x1 x2 => x1 ++ x2) #[] (List.replicate n.toNat z.cps)⟩ : Str) = repS z n.toNat := str_ext (by rw [repS_toList, fold_app]; rfl)
          rw [e, repS_len, sizeLine_eq, Nat.mul_comm]
          omega
        · rw [repS_toList, fold_app]
          rfl
end
section
variable {H : Hp} {Q : VK} {d : Addr} {m : List (Key × V)}
theorem g_mulS {z : Str} {n : Int} (h0 : 0 ≤ n) (h1 : n ≤ 1000) (hz : z.length ≤ 1000) (q : Q (.str (repS z n.toNat)) H) : rMulS (.str z) (.int n) H Q := ⟨z, n, rfl, rfl, h0, h1, hz, q⟩
theorem g_dictD (h : Rd H d (.dK m)) (q : ∀ p H1, H p = none → Same H H1 → H1 p = some (.dK m) → Q (.ref p) H1) : rDictD [.ref d] H Q := ⟨d, m, rfl, h, fun p hp => q p _ hp (Same.new hp _) upd_same⟩
theorem g_listD (h : Rd H d (.dK m)) (q : ∀ p H1, H p = none → Same H H1 → H1 p = some (.lst (m.map fun kv => kV kv.1)) → Q (.ref p) H1) : rListD [.ref d] H Q := ⟨d, m, rfl, h, fun p hp => q p _ hp (Same.new hp _) upd_same⟩
theorem g_lenD (h : Rd H d (.dK m)) (q : Q (.int m.length) H) : rLenD [.ref d] H Q := ⟨d, m, rfl, h, q⟩
end
end My

set_option Elab.async false
set_option linter.all false
set_option maxRecDepth 100000
set_option maxHeartbeats 1000000
/-! tables by whole numbers, and dicts of data -/
namespace My
open PySem L2
/-! ### tables -/
section
variable {β : Type}
def getA (m : List (Int × β)) (k : Int) : Option β := (m.find? fun p => decide (p.1 = k)).map (·.2)
def putA (m : List (Int × β)) (k : Int) (v : β) : List (Int × β) := if (m.any fun p => decide (p.1 = k)) = true then m.map (fun p => if p.1 = k then (p.1, v) else p) else m ++ [(k, v)]
def dropA (m : List (Int × β)) (k : Int) : List (Int × β) := m.filter fun p => decide (p.1 ≠ k)
def keysA (m : List (Int × β)) : List Int := m.map (·.1)
theorem getA_nil {k : Int} : getA ([] : List (Int × β)) k = none := rfl
theorem getA_cons {p : Int × β} {m : List (Int × β)} {k : Int} : getA (p :: m) k = if p.1 = k then some p.2 else getA m k := by
  by_cases e : p.1 = k
  · simp [getA, List.find?_cons, e]
  · simp [getA, List.find?_cons, e]
theorem getA_app {m n : List (Int × β)} {k : Int} : getA (m ++ n) k = (getA m k).or (getA n k) := by
  induction m with
  | nil => simp [getA_nil]
  | cons p m ih =>
    rw [List.cons_append, getA_cons, getA_cons, ih]
    split <;> simp
theorem any_getA {m : List (Int × β)} {k : Int} : (m.any fun p => decide (p.1 = k)) = (getA m k).isSome := by
  induction m with
  | nil => rfl
  | cons p m ih =>
    rw [List.any_cons, getA_cons, ih]
    by_cases e : p.1 = k
    · rw [if_pos e, decide_eq_true e]; rfl
    · rw [if_neg e, decide_eq_false e]; rfl
theorem getA_map {m : List (Int × β)} {k j : Int} {v : β} : getA (m.map fun p => if p.1 = k then (p.1, v) else p) j = (getA m j).map fun x => if j = k then v else x := by
  induction m with
  | nil => rfl
  | cons p m ih =>
    rw [List.map_cons, getA_cons, getA_cons, ih]
    by_cases e : p.1 = k
    · rw [if_pos e]
      by_cases e2 : p.1 = j
      · rw [if_pos e2, if_pos e2]
        simp [← e2, e]
      · rw [if_neg e2, if_neg e2]
    · rw [if_neg e]
      by_cases e2 : p.1 = j
      · rw [if_pos e2, if_pos e2]
        simp [← e2, e]
      · rw [if_neg e2, if_neg e2]
theorem getA_put (m : List (Int × β)) (k j : Int) (v : β) : getA (putA m k v) j = if j = k then some v else getA m j := by
  unfold putA
  rw [any_getA]
  by_cases h : (getA m k).isSome = true
  · rw [if_pos h, getA_map]
    by_cases e : j = k
    · subst e
      obtain ⟨x, hx⟩ := Option.isSome_iff_exists.mp h
      rw [hx, if_pos rfl]
      simp
    · rw [if_neg e]
      cases getA m j <;> simp [e]
  · rw [if_neg h, getA_app, getA_cons, getA_nil]
    have hn : getA m k = none := by cases e : getA m k with
      | none => rfl
      | some x => rw [e] at h; exact absurd rfl h
    by_cases e : j = k
    · subst e
      rw [hn, if_pos rfl]
      simp
    · rw [if_neg e, if_neg (fun z => e z.symm)]
      cases getA m j <;> rfl
theorem getA_drop (m : List (Int × β)) (k j : Int) : getA (dropA m k) j = if j = k then none else getA m j := by
  unfold dropA
  induction m with
  | nil => simp [getA_nil]
  | cons p m ih =>
    rw [List.filter_cons]
    by_cases e : p.1 = k
    · rw [if_neg (by simp [e]), ih, getA_cons]
      by_cases e2 : j = k
      · rw [if_pos e2, if_pos e2]
      · rw [if_neg e2, if_neg e2, if_neg (fun z => e2 (by rw [← z, e]))]
    · rw [if_pos (by simp [e]), getA_cons, getA_cons, ih]
      by_cases e2 : p.1 = j
      · rw [if_pos e2, if_pos e2, if_neg (fun z => e (by rw [e2, z]))]
      · rw [if_neg e2, if_neg e2]
theorem getA_mem {m : List (Int × β)} {k : Int} {v : β} (h : getA m k = some v) : (k, v) ∈ m := by
  induction m with
  | nil => cases h
  | cons p m ih =>
    rw [getA_cons] at h
    by_cases e : p.1 = k
    · rw [if_pos e] at h
      cases Option.some.inj h
      rw [← e]
      exact List.mem_cons_self
    · rw [if_neg e] at h
      exact List.mem_cons_of_mem _ (ih h)
theorem mem_keysA {m : List (Int × β)} {k : Int} : k ∈ keysA m ↔ (getA m k).isSome = true := by
  rw [← any_getA, List.any_eq_true]
  unfold keysA
  rw [List.mem_map]
  constructor
  · rintro ⟨p, hp, e⟩
    exact ⟨p, hp, decide_eq_true e⟩
  · rintro ⟨p, hp, e⟩
    exact ⟨p, hp, of_decide_eq_true e⟩
theorem getA_of_mem {m : List (Int × β)} (nd : (keysA m).Nodup) {p : Int × β} (h : p ∈ m) : getA m p.1 = some p.2 := by
  induction m with
  | nil => cases h
  | cons q m ih =>
    unfold keysA at nd
    rw [List.map_cons, List.nodup_cons] at nd
    rw [getA_cons]
    rcases List.mem_cons.mp h with e | e
    · rw [e, if_pos rfl]
    · rw [if_neg (fun z => nd.1 (List.mem_map.mpr ⟨p, e, z.symm⟩)), ih nd.2 e]
theorem keysA_map {m : List (Int × β)} {k : Int} {v : β} : keysA (m.map fun p => if p.1 = k then (p.1, v) else p) = keysA m := by
  unfold keysA
  rw [List.map_map]
  refine List.map_congr_left fun p _ => ?_
  show (if p.1 = k then (p.1, v) else p).1 = p.1
  split <;> rfl
theorem keysA_put {m : List (Int × β)} {k : Int} {v : β} : keysA (putA m k v) = if (getA m k).isSome = true then keysA m else keysA m ++ [k] := by
  unfold putA
  rw [any_getA]
  split
  · exact keysA_map
  · unfold keysA
    rw [List.map_append]
    rfl
theorem nodup_snoc {l : List Int} {k : Int} (nd : l.Nodup) (h : k ∉ l) : (l ++ [k]).Nodup := by
  rw [List.nodup_append]
  refine ⟨nd, by simp, fun a ha b hb e => ?_⟩
  rw [List.mem_singleton.mp hb] at e
  exact h (e ▸ ha)
theorem nodup_put {m : List (Int × β)} {k : Int} {v : β} (nd : (keysA m).Nodup) : (keysA (putA m k v)).Nodup := by
  rw [keysA_put]
  split
  · exact nd
  · rename_i h
    exact nodup_snoc nd fun z => h (mem_keysA.mp z)
theorem nodup_drop {m : List (Int × β)} {k : Int} (nd : (keysA m).Nodup) : (keysA (dropA m k)).Nodup :=
  List.Nodup.sublist (List.Sublist.map _ List.filter_sublist) nd
theorem length_put {m : List (Int × β)} {k : Int} {v : β} : (putA m k v).length ≤ m.length + 1 := by
  unfold putA
  split
  · rw [List.length_map]; omega
  · rw [List.length_append, List.length_singleton]; omega
theorem length_drop {m : List (Int × β)} {k : Int} : (dropA m k).length ≤ m.length := List.length_filter_le _ _
theorem all_put {P : Int × β → Prop} {m : List (Int × β)} {k : Int} {v : β} (h : ∀ p ∈ m, P p) (hv : P (k, v)) : ∀ p ∈ putA m k v, P p := by
  intro p hp
  unfold putA at hp
  split at hp
  · obtain ⟨q, hq, e⟩ := List.mem_map.mp hp
    by_cases c : q.1 = k
    · rw [if_pos c, c] at e
      exact e ▸ hv
    · rw [if_neg c] at e
      exact e ▸ h q hq
  · rcases List.mem_append.mp hp with hp | hp
    · exact h p hp
    · rw [List.mem_singleton.mp hp]
      exact hv
theorem all_drop {P : Int × β → Prop} {m : List (Int × β)} {k : Int} (h : ∀ p ∈ m, P p) : ∀ p ∈ dropA m k, P p := fun p hp => h p (List.mem_filter.mp hp).1
/-- the same number of keys where the same keys stand -/
theorem length_of_get {m n : List (Int × β)} (hm : (keysA m).Nodup) (hn : (keysA n).Nodup) (h : ∀ k, (getA m k).isSome = (getA n k).isSome) : m.length = n.length := by
  have p : (keysA m).Perm (keysA n) := (List.perm_ext_iff_of_nodup hm hn).mpr fun k => by rw [mem_keysA, mem_keysA, h]
  have := p.length_eq
  unfold keysA at this
  rwa [List.length_map, List.length_map] at this
end
/-! ### strict data: no truths, no lists: == is being the same -/
mutual
def strictD : PyData → Bool
  | .none => true
  | .int _ => true
  | .str z => PyData.strOk z
  | .tuple xs => strictAll xs
  | .bool _ => false
  | .list _ => false
  | .dict _ => false
def strictAll : List PyData → Bool
  | [] => true
  | x :: xs => strictD x && strictAll xs
end
mutual
theorem eqv_strict : ∀ {d e : PyData}, strictD d = true → strictD e = true → (PyData.eqv d e = true ↔ d = e)
  | .none, e, _, _ => by cases e <;> simp [PyData.eqv]
  | .int i, e, _, h => by cases e <;> simp [PyData.eqv, strictD] at h ⊢
  | .str i, e, _, h => by cases e <;> simp [PyData.eqv, strictD] at h ⊢
  | .tuple xs, e, h1, h => by
    cases e <;> simp [PyData.eqv, strictD] at h h1 ⊢
    exact eqvAll_strict h1 h
  | .bool _, _, h, _ => by simp [strictD] at h
  | .list _, _, h, _ => by simp [strictD] at h
  | .dict _, _, h, _ => by simp [strictD] at h
theorem eqvAll_strict : ∀ {ds es : List PyData}, strictAll ds = true → strictAll es = true → (PyData.eqvAll ds es = true ↔ ds = es)
  | [], [], _, _ => by simp [PyData.eqvAll]
  | [], _ :: _, _, _ => by simp [PyData.eqvAll]
  | _ :: _, [], _, _ => by simp [PyData.eqvAll]
  | d :: ds, e :: es, h1, h2 => by
    simp [strictAll] at h1 h2
    have a := eqv_strict h1.1 h2.1
    have b := eqvAll_strict h1.2 h2.2
    simp [PyData.eqvAll, a, b]
end
mutual
theorem strict_lay : ∀ {d : PyData}, strictD d = true → PyData.canLay0 d = true
  | .none, _ => by simp [PyData.canLay0]
  | .int _, _ => by simp [PyData.canLay0]
  | .str _, h => by simpa [PyData.canLay0, strictD] using h
  | .tuple xs, h => by
    simp only [PyData.canLay0]
    exact strictAll_lay (by simpa [strictD] using h)
  | .bool _, h => by simp [strictD] at h
  | .list _, h => by simp [strictD] at h
  | .dict _, h => by simp [strictD] at h
theorem strictAll_lay : ∀ {ds : List PyData}, strictAll ds = true → PyData.canLayAll0 ds = true
  | [], _ => by simp [PyData.canLayAll0]
  | d :: ds, h => by
    simp [strictAll] at h
    simp [PyData.canLayAll0, strict_lay h.1, strictAll_lay h.2]
end
theorem strictAll_iff : ∀ {ds : List PyData}, strictAll ds = true ↔ ∀ d ∈ ds, strictD d = true
  | [] => by simp [strictAll]
  | d :: ds => by simp [strictAll, strictAll_iff (ds := ds)]
/-! ### what moves from heap to heap -/
def Keep (P : HO → Prop) (H H' : Hp) : Prop := ∀ b o, P o → H b = some o → H' b = some o
/-- what never changes -/
def fixO : HO → Prop
  | .tup _ => True
  | .frz _ _ => True
  | _ => False
theorem Keep.of {P : HO → Prop} {H H' : Hp} (e : Same H H') : Keep P H H' := fun b o _ h => e b o h
theorem Keep.refl {P : HO → Prop} (H : Hp) : Keep P H H := fun _ _ _ h => h
theorem Keep.trans {P : HO → Prop} {H H1 H2 : Hp} (a : Keep P H H1) (b : Keep P H1 H2) : Keep P H H2 := fun c o p h => b c o p (a c o p h)
theorem Keep.upd {P : HO → Prop} {H : Hp} {a : Addr} {o u : HO} (h : H a = some o) (hp : ¬ P o) : Keep P H (upd H a u) := fun b v p e => by
  rw [upd_ne]
  · exact e
  · rintro rfl
    rw [h] at e
    cases Option.some.inj e
    exact hp p
theorem keep_seqT {P : HO → Prop} (h1 : ∀ xs, P (.tup xs)) (h2 : ∀ o u, P (.frz o u)) {K : PySem.W.Frag} {H H' : Hp} (e : Keep P H H') {a : Addr} {xs : List V} (h : SqT K H a xs) : SqT K H' a xs := by
  rcases h with (h | ⟨o, h⟩) | h
  · exact .inl (.inl (e _ _ (h1 _) h))
  · exact .inl (.inr ⟨o, e _ _ (h2 _ _) h⟩)
  · exact .inr h
theorem keep_seqL {P : HO → Prop} (h1 : ∀ xs, P (.lst xs)) (h2 : ∀ o u, P (.frz o u)) {K : PySem.W.Frag} {H H' : Hp} (e : Keep P H H') {a : Addr} {xs : List V} (h : SqL K H a xs) : SqL K H' a xs := by
  rcases h with (h | ⟨o, h⟩) | h
  · exact .inl (.inl (e _ _ (h1 _) h))
  · exact .inl (.inr ⟨o, e _ _ (h2 _ _) h⟩)
  · exact .inr h
mutual
/-- data without a list goes along whatever leaves tuples -/
theorem Dp.keep {P : HO → Prop} (h1 : ∀ xs, P (.tup xs)) (h2 : ∀ o u, P (.frz o u)) {K : PySem.W.Frag} {H H' : Hp} (e : Keep P H H') : ∀ {v : V} {d : PyData}, Dp K H v d → strictD d = true → Dp K H' v d
  | _, _, .non, _ => .non
  | _, _, .bl b, _ => .bl b
  | _, _, .int i, _ => .int i
  | _, _, .str x, _ => .str x
  | _, _, .lst h r, s => by simp [strictD] at s
  | _, _, .tup h r, s => .tup (keep_seqT h1 h2 e h) (DpAll.keep h1 h2 e r (by simpa [strictD] using s))
theorem DpAll.keep {P : HO → Prop} (h1 : ∀ xs, P (.tup xs)) (h2 : ∀ o u, P (.frz o u)) {K : PySem.W.Frag} {H H' : Hp} (e : Keep P H H') : ∀ {vs : List V} {ds : List PyData}, DpAll K H vs ds → strictAll ds = true → DpAll K H' vs ds
  | _, _, .nil, _ => .nil
  | _, _, .cons h r, s => .cons (Dp.keep h1 h2 e h (by simp [strictAll] at s; exact s.1)) (DpAll.keep h1 h2 e r (by simp [strictAll] at s; exact s.2))
end
mutual
/-- any data goes along whatever leaves tuples and lists -/
theorem Dp.keepL {P : HO → Prop} (h0 : ∀ xs, P (.lst xs)) (h1 : ∀ xs, P (.tup xs)) (h2 : ∀ o u, P (.frz o u)) {K : PySem.W.Frag} {H H' : Hp} (e : Keep P H H') : ∀ {v : V} {d : PyData}, Dp K H v d → Dp K H' v d
  | _, _, .non => .non
  | _, _, .bl b => .bl b
  | _, _, .int i => .int i
  | _, _, .str x => .str x
  | _, _, .lst h r => .lst (keep_seqL h0 h2 e h) (DpAll.keepL h0 h1 h2 e r)
  | _, _, .tup h r => .tup (keep_seqT h1 h2 e h) (DpAll.keepL h0 h1 h2 e r)
theorem DpAll.keepL {P : HO → Prop} (h0 : ∀ xs, P (.lst xs)) (h1 : ∀ xs, P (.tup xs)) (h2 : ∀ o u, P (.frz o u)) {K : PySem.W.Frag} {H H' : Hp} (e : Keep P H H') : ∀ {vs : List V} {ds : List PyData}, DpAll K H vs ds → DpAll K H' vs ds
  | _, _, .nil => .nil
  | _, _, .cons h r => .cons (Dp.keepL h0 h1 h2 e h) (DpAll.keepL h0 h1 h2 e r)
end
/-! ### dicts of data -/
inductive DdAll (K : PySem.W.Frag) (H : Hp) : List (Key × V) → List (Int × PyData) → Prop
  | nil : DdAll K H [] []
  | cons {k : Int} {v : V} {d : PyData} {kvs : List (Key × V)} {m : List (Int × PyData)} : Dp K H v d → DdAll K H kvs m → DdAll K H ((.inl k, v) :: kvs) ((k, d) :: m)
def Dd (K : PySem.W.Frag) (H : Hp) (a : Addr) (m : List (Int × PyData)) : Prop := ∃ kvs, H a = some (.dK kvs) ∧ DdAll K H kvs m
section
variable {K : PySem.W.Frag} {H H' : Hp} {kvs : List (Key × V)} {m n : List (Int × PyData)} {k : Int} {v : V} {d : PyData} {a : Addr}
theorem DdAll.map (f : ∀ {v d}, Dp K H v d → (∃ k, (k, d) ∈ m) → Dp K H' v d) (h : DdAll K H kvs m) : DdAll K H' kvs m := by
  induction h with
  | nil => exact .nil
  | cons h r ih => exact .cons (f h ⟨_, List.mem_cons_self⟩) (ih fun h ⟨k, e⟩ => f h ⟨k, List.mem_cons_of_mem _ e⟩)
theorem DdAll.go (e : Same H H') (h : DdAll K H kvs m) : DdAll K H' kvs m := h.map fun h _ => Dp.go e h
theorem DdAll.len (h : DdAll K H kvs m) : kvs.length = m.length := by
  induction h with
  | nil => rfl
  | cons _ _ ih => rw [List.length_cons, List.length_cons, ih]
theorem DdAll.val (h : DdAll K H kvs m) (k : Int) : (getA m k = none ∧ valV kvs (.inl k) = none) ∨ ∃ v d, getA m k = some d ∧ valV kvs (.inl k) = some v ∧ Dp K H v d := by
  induction h with
  | nil => exact .inl ⟨rfl, rfl⟩
  | @cons j v d kvs m h r ih =>
    rw [getA_cons]
    by_cases e : j = k
    · rw [if_pos e, valV_pos (congrArg Sum.inl e)]
      exact .inr ⟨v, d, rfl, rfl, h⟩
    · rw [if_neg e, valV_neg (fun z => e (Sum.inl.inj z))]
      exact ih
theorem DdAll.isSome (h : DdAll K H kvs m) (k : Int) : (valV kvs (.inl k)).isSome = (getA m k).isSome := by
  rcases h.val k with ⟨e1, e2⟩ | ⟨v, d, e1, e2, _⟩ <;> rw [e1, e2] <;> rfl
theorem DdAll.app {kvs2 : List (Key × V)} (h : DdAll K H kvs m) (h2 : DdAll K H kvs2 n) : DdAll K H (kvs ++ kvs2) (m ++ n) := by
  induction h with
  | nil => exact h2
  | cons a b ih => exact .cons a ih
theorem DdAll.put (h : DdAll K H kvs m) (hd : Dp K H v d) : DdAll K H (putK kvs (.inl k) v) (putA m k d) := by
  unfold putK putA
  rw [valV_any, any_getA, h.isSome]
  split
  · rename_i c0
    clear c0
    induction h with
    | nil => exact .nil
    | @cons j w e kvs m a b ih =>
      rw [List.map_cons, List.map_cons]
      by_cases c : j = k
      · rw [if_pos (congrArg Sum.inl c), if_pos c]
        exact .cons hd ih
      · rw [if_neg (fun z => c (Sum.inl.inj z)), if_neg c]
        exact .cons a ih
  · exact h.app (.cons hd .nil)
theorem DdAll.drop (h : DdAll K H kvs m) : DdAll K H (dropK kvs (.inl k)) (dropA m k) := by
  unfold dropK dropA
  induction h with
  | nil => exact .nil
  | @cons j w e kvs m a b ih =>
    rw [List.filter_cons, List.filter_cons]
    by_cases c : j = k
    · rw [if_neg (by simp [c]), if_neg (by simp [c])]
      exact ih
    · rw [if_pos (by simp [c]), if_pos (by simp [c])]
      exact .cons a ih
theorem DdAll.keys (h : DdAll K H kvs m) : kvs.map (fun kv => kV kv.1) = (keysA m).map V.int := by
  induction h with
  | nil => rfl
  | cons a b ih =>
    unfold keysA at ih ⊢
    rw [List.map_cons, List.map_cons, List.map_cons, ih]
    rfl
theorem Dd.go (e : Same H H') (h : Dd K H a m) : Dd K H' a m := by
  obtain ⟨kvs, h1, h2⟩ := h
  exact ⟨kvs, e _ _ h1, h2.go e⟩
/-- objects but the one at a stand -/
def Oth (a : Addr) (H H' : Hp) : Prop := ∀ b o, b ≠ a → H b = some o → H' b = some o
theorem Oth.upd {o : HO} : Oth a H (upd H a o) := fun b u n e => by rw [upd_ne n]; exact e
theorem Oth.keep {P : HO → Prop} (e : Oth a H H') (h : ∀ o, P o → H a ≠ some o) : Keep P H H' := fun b o p hb => e b o (fun z => h o p (z ▸ hb)) hb
theorem Oth.same {H0 : Hp} (e : Oth a H H') (s : Same H0 H) (h : H0 a = none) : Same H0 H' := fun b o hb => e b o (ne_of_none hb h) (s b o hb)
theorem Oth.trans {H1 H2 : Hp} (e : Oth a H H1) (f : Oth a H1 H2) : Oth a H H2 := fun b o n h => f b o n (e b o n h)
theorem Oth.of (s : Same H H') : Oth a H H' := fun b o _ h => s b o h
def notD : HO → Prop
  | .dK _ => False
  | _ => True
def notM : HO → Prop
  | .dK _ => False
  | .lst _ => False
  | _ => True
theorem Dp.oth {kvs0 : List (Key × V)} (h0 : H a = some (.dK kvs0)) (e : Oth a H H') (h : Dp K H v d) : Dp K H' v d :=
  Dp.keepL (P := notD) (fun _ => trivial) (fun _ => trivial) (fun _ _ => trivial) (e.keep fun o p z => by rw [h0] at z; cases z; exact p) h
theorem DpAll.oth {kvs0 : List (Key × V)} {vs : List V} {ds : List PyData} (h0 : H a = some (.dK kvs0)) (e : Oth a H H') (h : DpAll K H vs ds) : DpAll K H' vs ds :=
  DpAll.keepL (P := notD) (fun _ => trivial) (fun _ => trivial) (fun _ _ => trivial) (e.keep fun o p z => by rw [h0] at z; cases z; exact p) h
theorem Dd.oth {kvs0 : List (Key × V)} {b : Addr} (h0 : H a = some (.dK kvs0)) (e : Oth a H H') (n : b ≠ a) (h : Dd K H b m) : Dd K H' b m := by
  obtain ⟨kvs, h1, h2⟩ := h
  exact ⟨kvs, e _ _ n h1, h2.map fun h _ => Dp.oth h0 e h⟩
/-- behind a list that changes -/
theorem Dp.othL {xs0 : List V} (h0 : H a = some (.lst xs0)) (e : Oth a H H') (s : strictD d = true) (h : Dp K H v d) : Dp K H' v d :=
  Dp.keep (P := fixO) (fun _ => trivial) (fun _ _ => trivial) (e.keep fun o p z => by rw [h0] at z; cases z; exact p) h s
theorem DpAll.othL {xs0 : List V} {vs : List V} {ds : List PyData} (h0 : H a = some (.lst xs0)) (e : Oth a H H') (s : strictAll ds = true) (h : DpAll K H vs ds) : DpAll K H' vs ds :=
  DpAll.keep (P := fixO) (fun _ => trivial) (fun _ _ => trivial) (e.keep fun o p z => by rw [h0] at z; cases z; exact p) h s
theorem Dd.othL {xs0 : List V} {b : Addr} (h0 : H a = some (.lst xs0)) (e : Oth a H H') (s : ∀ p ∈ m, strictD p.2 = true) (h : Dd K H b m) : Dd K H' b m := by
  obtain ⟨kvs, h1, h2⟩ := h
  exact ⟨kvs, e _ _ (ne_of h1 h0 (by intro z; cases z)) h1, h2.map fun h ⟨k, hk⟩ => Dp.othL h0 e (s _ hk) h⟩
end
/-! ### steps -/
section
variable {K : PySem.W.Frag} {σ : L2.St} {H : Hp} {Q : VK} {D : Ends} {m : List (Int × PyData)} {k : Int} {v x y : V} {d : PyData} {a : Addr} {td ty tv tx : TE} {N : Hp → Prop}
def rDGet : R2 := fun x y H Q => ∃ a v, x = .ref a ∧ DGet H a y (some v) ∧ Q v H
def rDIn : R2 := fun y x H Q => ∃ a o, x = .ref a ∧ DGet H a y o ∧ Q (.bl o.isSome) H
def rDNotIn : R2 := fun y x H Q => ∃ a o, x = .ref a ∧ DGet H a y o ∧ Q (.bl (!o.isSome)) H
def rDPut (v x y : V) (H : Hp) (N : Hp → Prop) : Prop := ∃ a H4, x = .ref a ∧ DPut H a y v H4 ∧ N H4
def rDGet1 (x : V) (ty : TE) (σ : L2.St) (H : Hp) (Q : VK) : Prop := ∃ a, x = .ref a ∧ IsD H a ∧ ty σ H fun y H2 => ∃ o, DGet H2 a y o ∧ Q (o.getD .non) H2
theorem g_dget (q : td σ H fun x H1 => ty σ H1 fun y H2 => rDGet x y H2 Q) : tDGet td ty σ H Q := q
theorem g_din (q : ty σ H fun y H1 => td σ H1 fun x H2 => rDIn y x H2 Q) : tDIn ty td σ H Q := q
theorem g_dnin (q : ty σ H fun y H1 => td σ H1 fun x H2 => rDNotIn y x H2 Q) : tDNotIn ty td σ H Q := q
theorem g_dput (q : tv σ H fun v H1 => td σ H1 fun x H2 => ty σ H2 fun y H3 => rDPut v x y H3 (D.nx σ)) : sDPut td ty tv D σ H := q
theorem g_dget1 (q : td σ H fun x H1 => rDGet1 x ty σ H1 Q) : tDGet1 td ty σ H Q := q
theorem DdAll.dget {kvs : List (Key × V)} (h : H a = some (.dK kvs)) (k : Int) : DGet H a (.int k) (valV kvs (.inl k)) := .inl ⟨kvs, .inl k, .inl h, rfl, rfl⟩
theorem g_rDGet (h : Dd K H a m) (e : getA m k = some d) (q : ∀ v, Dp K H v d → Q v H) : rDGet (.ref a) (.int k) H Q := by
  obtain ⟨kvs, h1, h2⟩ := h
  rcases h2.val k with ⟨e1, _⟩ | ⟨v, d', e1, e2, hd⟩
  · rw [e] at e1
    cases e1
  · rw [e] at e1
    cases Option.some.inj e1
    exact ⟨a, v, rfl, by rw [← e2]; exact DdAll.dget h1 k, q v hd⟩
theorem g_rDIn (h : Dd K H a m) (q : Q (.bl (getA m k).isSome) H) : rDIn (.int k) (.ref a) H Q := by
  obtain ⟨kvs, h1, h2⟩ := h
  exact ⟨a, _, rfl, DdAll.dget h1 k, by rw [h2.isSome]; exact q⟩
theorem g_rDNotIn (h : Dd K H a m) (q : Q (.bl (!(getA m k).isSome)) H) : rDNotIn (.int k) (.ref a) H Q := by
  obtain ⟨kvs, h1, h2⟩ := h
  exact ⟨a, _, rfl, DdAll.dget h1 k, by rw [h2.isSome]; exact q⟩
def optD : Option PyData → PyData
  | some d => d
  | none => .none
theorem g_rDGet1 (h : Dd K H a m) (hy : ∀ R : VK, R (.int k) H → ty σ H R) (q : ∀ v, Dp K H v (optD (getA m k)) → Q v H) : rDGet1 (.ref a) ty σ H Q := by
  obtain ⟨kvs, h1, h2⟩ := h
  refine ⟨a, rfl, .inl ⟨kvs, .inl h1⟩, hy _ ⟨_, DdAll.dget h1 k, ?_⟩⟩
  rcases h2.val k with ⟨e1, e2⟩ | ⟨v, d', e1, e2, hd⟩
  · rw [e2]
    refine q _ ?_
    rw [e1]
    exact .non
  · rw [e2]
    refine q _ ?_
    rw [e1]
    exact hd
theorem g_rDPut (h : Dd K H a m) (hd : Dp K H v d) (hl : m.length ≤ 100000) (q : ∀ H1, Oth a H H1 → Dd K H1 a (putA m k d) → N H1) : rDPut v (.ref a) (.int k) H N := by
  obtain ⟨kvs, h1, h2⟩ := h
  refine ⟨a, _, rfl, .inl ⟨kvs, .inl k, h1, rfl, Nat.lt_of_le_of_lt (by rw [h2.len]; exact hl) (by decide), rfl⟩, q _ Oth.upd ⟨_, upd_same, ?_⟩⟩
  exact (h2.put hd).map fun h _ => Dp.oth h1 Oth.upd h
/-- d.pop(k, x) -/
def rDPop2 (x : V) (ty tx : TE) (σ : L2.St) (H : Hp) (Q : VK) : Prop := ∃ a, x = .ref a ∧ IsD H a ∧ ty σ H fun y H2 => tx σ H2 fun z H3 => ∃ kvs k, H3 a = some (.dK kvs) ∧ y = kV k ∧
  (∀ v, valV kvs k = some v → Q v (upd H3 a (.dK (dropK kvs k)))) ∧ (valV kvs k = none → Q z H3)
theorem g_dpop2 (q : td σ H fun x H1 => rDPop2 x ty tx σ H1 Q) : tDPop2 td ty tx σ H Q := q
theorem dropA_none {β : Type} {m : List (Int × β)} {k : Int} (h : getA m k = none) : dropA m k = m := by
  unfold dropA
  rw [List.filter_eq_self]
  intro p hp
  refine decide_eq_true fun e => ?_
  have : (getA m k).isSome = true := mem_keysA.mp (List.mem_map.mpr ⟨p, hp, e⟩)
  rw [h] at this
  cases this
theorem g_rDPop2 {z : V} (h : Dd K H a m) (hy : ∀ R : VK, R (.int k) H → ty σ H R) (hx : ∀ R : VK, R z H → tx σ H R) (q : ∀ u H1, Oth a H H1 → Dd K H1 a (dropA m k) → Q u H1) : rDPop2 (.ref a) ty tx σ H Q := by
  obtain ⟨kvs, h1, h2⟩ := h
  refine ⟨a, rfl, .inl ⟨kvs, .inl h1⟩, hy _ (hx _ ⟨kvs, .inl k, h1, rfl, fun v e => ?_, fun e => ?_⟩)⟩
  · exact q v _ Oth.upd ⟨_, upd_same, h2.drop.map fun h _ => Dp.oth h1 Oth.upd h⟩
  · have e2 : getA m k = none := by
      have := h2.isSome k
      rw [e] at this
      cases e3 : getA m k with
      | none => rfl
      | some x => rw [e3] at this; cases this
    refine q z H (fun b o _ h => h) ?_
    rw [dropA_none e2]
    exact ⟨kvs, h1, h2⟩
theorem g_dictDd (h : Dd K H a m) (q : ∀ p H1, H p = none → Same H H1 → Dd K H1 p m → Q (.ref p) H1) : rDictD [.ref a] H Q := by
  obtain ⟨kvs, h1, h2⟩ := h
  exact g_dictD (.inl h1) fun p H1 np s e => q p H1 np s ⟨kvs, e, h2.go s⟩
theorem g_listDd (h : Dd K H a m) (q : ∀ p H1, H p = none → Same H H1 → H1 p = some (.lst ((keysA m).map V.int)) → Q (.ref p) H1) : rListD [.ref a] H Q := by
  obtain ⟨kvs, h1, h2⟩ := h
  exact g_listD (.inl h1) fun p H1 np s e => q p H1 np s (by rw [← h2.keys]; exact e)
theorem g_lenDd (h : Dd K H a m) (q : Q (.int m.length) H) : rLenD [.ref a] H Q := by
  obtain ⟨kvs, h1, h2⟩ := h
  exact g_lenD (.inl h1) (by rw [h2.len]; exact q)
theorem g_dnewDd (q : ∀ p H1, H p = none → Same H H1 → Dd K H1 p [] → Q (.ref p) H1) : tDNewK σ H Q := g_dnewK fun p H1 np s e => q p H1 np s ⟨[], e, .nil⟩
end
/-! ### == of dicts of data -/
def eqA (m n : List (Int × PyData)) : Bool := decide (m.length = n.length) && m.all fun p => match getA n p.1 with
  | some e => PyData.eqv p.2 e
  | none => false
def fitA (m : List (Int × PyData)) : Prop := ∀ p ∈ m, PyData.canLay0 p.2 = true ∧ PyData.depth p.2 ≤ 40
def rEqDD (K : PySem.W.Frag) : R2 := fun x y H Q => ∃ a b m n, x = .ref a ∧ y = .ref b ∧ Dd K H a m ∧ Dd K H b n ∧ fitA m ∧ fitA n ∧ Q (.bl (eqA m n)) H
def rNeDD (K : PySem.W.Frag) : R2 := fun x y H Q => ∃ a b m n, x = .ref a ∧ y = .ref b ∧ Dd K H a m ∧ Dd K H b n ∧ fitA m ∧ fitA n ∧ Q (.bl (!eqA m n)) H
section
variable {X : Cx} {pins : List (Addr × Obj)} {σ : L2.St} {H : Hp} {s : Shared}
theorem hits_dd (I : Inv X pins σ H s) {A : Around} (hu : A.units + 40 < cLine) {ls : List (Key × V)} {vb : List (Key × Value)} {n : List (Int × PyData)} (rb : KV ls vb) (db : DdAll X.K H ls n) (fn : fitA n) :
    ∀ {ks : List (Key × V)} {va : List (Key × Value)} {m : List (Int × PyData)}, KV ks va → DdAll X.K H ks m → fitA m → PySem.W.KeqHits A s vb va (m.all fun p => match getA n p.1 with
      | some e => PyData.eqv p.2 e
      | none => false) := by
  intro ks va m t r fm
  induction r generalizing va with
  | nil =>
    unfold KV at t
    cases t
    exact .nil
  | @cons k v d kvs m hd r ih =>
    unfold KV at t
    cases t with
    | @cons _ q _ l2 h t =>
    obtain ⟨h1, h2⟩ := h
    obtain ⟨key, u⟩ := q
    have h1' : Sum.inl k = key := h1
    subst h1'
    rw [List.all_cons]
    have rr : RelO (valV ls (.inl k)) (valueAt vb (.inl k)) := rb.val _
    have ih := ih t fun p hp => fm p (List.mem_cons_of_mem _ hp)
    rcases db.val k with ⟨e1, e2⟩ | ⟨w, e, e1, e2, he⟩
    · rw [e2] at rr
      have e3 : valueAt vb (Sum.inl k) = none := by
        cases e : valueAt vb (Sum.inl k) with
        | none => rfl
        | some x => rw [e] at rr; cases rr
      dsimp only
      rw [e1]
      exact .miss e3
    · rw [e2] at rr
      obtain ⟨y, hy, ry⟩ := rr.some_of
      dsimp only
      rw [e1]
      have f1 := fm _ List.mem_cons_self
      have f2 := fn _ (getA_mem e1)
      obtain ⟨as, r1⟩ := Dp.reads I d v u hd h2
      obtain ⟨bs, r2⟩ := Dp.reads I e w y he ry
      exact .hit hy (SeqAt.eqAt_reads d e A s u y as bs r1 r2 f1.1 f2.1 (by have : min d.depth e.depth ≤ d.depth := Nat.min_le_left _ _; have := f1.2; dsimp only at this; omega)) ih
/-- the two compared, by their tables and their data -/
theorem eq_parts (I : Inv X pins σ H s) {a b : Addr} {m n : List (Int × PyData)} (ha : Dd X.K H a m) (hb : Dd X.K H b n) (fm : fitA m) (fn : fitA n) (hu : X.A.units + 64 < cLine) :
    ∃ va vb : List (Key × Value), (a == sysModules) = false ∧ (b == sysModules) = false ∧ s.heap.DictOf (mixKind X.prog X.w) a va ∧ s.heap.DictOf (mixKind X.prog X.w) b vb ∧ va.length = m.length ∧ vb.length = n.length ∧
      PySem.W.KeqHits X.A.in1 s vb va (m.all fun p => match getA n p.1 with
        | some e => PyData.eqv p.2 e
        | none => false) := by
  obtain ⟨ks, ea, hm⟩ := ha
  obtain ⟨ls, eb, hn⟩ := hb
  obtain ⟨-, xa, va, ra, qa⟩ := dk_of I.hok ea
  obtain ⟨-, xb, vb, rb, qb⟩ := dk_of I.hok eb
  refine ⟨va, vb, xa, xb, qa, qb, ?_, ?_, hits_dd I (by show X.A.units + 1 + 40 < cLine; omega) rb hn fn ra hm fm⟩
  · rw [← ra.length, hm.len]
  · rw [← rb.length, hn.len]
theorem op_eqDD (hu : X.A.units + 64 < cLine) : OpR X (compareOp .Eq) (rEqDD X.K) := fun pins s σ H x y v u Q I rx ry h => by
  obtain ⟨a, b, m, n, rfl, rfl, ha, hb, fm, fn, q⟩ := h
  obtain ⟨va, vb, xa, xb, qa, qb, la, lb, hk⟩ := eq_parts I ha hb fm fn hu
  cases (show v = Value.ref a from rx)
  cases (show u = Value.ref b from ry)
  refine PySem.W.keq_eq xa xb qa qb (by omega) (fun _ => hk) (fin_bl I q ?_)
  unfold eqA
  rw [la, lb]
  rfl
theorem op_neDD (hu : X.A.units + 64 < cLine) : OpR X (compareOp .NotEq) (rNeDD X.K) := fun pins s σ H x y v u Q I rx ry h => by
  obtain ⟨a, b, m, n, rfl, rfl, ha, hb, fm, fn, q⟩ := h
  obtain ⟨va, vb, xa, xb, qa, qb, la, lb, hk⟩ := eq_parts I ha hb fm fn hu
  cases (show v = Value.ref a from rx)
  cases (show u = Value.ref b from ry)
  refine PySem.W.keq_ne xa xb qa qb (by omega) (fun _ => hk) (fin_bl I q ?_)
  unfold eqA
  rw [la, lb]
  rfl
end
section
variable {K : PySem.W.Frag} {H : Hp} {Q : VK} {m n : List (Int × PyData)} {a b : Addr}
theorem g_eqDD (ha : Dd K H a m) (hb : Dd K H b n) (fm : fitA m) (fn : fitA n) (q : Q (.bl (eqA m n)) H) : rEqDD K (.ref a) (.ref b) H Q := ⟨a, b, m, n, rfl, rfl, ha, hb, fm, fn, q⟩
theorem g_neDD (ha : Dd K H a m) (hb : Dd K H b n) (fm : fitA m) (fn : fitA n) (q : Q (.bl (!eqA m n)) H) : rNeDD K (.ref a) (.ref b) H Q := ⟨a, b, m, n, rfl, rfl, ha, hb, fm, fn, q⟩
end
/-- the same table: equal -/
theorem eqA_of_get {m n : List (Int × PyData)} (hm : (keysA m).Nodup) (hn : (keysA n).Nodup) (sm : ∀ p ∈ m, PyData.canLay0 p.2 = true) (h : ∀ k, getA m k = getA n k) : eqA m n = true := by
  unfold eqA
  rw [Bool.and_eq_true, decide_eq_true_iff, List.all_eq_true]
  refine ⟨length_of_get hm hn fun k => by rw [h], fun p hp => ?_⟩
  rw [← h, getA_of_mem hm hp]
  exact SeqAt.eqv_refl _ (sm p hp)
end My

set_option Elab.async false
set_option linter.all false
set_option maxRecDepth 100000
set_option maxHeartbeats 1000000
/-! lists that grow; blocks, disks -/
namespace My
open PySem L2
section
variable {K : PySem.W.Frag} {σ : L2.St} {H H' : Hp} {Q : VK} {l a : Addr} {xs : List V} {y : V} {ta : TE} {v : V} {d : PyData}
theorem g_bm0 {T : String} {f : V → List V → Hp → VK → Prop} (q : ta σ H fun x H1 => tyV K T x H1 ∧ f x [] H1 Q) : tBM0 K T f ta σ H Q := q

theorem g_appendO (h : H l = some (.lst xs)) (hl : xs.length ≤ 100000) (q : ∀ H1, Oth l H H1 → H1 l = some (.lst (xs ++ [y])) → Q .non H1) : rAppend (.ref l) [y] H Q :=
  ⟨l, xs, y, rfl, rfl, h, Nat.lt_of_le_of_lt hl (by decide), q _ Oth.upd upd_same⟩
theorem g_clear (h : H l = some (.lst xs)) (q : ∀ H1, Oth l H H1 → H1 l = some (.lst []) → Q .non H1) : rClear (.ref l) [] H Q :=
  ⟨l, xs, rfl, rfl, h, q _ Oth.upd upd_same⟩
def stillP : HO → Prop := fun o => ∀ xs, o ≠ .lst xs
theorem Dp.still (e : Still H H') (s : strictD d = true) (h : Dp K H v d) : Dp K H' v d :=
  Dp.keep (P := stillP) (fun _ _ z => nomatch z) (fun _ _ _ z => nomatch z) (fun b o p hb => e b o p hb) h s
theorem kit_dd {K : PySem.W.Frag} : PySem.W.kitOne K (.type "dict") (.type "dict") = some true := kit_ty (by decide +kernel)
theorem g_isiD {m : List (Int × PyData)} (h : Dd K H a m) (q : Q (.bl true) H) : rIsi K [.ref a, .ty "dict"] H Q := by
  obtain ⟨kvs, h1, _⟩ := h
  exact g_isi (.ty "dict") (.base (.dK h1)) kit_dd q
end
/-! ### blocks -/
def layA (m : List (Int × PyData)) (n : Int) (b : PyData) : List (Int × PyData) := match b with
  | .none => dropA m n
  | _ => putA m n b
def okD (d : PyData) : Prop := strictD d = true ∧ PyData.depth d ≤ 20
def Blk (m : List (Int × PyData)) : Prop := (keysA m).Nodup ∧ ∀ p ∈ m, okD p.2
theorem Blk.nil : Blk [] := ⟨by unfold keysA; exact List.nodup_nil, fun p h => nomatch h⟩
theorem Blk.put {m : List (Int × PyData)} {n : Int} {b : PyData} (h : Blk m) (hb : okD b) : Blk (putA m n b) := ⟨nodup_put h.1, all_put h.2 hb⟩
theorem Blk.drop {m : List (Int × PyData)} {n : Int} (h : Blk m) : Blk (dropA m n) := ⟨nodup_drop h.1, all_drop h.2⟩
theorem Blk.lay {m : List (Int × PyData)} {n : Int} {b : PyData} (h : Blk m) (hb : okD b) : Blk (layA m n b) := by
  unfold layA
  split
  · exact h.drop
  · exact h.put hb
theorem Blk.fit {m : List (Int × PyData)} (h : Blk m) : fitA m := fun p hp => ⟨strict_lay (h.2 p hp).1, Nat.le_trans (h.2 p hp).2 (by decide)⟩
theorem Blk.strict {m : List (Int × PyData)} (h : Blk m) : ∀ p ∈ m, strictD p.2 = true := fun p hp => (h.2 p hp).1
theorem length_lay {m : List (Int × PyData)} {n : Int} {b : PyData} : (layA m n b).length ≤ m.length + 1 := by
  unfold layA
  split
  · exact Nat.le_trans length_drop (by omega)
  · exact length_put
theorem getA_lay (m : List (Int × PyData)) (n j : Int) (b : PyData) : getA (layA m n b) j = if j = n then (match b with | .none => none | _ => some b) else getA m j := by
  unfold layA
  split
  · rw [getA_drop]
  · rw [getA_put]
theorem eqA_blk {m n : List (Int × PyData)} (hm : Blk m) (hn : Blk n) (h : ∀ k, getA m k = getA n k) : eqA m n = true :=
  eqA_of_get hm.1 hn.1 (fun p hp => strict_lay (hm.2 p hp).1) h
theorem eqA_refl {m : List (Int × PyData)} (hm : Blk m) : eqA m m = true := eqA_blk hm hm fun _ => rfl
/-- the list of them -/
def okL (ds : List PyData) : Prop := ∀ d ∈ ds, okD d
theorem okL.strict {ds : List PyData} (h : okL ds) : strictAll ds = true := strictAll_iff.mpr fun d hd => (h d hd).1
theorem okL.fit {ds : List PyData} (h : okL ds) : ∀ d ∈ ds, PyData.canLay0 d = true ∧ PyData.depth d ≤ 20 := fun d hd => ⟨strict_lay (h d hd).1, (h d hd).2⟩
theorem okL.snoc {ds : List PyData} {d : PyData} (h : okL ds) (hd : okD d) : okL (ds ++ [d]) := fun e he => by
  rcases List.mem_append.mp he with he | he
  · exact h e he
  · rw [List.mem_singleton.mp he]; exact hd
theorem Dp.notNone {K : PySem.W.Frag} {H : Hp} {v : V} {d : PyData} (h : Dp K H v d) : decide (v = V.non) = (match d with | .none => true | _ => false) := by
  cases h <;> first | rfl | (exact decide_eq_true rfl) | (exact decide_eq_false (by intro z; cases z))
/-! ### deeds -/
def logW : Str := Str.ofString "log"
def writeW : Str := Str.ofString "write"
def clearW : Str := Str.ofString "clear"
def blockW : Str := Str.ofString "block"
def keptW : Str := Str.ofString "kept"
inductive Deed : PyData → Prop
  | log (e : PyData) : Deed (.tuple [.str logW, e])
  | write (n : Int) (b : PyData) : Deed (.tuple [.str writeW, .int n, b])
  | clear : Deed (.tuple [.str clearW])
def doneB (m : List (Int × PyData)) : PyData → List (Int × PyData)
  | .tuple [.str _, .int n, b] => layA m n b
  | _ => m
def doneL (es : List PyData) : PyData → List PyData
  | .tuple [.str _, .int _, _] => es
  | .tuple [.str _, e] => es ++ [e]
  | _ => []
def sp_lay (K : PySem.W.Frag) : Sp := fun vs H Q _ => ∃ (a : Addr) (m : List (Int × PyData)) (n : Int) (x : V) (b : PyData), vs = [.ref a, .int n, x] ∧ Dd K H a m ∧ Dp K H x b ∧ m.length ≤ 100000 ∧
  ∀ H', Oth a H H' → Dd K H' a (layA m n b) → Q .non H'
section
variable {K : PySem.W.Frag} {σ : L2.St} {H : Hp} {Q : VK} {D : Ends} {t u : TS} {te tl : TE} {tt : TT} {g : TG} {vs : List Nat} {a : Addr} {xs : List V} {ta : TA}
theorem g_cutS (h : t { D with nx := u D } σ H) : Evl.tCut t u D σ H := ⟨u D, h, fun _ _ h => h⟩
theorem evn_to {ds : List PyData} (h : EvN K te σ H ds) (k : ∀ p xs H1, H p = none → Same H H1 → H1 p = some (.lst xs) → DpAll K H1 xs ds → Q (.ref p) H1) : te σ H Q := h H (L2.Same.refl H) _ k
/-! walks, opened -/
def forR (g : TG) (tb : TS) (D : Ends) (σ : L2.St) : It → Hp → Prop := fun J H1 => tFor (fun _ H R => R J H) g tb D σ H1
theorem g_for {wi : TI} (q : wi σ H (forR g t D σ)) : tFor wi g t D σ H := q
def lcR (g : TG) (tt : TT) (te : TE) (vs : List Nat) (σ : L2.St) (Q : VK) : It → Hp → Prop := fun J H1 => tLc (fun _ H R => R J H) g tt te vs σ H1 Q
theorem g_lcO {wi : TI} (q : wi σ H (lcR g tt te vs σ Q)) : tLc wi g tt te vs σ H Q := q
def wL (K : PySem.W.Frag) (R : It → Hp → Prop) : VK := fun x H1 => ∃ a, x = .ref a ∧ (∃ xs, SqL K H1 a xs) ∧ R (Itl K a) H1
def wT (K : PySem.W.Frag) (R : It → Hp → Prop) : VK := fun x H1 => ∃ a, x = .ref a ∧ (∃ xs, SqT K H1 a xs) ∧ R (Itt K a) H1
def wR1 (R : It → Hp → Prop) : List V → Hp → Prop := fun vs H1 => ∃ j : Int, vs = [.int j] ∧ -(2 ^ 62) ≤ j ∧ j < 2 ^ 62 ∧ R (Itr 0 j.toNat) H1
theorem g_wL {R : It → Hp → Prop} (q : tl σ H (wL K R)) : iList K tl σ H R := q
theorem g_wT {R : It → Hp → Prop} (q : tl σ H (wT K R)) : iTup K tl σ H R := q
theorem g_wR1 {R : It → Hp → Prop} (q : ta σ H (wR1 R)) : iRng1 ta σ H R := q
theorem g_forLk (Pv : Nat → L2.St → Hp → Prop) (hx : SqL K H a xs) (h0 : Pv 0 σ H) (hl : ∀ i σ' H', i ≤ xs.length → Pv i σ' H' → SqL K H' a xs)
    (hs : ∀ i x σ' H', xs[i]? = some x → Pv i σ' H' → g x σ' H' fun σ2 H2 => t { D with nx := Pv (i + 1), ct := Pv (i + 1), bk := D.nx } σ2 H2) (hd : ∀ σ' H', Pv xs.length σ' H' → D.nx σ' H') : wL K (forR g t D σ) (.ref a) H :=
  ⟨a, rfl, ⟨xs, hx⟩, for_list Pv h0 hl hs hd⟩
theorem g_forTk (Pv : Nat → L2.St → Hp → Prop) (hx : SqT K H a xs) (h0 : Pv 0 σ H) (hl : ∀ i σ' H', i ≤ xs.length → Pv i σ' H' → SqT K H' a xs)
    (hs : ∀ i x σ' H', xs[i]? = some x → Pv i σ' H' → g x σ' H' fun σ2 H2 => t { D with nx := Pv (i + 1), ct := Pv (i + 1), bk := D.nx } σ2 H2) (hd : ∀ σ' H', Pv xs.length σ' H' → D.nx σ' H') : wT K (forR g t D σ) (.ref a) H :=
  ⟨a, rfl, ⟨xs, hx⟩, for_tup Pv h0 hl hs hd⟩
theorem g_forR1k {j : Nat} {n : Int} (Pv : Nat → L2.St → Hp → Prop) (hn : -1000000 ≤ n ∧ n ≤ 1000000) (h0 : Pv 0 σ H)
    (hs : ∀ (i : Nat) σ' H', (i : Int) < n → Pv i σ' H' → t { D with nx := Pv (i + 1), ct := Pv (i + 1), bk := D.nx } (σ'.set j (some (.int (i : Int)))) H') (hd : ∀ σ' H', Pv n.toNat σ' H' → D.nx σ' H') : wR1 (forR (gName j) t D σ) [.int n] H :=
  g_forR1 (ta := fun _ H R => R [.int n] H) Pv (fun R r => r) hn h0 hs hd
theorem g_lcR1k {j : Nat} {n : Int} (Rel : Nat → V → Hp → Prop) (hn : -40000 ≤ n ∧ n ≤ 40000)
    (hw : ∀ x, wipe ((wipe σ vs).set j (some x)) vs = wipe σ vs) (hst : ∀ i y H1 H2, Still H1 H2 → Rel i y H1 → Rel i y H2)
    (he : ∀ (i : Nat) (H1 : Hp) (QE : VK), (i : Int) < n → Same H H1 → (∀ y H2, Same H1 H2 → Rel i y H2 → QE y H2) → te ((wipe σ vs).set j (some (.int (i : Int)))) H1 QE)
    (q : ∀ p ys H1, H p = none → Same H H1 → H1 p = some (.lst ys) → ys.length = n.toNat → (∀ i y, ys[i]? = some y → Rel i y H1) → Q (.ref p) H1) :
    wR1 (lcR (gName j) tYes te vs σ Q) [.int n] H :=
  g_lcR1 (ta := fun _ H R => R [.int n] H) Rel (fun R r => r) hn hw hst he q
theorem g_lcLk {j : Nat} (Rel : Nat → V → Hp → Prop) (hx : SqL K H a xs) (hn : xs.length ≤ 40000)
    (hw : ∀ x, wipe ((wipe σ vs).set j (some x)) vs = wipe σ vs) (hst : ∀ i y H1 H2, Still H1 H2 → Rel i y H1 → Rel i y H2)
    (he : ∀ (i : Nat) (x : V) (H1 : Hp) (QE : VK), xs[i]? = some x → Same H H1 → (∀ y H2, Same H1 H2 → Rel i y H2 → QE y H2) → te ((wipe σ vs).set j (some x)) H1 QE)
    (q : ∀ p ys H1, H p = none → Same H H1 → H1 p = some (.lst ys) → ys.length = xs.length → (∀ i y, ys[i]? = some y → Rel i y H1) → Q (.ref p) H1) :
    wL K (lcR (gName j) tYes te vs σ Q) (.ref a) H :=
  g_lcL (tl := fun _ H R => R (.ref a) H) Rel (fun R r => r) hx hn hw hst he q
theorem g_lcTk {j : Nat} (Rel : Nat → V → Hp → Prop) (hx : SqT K H a xs) (hn : xs.length ≤ 40000)
    (hw : ∀ x, wipe ((wipe σ vs).set j (some x)) vs = wipe σ vs) (hst : ∀ i y H1 H2, Still H1 H2 → Rel i y H1 → Rel i y H2)
    (he : ∀ (i : Nat) (x : V) (H1 : Hp) (QE : VK), xs[i]? = some x → Same H H1 → (∀ y H2, Same H1 H2 → Rel i y H2 → QE y H2) → te ((wipe σ vs).set j (some x)) H1 QE)
    (q : ∀ p ys H1, H p = none → Same H H1 → H1 p = some (.lst ys) → ys.length = xs.length → (∀ i y, ys[i]? = some y → Rel i y H1) → Q (.ref p) H1) :
    wT K (lcR (gName j) tYes te vs σ Q) (.ref a) H :=
  g_lcT (tl := fun _ H R => R (.ref a) H) Rel (fun R r => r) hx hn hw hst he q
end
end My

set_option Elab.async false
set_option linter.all false
set_option maxRecDepth 100000
set_option maxHeartbeats 1000000
/-! logs -/
namespace My
open PySem L2
abbrev BT := List (Int × PyData)
/-- an entry: a block (or none) for a number, or the mark -/
abbrev Ent := Option (Int × PyData)
def entD : Ent → PyData
  | some p => .tuple [.str blockW, .int p.1, p.2]
  | none => .tuple [.str keptW]
def layAll (m : BT) (g : BT) : BT := g.foldl (fun m p => layA m p.1 p.2) m
def stepR (s : BT × BT) : Ent → BT × BT
  | some p => (s.1, s.2 ++ [p])
  | none => (layAll s.1 s.2, [])
def redoS (m : BT) (E : List Ent) : BT × BT := E.foldl stepR (m, [])
def redoA (m : BT) (E : List Ent) : BT := (redoS m E).1
def okE (E : List Ent) : Prop := ∀ p, some p ∈ E → okD p.2
theorem okD_tup {ds : List PyData} (h : ∀ d ∈ ds, strictD d = true ∧ PyData.depth d ≤ 19) : okD (.tuple ds) := by
  refine ⟨by simp only [strictD]; exact strictAll_iff.mpr fun d hd => (h d hd).1, ?_⟩
  simp only [PyData.depth]
  have := depthAll_le (n := 19) fun d hd => (h d hd).2
  omega
theorem strok_block : PyData.strOk blockW = true := by decide +kernel
theorem strok_kept : PyData.strOk keptW = true := by decide +kernel
theorem entD_strict {e : Ent} (h : ∀ p, e = some p → okD p.2) : strictD (entD e) = true := by
  cases e with
  | none => simp [entD, strictD, strictAll, strok_kept]
  | some p => simp [entD, strictD, strictAll, strok_block, (h p rfl).1]
theorem entD_fit {e : Ent} (h : ∀ p, e = some p → okD p.2) : PyData.canLay0 (entD e) = true ∧ PyData.depth (entD e) ≤ 21 := by
  refine ⟨strict_lay (entD_strict h), ?_⟩
  cases e with
  | none => simp [entD, PyData.depth, PyData.depthAll]
  | some p =>
    have := (h p rfl).2
    simp [entD, PyData.depth, PyData.depthAll]
    omega
theorem okE.fit {E : List Ent} (h : okE E) : ∀ d ∈ E.map entD, PyData.canLay0 d = true ∧ PyData.depth d ≤ 21 := fun d hd => by
  obtain ⟨e, he, rfl⟩ := List.mem_map.mp hd
  exact entD_fit fun p ep => h p (ep ▸ he)
theorem okE.strict {E : List Ent} (h : okE E) : strictAll (E.map entD) = true := strictAll_iff.mpr fun d hd => by
  obtain ⟨e, he, rfl⟩ := List.mem_map.mp hd
  exact entD_strict fun p ep => h p (ep ▸ he)
theorem layAll_blk : ∀ {g m : BT}, Blk m → (∀ p ∈ g, okD p.2) → Blk (layAll m g)
  | [], m, h, _ => h
  | p :: g, m, h, hg => layAll_blk (g := g) (h.lay (hg p List.mem_cons_self)) fun q hq => hg q (List.mem_cons_of_mem _ hq)
theorem layAll_len : ∀ {g m : BT}, (layAll m g).length ≤ m.length + g.length
  | [], m => Nat.le_refl _
  | p :: g, m => by
    have h1 := layAll_len (g := g) (m := layA m p.1 p.2)
    have h2 := length_lay (m := m) (n := p.1) (b := p.2)
    show (layAll (layA m p.1 p.2) g).length ≤ _
    rw [List.length_cons]
    omega
theorem layAll_app {m g h : BT} : layAll m (g ++ h) = layAll (layAll m g) h := List.foldl_append ..
theorem redoS_snoc {m : BT} {E : List Ent} {e : Ent} : redoS m (E ++ [e]) = stepR (redoS m E) e := List.foldl_append ..
/-- what stands while it is redone -/
theorem redoS_ok {m : BT} (bm : Blk m) : ∀ {E : List Ent}, okE E → Blk (redoS m E).1 ∧ (∀ p ∈ (redoS m E).2, okD p.2) ∧ (redoS m E).1.length + (redoS m E).2.length ≤ m.length + E.length := by
  intro E hE
  have go : ∀ (E : List Ent) (s : BT × BT), okE E → Blk s.1 → (∀ p ∈ s.2, okD p.2) → Blk (E.foldl stepR s).1 ∧ (∀ p ∈ (E.foldl stepR s).2, okD p.2) ∧ (E.foldl stepR s).1.length + (E.foldl stepR s).2.length ≤ s.1.length + s.2.length + E.length := by
    intro E
    induction E with
    | nil => intro s _ h1 h2; exact ⟨h1, h2, Nat.le_refl _⟩
    | cons e E ih =>
      intro s hE h1 h2
      rw [List.foldl_cons]
      have hE' : okE E := fun p hp => hE p (List.mem_cons_of_mem _ hp)
      cases e with
      | none =>
        obtain ⟨a, b, c⟩ := ih (stepR s none) hE' (layAll_blk h1 h2) (fun p hp => nomatch hp)
        refine ⟨a, b, Nat.le_trans c ?_⟩
        have := layAll_len (g := s.2) (m := s.1)
        show (layAll s.1 s.2).length + 0 + _ ≤ _
        rw [List.length_cons]
        omega
      | some p =>
        obtain ⟨a, b, c⟩ := ih (stepR s (some p)) hE' h1 (fun q hq => by
          rcases List.mem_append.mp hq with hq | hq
          · exact h2 q hq
          · rw [List.mem_singleton.mp hq]; exact hE p List.mem_cons_self)
        refine ⟨a, b, Nat.le_trans c ?_⟩
        show s.1.length + (s.2 ++ [p]).length + _ ≤ _
        rw [List.length_append, List.length_singleton, List.length_cons]
        omega
  obtain ⟨a, b, c⟩ := go E (m, []) hE bm (fun p h => nomatch h)
  refine ⟨a, b, Nat.le_trans c ?_⟩
  show m.length + 0 + E.length ≤ _
  omega
theorem redoA_blk {m : BT} {E : List Ent} (bm : Blk m) (h : okE E) : Blk (redoA m E) := (redoS_ok bm h).1
theorem redoA_len {m : BT} {E : List Ent} (bm : Blk m) (h : okE E) : (redoA m E).length ≤ m.length + E.length := by
  have := (redoS_ok bm h).2.2
  unfold redoA
  omega
def sp_redone (K : PySem.W.Frag) : Sp := fun vs H Q _ => ∃ (a l : Addr) (m : BT) (xs : List V) (E : List Ent), vs = [.ref a, .ref l] ∧ Dd K H a m ∧ SqL K H l xs ∧ DpAll K H xs (E.map entD) ∧ okE E ∧ Blk m ∧ m.length + E.length ≤ 90000 ∧
  ∀ da H', H da = none → Same H H' → Dd K H' da (redoA m E) → Q (.ref da) H'
theorem dpAll_one {K : PySem.W.Frag} {H : Hp} {xs : List V} {d : PyData} (h : DpAll K H xs [d]) : ∃ x, xs = [x] ∧ Dp K H x d := by
  cases h with
  | cons h1 r =>
    cases r
    exact ⟨_, rfl, h1⟩
theorem dpAll_three {K : PySem.W.Frag} {H : Hp} {xs : List V} {d e f : PyData} (h : DpAll K H xs [d, e, f]) : ∃ x y z, xs = [x, y, z] ∧ Dp K H x d ∧ Dp K H y e ∧ Dp K H z f := by
  cases h with
  | cons h1 r =>
    obtain ⟨y, z, rfl, h2, h3⟩ := dpAll_two r
    exact ⟨_, y, z, rfl, h1, h2, h3⟩
theorem dp_block {K : PySem.W.Frag} {H : Hp} {x : V} {p : Int × PyData} (h : Dp K H x (entD (some p))) : ∃ a y, x = .ref a ∧ SqT K H a [.str blockW, .int p.1, y] ∧ Dp K H y p.2 := by
  obtain ⟨a, ys, rfl, ht, hy⟩ := dp_tuple h
  obtain ⟨y1, y2, y3, rfl, h1, h2, h3⟩ := dpAll_three hy
  cases dp_str h1
  cases dp_i h2
  exact ⟨a, y3, rfl, ht, h3⟩
theorem dp_kept {K : PySem.W.Frag} {H : Hp} {x : V} (h : Dp K H x (entD none)) : ∃ a, x = .ref a ∧ SqT K H a [.str keptW] := by
  obtain ⟨a, ys, rfl, ht, hy⟩ := dp_tuple h
  obtain ⟨y1, rfl, h1⟩ := dpAll_one hy
  cases dp_str h1
  exact ⟨a, rfl, ht⟩
theorem w_kb : keptW ≠ blockW := by decide +kernel
theorem dpAll_at' {K : PySem.W.Frag} {H : Hp} {α : Type} {f : α → PyData} {xs : List V} {E : List α} (h : DpAll K H xs (E.map f)) {i : Nat} {x : V} (hx : xs[i]? = some x) : ∃ e, E[i]? = some e ∧ Dp K H x (f e) := by
  obtain ⟨d, hd, hp⟩ := dpAll_get h i x hx
  rw [List.getElem?_map] at hd
  obtain ⟨e, he, rfl⟩ := Option.map_eq_some_iff.mp hd
  exact ⟨e, he, hp⟩
theorem Oth.seqL {K : PySem.W.Frag} {H H' : Hp} {a b : Addr} {kvs : List (Key × V)} {xs : List V} (h : H a = some (.dK kvs)) (e : Oth a H H') (hl : SqL K H b xs) : SqL K H' b xs :=
  keep_seqL (P := notD) (fun _ => trivial) (fun _ _ => trivial) (e.keep fun o p z => by rw [h] at z; cases z; exact p) hl
section
variable {K : PySem.W.Frag} {σ : L2.St} {H : Hp} {Q : VK} {D : Ends} {t u : TS} {te tl : TE} {tt : TT} {g : TG} {vs : List Nat} {a : Addr} {xs : List V} {ta : TA}
variable {J : It} {n : Nat} {G : Hp → Prop} {Y : Nat → Hp → V → Hp → Prop}
/-- a comprehension without a test over any walk -/
theorem g_lcW (w : Walk J n G Y) (Rel : Nat → V → Hp → Prop) (hn : n ≤ 40000) (hG : ∀ H', Same H H' → G H') (hst : ∀ i y H1 H2, Still H1 H2 → Rel i y H1 → Rel i y H2)
    (he : ∀ (i : Nat) (x : V) (H1 H2 : Hp) (QE : VK), i < n → Same H H1 → Y i H1 x H2 → (∀ y H3, Same H1 H3 → Rel i y H3 → QE y H3) → g x (wipe σ vs) H2 fun σ2 H3 => wipe σ2 vs = wipe σ vs ∧ te σ2 H3 QE)
    (q : ∀ p ys H1, H p = none → Same H H1 → H1 p = some (.lst ys) → ys.length = n → (∀ i y, ys[i]? = some y → Rel i y H1) → Q (.ref p) H1) : lcR g tYes te vs σ Q J H := by
  intro Dl hD
  refine lc_it w (fun i H' => Same H H' ∧ ∃ ys, H' Dl = some (.lst ys) ∧ ys.length = i ∧ ∀ k y, ys[k]? = some y → Rel k y H')
    ⟨Same.new hD _, [], upd_same, rfl, fun k y h => nomatch h⟩ (fun i H' _ p => hG H' p.1) (fun i x H1 H2 hi p y => ?_) (fun H' p => ?_)
  · obtain ⟨s, ys, e, hl, hr⟩ := p
    refine he i x H1 H2 _ hi s y fun y H3 s3 r => ⟨ys, s3 _ _ e, Evl.sz_lt (by omega), ?_⟩
    have st : Still H3 (upd H3 Dl (.lst (ys ++ [y]))) := Still.upd (s3 _ _ e)
    refine ⟨fun b o h => ?_, ys ++ [y], upd_same, by rw [List.length_append, hl]; rfl, fun k z hk => ?_⟩
    · rw [upd_ne (ne_of_none h hD)]
      exact s3 _ _ (s _ _ h)
    · by_cases c : k < ys.length
      · rw [List.getElem?_append_left c] at hk
        exact hst k z _ _ st (hst k z _ _ (Still.of s3) (hr k z hk))
      · rw [List.getElem?_append_right (by omega)] at hk
        by_cases c2 : k - ys.length = 0
        · rw [c2] at hk
          have ez : y = z := Option.some.inj hk
          have ek : k = i := by omega
          subst ez ek
          exact hst _ _ _ _ st r
        · rw [List.getElem?_eq_none (by rw [List.length_singleton]; omega)] at hk
          cases hk
  · obtain ⟨s, ys, e, hl, hr⟩ := p
    exact q Dl ys H' hD s e hl hr
theorem g_forW (w : Walk J n G Y) (Pv : Nat → L2.St → Hp → Prop) (h0 : Pv 0 σ H) (hG : ∀ i σ H, i ≤ n → Pv i σ H → G H)
    (hs : ∀ i x σ H H', i < n → Pv i σ H → Y i H x H' → g x σ H' fun σ2 H2 => t { D with nx := Pv (i + 1), ct := Pv (i + 1), bk := D.nx } σ2 H2) (hd : ∀ σ H, Pv n σ H → D.nx σ H) : forR g t D σ J H := for_it w Pv h0 hG hs hd
def wE (K : PySem.W.Frag) (R : It → Hp → Prop) : List V → Hp → Prop := fun vs H1 => ∃ a xs, vs = [.ref a] ∧ SqL K H1 a xs ∧ R (Ite K a) H1
theorem g_wE {R : It → Hp → Prop} (q : ta σ H (wE K R)) : iEnum K ta σ H R := q
theorem g_forEk (Pv : Nat → L2.St → Hp → Prop) (hx : SqL K H a xs) (h0 : Pv 0 σ H) (hl : ∀ i σ' H', i ≤ xs.length → Pv i σ' H' → SqL K H' a xs)
    (hs : ∀ i x σ' H' T H2, xs[i]? = some x → Pv i σ' H' → H' T = none → Same H' H2 → H2 T = some (.tup [.int (i : Int), x]) → g (.ref T) σ' H2 fun σ2 H2 => t { D with nx := Pv (i + 1), ct := Pv (i + 1), bk := D.nx } σ2 H2)
    (hd : ∀ σ' H', Pv xs.length σ' H' → D.nx σ' H') : wE K (forR g t D σ) [.ref a] H :=
  ⟨a, xs, rfl, hx, g_forW walk_enum Pv h0 hl (fun i v σ' H' H2 hi hp hy => by
    obtain ⟨T, x, y, rfl, hT, rfl, e1, e2⟩ := hy
    cases Option.some.inj e1
    exact hs i y σ' H' T _ e2 hp hT (Same.new hT _) upd_same) hd⟩
theorem g_lcEk (Rel : Nat → V → Hp → Prop) (hx : SqL K H a xs) (hn : xs.length ≤ 40000) (hst : ∀ i y H1 H2, Still H1 H2 → Rel i y H1 → Rel i y H2)
    (he : ∀ (i : Nat) (x : V) (T : Addr) (H1 : Hp) (QE : VK), xs[i]? = some x → Same H H1 → H1 T = some (.tup [.int (i : Int), x]) → (∀ y H3, Same H1 H3 → Rel i y H3 → QE y H3) → g (.ref T) (wipe σ vs) H1 fun σ2 H3 => wipe σ2 vs = wipe σ vs ∧ te σ2 H3 QE)
    (q : ∀ p ys H1, H p = none → Same H H1 → H1 p = some (.lst ys) → ys.length = xs.length → (∀ i y, ys[i]? = some y → Rel i y H1) → Q (.ref p) H1) : wE K (lcR g tYes te vs σ Q) [.ref a] H :=
  ⟨a, xs, rfl, hx, g_lcW walk_enum Rel hn (fun H' s => L2.Same.seq s hx) hst (fun i v H1 H2 QE hi s hy k => by
    obtain ⟨T, x, y, rfl, hT, rfl, e1, e2⟩ := hy
    cases Option.some.inj e1
    exact he i y T _ QE e2 (s.trans (Same.new hT _)) upd_same fun z H3 s3 r => k z H3 ((Same.new hT _).trans s3) r) q⟩
end
end My

set_option Elab.async false
set_option linter.all false
set_option maxRecDepth 100000
set_option maxHeartbeats 1000000
namespace My
open PySem L2
def top (i : Nat) : Stmt := PySem.Challenge.pw_btreelog_k06_groups_redone.main.body.getD i (.Pass ⟨0, 0, 0, 0⟩)
abbrev s_lay : Stmt := top 1
abbrev N_lay : List Str := ["blocks", "number", "block"]
theorem sc_lay : FnScope N_lay ["blocks", "number", "block"] (defScope s_lay) := ⟨rfl, rfl, rfl, by decide +kernel, rfl, by decide +kernel, by decide +kernel⟩
abbrev s_redone : Stmt := top 2
abbrev N_redone : List Str := ["blocks", "log", "after", "group", "entry", "word", "number", "block"]
theorem sc_redone : FnScope N_redone ["blocks", "log"] (defScope s_redone) := ⟨rfl, rfl, rfl, by decide +kernel, rfl, by decide +kernel, by decide +kernel⟩
abbrev s_l_cell_at : Stmt := top 4
abbrev N_l_cell_at : List Str := ["_law_script", "_law_k"]
theorem sc_l_cell_at : FnScope N_l_cell_at ["_law_script", "_law_k"] (defScope s_l_cell_at) := ⟨rfl, rfl, rfl, by decide +kernel, rfl, by decide +kernel, by decide +kernel⟩
abbrev s_l_entry_by : Stmt := top 5
abbrev N_l_entry_by : List Str := ["_law_cell", "_law_far"]
theorem sc_l_entry_by : FnScope N_l_entry_by ["_law_cell", "_law_far"] (defScope s_l_entry_by) := ⟨rfl, rfl, rfl, by decide +kernel, rfl, by decide +kernel, by decide +kernel⟩
abbrev s_l_due : Stmt := top 6
abbrev N_l_due : List Str := ["_law_blocks", "_law_log", "_law_last", "_law_at", "_law_entry", "_law_found"]
theorem sc_l_due : FnScope N_l_due ["_law_blocks", "_law_log"] (defScope s_l_due) := ⟨rfl, rfl, rfl, by decide +kernel, rfl, by decide +kernel, by decide +kernel⟩
abbrev s_law : Stmt := top 7
abbrev N_law : List Str := ["_law_script", "_law_far", "_law_blocks", "_law_k", "_law_log", "_law_at", "_law_cell", "_law_handed", "_law_row", "_law_found"]
theorem sc_law : FnScope N_law ["_law_script"] (defScope s_law) := ⟨rfl, rfl, rfl, by decide +kernel, rfl, by decide +kernel, by decide +kernel⟩
abbrev sp_l_cell_at := sp_cell
/-- the place of the last mark -/
def lastN : List Ent → Option Nat
  | [] => none
  | e :: es => match lastN es with
    | some i => some (i + 1)
    | none => if e.isNone then some 0 else none
theorem lastN_cons {e : Ent} {es : List Ent} : lastN (e :: es) = match lastN es with
    | some i => some (i + 1)
    | none => if e.isNone then some 0 else none := by rw [lastN]
theorem lastN_snoc : ∀ {es : List Ent} {e : Ent}, lastN (es ++ [e]) = if e.isNone then some es.length else lastN es
  | [], e => by simp [lastN]
  | x :: es, e => by
    rw [List.cons_append]
    unfold lastN
    rw [lastN_snoc (es := es)]
    by_cases c : e.isNone = true
    · rw [if_pos c, if_pos c]
      rfl
    · rw [if_neg c, if_neg c]
theorem lastN_lt : ∀ {es : List Ent} {i : Nat}, lastN es = some i → i < es.length
  | [], i, h => by simp [lastN] at h
  | x :: es, i, h => by
    unfold lastN at h
    cases e : lastN es with
    | some j =>
      rw [e] at h
      have := lastN_lt e
      cases h
      simpa using this
    | none =>
      rw [e] at h
      simp only at h
      split at h
      · cases h; simp
      · cases h
def somes (es : List Ent) : BT := es.filterMap id
theorem redo_last : ∀ {es : List Ent} {m g : BT}, (es.foldl stepR (m, g)).1 = match lastN es with | some i => layAll m (g ++ somes (es.take i)) | none => m
  | [], m, g => rfl
  | none :: es, m, g => by
    rw [List.foldl_cons]
    show (es.foldl stepR (layAll m g, [])).1 = _
    rw [redo_last (es := es)]
    rw [lastN_cons]
    cases e : lastN es with
    | some i =>
      show layAll (layAll m g) ([] ++ somes (es.take i)) = layAll m (g ++ somes (none :: es.take i))
      rw [List.nil_append, layAll_app]
      rfl
    | none =>
      show layAll m g = layAll m (g ++ somes [])
      rw [show somes [] = [] from rfl, List.append_nil]
  | some p :: es, m, g => by
    rw [List.foldl_cons]
    show (es.foldl stepR (m, g ++ [p])).1 = _
    rw [redo_last (es := es)]
    rw [lastN_cons]
    cases e : lastN es with
    | some i =>
      show layAll m ((g ++ [p]) ++ somes (es.take i)) = layAll m (g ++ somes (some p :: es.take i))
      rw [List.append_assoc]
      rfl
    | none => rfl
/-- as the law lays them: taken away, then put -/
def layB (m : BT) (n : Int) (b : PyData) : BT := match b with
  | .none => dropA m n
  | _ => putA (dropA m n) n b
def layAllB (m : BT) (g : BT) : BT := g.foldl (fun m p => layB m p.1 p.2) m
theorem layB_get {m m' : BT} (h : ∀ k, getA m k = getA m' k) (n : Int) (b : PyData) (k : Int) : getA (layB m n b) k = getA (layA m' n b) k := by
  have two : ∀ d : PyData, getA (putA (dropA m n) n d) k = getA (putA m' n d) k := fun d => by
    rw [getA_put, getA_put, getA_drop, h]
    split <;> rfl
  cases b with
  | none =>
    show getA (dropA m n) k = getA (dropA m' n) k
    rw [getA_drop, getA_drop, h]
  | _ => exact two _
theorem layAllB_get : ∀ {g m m' : BT}, (∀ k, getA m k = getA m' k) → ∀ k, getA (layAllB m g) k = getA (layAll m' g) k
  | [], _, _, h => h
  | p :: g, _, _, h => layAllB_get (g := g) (layB_get h p.1 p.2)
theorem layB_blk {m : BT} {n : Int} {b : PyData} (h : Blk m) (hb : okD b) : Blk (layB m n b) := by
  unfold layB
  split
  · exact h.drop
  · exact h.drop.put hb
theorem layB_len {m : BT} {n : Int} {b : PyData} : (layB m n b).length ≤ m.length + 1 := by
  unfold layB
  split
  · exact Nat.le_trans length_drop (by omega)
  · exact Nat.le_trans length_put (by have := length_drop (m := m) (k := n); omega)
def dueA (m : BT) (en : List Ent) : BT := layAllB m (somes (en.take ((lastN en).getD 0)))
theorem dueA_get {m : BT} {en : List Ent} (k : Int) : getA (redoA m en) k = getA (dueA m en) k := by
  unfold redoA redoS dueA
  rw [redo_last]
  cases lastN en with
  | some i =>
    show getA (layAll m ([] ++ somes (en.take i))) k = _
    rw [List.nil_append]
    exact (layAllB_get (fun _ => rfl) k).symm
  | none => rfl
theorem somes_snoc {es : List Ent} {e : Ent} : somes (es ++ [e]) = somes es ++ (match e with | some p => [p] | none => []) := by
  unfold somes
  rw [List.filterMap_append]
  cases e <;> rfl
theorem layAllB_snoc {m g : BT} {p : Int × PyData} : layAllB m (g ++ [p]) = layB (layAllB m g) p.1 p.2 := List.foldl_append ..
def sp_l_due (K : PySem.W.Frag) : Sp := fun vs H Q _ => ∃ (a l : Addr) (m : BT) (xs : List V) (en : List Ent), vs = [.ref a, .ref l] ∧ Dd K H a m ∧ SqL K H l xs ∧ DpAll K H xs (en.map entD) ∧ okE en ∧ Blk m ∧ m.length + en.length ≤ 30000 ∧
  ∀ da H', H da = none → Same H H' → Dd K H' da (dueA m en) → Blk (dueA m en) → Q (.ref da) H'
def sp_l_entry_by (K : PySem.W.Frag) : Sp := fun vs H Q _ => ∃ (c f : Int), vs = [.int c, .int f] ∧ 0 ≤ c ∧ 0 ≤ f ∧ f ≤ 10000000 ∧
  ∀ x e H', Same H H' → Dp K H' x (entD e) → (∀ p, e = some p → okD p.2) → Q x H'
structure Tx (K : PySem.W.Frag) (mg : Str → Option Value) where
  a_lay : Addr
  d_lay : FuncData
  F_lay : Fun K "lay" "lay" s_lay a_lay d_lay
  b_lay : Binds K d_lay ["blocks", "number", "block"] []
  g_lay : mg "lay" = some (.ref a_lay)
  a_redone : Addr
  d_redone : FuncData
  F_redone : Fun K "redone" "redone" s_redone a_redone d_redone
  b_redone : Binds K d_redone ["blocks", "log"] []
  g_redone : mg "redone" = some (.ref a_redone)
  a_l_cell_at : Addr
  d_l_cell_at : FuncData
  F_l_cell_at : Fun K "_law_cell_at" "_law_cell_at" s_l_cell_at a_l_cell_at d_l_cell_at
  b_l_cell_at : Binds K d_l_cell_at ["_law_script", "_law_k"] []
  g_l_cell_at : mg "_law_cell_at" = some (.ref a_l_cell_at)
  a_l_entry_by : Addr
  d_l_entry_by : FuncData
  F_l_entry_by : Fun K "_law_entry_by" "_law_entry_by" s_l_entry_by a_l_entry_by d_l_entry_by
  b_l_entry_by : Binds K d_l_entry_by ["_law_cell", "_law_far"] []
  g_l_entry_by : mg "_law_entry_by" = some (.ref a_l_entry_by)
  a_l_due : Addr
  d_l_due : FuncData
  F_l_due : Fun K "_law_due" "_law_due" s_l_due a_l_due d_l_due
  b_l_due : Binds K d_l_due ["_law_blocks", "_law_log"] []
  g_l_due : mg "_law_due" = some (.ref a_l_due)
  z_dict : mg "dict" = none
  z_enumerate : mg "enumerate" = none
  z_isinstance : mg "isinstance" = none
  z_len : mg "len" = none
  z_list : mg "list" = none
  z_range : mg "range" = none
local macro_rules | `(tactic| wtm_at "at") => `(tactic| first | assumption | (refine Same.at (by assumption) ?_; wtm_at "at"))
local macro_rules | `(tactic| wtm_at "sq") => `(tactic| first | assumption | exact SqL.of (by wtm_at "at") | (refine L2.Same.seq (by assumption) ?_; wtm_at "sq"))
local macro_rules | `(tactic| wtm_at "st") => `(tactic| first | assumption | exact SqT.of (by wtm_at "at") | (refine Same.seqT (by assumption) ?_; wtm_at "st"))
local macro_rules | `(tactic| wtm_at "so") => `(tactic| first | assumption | exact seq_l (by wtm_at "sq") | exact seq_t (by wtm_at "st") | (refine Same.seqO (by assumption) ?_; wtm_at "so"))
local macro_rules | `(tactic| wtm_at "sd") => `(tactic| first
  | exact CMul.ok (Or.inl ⟨by omega, by omega⟩) | exact CMul.ok (Or.inr ⟨by omega, by omega⟩)
  | omega | (dsimp only <;> omega) | (show (0 : Int) < _; omega) | exact ⟨by omega, by omega⟩ | exact Or.inl ⟨by omega, by omega⟩ | exact Or.inr ⟨by omega, by omega⟩ | exact ⟨by decide, by decide, by decide⟩)
local macro_rules | `(tactic| wtm_at "wk") => `(tactic| fail "no walk")
local macro_rules | `(tactic| wtm_at "call") => `(tactic| fail "no call")
local macro_rules | `(tactic| wtm_at "ones") => `(tactic| first
  | with_reducible refine g_asg ?_
  | with_reducible refine g_name ?_
  | with_reducible refine g_op ?_
  | with_reducible refine g_var rfl ?_
  | with_reducible refine g_c ?_
  | with_reducible refine g_rI0 ?_
  | ((with_reducible refine' g_rI ?cc ?_); (case cc => wtm_at "sd"))
  | with_reducible refine g_un ?_
  | with_reducible refine g_rU ?_
  | with_reducible refine g_call ?_
  | with_reducible refine g_cons ?_
  | with_reducible refine g_nil ?_
  | with_reducible refine g_cb ?_
  | with_reducible refine g_test ?_
  | with_reducible refine g_tB ?_
  | with_reducible refine g_isB ?_
  | with_reducible refine g_if ?_
  | with_reducible refine g_ret ?_
  | with_reducible refine g_retN ?_
  | with_reducible refine g_drop ?_
  | with_reducible refine g_next ?_
  | ((with_reducible refine' g_rEq ?cc ?_); (case cc => exact rfl))
  | ((with_reducible refine' g_rNe ?cc ?_); (case cc => exact rfl))
  | with_reducible refine g_chain ?_
  | with_reducible refine g_and ?_
  | with_reducible refine g_or ?_
  | with_reducible refine g_not ?_
  | with_reducible refine g_notK ?_
  | with_reducible refine g_andT ?_
  | with_reducible refine g_orT ?_
  | with_reducible refine g_notT ?_
  | with_reducible refine g_notV ?_
  | with_reducible refine g_ifE ?_
  | with_reducible refine g_tup ?_
  | with_reducible refine g_lst ?_
  | with_reducible refine g_sl ?_
  | with_reducible refine g_noPart ?_
  | with_reducible refine g_part ?_
  | with_reducible refine g_partK ?_
  | with_reducible refine g_brT ?_
  | with_reducible refine g_brF ?_
  | with_reducible refine g_gcons ?_
  | with_reducible refine g_gnil ?_
  | ((with_reducible refine' g_len ?cc ?_); (case cc => wtm_at "so"))
  | with_reducible refine g_intB ?_
  | with_reducible refine g_intI ?_
  | with_reducible refine g_isN ?_
  | with_reducible refine g_notN ?_
  | with_reducible refine g_isTy ?_
  | with_reducible refine g_notTy ?_
  | with_reducible refine g_isBl ?_
  | with_reducible refine g_notBl ?_
  | with_reducible refine g_max2 ?_
  | ((with_reducible refine' g_gtup ?cc ?cd ?_); (case cc => wtm_at "st"); (case cd => exact rfl))
  | with_reducible refine My.g_leS ?_
  | ((with_reducible refine' g_typ ?cc ?_); (case cc => assumption))
  | with_reducible refine g_dget ?_
  | with_reducible refine g_din ?_
  | with_reducible refine g_dnin ?_
  | with_reducible refine g_dput ?_
  | with_reducible refine g_dget1 ?_
  | with_reducible refine g_dpop2 ?_
  | with_reducible refine g_bm ?_
  | with_reducible refine g_bm0 ?_
  | wtm_at "wk"
  | wtm_at "call")
local macro_rules | `(tactic| wtm_at "one") => `(tactic| first | with_reducible refine g_seq ?_ | wtm_at "ones")
local macro_rules | `(tactic| wtm_at "red") => `(tactic| try dsimp only [cxOf, List.cons_append, List.nil_append, List.set_cons_zero, List.set_cons_succ])
local macro_rules | `(tactic| wtm_at "go") => `(tactic| (wtm_at "red"; repeat (wtm_at "one"; wtm_at "red")))
local macro_rules | `(tactic| wtm_at "ln") => `(tactic| (refine sz ?_; simp only [List.length_cons, List.length_nil, List.length_map, List.length_append]; omega))
local macro_rules | `(tactic| wtm_at "go0") => `(tactic| ((with_reducible refine g_name ?_); wtm_at "red"))
local macro_rules | `(tactic| wtm_at "gs") => `(tactic| (wtm_at "red"; (try with_reducible refine g_seq ?_); repeat (wtm_at "ones"; wtm_at "red")))

local macro_rules | `(tactic| wtm_at "wk") => `(tactic| first
  | with_reducible refine g_for ?_
  | with_reducible refine g_lcO ?_
  | with_reducible refine g_wL ?_
  | with_reducible refine g_wT ?_
  | with_reducible refine g_wR1 ?_
  | with_reducible refine g_wE ?_
  | with_reducible refine g_lc2O ?_)

local macro_rules | `(tactic| wtm_at "dp") => `(tactic| first | assumption | exact .int _ | exact .str _ | exact .bl _ | exact .non | (refine Dp.go (by assumption) ?_; wtm_at "dp"))
local macro_rules | `(tactic| wtm_at "dpa") => `(tactic| first | assumption | (refine DpAll.go (by assumption) ?_; wtm_at "dpa"))
local macro_rules | `(tactic| wtm_at "ev") => `(tactic| first
  | with_reducible exact evd_i
  | with_reducible exact evd_b
  | with_reducible exact evd_n
  | with_reducible exact evd_s
  | with_reducible exact evds_nil
  | ((with_reducible refine' evd_v rfl ?cc); (case cc => wtm_at "dp"))
  | ((with_reducible refine' evds_cons ?ca ?cb); (case ca => wtm_at "ev"); (case cb => wtm_at "ev"))
  | ((with_reducible refine' evd_tup ?ca ?cb); (case ca => wtm_at "ev"); (case cb => (simp only [List.length_cons, List.length_nil]; omega)))
  | ((with_reducible refine' evn_lst ?ca ?cb); (case ca => wtm_at "ev"); (case cb => (simp only [List.length_cons, List.length_nil]; omega)))
  | ((with_reducible refine' evd_op0 ?ca ?cb ?cc); (case ca => wtm_at "ev"); (case cb => wtm_at "ev"); (case cc => exact rfl))
  | ((with_reducible refine' evd_op ?ca ?cb ?cc ?cd); (case ca => wtm_at "ev"); (case cb => wtm_at "ev"); (case cc => wtm_at "sd"); (case cd => exact rfl))
  | ((with_reducible refine' evd_neg ?ca); (case ca => wtm_at "ev"))
  | ((with_reducible refine' evd_ixT ?ca ?cb ?cc ?cd); (case ca => wtm_at "ev"); (case cb => wtm_at "ev"); (case cc => omega); (case cd => exact rfl))
  | ((with_reducible refine' evn_listL ?ca); (case ca => wtm_at "ev"))
  | ((with_reducible refine' evn_listT ?ca); (case ca => wtm_at "ev"))
  | ((with_reducible refine' evd_tupleL ?ca); (case ca => wtm_at "ev"))
  | ((with_reducible refine' evd_tupleT ?ca); (case ca => wtm_at "ev"))
  | ((with_reducible refine' evd_strI ?ca ?cb); (case ca => wtm_at "ev"); (case cb => assumption))
  | ((with_reducible refine' evn_v rfl ?ca ?cb ?cc ?cd); (case ca => wtm_at "at"); (case cb => wtm_at "dpa"); (case cc => wtm_at "ev"); (case cd => (simp only [List.length_cons, List.length_nil, List.length_append]; omega)))
  | ((with_reducible refine' evn_cat ?ca ?cb ?cc); (case ca => wtm_at "ev"); (case cb => wtm_at "ev"); (case cc => (simp only [List.length_cons, List.length_nil, List.length_append, List.length_take, List.length_drop]; omega)))
  | ((with_reducible refine' evn_slTo ?ca ?cb ?cc); (case ca => wtm_at "ev"); (case cb => wtm_at "ev"); (case cc => omega))
  | ((with_reducible refine' evn_slFrom ?ca ?cb ?cc); (case ca => wtm_at "ev"); (case cb => wtm_at "ev"); (case cc => omega))
  | ((with_reducible refine' evo_some ?ca); (case ca => wtm_at "ev"))
  | ((with_reducible refine' evd_ixL ?ca ?cb ?cc ?cd); (case ca => wtm_at "ev"); (case cb => wtm_at "ev"); (case cc => omega); (case cd => assumption))
  | ((with_reducible refine' evd_addS ?ca ?cb ?cc); (case ca => wtm_at "ev"); (case cb => wtm_at "ev"); (case cc => assumption))
  | ((with_reducible refine' EvN.toD ?ca); (case ca => wtm_at "ev")))

local macro_rules | `(tactic| wtm_at "call") => `(tactic| ((with_reducible refine' use_cell ?cc ?cd ?_); (case cc => wtm_at "sq"); (case cd => omega)))
section
variable {P : Program} {w : World} {K : PySem.W.Frag} {mg : Str → Option Value} {base : Heap}
theorem ok_lay (T : Tx K mg) : FnOk P w K mg base CX0 1 T.a_lay T.d_lay ["blocks", "number", "block"] (sp_lay K) := by
  refine T.F_lay.ok sc_lay (fun vs H Q E h => ?_) (fun cdv A outer s H vs Q E hr h => ?_)
  · obtain ⟨a, m, n, x, b, rfl, _⟩ := h
    rfl
  obtain ⟨a, m, n, x, b, rfl, ha, hb, hl, q⟩ := h
  refine ⟨_, (pss_one (ps_if (pt_cmpR my_isN (pv 2) pe_non (nomark _))
      (pss_one (ps_expr (pe_dpop2 (pv 0) (pv 1) pe_non ⟨rfl, rfl, rfl, rfl⟩)))
      (pss_one (ps_dput (hu_of hr) (pv 0) (pv 1) (pv 2) rfl)))), ?_⟩
  wtm_at "go"
  refine g_br (fun c => ?_) (fun c => ?_)
  · cases (of_decide_eq_true c)
    cases hb
    wtm_at "go"
    refine g_rDPop2 ha (fun R r => by wtm_at "go"; exact r) (fun R r => by wtm_at "go"; exact r) fun u H1 o1 d1 => ?_
    exact q H1 o1 d1
  · have e : layA m n b = putA m n b := by cases hb <;> first | rfl | exact absurd rfl (of_decide_eq_false c)
    rw [e] at q
    wtm_at "go"
    refine g_rDPut ha hb hl fun H1 o1 d1 => ?_
    exact q H1 o1 d1
theorem ok_redone (T : Tx K mg) : FnOk P w K mg base CX0 2 T.a_redone T.d_redone ["blocks", "log"] (sp_redone K) := by
  refine T.F_redone.ok sc_redone (fun vs H Q E h => ?_) (fun cdv A outer s H vs Q E hr h => ?_)
  · obtain ⟨a, l, m, xs, en, rfl, _⟩ := h
    rfl
  obtain ⟨a, l, m, xs, en, rfl, ha, hl, hes, oe, bm, hlen, q⟩ := h
  refine ⟨_, (pss_cons (ps_set (i := 2) sc_redone.nd rfl (Or.inl rfl) (pe_callTy my_dictD (by rfl) T.z_dict (by decide +kernel) (pa_cons (pv 0) pa_nil)))
    (pss_cons (ps_set (i := 3) sc_redone.nd rfl (Or.inl rfl) (pe_lst pa_nil))
    (pss_cons (ps_for PassesOwn.never rfl (pi_list (pv 1)) (pg_name (i := 4) sc_redone.nd rfl (Or.inl rfl))
      (pss_one (ps_if (pt_cmpR op_eq (pe_ix ix_tup (pv 4) pe_int (fun _ _ => rfl)) pe_str (nomark _))
        (pss_one (ps_expr (pe_bm PySem.F.plainAttrs_list PySem.F.slot_list_append PySem.F.type_list_append mt_append (pv 3) (pa_cons (pv 4) pa_nil))))
        (pss_cons (ps_for PassesOwn.never rfl (pi_list (pv 3)) (pg_tup rfl (pgs_cons (pg_name (i := 5) sc_redone.nd rfl (Or.inl rfl)) (pgs_cons (pg_name (i := 6) sc_redone.nd rfl (Or.inl rfl)) (pgs_cons (pg_name (i := 7) sc_redone.nd rfl (Or.inl rfl)) pgs_nil))))
          (pss_one (ps_expr (pe_call (ok_lay T) hr (by rfl) T.g_lay T.F_lay.kp T.b_lay .nil pass0 (pa_cons (pv 2) (pa_cons (pv 6) (pa_cons (pv 7) pa_nil)))))))
        (pss_one (ps_set (i := 3) sc_redone.nd rfl (Or.inl rfl) (pe_lst pa_nil)))))))
    (pss_one (ps_ret (pv 2)))))), ?_⟩
  have lx := dpAll_len hes
  rw [List.length_map] at lx
  wtm_at "go"
  refine g_dictDd ha fun da H1 n1 s1 d1 => ?_
  wtm_at "go"
  refine g_lstK (by wtm_at "ln") fun ga H2 n2 s2 e2 => ?_
  wtm_at "go"
  have hok := fun i : Nat => redoS_ok bm (E := en.take i) fun p hp => oe p (List.mem_of_mem_take hp)
  refine g_forLk (fun i σ' H' => Same H H' ∧ Dd K H' da (redoS m (en.take i)).1 ∧ ∃ g ys o1 o2 o3 o4, σ' = [some (.ref a), some (.ref l), some (.ref da), some (.ref g), o1, o2, o3, o4] ∧ H g = none ∧ H' g = some (.lst ys) ∧ DpAll K H' ys ((redoS m (en.take i)).2.map fun p => entD (some p)))
    (L2.Same.seq (s1.trans s2) hl) ⟨s1.trans s2, d1.go s2, ga, [], none, none, none, none, rfl, s1.free n2, e2, .nil⟩ (fun i σ' H' _ hp => L2.Same.seq hp.1 hl) (fun i x σ' H' hx hp => ?_) (fun σ' H' hp => ?_)
  · obtain ⟨s3, d3, g, ys, o1, o2, o3, o4, rfl, ng, eg, dg⟩ := hp
    obtain ⟨e, he, hd⟩ := dpAll_at' hes hx
    have et : en.take (i + 1) = en.take i ++ [e] := by rw [List.take_add_one, he]; rfl
    have hi := (List.getElem?_eq_some_iff.mp he).1
    obtain ⟨b3, k3, l3⟩ := hok i
    have lt : (en.take i).length ≤ en.length := by rw [List.length_take]; omega
    have lys := dpAll_len dg
    rw [List.length_map] at lys
    rw [et, redoS_snoc]
    wtm_at "go0"
    cases e with
    | some p =>
      obtain ⟨ta, y, rfl, ht, hy⟩ := dp_block hd
      wtm_at "go"
      refine g_ixT (Same.seqT s3 ht) (atI_nat (j := 0) rfl) ?_
      wtm_at "go"
      refine g_br (fun _ => ?_) (fun c => absurd rfl (of_decide_eq_false c))
      wtm_at "go"
      refine g_tyL eg ?_
      wtm_at "go"
      refine g_appendO eg (by omega) fun H4 q4 e4 => ?_
      have s4 := q4.same s3 ng
      have hst : strictAll ((redoS m (en.take i)).2.map fun p => entD (some p)) = true := strictAll_iff.mpr fun d hd => by
        obtain ⟨r, hr, rfl⟩ := List.mem_map.mp hd
        exact entD_strict fun r' e => by cases e; exact k3 r hr
      refine ⟨s4, Dd.othL eg q4 b3.strict d3, g, _, _, _, _, _, rfl, ng, e4, ?_⟩
      show DpAll K H4 _ (((redoS m (en.take i)).2 ++ [p]).map _)
      rw [List.map_append]
      exact dpAll_app (DpAll.othL eg q4 hst dg) (.cons (Dp.go s4 hd) .nil)
    | none =>
      obtain ⟨ta, rfl, ht⟩ := dp_kept hd
      wtm_at "go"
      refine g_ixT (Same.seqT s3 ht) (atI_nat (j := 0) rfl) ?_
      wtm_at "go"
      refine g_br (fun c => absurd (V.str.inj (of_decide_eq_true c)) w_kb) (fun _ => ?_)
      wtm_at "go"
      have es : stepR (redoS m (en.take i)) none = (layAll (redoS m (en.take i)).1 (redoS m (en.take i)).2, []) := rfl
      rw [es]
      clear es
      generalize (redoS m (en.take i)).1 = m3 at *
      generalize (redoS m (en.take i)).2 = g3 at *
      refine g_forLk (fun j σ' H' => Same H H' ∧ Dd K H' da (layAll m3 (g3.take j)) ∧ SqL K H' g ys ∧ DpAll K H' ys (g3.map fun p => entD (some p)) ∧ ∃ o1 o2 o3 o4, σ' = [some (.ref a), some (.ref l), some (.ref da), some (.ref g), o1, o2, o3, o4])
        (SqL.of eg) ⟨s3, d3, SqL.of eg, dg, _, _, _, _, rfl⟩ (fun j σ' H' _ hp => hp.2.2.1) (fun j x σ' H' hx hp => ?_) (fun σ' H' hp => ?_)
      · obtain ⟨s5, d5, g5, dg5, o1, o2, o3, o4, rfl⟩ := hp
        obtain ⟨p, hp, hpx⟩ := dpAll_at' dg5 hx
        have et : g3.take (j + 1) = g3.take j ++ [p] := by rw [List.take_add_one, hp]; rfl
        have hj := (List.getElem?_eq_some_iff.mp hp).1
        obtain ⟨tb, y, rfl, ht5, hy5⟩ := dp_block hpx
        wtm_at "go"
        have lz := layAll_len (m := m3) (g := g3.take j)
        have lz2 : (g3.take j).length ≤ g3.length := by rw [List.length_take]; omega
        refine ⟨da, _, p.1, y, p.2, rfl, d5, hy5, by omega, fun H6 q6 d6 => ?_⟩
        wtm_at "go"
        obtain ⟨kv5, ekv5, _⟩ := id d5
        refine ⟨q6.same s5 n1, ?_, q6.seqL ekv5 g5, DpAll.oth ekv5 q6 dg5, _, _, _, _, rfl⟩
        rw [et, layAll_app]
        exact d6
      · obtain ⟨s5, d5, g5, dg5, o1, o2, o3, o4, rfl⟩ := hp
        have e5 : g3.take ys.length = g3 := by rw [lys, List.take_length]
        rw [e5] at d5
        wtm_at "go"
        refine g_lstK (by wtm_at "ln") fun gb H6 n6 s6 e6 => ?_
        wtm_at "go"
        exact ⟨s5.trans s6, d5.go s6, gb, [], _, _, _, _, rfl, s5.free n6, e6, .nil⟩
  · obtain ⟨s3, d3, g, ys, o1, o2, o3, o4, rfl, ng, eg, dg⟩ := hp
    have e3 : en.take xs.length = en := by rw [lx, List.take_length]
    rw [e3] at d3
    wtm_at "go"
    exact q da H' n1 s3 d3
theorem ok_l_cell_at (T : Tx K mg) : FnOk P w K mg base CX0 1 T.a_l_cell_at T.d_l_cell_at ["_law_script", "_law_k"] (sp_cell K) := by
  refine T.F_l_cell_at.ok sc_l_cell_at (fun vs H Q E h => ?_) (fun cdv A outer s H vs Q E hr h => ?_)
  · obtain ⟨a, ns, k, rfl, _⟩ := h
    rfl
  obtain ⟨a, ns, k, rfl, hS, h0, q⟩ := h
  refine ⟨_, (pss_cons (ps_if (pt_cmpR op_lt (pv 1) (pe_callB my_len (by rfl) T.z_len PySem.boot_len (pa_cons (pv 0) pa_nil)) (nomark _))
      (pss_one (ps_ret (pe_ix ix_list (pv 0) (pv 1) (fun _ _ => rfl))))
      pss_nil)
    (pss_one (ps_ret pe_int))), ?_⟩
  wtm_at "go"
  refine g_br (fun c => ?_) (fun c => ?_)
  · have c' : k < ((ns.map V.int).length : Int) := of_decide_eq_true c
    rw [List.length_map] at c'
    wtm_at "go"
    exact g_ixL hS (atI_cell h0 c') q
  · have c' : ¬ k < ((ns.map V.int).length : Int) := of_decide_eq_false c
    rw [List.length_map] at c'
    rw [cell_out c'] at q
    wtm_at "go"
    exact q
theorem okD_leaf (k : Int) (z : Str) (hz : PyData.strOk z = true) : okD (.tuple [.str "leaf", .tuple [.tuple [.int k, .str z]]]) := by
  have k3 : PyData.strOk ("leaf" : Str) = true := by decide +kernel
  exact ⟨by simp [strictD, strictAll, k3, hz], by simp [PyData.depth, PyData.depthAll]⟩
theorem ok_l_entry_by (T : Tx K mg) : FnOk P w K mg base CX0 1 T.a_l_entry_by T.d_l_entry_by ["_law_cell", "_law_far"] (sp_l_entry_by K) := by
  refine T.F_l_entry_by.ok sc_l_entry_by (fun vs H Q E h => ?_) (fun cdv A outer s H vs Q E hr h => ?_)
  · obtain ⟨c, f, rfl, _⟩ := h
    rfl
  obtain ⟨c, f, rfl, hc, hf, hf2, q⟩ := h
  refine ⟨_, (pss_cons (ps_if (pt_cmpR op_eq (pe_op op_mod (pv 0) pe_int) pe_int (nomark _))
      (pss_one (ps_ret (pe_tup (pa_cons pe_str pa_nil))))
      pss_nil)
    (pss_cons (ps_if (pw_and (pt_cmpR op_eq (pe_op op_mod (pv 0) pe_int) pe_int (nomark _)) (pw_and1 (pt_cmpR op_eq (pe_op op_mod (pe_op op_fdiv (pv 0) pe_int) pe_int) pe_int (nomark _)))).pt
      (pss_one (ps_ret (pe_tup (pa_cons pe_str (pa_cons (pe_op op_mulX (pe_op op_mod (pe_op op_fdiv (pv 0) pe_int) pe_int) (pv 1)) (pa_cons pe_non pa_nil))))))
      pss_nil)
    (pss_one (ps_ret (pe_tup (pa_cons pe_str (pa_cons (pe_op op_mulX (pe_op op_mod (pe_op op_fdiv (pv 0) pe_int) pe_int) (pv 1)) (pa_cons (pe_tup (pa_cons pe_str (pa_cons (pe_tup (pa_cons (pe_tup (pa_cons (pe_op op_mod (pe_op op_fdiv (pv 0) pe_int) pe_int) (pa_cons pe_str pa_nil))) pa_nil)) pa_nil))) pa_nil)))))))), ?_⟩
  wtm_at "go"
  refine g_br (fun _ => ?_) (fun _ => ?_)
  · refine evd_ret (K := K) (by wtm_at "ev") fun x H1 s1 hx => ?_
    exact q x none H1 s1 hx (fun p e => nomatch e)
  refine g_next ?_
  wtm_at "red"
  refine g_seq ?_
  refine g_ifP True True (fun QB h1 h2 => ?_) (fun _ => ?_) (fun _ => ?_)
  · wtm_at "go"
    refine g_andK (fun _ => ?_) (fun _ => h2 trivial)
    wtm_at "go"
    cases decide (V.int (c / 4 % 3) = V.int 0) with
    | true => exact h1 trivial
    | false => exact h2 trivial
  · refine evd_ret (K := K) (by wtm_at "ev") fun x H1 s1 hx => ?_
    exact q x (some (_, .none)) H1 s1 hx (fun p e => by cases e; exact ⟨rfl, Nat.zero_le _⟩)
  · refine g_next ?_
    wtm_at "red"
    refine evd_ret (K := K) (by wtm_at "ev") fun x H1 s1 hx => ?_
    exact q x (some (_, _)) H1 s1 hx (fun p e => by cases e; exact okD_leaf _ _ (by decide +kernel))
theorem eqv_kept {e : Ent} : PyData.eqv (entD e) (entD none) = e.isNone := by
  cases e with
  | none => exact SeqAt.eqv_refl _ (entD_fit (e := none) fun p h => nomatch h).1
  | some p => simp [entD, PyData.eqv, PyData.eqvAll]
theorem entD_shaped {e : Ent} (h : ∀ p, e = some p → okD p.2) : SeqAt.shaped (entD e) = true := by
  have := entD_fit h
  unfold SeqAt.shaped
  rw [this.1, Bool.true_and]
  exact decide_eq_true (by omega)
theorem shaped_kept : SeqAt.shaped (entD none) = true := entD_shaped fun p h => nomatch h
theorem ok_l_due (T : Tx K mg) : FnOk P w K mg base CX0 1 T.a_l_due T.d_l_due ["_law_blocks", "_law_log"] (sp_l_due K) := by
  refine T.F_l_due.ok sc_l_due (fun vs H Q E h => ?_) (fun cdv A outer s H vs Q E hr h => ?_)
  · obtain ⟨a, l, m, xs, en, rfl, _⟩ := h
    rfl
  obtain ⟨a, l, m, xs, en, rfl, ha, hl, hes, oe, bm, hlen, q⟩ := h
  refine ⟨_, (pss_cons (ps_set (i := 2) sc_l_due.nd rfl (Or.inl rfl) pe_int)
    (pss_cons (ps_for PassesOwn.never rfl (pi_enum (by rfl) T.z_enumerate (pa_cons (pv 1) pa_nil)) (pg_tup rfl (pgs_cons (pg_name (i := 3) sc_l_due.nd rfl (Or.inl rfl)) (pgs_cons (pg_name (i := 4) sc_l_due.nd rfl (Or.inl rfl)) pgs_nil)))
      (pss_one (ps_if (pt_cmpR (op_eqD hr.units) (pv 4) (pe_tup (pa_cons pe_str pa_nil)) (nomark _))
        (pss_one (ps_set (i := 2) sc_l_due.nd rfl (Or.inl rfl) (pv 3)))
        pss_nil)))
    (pss_cons (ps_set (i := 5) sc_l_due.nd rfl (Or.inl rfl) (pe_callTy my_dictD (by rfl) T.z_dict (by decide +kernel) (pa_cons (pv 0) pa_nil)))
    (pss_cons (ps_for PassesOwn.never rfl (pi_list (pe_slice sl_list (pv 1) po_none (po_some (pv 2)))) (pg_name (i := 4) sc_l_due.nd rfl (Or.inl rfl))
      (pss_one (ps_if (pt_cmpR (op_neD hr.units) (pv 4) (pe_tup (pa_cons pe_str pa_nil)) (nomark _))
        (pss_cons (ps_expr (pe_dpop2 (pv 5) (pe_ix ix_tup (pv 4) pe_int (fun _ _ => rfl)) pe_non ⟨rfl, rfl, rfl, rfl⟩))
        (pss_one (ps_if (pt_cmpR my_notN (pe_ix ix_tup (pv 4) pe_int (fun _ _ => rfl)) pe_non (nomark _))
          (pss_one (ps_dput (hu_of hr) (pv 5) (pe_ix ix_tup (pv 4) pe_int (fun _ _ => rfl)) (pe_ix ix_tup (pv 4) pe_int (fun _ _ => rfl)) rfl))
          pss_nil)))
        pss_nil)))
    (pss_one (ps_ret (pv 5))))))), ?_⟩
  have lx := dpAll_len hes
  rw [List.length_map] at lx
  wtm_at "go"
  refine g_forEk (fun i σ' H' => Same H H' ∧ ∃ o1 o2, σ' = [some (.ref a), some (.ref l), some (.int (((lastN (en.take i)).getD 0 : Nat) : Int)), o1, o2, none]) hl ⟨L2.Same.refl _, _, _, rfl⟩ (fun i σ' H' _ hp => L2.Same.seq hp.1 hl) (fun i x σ' H1 T H2 hx hp nT s2 eT => ?_) (fun σ' H' hp => ?_)
  · obtain ⟨s1, o1, o2, rfl⟩ := hp
    obtain ⟨e, he, hd⟩ := dpAll_at' hes hx
    have et : en.take (i + 1) = en.take i ++ [e] := by rw [List.take_add_one, he]; rfl
    have hi := (List.getElem?_eq_some_iff.mp he).1
    have hle : (en.take i).length = i := by rw [List.length_take]; omega
    have oe' : ∀ p, e = some p → okD p.2 := fun p h => oe p (h ▸ List.mem_of_getElem? he)
    rw [et, lastN_snoc, hle]
    refine g_gtup (SqT.of eT) rfl ?_
    wtm_at "go"
    refine g_tupK (by wtm_at "ln") fun ty H3 ny s3 ey => ?_
    have hy : Dp K H3 (.ref ty) (entD none) := .tup (SqT.of ey) (.cons (.str _) .nil)
    refine g_eqD (e := entD none) (Dp.go (s1.trans (s2.trans s3)) hd) hy (entD_shaped oe') shaped_kept ?_
    rw [eqv_kept]
    wtm_at "go"
    refine g_br (fun c => ?_) (fun c => ?_)
    · rw [if_pos c]
      wtm_at "go"
      exact ⟨s1.trans (s2.trans s3), _, _, rfl⟩
    · rw [if_neg (by rw [c]; decide)]
      wtm_at "go"
      exact ⟨s1.trans (s2.trans s3), _, _, rfl⟩
  · obtain ⟨s1, o1, o2, rfl⟩ := hp
    have el : en.take xs.length = en := by rw [lx, List.take_length]
    rw [el]
    generalize hN : (lastN en).getD 0 = N
    wtm_at "go"
    refine g_dictDd (ha.go s1) fun da H2 n2 s2 d2 => ?_
    wtm_at "go"
    refine g_slL (L2.Same.seq (s1.trans s2) hl) fun sl H3 n3 s3 e3 => ?_
    rw [cut_to] at e3
    have s03 := s1.trans (s2.trans s3)
    have nda : H da = none := s1.free n2
    have hes' : DpAll K H (xs.take N) ((en.take N).map entD) := by
      rw [List.map_take]
      exact dpAll_take N hes
    have oe' : okE (en.take N) := fun p hp => oe p (List.mem_of_mem_take hp)
    have hdue : layAllB m (somes (en.take N)) = dueA m en := by unfold dueA; rw [hN]
    have lenN : (en.take N).length ≤ en.length := by rw [List.length_take]; omega
    generalize hen : en.take N = E2 at hes' oe' hdue lenN
    generalize xs.take N = ys at e3 hes'
    have bk : ∀ i, Blk (layAllB m (somes (E2.take i))) ∧ (layAllB m (somes (E2.take i))).length ≤ m.length + i := by
      intro i
      induction i with
      | zero => exact ⟨bm, Nat.le_refl _⟩
      | succ i ih =>
        rw [List.take_add_one]
        cases e : E2[i]? with
        | none => simpa using ⟨ih.1, by omega⟩
        | some x =>
          show Blk (layAllB m (somes (E2.take i ++ [x]))) ∧ (layAllB m (somes (E2.take i ++ [x]))).length ≤ m.length + (i + 1)
          rw [somes_snoc]
          cases x with
          | none => rw [List.append_nil]; exact ⟨ih.1, by omega⟩
          | some p =>
            rw [layAllB_snoc]
            exact ⟨layB_blk ih.1 (oe' p (List.mem_of_getElem? e)), Nat.le_trans layB_len (by omega)⟩
    have lys := dpAll_len hes'
    rw [List.length_map] at lys
    refine g_forLk (fun i σ' H' => Same H H' ∧ Dd K H' da (layAllB m (somes (E2.take i))) ∧ SqL K H' sl ys ∧ ∃ o1 o2, σ' = [some (.ref a), some (.ref l), some (.int (N : Int)), o1, o2, some (.ref da)])
      (SqL.of e3) ⟨s03, d2.go s3, SqL.of e3, _, _, rfl⟩ (fun i σ' H' _ hp => hp.2.2.1) (fun i x σ' H' hx hp => ?_) (fun σ' H' hp => ?_)
    · obtain ⟨s4, d4, l4, o1, o2, rfl⟩ := hp
      obtain ⟨e, he, hd⟩ := dpAll_at' hes' hx
      have et : E2.take (i + 1) = E2.take i ++ [e] := by rw [List.take_add_one, he]; rfl
      have hi := (List.getElem?_eq_some_iff.mp he).1
      have oee : ∀ p, e = some p → okD p.2 := fun p h => oe' p (h ▸ List.mem_of_getElem? he)
      obtain ⟨b4, len4⟩ := bk i
      rw [et, somes_snoc]
      wtm_at "go0"
      wtm_at "go"
      refine g_tupK (by wtm_at "ln") fun ty H5 ny s5 ey => ?_
      have hy : Dp K H5 (.ref ty) (entD none) := .tup (SqT.of ey) (.cons (.str _) .nil)
      refine g_neD (e := entD none) (Dp.go (s4.trans s5) hd) hy (entD_shaped oee) shaped_kept ?_
      rw [eqv_kept]
      wtm_at "go"
      cases e with
      | none =>
        refine g_br (fun c => nomatch c) (fun _ => ?_)
        wtm_at "go"
        rw [List.append_nil]
        exact ⟨s4.trans s5, d4.go s5, L2.Same.seq s5 l4, _, _, rfl⟩
      | some p =>
        refine g_br (fun _ => ?_) (fun c => nomatch c)
        obtain ⟨ta, y2, rfl, ht, hy2⟩ := dp_block hd
        rw [layAllB_snoc]
        wtm_at "go"
        refine g_rDPop2 (k := p.1) (z := .non) (d4.go s5) (fun R r => by wtm_at "go"; exact g_ixT (Same.seqT (s4.trans s5) ht) (atI_nat (j := 1) rfl) r) (fun R r => by wtm_at "go"; exact r) fun u H6 q6 d6 => ?_
        have s6 := q6.same (s4.trans s5) nda
        obtain ⟨kv5, ekv5, _⟩ := d4.go s5
        obtain ⟨kv6, ekv6, _⟩ := id d6
        have l6 := q6.seqL ekv5 (L2.Same.seq s5 l4)
        have ht6 := Same.seqT s6 ht
        have hy6 := Dp.go s6 hy2
        wtm_at "go"
        refine g_ixT ht6 (atI_nat (j := 2) rfl) ?_
        wtm_at "go"
        refine g_br (fun c => ?_) (fun c => ?_)
        · have eb : layB (layAllB m (somes (E2.take i))) p.1 p.2 = putA (dropA (layAllB m (somes (E2.take i))) p.1) p.1 p.2 := by
            revert c
            generalize p.2 = b at hy6
            intro c
            cases hy6 <;> first | rfl | (simp at c)
          wtm_at "go"
          refine g_ixT ht6 (atI_nat (j := 2) rfl) ?_
          wtm_at "go"
          refine g_ixT ht6 (atI_nat (j := 1) rfl) ?_
          refine g_rDPut d6 hy6 (by have := length_drop (m := layAllB m (somes (E2.take i))) (k := p.1); omega) fun H7 q7 d7 => ?_
          rw [eb]
          exact ⟨q7.same s6 nda, d7, q7.seqL ekv6 l6, _, _, rfl⟩
        · have eb : layB (layAllB m (somes (E2.take i))) p.1 p.2 = dropA (layAllB m (somes (E2.take i))) p.1 := by
            revert c
            generalize p.2 = b at hy6
            intro c
            cases hy6 <;> first | rfl | (simp at c)
          wtm_at "go"
          rw [eb]
          exact ⟨s6, d6, l6, _, _, rfl⟩
    · obtain ⟨s4, d4, l4, o1, o2, rfl⟩ := hp
      have e5 : E2.take ys.length = E2 := by rw [lys, List.take_length]
      have b5 := (bk ys.length).1
      rw [e5, hdue] at b5
      rw [e5, hdue] at d4
      wtm_at "go"
      exact q da H' nda s4 d4 b5
theorem relE_data {H : Hp} {ys : List V} (h : ∀ (i : Nat) y, ys[i]? = some y → ∃ e : Ent, Dp K H y (entD e) ∧ ∀ p, e = some p → okD p.2) : ∃ en : List Ent, en.length = ys.length ∧ DpAll K H ys (en.map entD) ∧ okE en := by
  induction ys with
  | nil => exact ⟨[], rfl, .nil, fun p h => nomatch h⟩
  | cons y ys ih =>
    obtain ⟨e, he, hok⟩ := h 0 y rfl
    obtain ⟨en, hl, hd, oe⟩ := ih fun i z hz => h (i + 1) z (by simpa using hz)
    refine ⟨e :: en, by simp [hl], .cons he hd, fun p hp => ?_⟩
    rcases List.mem_cons.mp hp with hp | hp
    · exact hok p hp.symm
    · exact oe p hp
theorem ok_law {f : Addr} {fd : FuncData} (F : Fun K "law" "law" s_law f fd) (T : Tx K mg) : FnOk P w K mg base CX0 3 f fd ["_law_script"] (spLaw K) := by
  refine F.ok sc_law (fun vs H Q E h => ?_) (fun cdv A outer s H vs Q E hr h => ?_)
  · obtain ⟨a, ns, rfl, _⟩ := h
    rfl
  obtain ⟨a, ns, rfl, hS, hl, hb, q⟩ := h
  refine ⟨_, (pss_cons (ps_set (i := 1) sc_law.nd rfl (Or.inr rfl) (pe_ix ix_list (pe_lst (pa_cons pe_int (pa_cons pe_int (pa_cons (pe_op op_pow pe_int pe_int) pa_nil)))) (pe_op op_mod (pe_op op_fdiv (pe_call (ok_l_cell_at T) (hr.mono (by decide)) (by rfl) T.g_l_cell_at T.F_l_cell_at.kp T.b_l_cell_at .nil pass0 (pa_cons (pv 0) (pa_cons pe_int pa_nil))) pe_int) pe_int) (fun _ _ => rfl)))
    (pss_cons (ps_set (i := 2) sc_law.nd rfl (Or.inl rfl) pe_dnewK)
    (pss_cons (ps_for PassesOwn.never rfl (pi_range1 (by rfl) T.z_range (pa_cons (pe_op op_mod (pe_call (ok_l_cell_at T) (hr.mono (by decide)) (by rfl) T.g_l_cell_at T.F_l_cell_at.kp T.b_l_cell_at .nil pass0 (pa_cons (pv 0) (pa_cons pe_int pa_nil))) pe_int) pa_nil)) (pg_name (i := 3) sc_law.nd rfl (Or.inl rfl))
      (pss_one (ps_dput (hu_of hr) (pv 2) (pe_op op_mulX (pe_op op_mod (pe_op op_add (pe_op op_fdiv (pe_call (ok_l_cell_at T) (hr.mono (by decide)) (by rfl) T.g_l_cell_at T.F_l_cell_at.kp T.b_l_cell_at .nil pass0 (pa_cons (pv 0) (pa_cons pe_int pa_nil))) pe_int) (pe_op op_mulX pe_int (pv 3))) pe_int) (pv 1)) (pe_tup (pa_cons pe_str (pa_cons (pe_tup (pa_cons (pe_tup (pa_cons (pe_op op_sub (pv 3) pe_int) (pa_cons pe_str pa_nil))) pa_nil)) pa_nil))) rfl)))
    (pss_cons (ps_setLc (i := 4) (own := [("_law_at", 5), ("_law_cell", 6)]) (g := gTup K 2 (gCons (gName 5) (gCons (gName 6) gNil))) (tt := tYes) rfl sc_law.nd rfl rfl (sw_true rfl rfl rfl (by decide +kernel)) (pi_enum (by rfl) T.z_enumerate (pa_cons (pe_slice sl_list (pv 0) (po_some pe_int) po_none) pa_nil)) (blkOk_by (own := [("_law_at", 5), ("_law_cell", 6)]) (N := N_law) (sc := defScope s_law) (by decide +kernel)) (fun _ _ _ _ _ => (pg_tup rfl (pgs_cons (pg_name (i := 5) sc_law.nd rfl (Or.inl rfl)) (pgs_cons (pg_name (i := 6) sc_law.nd rfl (Or.inl rfl)) pgs_nil)))) (fun _ _ _ _ _ => pts_nil) (fun _ _ _ _ _ => (pe_call (ok_l_entry_by T) (hr.mono (by decide)) (by rfl) T.g_l_entry_by T.F_l_entry_by.kp T.b_l_entry_by .nil pass0 (pa_cons (pe_op op_mod (pe_op op_mulX (pe_op op_add (pv 6) (pe_op op_mulX pe_int (pv 5))) pe_int) pe_int) (pa_cons (pv 1) pa_nil)))))
    (Evl.pss_cut (ps_if (pt_cmpR op_eq (pe_op op_mod (pe_call (ok_l_cell_at T) (hr.mono (by decide)) (by rfl) T.g_l_cell_at T.F_l_cell_at.kp T.b_l_cell_at .nil pass0 (pa_cons (pv 0) (pa_cons pe_int pa_nil))) pe_int) pe_int (nomark _))
      (pss_one (ps_set (i := 4) sc_law.nd rfl (Or.inl rfl) (pe_op op_cat (pv 4) (pe_lc (own := [("_law_k", 3)]) (g := gName 3) (tt := tYes) rfl sc_law.nd (pi_range1 (by rfl) T.z_range (pa_cons pe_int pa_nil)) (blkOk_by (own := [("_law_k", 3)]) (N := N_law) (sc := defScope s_law) (by decide +kernel)) (fun _ _ _ _ _ => (pg_name (i := 3) sc_law.nd rfl (Or.inl rfl))) (fun _ _ _ _ _ => pts_nil) (fun _ _ _ _ _ => (pe_call (ok_l_entry_by T) (hr.mono (by decide)) (by rfl) T.g_l_entry_by T.F_l_entry_by.kp T.b_l_entry_by .nil pass0 (pa_cons (pe_op op_mod (pe_op op_mulX (pe_op op_add (pe_op op_fdiv (pe_call (ok_l_cell_at T) (hr.mono (by decide)) (by rfl) T.g_l_cell_at T.F_l_cell_at.kp T.b_l_cell_at .nil pass0 (pa_cons (pv 0) (pa_cons pe_int pa_nil))) pe_int) (pe_op op_mulX pe_int (pv 3))) pe_int) pe_int) (pa_cons (pv 1) pa_nil))))))))
      pss_nil)
    (pss_cons (ps_set (i := 7) sc_law.nd rfl (Or.inl rfl) (pe_callTy my_dictD (by rfl) T.z_dict (by decide +kernel) (pa_cons (pv 2) pa_nil)))
    (pss_cons (ps_set (i := 8) sc_law.nd rfl (Or.inl rfl) (pe_callTy my_list (by rfl) T.z_list (by decide +kernel) (pa_cons (pv 4) pa_nil)))
    (pss_cons (ps_set (i := 9) sc_law.nd rfl (Or.inl rfl) (pe_call (ok_redone T) hr (by rfl) T.g_redone T.F_redone.kp T.b_redone .nil pass0 (pa_cons (pv 7) (pa_cons (pv 8) pa_nil))))
    (pss_cons (ps_if (pw_or (pt_not (pt_val (pe_callB call_isi (by rfl) T.z_isinstance (by decide +kernel) (pa_cons (pv 9) (pa_cons (pe_bltn (v := .ty "dict") (by rfl) T.z_dict (by decide +kernel) rfl) pa_nil))))) (pw_or1 (pt_cmpR (op_neDD hr.units) (pv 9) (pe_call (ok_l_due T) (hr.mono (by decide)) (by rfl) T.g_l_due T.F_l_due.kp T.b_l_due .nil pass0 (pa_cons (pv 2) (pa_cons (pv 4) pa_nil))) (nomark _)))).pt
      (pss_one (ps_ret pe_bl))
      pss_nil)
    (pss_cons (ps_dput (hu_of hr) (pv 9) (pe_op op_pow pe_int pe_int) (pe_tup (pa_cons pe_str (pa_cons (pe_tup pa_nil) pa_nil))) rfl)
    (pss_one (ps_ret (pe_and (pe_cmpR (op_eqDD hr.units) (pv 7) (pv 2) (nomark _)) (pe_one (pe_cmpR (op_eqD hr.units) (pv 8) (pv 4) (nomark _)))))))))))))))), ?_⟩
  have e7 : (10 : Int) ^ Int.toNat 7 = 10000000 := by decide +kernel
  wtm_at "go"
  refine g_lstK (by wtm_at "ln") fun p1 H1 n1 s1 e1 => ?_
  have hS1 := L2.Same.seq s1 hS
  wtm_at "go"
  have hfar : ∃ f : Int, atI [V.int 1, V.int 1, V.int (10 ^ Int.toNat 7)] (cell ns 0 / 35 % 3) = some (.int f) ∧ 0 ≤ f ∧ f ≤ 10000000 := by
    have h3 : cell ns 0 / 35 % 3 = 0 ∨ cell ns 0 / 35 % 3 = 1 ∨ cell ns 0 / 35 % 3 = 2 := by omega
    rw [e7]
    rcases h3 with h | h | h <;> rw [h]
    · exact ⟨1, atI_nat (j := 0) rfl, by decide, by decide⟩
    · exact ⟨1, atI_nat (j := 1) rfl, by decide, by decide⟩
    · exact ⟨10000000, atI_nat (j := 2) rfl, by decide, by decide⟩
  obtain ⟨fa, efa, hfa0, hfa1⟩ := hfar
  refine g_ixL (SqL.of e1) efa ?_
  wtm_at "go"
  refine g_dnewDd (K := K) fun bl H2 n2 s2 d2 => ?_
  have s02 := s1.trans s2
  have hS2 := L2.Same.seq s2 hS1
  wtm_at "go"
  refine g_forR1k (fun i σ' H' => (∃ o, σ' = [some (.ref a), some (.int fa), some (.ref bl), o, none, none, none, none, none, none]) ∧ Same H1 H' ∧ ∃ m, Dd K H' bl m ∧ Blk m ∧ m.length ≤ i) (by omega) ⟨⟨_, rfl⟩, s2, [], d2, Blk.nil, Nat.le_refl _⟩ (fun i σ' H' hi hp => ?_) (fun σ' H' hp => ?_)
  · obtain ⟨⟨o, rfl⟩, s3, m, dm, bm, lm⟩ := hp
    have hS3 := L2.Same.seq s3 hS1
    wtm_at "red"
    refine g_dput ?_
    refine evd_to (K := K) (by wtm_at "ev") fun x H3 s3' hx => ?_
    wtm_at "go"
    refine g_rDPut (dm.go s3') hx (by omega) fun H4 o4 d4 => ?_
    exact ⟨⟨_, rfl⟩, o4.same (s3.trans s3') n2, _, d4, bm.put (okD_leaf _ _ (by decide +kernel)), Nat.le_trans length_put (by omega)⟩
  obtain ⟨⟨o, rfl⟩, s3, m, dm, bm, lm⟩ := hp
  have hS3 := L2.Same.seq s3 hS1
  clear e1 d2 n1 s02 hS2 hS hS1 s1 s2
  have lm5 : m.length ≤ 5 := by omega
  clear lm
  wtm_at "go"
  refine g_slL hS3 fun sl H4 n4 s4 e4 => ?_
  have hS4 := L2.Same.seq s4 hS3
  rw [show (2 : Int) = ((2 : Nat) : Int) from rfl, cut_from] at e4
  refine g_lcEk (fun i y H => ∃ e : Ent, Dp K H y (entD e) ∧ ∀ p, e = some p → okD p.2) (SqL.of e4) (by rw [List.length_drop, List.length_map]; omega) (fun i y H1 H2 st ⟨e, h1, h2⟩ => ⟨e, Dp.still st (entD_strict h2) h1, h2⟩)
    (fun i x T1 H5 QE hx s5 eT k => ?_) (fun lg ys H5 n5 s5 e5 hyl hys => ?_)
  · obtain ⟨c, rfl⟩ : ∃ c : Int, x = .int c := by
      rw [List.getElem?_drop, List.getElem?_map] at hx
      obtain ⟨c, _, rfl⟩ := Option.map_eq_some_iff.mp hx
      exact ⟨c, rfl⟩
    have hi : i ≤ 100 := by
      have := (List.getElem?_eq_some_iff.mp hx).1
      rw [List.length_drop, List.length_map] at this
      omega
    refine g_gtup (SqT.of eT) rfl ?_
    wtm_at "go"
    refine ⟨rfl, ?_⟩
    wtm_at "go"
    exact ⟨_, _, rfl, Int.emod_nonneg _ (by decide), hfa0, hfa1, fun x e H6 s6 hx6 hok => k x H6 s6 ⟨e, hx6, hok⟩⟩
  have hS5 := L2.Same.seq s5 hS4
  have dm5 := dm.go (s4.trans s5)
  obtain ⟨en, hel, hes, oe⟩ := relE_data hys
  have lel : en.length ≤ 63 := by
    rw [hel, hyl, List.length_drop, List.length_map]
    omega
  clear hys e4 dm s4 hS4 n4 hyl hS3
  wtm_at "go"
  refine g_cut (fun σ' H' => ∃ (lg : Addr) (ys : List V) (en : List Ent) (o : Option V), σ' = [some (.ref a), some (.int fa), some (.ref bl), o, some (.ref lg), none, none, none, none, none] ∧ Same H5 H' ∧ H' lg = some (.lst ys) ∧ DpAll K H' ys (en.map entD) ∧ okE en ∧ en.length ≤ 130) ?_ ?_
  · wtm_at "go"
    refine g_br (fun c => ?_) (fun c => ?_)
    · wtm_at "go"
      refine g_lcR1k (fun i y H => ∃ e : Ent, Dp K H y (entD e) ∧ ∀ p, e = some p → okD p.2) (by decide) (fun x => rfl) (fun i y H1 H2 st ⟨e, h1, h2⟩ => ⟨e, Dp.still st (entD_strict h2) h1, h2⟩)
        (fun i H6 QE hi s6 k => ?_) (fun l2 zs H6 n6 s6 e6 hzl hzs => ?_)
      · have hS6 := L2.Same.seq s6 hS5
        wtm_at "go"
        exact ⟨_, _, rfl, Int.emod_nonneg _ (by decide), hfa0, hfa1, fun x e H7 s7 hx7 hok => k x H7 s7 ⟨e, hx7, hok⟩⟩
      · obtain ⟨en2, hel2, hes2, oe2⟩ := relE_data hzs
        have l60 : zs.length = 60 := by rw [hzl]; rfl
        refine ⟨lg, l2, ys, zs, rfl, rfl, s6 _ _ e5, e6, by exact sz (by omega), fun t nt => ?_⟩
        wtm_at "go"
        refine ⟨t, ys ++ zs, en ++ en2, _, rfl, s6.trans (Same.new nt _), upd_same, ?_, fun p hp => ?_, by rw [List.length_append]; omega⟩
        · rw [List.map_append]
          exact DpAll.go (Same.new nt _) (dpAll_app (DpAll.go s6 hes) hes2)
        · rcases List.mem_append.mp hp with hp | hp
          · exact oe p hp
          · exact oe2 p hp
    · wtm_at "go"
      exact ⟨lg, ys, en, _, rfl, L2.Same.refl _, e5, hes, oe, by omega⟩
  clear e5 hes oe lel hel
  rintro σ' H6 ⟨lg, ys, en, o, rfl, s6, e6, hes, oe, lel⟩
  have dm6 := dm5.go s6
  clear dm5 hS5 n5 s5 s3 s6
  have lys := dpAll_len hes
  rw [List.length_map] at lys
  wtm_at "go"
  refine g_dictDd dm6 fun hn H7 n7 s7 d7 => ?_
  wtm_at "go"
  refine g_list (.inl (SqL.of (s7 _ _ e6))) fun ro H8 n8 s8 e8 => ?_
  have s68 := s7.trans s8
  wtm_at "go"
  refine ⟨hn, ro, m, ys, en, rfl, d7.go s8, SqL.of e8, DpAll.go s68 hes, oe, bm, by omega, fun fo H9 nf s9 d9 => ?_⟩
  have s69 := s68.trans s9
  have bf := redoA_blk bm oe
  have lf := redoA_len bm oe
  wtm_at "go"
  refine g_isiD d9 ?_
  wtm_at "go"
  refine g_orK (fun c => nomatch c) (fun _ => ?_)
  wtm_at "go"
  refine ⟨bl, lg, m, ys, en, rfl, dm6.go s69, SqL.of (s69 _ _ e6), DpAll.go s69 hes, oe, bm, by omega, fun du H10 nd s10 d10 b10 => ?_⟩
  refine g_neDD (d9.go s10) d10 bf.fit b10.fit ?_
  rw [eqA_blk bf b10 dueA_get]
  refine g_isB (g_br (fun c => nomatch c) (fun _ => ?_))
  refine g_next ?_
  wtm_at "red"
  refine g_seq (g_dput ?_)
  refine evd_to (K := K) (by wtm_at "ev") fun x H11 s11 hx => ?_
  wtm_at "go"
  refine g_rDPut (d9.go (s10.trans s11)) hx (by omega) fun H12 o12 d12 => ?_
  have s12 : Same H8 H12 := o12.same (s9.trans (s10.trans s11)) nf
  have s612 := s68.trans s12
  wtm_at "go"
  refine g_eqDD ((d7.go s8).go s12) (dm6.go s612) bm.fit bm.fit ?_
  rw [eqA_refl bm]
  refine g_andV (fun _ => ?_) (fun c => nomatch c)
  wtm_at "go"
  refine g_eqL (SqL.of (s12 _ _ e8)) (SqL.of (s612 _ _ e6)) (DpAll.go s612 hes) (DpAll.go s612 hes) oe.fit (by decide) ?_
  exact q _
theorem all_mk {l : PySem.W.OpenLaw} {w : World} {K : PySem.W.Frag} {h : Heap} {mg : Str → Option Value} {fa : Addr} (X : K.In h) (G : h.Ns mainGlobals mg) (hfa : mg "law" = some (.ref fa))
    {f0 : Addr} {od0 an0 : Option Addr} {sl0 : Array (Option Value)} {oc0 kV0 dc0 pm0 cd0 ct0 : Value}
    (a0 : PySem.W.nsIn K mainGlobals "lay" = some (some (.ref f0))) (l0 : K.lookup f0 = some ⟨oc0, od0, .func (PySem.W.fnOf "lay" "lay" (defArgs s_lay) (defBody s_lay) (defScope s_lay) .none kV0 dc0 pm0 an0 cd0 ct0), sl0⟩) (c0 : PySem.W.codeIn K cd0 "lay" = true) (k0 : PySem.W.keepIn K (.ref f0) = true)
    {f1 : Addr} {od1 an1 : Option Addr} {sl1 : Array (Option Value)} {oc1 kV1 dc1 pm1 cd1 ct1 : Value}
    (a1 : PySem.W.nsIn K mainGlobals "redone" = some (some (.ref f1))) (l1 : K.lookup f1 = some ⟨oc1, od1, .func (PySem.W.fnOf "redone" "redone" (defArgs s_redone) (defBody s_redone) (defScope s_redone) .none kV1 dc1 pm1 an1 cd1 ct1), sl1⟩) (c1 : PySem.W.codeIn K cd1 "redone" = true) (k1 : PySem.W.keepIn K (.ref f1) = true)
    {f2 : Addr} {od2 an2 : Option Addr} {sl2 : Array (Option Value)} {oc2 kV2 dc2 pm2 cd2 ct2 : Value}
    (a2 : PySem.W.nsIn K mainGlobals "_law_cell_at" = some (some (.ref f2))) (l2 : K.lookup f2 = some ⟨oc2, od2, .func (PySem.W.fnOf "_law_cell_at" "_law_cell_at" (defArgs s_l_cell_at) (defBody s_l_cell_at) (defScope s_l_cell_at) .none kV2 dc2 pm2 an2 cd2 ct2), sl2⟩) (c2 : PySem.W.codeIn K cd2 "_law_cell_at" = true) (k2 : PySem.W.keepIn K (.ref f2) = true)
    {f3 : Addr} {od3 an3 : Option Addr} {sl3 : Array (Option Value)} {oc3 kV3 dc3 pm3 cd3 ct3 : Value}
    (a3 : PySem.W.nsIn K mainGlobals "_law_entry_by" = some (some (.ref f3))) (l3 : K.lookup f3 = some ⟨oc3, od3, .func (PySem.W.fnOf "_law_entry_by" "_law_entry_by" (defArgs s_l_entry_by) (defBody s_l_entry_by) (defScope s_l_entry_by) .none kV3 dc3 pm3 an3 cd3 ct3), sl3⟩) (c3 : PySem.W.codeIn K cd3 "_law_entry_by" = true) (k3 : PySem.W.keepIn K (.ref f3) = true)
    {f4 : Addr} {od4 an4 : Option Addr} {sl4 : Array (Option Value)} {oc4 kV4 dc4 pm4 cd4 ct4 : Value}
    (a4 : PySem.W.nsIn K mainGlobals "_law_due" = some (some (.ref f4))) (l4 : K.lookup f4 = some ⟨oc4, od4, .func (PySem.W.fnOf "_law_due" "_law_due" (defArgs s_l_due) (defBody s_l_due) (defScope s_l_due) .none kV4 dc4 pm4 an4 cd4 ct4), sl4⟩) (c4 : PySem.W.codeIn K cd4 "_law_due" = true) (k4 : PySem.W.keepIn K (.ref f4) = true)
    {f5 : Addr} {od5 an5 : Option Addr} {sl5 : Array (Option Value)} {oc5 kV5 dc5 pm5 cd5 ct5 : Value}
    (a5 : PySem.W.nsIn K mainGlobals "law" = some (some (.ref f5))) (l5 : K.lookup f5 = some ⟨oc5, od5, .func (PySem.W.fnOf "law" "law" (defArgs s_law) (defBody s_law) (defScope s_law) .none kV5 dc5 pm5 an5 cd5 ct5), sl5⟩) (c5 : PySem.W.codeIn K cd5 "law" = true) (k5 : PySem.W.keepIn K (.ref f5) = true)
    (z0 : PySem.W.nsIn K mainGlobals "dict" = some none)
    (z1 : PySem.W.nsIn K mainGlobals "enumerate" = some none)
    (z2 : PySem.W.nsIn K mainGlobals "isinstance" = some none)
    (z3 : PySem.W.nsIn K mainGlobals "len" = some none)
    (z4 : PySem.W.nsIn K mainGlobals "list" = some none)
    (z5 : PySem.W.nsIn K mainGlobals "range" = some none)
    : ∃ fd : FuncData, (∀ (s : Shared) (v : Value), BindsTo s fd ⟨[v], []⟩ [("_law_script", v)]) ∧ ∀ base : Heap, K.In base → base.Ns mainGlobals mg → FnOk l.prog w K mg base CX0 3 fa fd ["_law_script"] (spLaw K) := by
  have e := hfa.symm.trans (PySem.W.mg_of X G a5)
  cases e
  have F0 := fun_mk (st := s_lay) l0 c0 k0
  have b0 := F0.binds (ps := ["blocks", "number", "block"]) fun _ _ _ _ _ _ us hl => match us, hl with | [_, _, _], _ => rfl
  have F1 := fun_mk (st := s_redone) l1 c1 k1
  have b1 := F1.binds (ps := ["blocks", "log"]) fun _ _ _ _ _ _ us hl => match us, hl with | [_, _], _ => rfl
  have F2 := fun_mk (st := s_l_cell_at) l2 c2 k2
  have b2 := F2.binds (ps := ["_law_script", "_law_k"]) fun _ _ _ _ _ _ us hl => match us, hl with | [_, _], _ => rfl
  have F3 := fun_mk (st := s_l_entry_by) l3 c3 k3
  have b3 := F3.binds (ps := ["_law_cell", "_law_far"]) fun _ _ _ _ _ _ us hl => match us, hl with | [_, _], _ => rfl
  have F4 := fun_mk (st := s_l_due) l4 c4 k4
  have b4 := F4.binds (ps := ["_law_blocks", "_law_log"]) fun _ _ _ _ _ _ us hl => match us, hl with | [_, _], _ => rfl
  have F5 := fun_mk (st := s_law) l5 c5 k5
  have T : Tx K mg := ⟨f0, _, F0, b0, PySem.W.mg_of X G a0, f1, _, F1, b1, PySem.W.mg_of X G a1, f2, _, F2, b2, PySem.W.mg_of X G a2, f3, _, F3, b3, PySem.W.mg_of X G a3, f4, _, F4, b4, PySem.W.mg_of X G a4, PySem.W.mg_none_of X G z0, PySem.W.mg_none_of X G z1, PySem.W.mg_none_of X G z2, PySem.W.mg_none_of X G z3, PySem.W.mg_none_of X G z4, PySem.W.mg_none_of X G z5⟩
  exact ⟨_, fun s v => .of_eq rfl, fun base _ _ => ok_law F5 T⟩
end
end My
open PySem PySem.W PyProof.Rows
set_option maxRecDepth 100000 in
set_option maxHeartbeats 0 in
theorem PySem.Challenge.cw_btreelog_k06_groups_redone_holds : PySem.Challenge.rw_btreelog_k06_groups_redone.Holds := by
  w_on; o_law; k_head; (case hw => w_witness2)
  k_fill
  refine L2.walk_ofB (l := PySem.Challenge.rw_btreelog_k06_groups_redone) (n := 63) (k := 3) (x := "_law_script") (CX := fun _ => L2.CX0) (sp := fun w => My.spLaw _) rfl (by decide) rfl ⟨rfl, by decide, by decide⟩ (fun w h Y => PySem.W.kIn_of Y) ?F (fun _ _ a ns hl hb _ hS => ⟨a, ns, rfl, hS, hl, hb, fun _ => rfl⟩) (fun _ _ _ _ _ h => h)
  case F =>
    intro w mg fa h KX G hmg
    refine' My.all_mk KX G hmg ?a0 ?l0 ?c0 ?k0 ?a1 ?l1 ?c1 ?k1 ?a2 ?l2 ?c2 ?k2 ?a3 ?l3 ?c3 ?k3 ?a4 ?l4 ?c4 ?k4 ?a5 ?l5 ?c5 ?k5 ?z0 ?z1 ?z2 ?z3 ?z4 ?z5
    (case a0 => k_is)
    (case l0 => k_is)
    (case c0 => k_is)
    (case k0 => k_is)
    (case a1 => k_is)
    (case l1 => k_is)
    (case c1 => k_is)
    (case k1 => k_is)
    (case a2 => k_is)
    (case l2 => k_is)
    (case c2 => k_is)
    (case k2 => k_is)
    (case a3 => k_is)
    (case l3 => k_is)
    (case c3 => k_is)
    (case k3 => k_is)
    (case a4 => k_is)
    (case l4 => k_is)
    (case c4 => k_is)
    (case k4 => k_is)
    (case a5 => k_is)
    (case l5 => k_is)
    (case c5 => k_is)
    (case k5 => k_is)
    (case z0 => k_is)
    (case z1 => k_is)
    (case z2 => k_is)
    (case z3 => k_is)
    (case z4 => k_is)
    (case z5 => k_is)
