import PyProof.Rows.All
import Wide.All
import OpenK.AllK
import Wide.FinOn
import HandS.ForMost
import HandS.More
import HandS.IsInst
import HandS.RevRange
import HandS.Style
import HandS.EndBits
import HandS.Evl
import PySem.Challenge.RW_btreelog_k02_rows_part
set_option Elab.async false
set_option linter.all false
set_option maxRecDepth 100000
set_option maxHeartbeats 1000000
namespace My
open PySem L2
/-! ### facts carried from heap to heap -/
theorem Same.at {H H' : Hp} {a : Addr} {o : HO} (e : Same H H') (h : H a = some o) : H' a = some o := e a o h
theorem Same.seqT {K : PySem.W.Frag} {H H' : Hp} {a : Addr} {xs : List V} (e : Same H H') (h : SqT K H a xs) : SqT K H' a xs := Evl.ex_t e h
theorem Same.new {H : Hp} {p : Addr} (h : H p = none) (o : HO) : Same H (upd H p o) := Evl.Ex.new h
theorem seq_l {K : PySem.W.Frag} {H : Hp} {a : Addr} {xs : List V} (h : SqL K H a xs) : SqL K H a xs ∨ SqT K H a xs := .inl h
theorem seq_t {K : PySem.W.Frag} {H : Hp} {a : Addr} {xs : List V} (h : SqT K H a xs) : SqL K H a xs ∨ SqT K H a xs := .inr h
theorem Same.seqO {K : PySem.W.Frag} {H H' : Hp} {a : Addr} {xs : List V} (e : Same H H') (h : SqL K H a xs ∨ SqT K H a xs) : SqL K H' a xs ∨ SqT K H' a xs :=
  h.elim (fun h => .inl (e.seq h)) fun h => .inr (Same.seqT e h)
mutual
theorem Dp.go {K : PySem.W.Frag} {H H' : Hp} (e : Same H H') : ∀ {v : V} {d : PyData}, Dp K H v d → Dp K H' v d
  | _, _, .non => .non
  | _, _, .bl b => .bl b
  | _, _, .int i => .int i
  | _, _, .str x => .str x
  | _, _, .lst h r => .lst (e.seq h) (DpAll.go e r)
  | _, _, .tup h r => .tup (Same.seqT e h) (DpAll.go e r)
theorem DpAll.go {K : PySem.W.Frag} {H H' : Hp} (e : Same H H') : ∀ {vs : List V} {ds : List PyData}, DpAll K H vs ds → DpAll K H' vs ds
  | _, _, .nil => .nil
  | _, _, .cons h r => .cons (Dp.go e h) (DpAll.go e r)
end
/-! ### readings, a step at a time -/
section
variable {K : PySem.W.Frag} {σ : L2.St} {H : Hp} {Q : VK} {ta tb tc te : TE} {v x y z : V} {D : Ends} {t u : TS} {tt tu : TT} {r r' : R2} {tr : TA} {QA : List V → Hp → Prop} {QB : Bool → Hp → Prop}
theorem g_var {i : Nat} (h : σ[i]? = some (some v)) (q : Q v H) : tVar i σ H Q := ⟨v, h, q⟩
theorem g_c (q : Q v H) : tC v σ H Q := q
theorem g_op (q : ta σ H fun x H1 => tb σ H1 fun y H2 => r x y H2 Q) : tOp r ta tb σ H Q := q
theorem g_un {f : V → Hp → VK → Prop} (q : ta σ H fun x H1 => f x H1 Q) : tUn f ta σ H Q := q
theorem g_rI0 {g : Int → Int → V} {i j : Int} (q : Q (g i j) H) : rI0 g (.int i) (.int j) H Q := ⟨i, j, rfl, rfl, q⟩
theorem g_rI {C : Int → Int → Prop} {g : Int → Int → V} {i j : Int} (c : C i j) (q : Q (g i j) H) : rI C g (.int i) (.int j) H Q := ⟨i, j, rfl, rfl, c, q⟩
theorem g_rU {g : Int → V} {i : Int} (q : Q (g i) H) : rU g (.int i) H Q := ⟨i, rfl, q⟩
theorem g_rEq (s : scal x y = true) (q : Q (.bl (decide (x = y))) H) : rEq x y H Q := ⟨s, q⟩
theorem g_rNe (s : scal x y = true) (q : Q (.bl (!decide (x = y))) H) : rNe x y H Q := ⟨s, q⟩
/-- what a test waits for -/
def isB (QB : Bool → Hp → Prop) : VK := fun x H => ∃ k, x = .bl k ∧ QB k H
theorem g_isB {k : Bool} (q : QB k H) : isB QB (.bl k) H := ⟨k, rfl, q⟩
theorem g_test (q : ta σ H (isB QB)) : tTest ta σ H QB := q
theorem g_tB (q : ta σ H (isB QB)) : tB ta σ H QB := q
def chK (r' : R2) (tc : TE) (y : V) (σ : L2.St) (Q : VK) : Bool → Hp → Prop := fun k H => if k = true then tc σ H fun w H4 => r' y w H4 Q else Q (.bl false) H
theorem g_chain (q : ta σ H fun x H1 => tb σ H1 fun y H2 => r x y H2 (isB (chK r' tc y σ Q))) : tChain r r' ta tb tc σ H Q := q
theorem g_chK {k : Bool} (h1 : k = true → tc σ H fun w H4 => r' y w H4 Q) (h2 : k = false → Q (.bl false) H) : chK r' tc y σ Q k H := by
  cases k
  · exact h2 rfl
  · exact h1 rfl
def andK (u : TT) (σ : L2.St) (Q : Bool → Hp → Prop) : Bool → Hp → Prop := fun c H => if c = true then u σ H Q else Q false H
def orK (u : TT) (σ : L2.St) (Q : Bool → Hp → Prop) : Bool → Hp → Prop := fun c H => if c = true then Q true H else u σ H Q
def notK (Q : Bool → Hp → Prop) : Bool → Hp → Prop := fun c H => Q (!c) H
theorem g_and (q : tt σ H (andK tu σ QB)) : tAnd tt tu σ H QB := q
theorem g_or (q : tt σ H (orK tu σ QB)) : tOr tt tu σ H QB := q
theorem g_not (q : tt σ H (notK QB)) : tNot tt σ H QB := q
theorem g_notK {k : Bool} (q : QB (!k) H) : notK QB k H := q
theorem g_andK {k : Bool} (h1 : k = true → tu σ H QB) (h2 : k = false → QB false H) : andK tu σ QB k H := by
  cases k
  · exact h2 rfl
  · exact h1 rfl
theorem g_orK {k : Bool} (h1 : k = true → QB true H) (h2 : k = false → tu σ H QB) : orK tu σ QB k H := by
  cases k
  · exact h2 rfl
  · exact h1 rfl
/-- .. as values -/
def andV (tb : TE) (σ : L2.St) (Q : VK) : VK := fun x H => ∃ c, x = .bl c ∧ if c = true then tb σ H Q else Q (.bl false) H
def orV (tb : TE) (σ : L2.St) (Q : VK) : VK := fun x H => ∃ c, x = .bl c ∧ if c = true then Q (.bl true) H else tb σ H Q
def notV (Q : VK) : VK := fun x H => ∃ c, x = .bl c ∧ Q (.bl (!c)) H
theorem g_andT (q : ta σ H (andV tb σ Q)) : tAndV ta tb σ H Q := q
theorem g_orT (q : ta σ H (orV tb σ Q)) : tOrV ta tb σ H Q := q
theorem g_notT (q : ta σ H (notV Q)) : tNotV ta σ H Q := q
theorem g_andV {k : Bool} (h1 : k = true → tb σ H Q) (h2 : k = false → Q (.bl false) H) : andV tb σ Q (.bl k) H := ⟨k, rfl, by
  cases k
  · exact h2 rfl
  · exact h1 rfl⟩
theorem g_orV {k : Bool} (h1 : k = true → Q (.bl true) H) (h2 : k = false → tb σ H Q) : orV tb σ Q (.bl k) H := ⟨k, rfl, by
  cases k
  · exact h2 rfl
  · exact h1 rfl⟩
theorem g_notV {k : Bool} (q : Q (.bl (!k)) H) : notV Q (.bl k) H := ⟨k, rfl, q⟩
def ifV (ta tb : TE) (σ : L2.St) (Q : VK) : Bool → Hp → Prop := fun c H => if c = true then ta σ H Q else tb σ H Q
theorem g_ifE (q : tt σ H (ifV ta tb σ Q)) : tIf tt ta tb σ H Q := q
theorem g_ifV {k : Bool} (h1 : k = true → ta σ H Q) (h2 : k = false → tb σ H Q) : ifV ta tb σ Q k H := by
  cases k
  · exact h2 rfl
  · exact h1 rfl
/-! tuples, lists, arguments, calls -/
theorem g_nil (q : QA [] H) : tNil σ H QA := q
theorem g_cons (q : ta σ H fun x H1 => tr σ H1 fun xs H2 => QA (x :: xs) H2) : tCons ta tr σ H QA := q
def tupK (Q : VK) : List V → Hp → Prop := fun xs H => xs.length ≤ sizeLine ∧ ∀ p, H p = none → Q (.ref p) (upd H p (.tup xs))
def lstK (Q : VK) : List V → Hp → Prop := fun xs H => xs.length ≤ sizeLine ∧ ∀ p, H p = none → Q (.ref p) (upd H p (.lst xs))
theorem g_tup (q : tr σ H (tupK Q)) : tTup tr σ H Q := q
theorem g_lst (q : tr σ H (lstK Q)) : tLst tr σ H Q := q
theorem g_tupK {xs : List V} (hl : xs.length ≤ sizeLine) (q : ∀ p H1, H p = none → Same H H1 → H1 p = some (.tup xs) → Q (.ref p) H1) : tupK Q xs H :=
  ⟨hl, fun p hp => q p _ hp (Same.new hp _) upd_same⟩
theorem g_lstK {xs : List V} (hl : xs.length ≤ sizeLine) (q : ∀ p H1, H p = none → Same H H1 → H1 p = some (.lst xs) → Q (.ref p) H1) : lstK Q xs H :=
  ⟨hl, fun p hp => q p _ hp (Same.new hp _) upd_same⟩
theorem g_call {sp : Sp} {dvs : List V} {E : XK} (q : tr σ H fun vs H1 => sp (vs ++ dvs) H1 Q E) : tCall sp dvs E tr σ H Q := q
theorem g_cb {f : List V → Hp → VK → Prop} (q : tr σ H fun vs H1 => f vs H1 Q) : tCB f tr σ H Q := q
theorem g_bm {T : String} {f : V → List V → Hp → VK → Prop} (q : ta σ H fun x H1 => tyV K T x H1 ∧ tr σ H1 fun xs H2 => f x xs H2 Q) : tBM K T f ta tr σ H Q := q
/-! subscripts, slices -/
theorem g_ixL {p : Addr} {xs : List V} {i : Int} (h : SqL K H p xs) (ha : atI xs i = some v) (q : Q v H) : rIxL K (.ref p) (.int i) H Q := ⟨p, xs, i, v, rfl, rfl, h, ha, q⟩
theorem g_ixT {p : Addr} {xs : List V} {i : Int} (h : SqT K H p xs) (ha : atI xs i = some v) (q : Q v H) : rIxT K (.ref p) (.int i) H Q := ⟨p, xs, i, v, rfl, rfl, h, ha, q⟩
theorem g_ixO {p : Addr} {xs : List V} {i : Int} (h : SqL K H p xs ∨ SqT K H p xs) (ha : atI xs i = some v) (q : Q v H) : rIx K (.ref p) (.int i) H Q :=
  h.elim (fun h => .inl ⟨p, xs, i, v, rfl, rfl, h, ha, q⟩) fun h => .inr (.inl ⟨p, xs, i, v, rfl, rfl, h, ha, q⟩)
theorem g_sl {f : V → Option Int → Option Int → Hp → VK → Prop} {tl th : TO} (q : te σ H fun x H1 => tl σ H1 fun l H2 => th σ H2 fun u H3 => f x l u H3 Q) : tSl f te tl th σ H Q := q
theorem g_noPart {QO : Option Int → Hp → Prop} (q : QO none H) : tNoPart σ H QO := q
def partK (QO : Option Int → Hp → Prop) : VK := fun x H => ∃ i, x = .int i ∧ QO (some i) H
theorem g_part {QO : Option Int → Hp → Prop} (q : te σ H (partK QO)) : tPart te σ H QO := q
theorem g_partK {QO : Option Int → Hp → Prop} {i : Int} (q : QO (some i) H) : partK QO (.int i) H := ⟨i, rfl, q⟩
theorem g_slL {a : Addr} {xs : List V} {lo hi : Option Int} (h : SqL K H a xs) (q : ∀ p H1, H p = none → Same H H1 → H1 p = some (.lst (cutV xs lo hi)) → Q (.ref p) H1) : rSlL K (.ref a) lo hi H Q :=
  ⟨a, xs, rfl, h, fun p hp => q p _ hp (Same.new hp _) upd_same⟩
theorem g_slT {a : Addr} {xs : List V} {lo hi : Option Int} (h : SqT K H a xs) (n : ¬ (HT.sIx xs.length 0 lo = 0 ∧ HT.sIx xs.length xs.length hi = xs.length)) (q : ∀ p H1, H p = none → Same H H1 → H1 p = some (.tup (cutV xs lo hi)) → Q (.ref p) H1) : rSlT K (.ref a) lo hi H Q :=
  ⟨a, xs, rfl, h, n, fun p hp => q p _ hp (Same.new hp _) upd_same⟩
/-! statements -/
theorem g_seq (q : t { D with nx := u D } σ H) : tSeq t u D σ H := q
theorem g_next (q : D.nx σ H) : tNext D σ H := q
theorem g_asg {g : TG} (q : te σ H fun x H1 => g x σ H1 D.nx) : tAsg te g D σ H := q
theorem g_name {i : Nat} {QS : L2.St → Hp → Prop} (q : QS (σ.set i (some v)) H) : gName i v σ H QS := q
theorem g_gtup {n : Nat} {tg : TGs} {a : Addr} {xs : List V} {QS : L2.St → Hp → Prop} (h : SqT K H a xs) (hl : xs.length = n) (q : tg xs σ H QS) : gTup K n tg (.ref a) σ H QS := ⟨a, xs, rfl, h, hl, q⟩
theorem g_gcons {g : TG} {tg : TGs} {vs : List V} {QS : L2.St → Hp → Prop} (q : g v σ H fun σ' H' => tg vs σ' H' QS) : gCons g tg (v :: vs) σ H QS := ⟨v, vs, rfl, q⟩
theorem g_gnil {QS : L2.St → Hp → Prop} (q : QS σ H) : gNil [] σ H QS := ⟨rfl, q⟩
theorem g_ret (q : te σ H D.rt) : tRet te D σ H := q
theorem g_retN (q : D.rt .non H) : tRetN D σ H := q
theorem g_drop (q : te σ H fun _ H1 => D.nx σ H1) : tDrop te D σ H := q
def brS (t u : TS) (D : Ends) (σ : L2.St) : Bool → Hp → Prop := fun b H1 => if b = true then t D σ H1 else u D σ H1
theorem g_if (q : tt σ H (brS t u D σ)) : tIfS tt t u D σ H := q
theorem g_br {k : Bool} (h1 : k = true → t D σ H) (h2 : k = false → u D σ H) : brS t u D σ k H := by
  cases k
  · exact h2 rfl
  · exact h1 rfl
theorem g_brT (h1 : t D σ H) : brS t u D σ true H := h1
theorem g_brF (h1 : u D σ H) : brS t u D σ false H := h1
end
/-! ### rules whose relation has a name -/
section
variable {X : Cx}
def rLen (K : PySem.W.Frag) : List V → Hp → VK → Prop := fun xs H Q => ∃ p ys, xs = [.ref p] ∧ (SqL K H p ys ∨ SqT K H p ys) ∧ Q (.int ys.length) H
theorem my_len : CallR X (.builtin "len") (rLen X.K) := call_len_seq
def rLenS : List V → Hp → VK → Prop := fun us H Q => ∃ t, us = [.str t] ∧ t.length ≤ sizeLine ∧ Q (.int t.length) H
theorem my_lenS : CallR X (.builtin "len") rLenS := call_len_str
def rList (K : PySem.W.Frag) : List V → Hp → VK → Prop := fun xs H Q => ∃ p ys, xs = [.ref p] ∧ (SqL K H p ys ∨ SqT K H p ys) ∧ ∀ l, H l = none → Q (.ref l) (upd H l (.lst ys))
theorem my_list : CallR X (.type "list") (rList X.K) := call_list_of
def rTuple (K : PySem.W.Frag) : List V → Hp → VK → Prop := fun xs H Q => ∃ p ys, xs = [.ref p] ∧ ((SqL K H p ys ∧ ∀ l, H l = none → Q (.ref l) (upd H l (.tup ys))) ∨ (SqT K H p ys ∧ Q (.ref p) H))
theorem my_tuple : CallR X (.type "tuple") (rTuple X.K) := call_tuple_of
def rInt : List V → Hp → VK → Prop := fun xs H Q => (∃ i, xs = [.int i] ∧ Q (.int i) H) ∨ ∃ k, xs = [.bl k] ∧ Q (.int (if k then 1 else 0)) H
theorem my_int : CallR X (.type "int") rInt := call_int1
def rMax2 : List V → Hp → VK → Prop := fun us H Q => ∃ i j, us = [.int i, .int j] ∧ Q (.int (if j > i then j else i)) H
theorem my_max2 (hc : X.calm = true) : CallR X (.builtin "max") rMax2 := call_max2 hc
def rStrI : List V → Hp → VK → Prop := fun xs H Q => ∃ i, xs = [.int i] ∧ i.natAbs.log2 < 1920 ∧ Q (.str (toString i)) H
theorem my_strI : CallR X (.type "str") rStrI := call_str_int
def rAddS : R2 := fun x y H Q => ∃ i j, x = .str i ∧ y = .str j ∧ i.length + j.length ≤ sizeLine ∧ Q (.str (i ++ j)) H
theorem my_addS : OpR X (binaryOp .Add) rAddS := op_add_str
def rIsN : R2 := fun u v H Q => v = .non ∧ Q (.bl (decide (u = .non))) H
def rNotN : R2 := fun u v H Q => v = .non ∧ Q (.bl (!decide (u = .non))) H
theorem my_isN : OpR X (compareOp .Is) rIsN := op_isN
theorem my_notN : OpR X (compareOp .IsNot) rNotN := op_notN
def rIsTy : R2 := fun x y H Q => ∃ a b, x = .ty a ∧ y = .ty b ∧ Q (.bl (decide (a = b))) H
theorem my_isTy : OpR X (compareOp .Is) rIsTy := op_isTyB
theorem op_mulX : OpR X (binaryOp .Mult) (rI IntMulOk fun i j => .int (i * j)) := opI fun _ _ _ _ _ _ _ hc q => PyProof.Rows.mul_int q hc
end
section
variable {K : PySem.W.Frag} {H : Hp} {Q : VK} {v x y : V} {a : Addr} {xs : List V}
theorem g_len (h : SqL K H a xs ∨ SqT K H a xs) (q : Q (.int xs.length) H) : rLen K [.ref a] H Q := ⟨a, xs, rfl, h, q⟩
theorem g_lenS {z : Str} (h : z.length ≤ sizeLine) (q : Q (.int z.length) H) : rLenS [.str z] H Q := ⟨z, rfl, h, q⟩
theorem g_list (h : SqL K H a xs ∨ SqT K H a xs) (q : ∀ p H1, H p = none → Same H H1 → H1 p = some (.lst xs) → Q (.ref p) H1) : rList K [.ref a] H Q := ⟨a, xs, rfl, h, fun p hp => q p _ hp (Same.new hp _) upd_same⟩
theorem g_tupleL (h : SqL K H a xs) (q : ∀ p H1, H p = none → Same H H1 → H1 p = some (.tup xs) → Q (.ref p) H1) : rTuple K [.ref a] H Q := ⟨a, xs, rfl, .inl ⟨h, fun p hp => q p _ hp (Same.new hp _) upd_same⟩⟩
theorem g_tupleT (h : SqT K H a xs) (q : Q (.ref a) H) : rTuple K [.ref a] H Q := ⟨a, xs, rfl, .inr ⟨h, q⟩⟩
/-- tuple(x) of either: some tuple of the items -/
theorem g_tupleO (h : SqL K H a xs ∨ SqT K H a xs) (q : ∀ p H1, Same H H1 → SqT K H1 p xs → Q (.ref p) H1) : rTuple K [.ref a] H Q :=
  h.elim (fun h => g_tupleL h fun p H1 _ s e => q p H1 s (SqT.of e)) fun h => g_tupleT h (q a H (L2.Same.refl H) h)
theorem g_intB {k : Bool} (q : Q (.int (if k then 1 else 0)) H) : rInt [.bl k] H Q := .inr ⟨k, rfl, q⟩
theorem g_intI {i : Int} (q : Q (.int i) H) : rInt [.int i] H Q := .inl ⟨i, rfl, q⟩
theorem g_max2 {i j : Int} (q : Q (.int (if j > i then j else i)) H) : rMax2 [.int i, .int j] H Q := ⟨i, j, rfl, q⟩
theorem g_strI {i : Int} (h : i.natAbs.log2 < 1920) (q : Q (.str (toString i)) H) : rStrI [.int i] H Q := ⟨i, rfl, h, q⟩
theorem g_addS {i j : Str} (h : i.length + j.length ≤ sizeLine) (q : Q (.str (i ++ j)) H) : rAddS (.str i) (.str j) H Q := ⟨i, j, rfl, rfl, h, q⟩
theorem g_isN (q : Q (.bl (decide (x = .non))) H) : rIsN x .non H Q := ⟨rfl, q⟩
theorem g_notN (q : Q (.bl (!decide (x = .non))) H) : rNotN x .non H Q := ⟨rfl, q⟩
theorem g_isTy {m n : String} (q : Q (.bl (decide (m = n))) H) : rIsTy (.ty m) (.ty n) H Q := ⟨m, n, rfl, rfl, q⟩
theorem g_notTy {m n : String} (q : Q (.bl (!decide (m = n))) H) : rNT (.ty m) (.ty n) H Q := ⟨m, n, rfl, rfl, q⟩
theorem g_isBl {m n : Bool} (q : Q (.bl (decide (m = n))) H) : rIsB (.bl m) (.bl n) H Q := ⟨m, n, rfl, rfl, q⟩
theorem g_notBl {m n : Bool} (q : Q (.bl (!decide (m = n))) H) : rNotB (.bl m) (.bl n) H Q := ⟨m, n, rfl, rfl, q⟩
theorem g_typ {T : String} (t : TyB K H x T) (q : Q (.ty T) H) : rTyp K [x] H Q := ⟨x, T, rfl, t, q⟩
theorem g_isi {c : V} {t u : Value} {b : Bool} (k : ClsV c u) (ty : TyX K H x t) (e : PySem.W.kitOne K t u = some b) (q : Q (.bl b) H) : rIsi K [x, c] H Q := ⟨x, c, t, u, b, rfl, k, ty, e, q⟩
theorem g_eqD {d e : PyData} (hx : Dp K H x d) (hy : Dp K H y e) (sd : SeqAt.shaped d = true) (se : SeqAt.shaped e = true) (q : Q (.bl (PyData.eqv d e)) H) : rEqD K x y H Q := ⟨d, e, hx, hy, sd, se, q⟩
theorem g_neD {d e : PyData} (hx : Dp K H x d) (hy : Dp K H y e) (sd : SeqAt.shaped d = true) (se : SeqAt.shaped e = true) (q : Q (.bl (!PyData.eqv d e)) H) : rNeD K x y H Q := ⟨d, e, hx, hy, sd, se, q⟩
theorem g_all {bs : List Bool} (h : SqL K H a (bs.map V.bl)) (q : Q (.bl (bs.all id)) H) : rAll K [.ref a] H Q := ⟨a, bs, rfl, h, q⟩
theorem g_in {neg : Bool} (h : SqL K H a xs ∨ SqT K H a xs) (f : flatV x = true) (fs : xs.all flatV = true) (q : Q (.bl (if neg then !inV x xs else inV x xs)) H) : rIn K neg x (.ref a) H Q := ⟨a, xs, rfl, h, f, fs, q⟩
end
end My
namespace My
open PySem L2
section
variable {X : Cx} {K : PySem.W.Frag} {H : Hp} {Q : VK} {a : Addr} {xs : List V} {lo hi : Option Int}
def rSlO (K : PySem.W.Frag) : V → Option Int → Option Int → Hp → VK → Prop := fun x lo hi H Q => rSlL K x lo hi H Q ∨ rSlT K x lo hi H Q
theorem my_slO : SlR X (rSlO X.K) := sl_list.or sl_tup
theorem g_slO (h : SqL K H a xs ∨ SqT K H a xs) (n : ¬ (HT.sIx xs.length 0 lo = 0 ∧ HT.sIx xs.length xs.length hi = xs.length))
    (q : ∀ p H1, H p = none → Same H H1 → (SqL K H1 p (cutV xs lo hi) ∨ SqT K H1 p (cutV xs lo hi)) → Q (.ref p) H1) : rSlO K (.ref a) lo hi H Q :=
  h.elim (fun h => .inl (g_slL h fun p H1 np s e => q p H1 np s (.inl (SqL.of e)))) fun h => .inr (g_slT h n fun p H1 np s e => q p H1 np s (.inr (SqT.of e)))
theorem cut_to (xs : List V) (n : Nat) : cutV xs none (some (n : Int)) = xs.take n := by
  unfold cutV
  rw [HT.sIx_none, HT.sIx_nat, List.drop_zero, Nat.sub_zero]
  by_cases h : n ≤ xs.length
  · rw [Nat.min_eq_left h]
  · rw [Nat.min_eq_right (by omega), List.take_length, List.take_of_length_le (by omega)]
theorem cut_from (xs : List V) (n : Nat) : cutV xs (some (n : Int)) none = xs.drop n := by
  unfold cutV
  rw [HT.sIx_none, HT.sIx_nat]
  by_cases h : n ≤ xs.length
  · rw [Nat.min_eq_left h, List.take_of_length_le (by rw [List.length_drop]; omega)]
  · rw [Nat.min_eq_right (by omega), Nat.sub_self, List.take_zero, List.drop_eq_nil_of_le (by omega)]
theorem sz {n : Nat} (h : n ≤ 100000) : n ≤ sizeLine := Nat.le_trans h (by decide)
end
end My
namespace My
open PySem L2
/-! ### joins, comprehensions, loops -/
section
variable {K : PySem.W.Frag} {σ : L2.St} {H : Hp} {Q : VK} {D : Ends} {t u : TS} {te tl : TE}
theorem g_cut (M : L2.St → Hp → Prop) (h : t { D with nx := M } σ H) (k : ∀ σ' H', M σ' H' → u D σ' H') : Evl.tCut t u D σ H := ⟨M, h, k⟩
/-- all objects but lists stand as they stood -/
def Still (H H' : Hp) : Prop := ∀ b o, (∀ xs, o ≠ .lst xs) → H b = some o → H' b = some o
theorem Still.of (e : Same H H') : Still H H' := fun b o _ h => e b o h
theorem Still.refl (H : Hp) : Still H H := fun _ _ _ h => h
theorem Still.trans {H H1 H2 : Hp} (a : Still H H1) (b : Still H1 H2) : Still H H2 := fun c o n h => b c o n (a c o n h)
theorem Still.upd {H : Hp} {p : Addr} {xs ys : List V} (h : H p = some (.lst xs)) : Still H (upd H p (.lst ys)) := fun b o n e => by
  rw [upd_ne (ne_of e h (n xs))]
  exact e
theorem Still.tup {H H' : Hp} {p : Addr} {xs : List V} (e : Still H H') (h : H p = some (.tup xs)) : H' p = some (.tup xs) := e p _ (fun _ z => nomatch z) h
theorem g_lcR1 {ta : TA} {j : Nat} {vs : List Nat} {n : Int} (Rel : Nat → V → Hp → Prop) (ha : ∀ R : List V → Hp → Prop, R [.int n] H → ta σ H R) (hn : -40000 ≤ n ∧ n ≤ 40000)
    (hw : ∀ x, wipe ((wipe σ vs).set j (some x)) vs = wipe σ vs) (hst : ∀ i y H1 H2, Still H1 H2 → Rel i y H1 → Rel i y H2)
    (he : ∀ (i : Nat) (H1 : Hp) (QE : VK), (i : Int) < n → Same H H1 → (∀ y H2, Same H1 H2 → Rel i y H2 → QE y H2) → te ((wipe σ vs).set j (some (.int (i : Int)))) H1 QE)
    (q : ∀ p ys H1, H p = none → Same H H1 → H1 p = some (.lst ys) → ys.length = n.toNat → (∀ i y, ys[i]? = some y → Rel i y H1) → Q (.ref p) H1) :
    tLc (iRng1 ta) (gName j) tYes te vs σ H Q := by
  refine ha _ ⟨n, rfl, by omega, by omega, fun Dl hD => ?_⟩
  refine lc_range (lo := 0) (n := n.toNat) (fun i H' => Same H H' ∧ ∃ ys, H' Dl = some (.lst ys) ∧ ys.length = i ∧ ∀ k y, ys[k]? = some y → Rel k y H')
    ⟨Same.new hD _, [], upd_same, rfl, fun k y h => nomatch h⟩ (fun i H' hi p => ?_) (fun H' p => ?_)
  · obtain ⟨s, ys, e, hl, hr⟩ := p
    show wipe ((wipe σ vs).set j (some (.int ((0 : Int) + (i : Int))))) vs = wipe σ vs ∧ _
    rw [Int.zero_add]
    refine ⟨hw _, ?_⟩
    show te ((wipe σ vs).set j (some (.int (i : Int)))) H' _
    refine he i H' _ (by omega) s fun y H2 s2 r => ⟨ys, s2 _ _ e, Evl.sz_lt (by omega), ?_⟩
    have st : Still H2 (upd H2 Dl (.lst (ys ++ [y]))) := Still.upd (s2 _ _ e)
    refine ⟨fun b o h => ?_, ys ++ [y], upd_same, by rw [List.length_append, hl]; rfl, fun k z hk => ?_⟩
    · rw [upd_ne (ne_of_none h hD)]
      exact s2 _ _ (s _ _ h)
    · by_cases c : k < ys.length
      · rw [List.getElem?_append_left c] at hk
        exact hst k z _ _ st (hst k z _ _ (Still.of s2) (hr k z hk))
      · rw [List.getElem?_append_right (by omega)] at hk
        by_cases c2 : k - ys.length = 0
        · rw [c2] at hk
          have ez : y = z := Option.some.inj hk
          have ek : k = i := by omega
          subst ez ek
          exact hst _ _ _ _ st r
        · rw [List.getElem?_eq_none (by rw [List.length_singleton]; omega)] at hk
          cases hk
  · obtain ⟨s, ys, e, hl, hr⟩ := p
    exact q Dl ys H' hD s e hl hr
/-- over a list (its items told): a value for each item, no test -/
theorem g_lcL {a : Addr} {xs : List V} {j : Nat} {vs : List Nat} (Rel : Nat → V → Hp → Prop) (ha : ∀ R : VK, R (.ref a) H → tl σ H R) (hx : SqL K H a xs) (hn : xs.length ≤ 40000)
    (hw : ∀ x, wipe ((wipe σ vs).set j (some x)) vs = wipe σ vs) (hst : ∀ i y H1 H2, Still H1 H2 → Rel i y H1 → Rel i y H2)
    (he : ∀ (i : Nat) (x : V) (H1 : Hp) (QE : VK), xs[i]? = some x → Same H H1 → (∀ y H2, Same H1 H2 → Rel i y H2 → QE y H2) → te ((wipe σ vs).set j (some x)) H1 QE)
    (q : ∀ p ys H1, H p = none → Same H H1 → H1 p = some (.lst ys) → ys.length = xs.length → (∀ i y, ys[i]? = some y → Rel i y H1) → Q (.ref p) H1) :
    tLc (iList K tl) (gName j) tYes te vs σ H Q := by
  refine ha _ ⟨a, rfl, ⟨xs, hx⟩, fun Dl hD => ?_⟩
  refine lc_list (xs := xs) (fun i H' => Same H H' ∧ ∃ ys, H' Dl = some (.lst ys) ∧ ys.length = i ∧ ∀ k y, ys[k]? = some y → Rel k y H')
    ⟨Same.new hD _, [], upd_same, rfl, fun k y h => nomatch h⟩ (fun i H' _ p => p.1.seq hx) (fun i x H' hi p => ?_) (fun H' p => ?_)
  · obtain ⟨s, ys, e, hl, hr⟩ := p
    have hi2 := (List.getElem?_eq_some_iff.mp hi).1
    refine ⟨hw _, ?_⟩
    show te ((wipe σ vs).set j (some x)) H' _
    refine he i x H' _ hi s fun y H2 s2 r => ⟨ys, s2 _ _ e, Evl.sz_lt (by omega), ?_⟩
    have st : Still H2 (upd H2 Dl (.lst (ys ++ [y]))) := Still.upd (s2 _ _ e)
    refine ⟨fun b o h => ?_, ys ++ [y], upd_same, by rw [List.length_append, hl]; rfl, fun k z hk => ?_⟩
    · rw [upd_ne (ne_of_none h hD)]
      exact s2 _ _ (s _ _ h)
    · by_cases c : k < ys.length
      · rw [List.getElem?_append_left c] at hk
        exact hst k z _ _ st (hst k z _ _ (Still.of s2) (hr k z hk))
      · rw [List.getElem?_append_right (by omega)] at hk
        by_cases c2 : k - ys.length = 0
        · rw [c2] at hk
          have ez : y = z := Option.some.inj hk
          have ek : k = i := by omega
          subst ez ek
          exact hst _ _ _ _ st r
        · rw [List.getElem?_eq_none (by rw [List.length_singleton]; omega)] at hk
          cases hk
  · obtain ⟨s, ys, e, hl, hr⟩ := p
    exact q Dl ys H' hD s e hl hr
theorem g_lcT {a : Addr} {xs : List V} {j : Nat} {vs : List Nat} (Rel : Nat → V → Hp → Prop) (ha : ∀ R : VK, R (.ref a) H → tl σ H R) (hx : SqT K H a xs) (hn : xs.length ≤ 40000)
    (hw : ∀ x, wipe ((wipe σ vs).set j (some x)) vs = wipe σ vs) (hst : ∀ i y H1 H2, Still H1 H2 → Rel i y H1 → Rel i y H2)
    (he : ∀ (i : Nat) (x : V) (H1 : Hp) (QE : VK), xs[i]? = some x → Same H H1 → (∀ y H2, Same H1 H2 → Rel i y H2 → QE y H2) → te ((wipe σ vs).set j (some x)) H1 QE)
    (q : ∀ p ys H1, H p = none → Same H H1 → H1 p = some (.lst ys) → ys.length = xs.length → (∀ i y, ys[i]? = some y → Rel i y H1) → Q (.ref p) H1) :
    tLc (iTup K tl) (gName j) tYes te vs σ H Q := by
  refine ha _ ⟨a, rfl, ⟨xs, hx⟩, fun Dl hD => ?_⟩
  refine lc_tup (xs := xs) (fun i H' => Same H H' ∧ ∃ ys, H' Dl = some (.lst ys) ∧ ys.length = i ∧ ∀ k y, ys[k]? = some y → Rel k y H')
    ⟨Same.new hD _, [], upd_same, rfl, fun k y h => nomatch h⟩ (fun i H' _ p => Same.seqT p.1 hx) (fun i x H' hi p => ?_) (fun H' p => ?_)
  · obtain ⟨s, ys, e, hl, hr⟩ := p
    have hi2 := (List.getElem?_eq_some_iff.mp hi).1
    refine ⟨hw _, ?_⟩
    show te ((wipe σ vs).set j (some x)) H' _
    refine he i x H' _ hi s fun y H2 s2 r => ⟨ys, s2 _ _ e, Evl.sz_lt (by omega), ?_⟩
    have st : Still H2 (upd H2 Dl (.lst (ys ++ [y]))) := Still.upd (s2 _ _ e)
    refine ⟨fun b o h => ?_, ys ++ [y], upd_same, by rw [List.length_append, hl]; rfl, fun k z hk => ?_⟩
    · rw [upd_ne (ne_of_none h hD)]
      exact s2 _ _ (s _ _ h)
    · by_cases c : k < ys.length
      · rw [List.getElem?_append_left c] at hk
        exact hst k z _ _ st (hst k z _ _ (Still.of s2) (hr k z hk))
      · rw [List.getElem?_append_right (by omega)] at hk
        by_cases c2 : k - ys.length = 0
        · rw [c2] at hk
          have ez : y = z := Option.some.inj hk
          have ek : k = i := by omega
          subst ez ek
          exact hst _ _ _ _ st r
        · rw [List.getElem?_eq_none (by rw [List.length_singleton]; omega)] at hk
          cases hk
  · obtain ⟨s, ys, e, hl, hr⟩ := p
    exact q Dl ys H' hD s e hl hr
/-! loops: Pv of the turn, the slots and the heap -/
theorem g_forL {a : Addr} {xs : List V} {g : TG} (Pv : Nat → L2.St → Hp → Prop) (ha : ∀ R : VK, R (.ref a) H → tl σ H R) (hx : SqL K H a xs) (h0 : Pv 0 σ H) (hl : ∀ i σ' H', i ≤ xs.length → Pv i σ' H' → SqL K H' a xs)
    (hs : ∀ i x σ' H', xs[i]? = some x → Pv i σ' H' → g x σ' H' fun σ2 H2 => t { D with nx := Pv (i + 1), ct := Pv (i + 1), bk := D.nx } σ2 H2) (hd : ∀ σ' H', Pv xs.length σ' H' → D.nx σ' H') : tFor (iList K tl) g t D σ H :=
  ha _ ⟨a, rfl, ⟨xs, hx⟩, for_list Pv h0 hl hs hd⟩
theorem g_forT {a : Addr} {xs : List V} {g : TG} (Pv : Nat → L2.St → Hp → Prop) (ha : ∀ R : VK, R (.ref a) H → tl σ H R) (hx : SqT K H a xs) (h0 : Pv 0 σ H) (hl : ∀ i σ' H', i ≤ xs.length → Pv i σ' H' → SqT K H' a xs)
    (hs : ∀ i x σ' H', xs[i]? = some x → Pv i σ' H' → g x σ' H' fun σ2 H2 => t { D with nx := Pv (i + 1), ct := Pv (i + 1), bk := D.nx } σ2 H2) (hd : ∀ σ' H', Pv xs.length σ' H' → D.nx σ' H') : tFor (iTup K tl) g t D σ H :=
  ha _ ⟨a, rfl, ⟨xs, hx⟩, for_tup Pv h0 hl hs hd⟩
theorem g_forR1 {ta : TA} {j : Nat} {n : Int} (Pv : Nat → L2.St → Hp → Prop) (ha : ∀ R : List V → Hp → Prop, R [.int n] H → ta σ H R) (hn : -1000000 ≤ n ∧ n ≤ 1000000) (h0 : Pv 0 σ H)
    (hs : ∀ (i : Nat) σ' H', (i : Int) < n → Pv i σ' H' → t { D with nx := Pv (i + 1), ct := Pv (i + 1), bk := D.nx } (σ'.set j (some (.int (i : Int)))) H') (hd : ∀ σ' H', Pv n.toNat σ' H' → D.nx σ' H') : tFor (iRng1 ta) (gName j) t D σ H :=
  ha _ ⟨n, rfl, by omega, by omega, for_range (lo := 0) (n := n.toNat) Pv h0 (fun i σ' H' hi p => by
    have e0 : (0 : Int) + (i : Int) = (i : Int) := Int.zero_add _
    show t { D with nx := Pv (i + 1), ct := Pv (i + 1), bk := D.nx } (σ'.set j (some (.int ((0 : Int) + (i : Int))))) H'
    rw [e0]
    exact hs i σ' H' (by omega) p) hd⟩
end
/-! ### data of flat tuples: == and != -/
theorem canAll : ∀ {ds : List PyData}, (∀ d ∈ ds, PyData.canLay0 d = true) → PyData.canLayAll0 ds = true
  | [], _ => by simp [PyData.canLayAll0]
  | d :: ds, h => by
    simp only [PyData.canLayAll0, Bool.and_eq_true]
    exact ⟨h d List.mem_cons_self, canAll fun x hx => h x (List.mem_cons_of_mem _ hx)⟩
end My
namespace My
open PySem L2
theorem depthAll_le {n : Nat} : ∀ {ds : List PyData}, (∀ d ∈ ds, PyData.depth d ≤ n) → PyData.depthAll ds ≤ n
  | [], _ => by simp [PyData.depthAll]
  | d :: ds, h => by
    simp only [PyData.depthAll]
    have h1 := h d List.mem_cons_self
    have h2 := depthAll_le (ds := ds) fun x hx => h x (List.mem_cons_of_mem _ hx)
    omega
theorem shaped_list {ds : List PyData} {n : Nat} (h : ∀ d ∈ ds, PyData.canLay0 d = true ∧ PyData.depth d ≤ n) (hn : n < 64) : SeqAt.shaped (.list ds) = true := by
  unfold SeqAt.shaped
  rw [Bool.and_eq_true, decide_eq_true_eq]
  refine ⟨?_, ?_⟩
  · simp only [PyData.canLay0]
    exact canAll fun d hd => (h d hd).1
  · simp only [PyData.depth]
    have := depthAll_le (n := n) fun d hd => (h d hd).2
    omega
theorem dpAll_of {K : PySem.W.Frag} {H : Hp} : ∀ {vs : List V} {ds : List PyData}, vs.length = ds.length → (∀ (i : Nat) v d, vs[i]? = some v → ds[i]? = some d → Dp K H v d) → DpAll K H vs ds
  | [], [], _, _ => .nil
  | [], _ :: _, h, _ => nomatch h
  | _ :: _, [], h, _ => nomatch h
  | v :: vs, d :: ds, h, f => .cons (f 0 v d rfl rfl) (dpAll_of (by simpa using h) fun i x y hx hy => f (i + 1) x y (by simpa using hx) (by simpa using hy))
theorem dpAll_get {K : PySem.W.Frag} {H : Hp} : ∀ {vs : List V} {ds : List PyData}, DpAll K H vs ds → ∀ (i : Nat) (v : V), vs[i]? = some v → ∃ d, ds[i]? = some d ∧ Dp K H v d
  | _, _, .nil, i, v, h => nomatch h
  | _, _, .cons h1 h2, 0, v, h => ⟨_, rfl, by cases Option.some.inj h; exact h1⟩
  | _, _, .cons h1 h2, i + 1, v, h => dpAll_get h2 i v (by simpa using h)
theorem dpAll_len {K : PySem.W.Frag} {H : Hp} : ∀ {vs : List V} {ds : List PyData}, DpAll K H vs ds → vs.length = ds.length
  | _, _, .nil => rfl
  | _, _, .cons _ h => by simp [dpAll_len h]
theorem dpAll_take {K : PySem.W.Frag} {H : Hp} : ∀ {vs : List V} {ds : List PyData} (n : Nat), DpAll K H vs ds → DpAll K H (vs.take n) (ds.take n)
  | _, _, 0, _ => .nil
  | _, _, _ + 1, .nil => .nil
  | _, _, n + 1, .cons h r => .cons h (dpAll_take n r)
theorem dpAll_drop {K : PySem.W.Frag} {H : Hp} : ∀ {vs : List V} {ds : List PyData} (n : Nat), DpAll K H vs ds → DpAll K H (vs.drop n) (ds.drop n)
  | _, _, 0, h => h
  | _, _, _ + 1, .nil => .nil
  | _, _, n + 1, .cons _ r => dpAll_drop n r
theorem eqv_list {ds : List PyData} (h : SeqAt.shaped (.list ds) = true) : PyData.eqv (.list ds) (.list ds) = true := SeqAt.eqv_refl _ (SeqAt.canLay_of_shaped h)
/-- two lists of the same data: == is True, != is False -/
theorem g_eqL {K : PySem.W.Frag} {H : Hp} {Q : VK} {a b : Addr} {xs ys : List V} {ds : List PyData} {n : Nat} (ha : SqL K H a xs) (hb : SqL K H b ys) (h1 : DpAll K H xs ds) (h2 : DpAll K H ys ds) (hd : ∀ d ∈ ds, PyData.canLay0 d = true ∧ PyData.depth d ≤ n) (hn : n < 64)
    (q : Q (.bl true) H) : rEqD K (.ref a) (.ref b) H Q := by
  have sh := shaped_list hd hn
  refine ⟨_, _, .lst ha h1, .lst hb h2, sh, sh, ?_⟩
  rw [eqv_list sh]
  exact q
theorem g_neL {K : PySem.W.Frag} {H : Hp} {Q : VK} {a b : Addr} {xs ys : List V} {ds : List PyData} {n : Nat} (ha : SqL K H a xs) (hb : SqL K H b ys) (h1 : DpAll K H xs ds) (h2 : DpAll K H ys ds) (hd : ∀ d ∈ ds, PyData.canLay0 d = true ∧ PyData.depth d ≤ n) (hn : n < 64)
    (q : Q (.bl false) H) : rNeD K (.ref a) (.ref b) H Q := by
  have sh := shaped_list hd hn
  refine ⟨_, _, .lst ha h1, .lst hb h2, sh, sh, ?_⟩
  rw [eqv_list sh]
  exact q
end My
namespace My
open PySem L2
theorem kit_ll : PySem.W.kitOne K (.type "list") (.type "list") = some true := kit_ty (by decide +kernel)
theorem kit_tt : PySem.W.kitOne K (.type "tuple") (.type "tuple") = some true := kit_ty (by decide +kernel)
theorem g_isiL {K : PySem.W.Frag} {H : Hp} {Q : VK} {a : Addr} {xs : List V} (h : H a = some (.lst xs)) (q : Q (.bl true) H) : rIsi K [.ref a, .ty "list"] H Q := g_isi (.ty "list") (.base (.lst h)) kit_ll q
theorem tyx_t {K : PySem.W.Frag} {H : Hp} {a : Addr} {xs : List V} (h : SqT K H a xs) : TyX K H (.ref a) (.type "tuple") := by
  rcases h with (h | ⟨o, h⟩) | ⟨o, its, n, h, hc, _⟩
  · exact .base (.tup h)
  · exact .fTuple h
  · exact .kTuple h hc
theorem g_isiT {K : PySem.W.Frag} {H : Hp} {Q : VK} {a : Addr} {xs : List V} (h : SqT K H a xs) (q : Q (.bl true) H) : rIsi K [.ref a, .ty "tuple"] H Q := g_isi (.ty "tuple") (tyx_t h) kit_tt q
end My
namespace My
open PySem L2
theorem pair_at {α β : Type} {R : α → β → Prop} : ∀ {as : List α} {bs : List β}, Paired R as bs → ∀ {n : Nat} {a : α}, as[n]? = some a → ∃ b, bs[n]? = some b ∧ R a b
  | _, _, .nil, i, x, h => nomatch h
  | _, _, .cons r t, 0, x, h => ⟨_, rfl, by cases Option.some.inj h; exact r⟩
  | _, _, .cons r t, i + 1, x, h => pair_at t (by simpa using h)
end My
namespace My
open PySem L2
section
variable {K : PySem.W.Frag} {σ : L2.St} {H : Hp} {Q : VK} {D : Ends} {t u : TS} {te tl : TE}
theorem g_forRev {n : Int} {j : Nat} (Pv : Nat → L2.St → Hp → Prop) (ha : ∀ R : VK, R (.int n) H → te σ H R) (hn : 0 ≤ n ∧ n ≤ 1000000) (h0 : Pv 0 σ H)
    (hs : ∀ (i : Nat) σ' H', (i : Int) < n → Pv i σ' H' → t { D with nx := Pv (i + 1), ct := Pv (i + 1), bk := D.nx } (σ'.set j (some (.int (n - 1 - (i : Int))))) H') (hd : ∀ σ' H', Pv n.toNat σ' H' → D.nx σ' H') :
    tFor (iRevR (tRg1 te)) (gName j) t D σ H := by
  refine ha _ ⟨n, rfl, by omega, by omega, by omega, by omega, ?_⟩
  have e1 : (n - 0).toNat = n.toNat := by omega
  have e2 : 0 + ((n.toNat : Nat) : Int) - 1 = n - 1 := by omega
  rw [e1, e2]
  exact for_rangeC (lo := n - 1) (c := -1) (n := n.toNat) Pv h0 (fun i σ' H' hi p => by
    show t { D with nx := Pv (i + 1), ct := Pv (i + 1), bk := D.nx } (σ'.set j (some (.int (n - 1 + ((i : Nat) : Int) * (-1))))) H'
    have e3 : n - 1 + ((i : Nat) : Int) * (-1) = n - 1 - (i : Int) := by omega
    rw [e3]
    exact hs i σ' H' (by omega) p) hd
theorem g_tyL {P : Prop} {l : Addr} {xs : List V} (h : H l = some (.lst xs)) (q : P) : tyV K "list" (.ref l) H ∧ P := ⟨.inl ⟨rfl, _, SqL.of h⟩, q⟩
theorem g_append {l : Addr} {xs : List V} {v : V} (h : H l = some (.lst xs)) (hl : xs.length ≤ 100000) (q : Q .non (upd H l (.lst (xs ++ [v])))) : rAppend (.ref l) [v] H Q := ⟨l, xs, v, rfl, rfl, h, Nat.lt_of_le_of_lt hl (by decide), q⟩
/-- a comprehension over a list with a test: pure test, pure value -/
theorem g_lcF {tt : TT} {a : Addr} {xs : List V} {j : Nat} {vs : List Nat} (p : V → Bool) (f : V → V) (ha : ∀ R : VK, R (.ref a) H → tl σ H R) (hx : SqL K H a xs) (hn : xs.length ≤ 40000)
    (hw : ∀ x, wipe ((wipe σ vs).set j (some x)) vs = wipe σ vs)
    (ht : ∀ (i : Nat) (x : V) (H1 : Hp) (QB : Bool → Hp → Prop), xs[i]? = some x → Same H H1 → QB (p x) H1 → tt ((wipe σ vs).set j (some x)) H1 QB)
    (he : ∀ (i : Nat) (x : V) (H1 : Hp) (QE : VK), xs[i]? = some x → p x = true → Same H H1 → QE (f x) H1 → te ((wipe σ vs).set j (some x)) H1 QE)
    (q : ∀ pp H1, H pp = none → Same H H1 → H1 pp = some (.lst ((xs.filter p).map f)) → Q (.ref pp) H1) :
    tLc (iList K tl) (gName j) tt te vs σ H Q := by
  refine ha _ ⟨a, rfl, ⟨xs, hx⟩, fun Dl hD => ?_⟩
  refine lc_list (xs := xs) (fun i H' => Same H H' ∧ H' Dl = some (.lst (((xs.take i).filter p).map f)))
    ⟨Same.new hD _, upd_same⟩ (fun i H' _ p => p.1.seq hx) (fun i x H' hi pr => ?_) (fun H' pr => ?_)
  · obtain ⟨s, e⟩ := pr
    have hi2 := (List.getElem?_eq_some_iff.mp hi).1
    have et : xs.take (i + 1) = xs.take i ++ [x] := by rw [List.take_add_one, hi]; rfl
    have hz : (((xs.take i).filter p).map f).length < sizeLine := by
      rw [List.length_map]
      have h1 := List.length_filter_le p (xs.take i)
      rw [List.length_take] at h1
      exact Evl.sz_lt (by omega)
    refine ⟨hw _, ht i x H' _ hi s ?_⟩
    cases hp : p x with
    | true =>
      show te ((wipe σ vs).set j (some x)) H' _
      refine he i x H' _ hi hp s ⟨_, e, hz, fun b o h => ?_, ?_⟩
      · rw [upd_ne (ne_of_none h hD)]
        exact s _ _ h
      · rw [upd_same, et, List.filter_append, List.map_append, List.filter_cons, if_pos hp]
        rfl
    | false =>
      show Same H H' ∧ H' Dl = some (.lst (((xs.take (i + 1)).filter p).map f))
      refine ⟨s, ?_⟩
      rw [et, List.filter_append, List.map_append, List.filter_cons, if_neg (by rw [hp]; decide), e]
      simp
  · obtain ⟨s, e⟩ := pr
    rw [List.take_length] at e
    exact q Dl H' hD s e
end
theorem mulBits {a b : Int} (ha : Builtin.Int.intBits a ≤ 10000000) (hb : Builtin.Int.intBits b ≤ 10000000) : IntMulOk a b := by
  unfold IntMulOk Builtin.Int.intTooBig
  intro z
  rw [Bool.and_eq_true, decide_eq_true_eq] at z
  have z2 := z.2
  have e : bitsLine = 134217728 := by decide
  rw [e] at z2
  omega
/-! ### what all laws have: the script's cells, whole numbers, the answer -/
def cell (ns : List Int) (k : Int) : Int := ns.getD k.toNat 0
def sp_cell (K : PySem.W.Frag) : Sp := fun vs H Q _ => ∃ (a : Addr) (ns : List Int) (k : Int), vs = [.ref a, .int k] ∧ SqL K H a (ns.map V.int) ∧ 0 ≤ k ∧ Q (.int (cell ns k)) H
theorem use_cell {K : PySem.W.Frag} {H : Hp} {Q : VK} {E : XK} {a : Addr} {ns : List Int} {k : Int} (h : SqL K H a (ns.map V.int)) (h0 : 0 ≤ k) (q : Q (.int (cell ns k)) H) : sp_cell K [.ref a, .int k] H Q E := ⟨a, ns, k, rfl, h, h0, q⟩
def spLaw (K : PySem.W.Frag) : Sp := fun vs H Q _ => ∃ (a : Addr) (ns : List Int), vs = [.ref a] ∧ SqL K H a (ns.map V.int) ∧ ns.length ≤ 63 ∧ (∀ z ∈ ns, Builtin.Int.intBits z ≤ 1048576) ∧ ∀ H', Q (.bl true) H'
theorem atI_cell {ns : List Int} {k : Int} (h0 : 0 ≤ k) (h : k < (ns.length : Int)) : atI (ns.map V.int) k = some (.int (cell ns k)) := by
  have hk : k.toNat < ns.length := by omega
  have ek : k = ((k.toNat : Nat) : Int) := by omega
  rw [ek]
  refine atI_nat ?_
  rw [List.getElem?_map, List.getElem?_eq_getElem hk]
  show some (V.int ns[k.toNat]) = some (V.int (cell ns _))
  unfold cell
  rw [Int.toNat_natCast, List.getD_eq_getElem?_getD, List.getElem?_eq_getElem hk]
  rfl
theorem cell_out {ns : List Int} {k : Int} (h : ¬ k < (ns.length : Int)) : cell ns k = 0 := by
  unfold cell
  rw [List.getD_eq_getElem?_getD, List.getElem?_eq_none (by omega)]
  rfl
theorem cell_bits {ns : List Int} (h : ∀ z ∈ ns, Builtin.Int.intBits z ≤ 1048576) (k : Int) : Builtin.Int.intBits (cell ns k) ≤ 1048576 := by
  unfold cell
  rw [List.getD_eq_getElem?_getD]
  cases e : ns[k.toNat]? with
  | none => exact Nat.zero_le _
  | some z => exact h z (List.mem_of_getElem? e)
end My
namespace My
open PySem L2
section
variable {X : Cx} {K : PySem.W.Frag}
theorem ixTK (h : X.K = K) : IxR X (rIxT K) := h ▸ ix_tup
theorem ixLK (h : X.K = K) : IxR X (rIxL K) := h ▸ ix_list
theorem ixOK (h : X.K = K) : IxR X (rIx K) := h ▸ ix_seq
theorem lenK (h : X.K = K) : CallR X (.builtin "len") (rLen K) := h ▸ my_len
theorem listK (h : X.K = K) : CallR X (.type "list") (rList K) := h ▸ my_list
theorem tupleK (h : X.K = K) : CallR X (.type "tuple") (rTuple K) := h ▸ my_tuple
theorem typK (h : X.K = K) : CallR X (.type "type") (rTyp K) := h ▸ call_type1
theorem isiK (h : X.K = K) : CallR X (.builtin "isinstance") (rIsi K) := h ▸ call_isi
theorem inK (h : X.K = K) : OpR X (compareOp .In) (rIn K false) := h ▸ op_in_seq
theorem ninK (h : X.K = K) : OpR X (compareOp .NotIn) (rIn K true) := h ▸ op_notIn_seq
theorem slLK (h : X.K = K) : SlR X (rSlL K) := h ▸ sl_list
theorem slTK (h : X.K = K) : SlR X (rSlT K) := h ▸ sl_tup
end
end My

set_option Elab.async false
set_option linter.all false
set_option maxRecDepth 100000
set_option maxHeartbeats 4000000
namespace My
open PySem L2
def top (i : Nat) : Stmt := PySem.Challenge.pw_btreelog_k02_rows_part.main.body.getD i (.Pass ⟨0, 0, 0, 0⟩)
abbrev s_parts : Stmt := top 1
abbrev N_parts : List Str := ["pairs", "width", "middle"]
theorem sc_parts : FnScope N_parts ["pairs", "width"] (defScope s_parts) := ⟨rfl, rfl, rfl, by decide +kernel, rfl, by decide +kernel, by decide +kernel⟩
abbrev s_l_cell_at : Stmt := top 3
abbrev N_l_cell_at : List Str := ["_law_script", "_law_k"]
theorem sc_l_cell_at : FnScope N_l_cell_at ["_law_script", "_law_k"] (defScope s_l_cell_at) := ⟨rfl, rfl, rfl, by decide +kernel, rfl, by decide +kernel, by decide +kernel⟩
abbrev s_law : Stmt := top 4
abbrev N_law : List Str := ["_law_script", "_law_width", "_law_size", "_law_row", "_law_k", "_law_handed", "_law_found", "_law_one"]
theorem sc_law : FnScope N_law ["_law_script"] (defScope s_law) := ⟨rfl, rfl, rfl, by decide +kernel, rfl, by decide +kernel, by decide +kernel⟩
abbrev sp_l_cell_at := sp_cell
def partsV (xs : List V) (w : Int) : List (List V) := if (xs.length : Int) ≤ w then [xs] else [xs.take (xs.length / 2), xs.drop (xs.length / 2)]
def sp_parts (K : PySem.W.Frag) : Sp := fun vs H Q _ => ∃ (a : Addr) (xs : List V) (w : Int), vs = [.ref a, .int w] ∧ (SqL K H a xs ∨ SqT K H a xs) ∧ 3 ≤ w ∧ xs.length ≤ 1000 ∧
  ∀ (p : Addr) (H' : Hp) (as : List Addr), Same H H' → H' p = some (.lst (as.map V.ref)) → Paired (fun b ys => SqT K H' b ys) as (partsV xs w) → Q (.ref p) H'
structure Tx (K : PySem.W.Frag) (mg : Str → Option Value) where
  a_parts : Addr
  d_parts : FuncData
  F_parts : Fun K "parts" "parts" s_parts a_parts d_parts
  b_parts : Binds K d_parts ["pairs", "width"] []
  g_parts : mg "parts" = some (.ref a_parts)
  a_l_cell_at : Addr
  d_l_cell_at : FuncData
  F_l_cell_at : Fun K "_law_cell_at" "_law_cell_at" s_l_cell_at a_l_cell_at d_l_cell_at
  b_l_cell_at : Binds K d_l_cell_at ["_law_script", "_law_k"] []
  g_l_cell_at : mg "_law_cell_at" = some (.ref a_l_cell_at)
  z_int : mg "int" = none
  z_isinstance : mg "isinstance" = none
  z_len : mg "len" = none
  z_list : mg "list" = none
  z_range : mg "range" = none
  z_tuple : mg "tuple" = none
local macro_rules | `(tactic| wtm_at "at") => `(tactic| first | assumption | (refine Same.at (by assumption) ?_; wtm_at "at"))
local macro_rules | `(tactic| wtm_at "sq") => `(tactic| first | assumption | exact SqL.of (by wtm_at "at") | (refine L2.Same.seq (by assumption) ?_; wtm_at "sq"))
local macro_rules | `(tactic| wtm_at "st") => `(tactic| first | assumption | exact SqT.of (by wtm_at "at") | (refine Same.seqT (by assumption) ?_; wtm_at "st"))
local macro_rules | `(tactic| wtm_at "so") => `(tactic| first | assumption | exact seq_l (by wtm_at "sq") | exact seq_t (by wtm_at "st") | (refine Same.seqO (by assumption) ?_; wtm_at "so"))
local macro_rules | `(tactic| wtm_at "sd") => `(tactic| first
  | exact CMul.ok (Or.inl ⟨by omega, by omega⟩) | exact CMul.ok (Or.inr ⟨by omega, by omega⟩)
  | omega | (dsimp only <;> omega) | (show (0 : Int) < _; omega) | exact ⟨by omega, by omega⟩ | exact Or.inl ⟨by omega, by omega⟩ | exact Or.inr ⟨by omega, by omega⟩ | exact ⟨by decide, by decide, by decide⟩)
local macro_rules | `(tactic| wtm_at "call") => `(tactic| fail "no call")
local macro_rules | `(tactic| wtm_at "one") => `(tactic| first
  | with_reducible refine g_seq ?_
  | with_reducible refine g_asg ?_
  | with_reducible refine g_name ?_
  | with_reducible refine g_op ?_
  | with_reducible refine g_var rfl ?_
  | with_reducible refine g_c ?_
  | with_reducible refine g_rI0 ?_
  | ((with_reducible refine' g_rI ?cc ?_); (case cc => wtm_at "sd"))
  | with_reducible refine g_un ?_
  | with_reducible refine g_rU ?_
  | with_reducible refine g_call ?_
  | with_reducible refine g_cons ?_
  | with_reducible refine g_nil ?_
  | with_reducible refine g_cb ?_
  | with_reducible refine g_test ?_
  | with_reducible refine g_tB ?_
  | with_reducible refine g_isB ?_
  | with_reducible refine g_if ?_
  | with_reducible refine g_ret ?_
  | with_reducible refine g_retN ?_
  | with_reducible refine g_drop ?_
  | with_reducible refine g_next ?_
  | ((with_reducible refine' g_rEq ?cc ?_); (case cc => exact rfl))
  | ((with_reducible refine' g_rNe ?cc ?_); (case cc => exact rfl))
  | with_reducible refine g_chain ?_
  | with_reducible refine g_and ?_
  | with_reducible refine g_or ?_
  | with_reducible refine g_not ?_
  | with_reducible refine g_notK ?_
  | with_reducible refine g_andT ?_
  | with_reducible refine g_orT ?_
  | with_reducible refine g_notT ?_
  | with_reducible refine g_notV ?_
  | with_reducible refine g_ifE ?_
  | with_reducible refine g_tup ?_
  | with_reducible refine g_lst ?_
  | with_reducible refine g_sl ?_
  | with_reducible refine g_noPart ?_
  | with_reducible refine g_part ?_
  | with_reducible refine g_partK ?_
  | with_reducible refine g_brT ?_
  | with_reducible refine g_brF ?_
  | with_reducible refine g_gcons ?_
  | with_reducible refine g_gnil ?_
  | ((with_reducible refine' g_len ?cc ?_); (case cc => wtm_at "so"))
  | with_reducible refine g_intB ?_
  | with_reducible refine g_intI ?_
  | with_reducible refine g_isN ?_
  | with_reducible refine g_notN ?_
  | with_reducible refine g_isTy ?_
  | with_reducible refine g_notTy ?_
  | with_reducible refine g_isBl ?_
  | with_reducible refine g_notBl ?_
  | with_reducible refine g_max2 ?_
  | ((with_reducible refine' g_gtup ?cc ?cd ?_); (case cc => wtm_at "st"); (case cd => exact rfl))
  | with_reducible refine My.g_leS ?_
  | ((with_reducible refine' g_typ ?cc ?_); (case cc => assumption))
  | wtm_at "call")
local macro_rules | `(tactic| wtm_at "red") => `(tactic| try dsimp only [cxOf, List.cons_append, List.nil_append, List.set_cons_zero, List.set_cons_succ])
local macro_rules | `(tactic| wtm_at "go") => `(tactic| (wtm_at "red"; repeat (wtm_at "one"; wtm_at "red")))
local macro_rules | `(tactic| wtm_at "ln") => `(tactic| (refine sz ?_; simp only [List.length_cons, List.length_nil, List.length_map, List.length_append]; omega))
local macro_rules | `(tactic| wtm_at "go0") => `(tactic| ((with_reducible refine g_name ?_); wtm_at "red"))

local macro_rules | `(tactic| wtm_at "call") => `(tactic| ((with_reducible refine' use_cell ?cc ?cd ?_); (case cc => wtm_at "sq"); (case cd => omega)))
section
variable {P : Program} {w : World} {K : PySem.W.Frag} {mg : Str → Option Value} {base : Heap}
theorem ok_l_cell_at (T : Tx K mg) : FnOk P w K mg base CX0 1 T.a_l_cell_at T.d_l_cell_at ["_law_script", "_law_k"] (sp_cell K) := by
  refine T.F_l_cell_at.ok sc_l_cell_at (fun vs H Q E h => ?_) (fun cdv A outer s H vs Q E hr h => ?_)
  · obtain ⟨a, ns, k, rfl, _⟩ := h
    rfl
  obtain ⟨a, ns, k, rfl, hS, h0, q⟩ := h
  refine ⟨_, (pss_cons (ps_if (pt_cmpR op_lt (pv 1) (pe_callB my_len (by rfl) T.z_len PySem.boot_len (pa_cons (pv 0) pa_nil)) (nomark _))
      (pss_one (ps_ret (pe_ix ix_list (pv 0) (pv 1) (fun _ _ => rfl))))
      pss_nil)
    (pss_one (ps_ret pe_int))), ?_⟩
  wtm_at "go"
  refine g_br (fun c => ?_) (fun c => ?_)
  · have c' : k < ((ns.map V.int).length : Int) := of_decide_eq_true c
    rw [List.length_map] at c'
    wtm_at "go"
    exact g_ixL hS (atI_cell h0 c') q
  · have c' : ¬ k < ((ns.map V.int).length : Int) := of_decide_eq_false c
    rw [List.length_map] at c'
    rw [cell_out c'] at q
    wtm_at "go"
    exact q
theorem ok_parts (T : Tx K mg) : FnOk P w K mg base CX0 1 T.a_parts T.d_parts ["pairs", "width"] (sp_parts K) := by
  refine T.F_parts.ok sc_parts (fun vs H Q E h => ?_) (fun cdv A outer s H vs Q E hr h => ?_)
  · obtain ⟨a, xs, k, rfl, _⟩ := h
    rfl
  obtain ⟨a, xs, n, rfl, hS, h3, hl, q⟩ := h
  refine ⟨_, (pss_cons (ps_if (pt_cmpR op_le (pe_callB my_len (by rfl) T.z_len PySem.boot_len (pa_cons (pv 0) pa_nil)) (pv 1) (nomark _))
      (pss_one (ps_ret (pe_lst (pa_cons (pe_callTy my_tuple (by rfl) T.z_tuple (by decide +kernel) (pa_cons (pv 0) pa_nil)) pa_nil))))
      pss_nil)
    (pss_cons (ps_set (i := 2) sc_parts.nd rfl (Or.inl rfl) (pe_op op_fdiv (pe_callB my_len (by rfl) T.z_len PySem.boot_len (pa_cons (pv 0) pa_nil)) pe_int))
    (pss_one (ps_ret (pe_lst (pa_cons (pe_callTy my_tuple (by rfl) T.z_tuple (by decide +kernel) (pa_cons (pe_slice my_slO (pv 0) po_none (po_some (pv 2))) pa_nil)) (pa_cons (pe_callTy my_tuple (by rfl) T.z_tuple (by decide +kernel) (pa_cons (pe_slice my_slO (pv 0) (po_some (pv 2)) po_none) pa_nil)) pa_nil))))))), ?_⟩
  wtm_at "go"
  refine g_br (fun c => ?_) (fun c => ?_)
  · have c' : (xs.length : Int) ≤ n := of_decide_eq_true c
    wtm_at "go"
    refine g_tupleO hS fun p H1 s1 e1 => ?_
    wtm_at "go"
    refine g_lstK (by wtm_at "ln") fun l H2 n2 s2 e2 => ?_
    refine q l H2 [p] (s1.trans s2) e2 ?_
    unfold partsV
    rw [if_pos c']
    exact .cons (Same.seqT s2 e1) .nil
  · have c' : ¬ (xs.length : Int) ≤ n := of_decide_eq_false c
    have eh : (xs.length : Int) / 2 = ((xs.length / 2 : Nat) : Int) := by omega
    wtm_at "go"
    rw [eh]
    have k2 : min (xs.length / 2) xs.length = xs.length / 2 := Nat.min_eq_left (by omega)
    refine g_slO hS (by rw [HT.sIx_nat, k2]; omega) fun p1 H1 n1 s1 e1 => ?_
    wtm_at "go"
    refine g_tupleO e1 fun q1 H2 s2 e2 => ?_
    wtm_at "go"
    refine g_slO (Same.seqO s2 (Same.seqO s1 hS)) (by rw [HT.sIx_nat, k2]; omega) fun p3 H3 n3 s3 e3 => ?_
    wtm_at "go"
    refine g_tupleO e3 fun q4 H4 s4 e4 => ?_
    wtm_at "go"
    refine g_lstK (by wtm_at "ln") fun l H5 n5 s5 e5 => ?_
    refine q l H5 [q1, q4] (s1.trans (s2.trans (s3.trans (s4.trans s5)))) e5 ?_
    unfold partsV
    rw [if_neg c']
    rw [cut_to] at e2
    rw [cut_from] at e4
    exact .cons (by wtm_at "st") (.cons (by wtm_at "st") .nil)
theorem ok_law {f : Addr} {fd : FuncData} (F : Fun K "law" "law" s_law f fd) (T : Tx K mg) : FnOk P w K mg base CX0 2 f fd ["_law_script"] (spLaw K) := by
  refine F.ok sc_law (fun vs H Q E h => ?_) (fun cdv A outer s H vs Q E hr h => ?_)
  · obtain ⟨a, ns, rfl, _⟩ := h
    rfl
  obtain ⟨a, ns, rfl, hS, hl, _, q⟩ := h
  refine ⟨_, (pss_cons (ps_set (i := 1) sc_law.nd rfl (Or.inl rfl) (pe_op op_add pe_int (pe_op op_mod (pe_call (ok_l_cell_at T) hr (by rfl) T.g_l_cell_at T.F_l_cell_at.kp T.b_l_cell_at .nil pass0 (pa_cons (pv 0) (pa_cons pe_int pa_nil))) pe_int)))
    (pss_cons (ps_set (i := 2) sc_law.nd rfl (Or.inl rfl) (pe_op op_mod (pe_call (ok_l_cell_at T) hr (by rfl) T.g_l_cell_at T.F_l_cell_at.kp T.b_l_cell_at .nil pass0 (pa_cons (pv 0) (pa_cons pe_int pa_nil))) (pe_op op_add (pe_op op_mulX pe_int (pv 1)) pe_int)))
    (Evl.pss_cut (ps_if (pt_cmpR op_eq (pe_op op_mod (pe_call (ok_l_cell_at T) hr (by rfl) T.g_l_cell_at T.F_l_cell_at.kp T.b_l_cell_at .nil pass0 (pa_cons (pv 0) (pa_cons pe_int pa_nil))) pe_int) pe_int (nomark _))
      (pss_one (ps_set (i := 2) sc_law.nd rfl (Or.inl rfl) (pe_op op_add (pe_op op_sub (pv 1) pe_int) (pe_op op_mod (pe_call (ok_l_cell_at T) hr (by rfl) T.g_l_cell_at T.F_l_cell_at.kp T.b_l_cell_at .nil pass0 (pa_cons (pv 0) (pa_cons pe_int pa_nil))) pe_int))))
      pss_nil)
    (pss_cons (ps_setLc (i := 3) (own := [("_law_k", 4)]) (g := gName 4) (tt := tYes) rfl sc_law.nd rfl rfl (sw_true rfl rfl rfl (by decide +kernel)) (pi_range1 (by rfl) T.z_range (pa_cons (pv 2) pa_nil)) (blkOk_by (own := [("_law_k", 4)]) (N := N_law) (sc := defScope s_law) (by decide +kernel)) (fun _ _ _ _ _ => (pg_name (i := 4) sc_law.nd rfl (Or.inl rfl))) (fun _ _ _ _ _ => pts_nil) (fun _ _ _ _ _ => (pe_tup (pa_cons (pe_op op_add (pe_op op_mod (pe_call (ok_l_cell_at T) hr (by rfl) T.g_l_cell_at T.F_l_cell_at.kp T.b_l_cell_at .nil pass0 (pa_cons (pv 0) (pa_cons pe_int pa_nil))) pe_int) (pe_op op_mulX pe_int (pv 4))) (pa_cons (pe_op op_add (pv 4) pe_int) pa_nil)))))
    (pss_cons (ps_set (i := 5) sc_law.nd rfl (Or.inl rfl) (pe_callTy my_list (by rfl) T.z_list (by decide +kernel) (pa_cons (pv 3) pa_nil)))
    (Evl.pss_cut (ps_if (pt_cmpR op_eq (pe_op op_mod (pe_op op_fdiv (pe_call (ok_l_cell_at T) hr (by rfl) T.g_l_cell_at T.F_l_cell_at.kp T.b_l_cell_at .nil pass0 (pa_cons (pv 0) (pa_cons pe_int pa_nil))) pe_int) pe_int) pe_int (nomark _))
      (pss_one (ps_set (i := 5) sc_law.nd rfl (Or.inl rfl) (pe_callTy my_tuple (by rfl) T.z_tuple (by decide +kernel) (pa_cons (pv 3) pa_nil))))
      pss_nil)
    (pss_cons (ps_set (i := 6) sc_law.nd rfl (Or.inl rfl) (pe_call (ok_parts T) hr (by rfl) T.g_parts T.F_parts.kp T.b_parts .nil pass0 (pa_cons (pv 5) (pa_cons (pv 1) pa_nil))))
    (pss_cons (ps_if (pw_or (pt_not (pt_val (pe_callB call_isi (by rfl) T.z_isinstance (by decide +kernel) (pa_cons (pv 6) (pa_cons (pe_bltn (v := .ty "list") (by rfl) T.z_list (by decide +kernel) rfl) pa_nil))))) (pw_or (pt_cmpR op_ne (pe_callB my_len (by rfl) T.z_len PySem.boot_len (pa_cons (pv 6) pa_nil)) (pe_op op_add pe_int (pe_callTy my_int (by rfl) T.z_int (by decide +kernel) (pa_cons (pe_cmpR op_gt (pv 2) (pv 1) (nomark _)) pa_nil))) (nomark _)) (pw_or1 (pt_cmpR (op_neD hr.units) (pe_callTy my_list (by rfl) T.z_list (by decide +kernel) (pa_cons (pv 5) pa_nil)) (pv 3) (nomark _))))).pt
      (pss_one (ps_ret pe_bl))
      pss_nil)
    (pss_cons (ps_for PassesOwn.never rfl (pi_list (pv 6)) (pg_name (i := 7) sc_law.nd rfl (Or.inl rfl))
      (pss_one (ps_if (pt_not (pt_val (pe_callB call_isi (by rfl) T.z_isinstance (by decide +kernel) (pa_cons (pv 7) (pa_cons (pe_bltn (v := .ty "tuple") (by rfl) T.z_tuple (by decide +kernel) rfl) pa_nil)))))
        (pss_one (ps_ret pe_bl))
        pss_nil)))
    (pss_cons (ps_if (pt_cmpR op_le (pv 2) (pv 1) (nomark _))
      (pss_one (ps_ret (pe_cmpR (op_eqD hr.units) (pe_callTy my_list (by rfl) T.z_list (by decide +kernel) (pa_cons (pe_ix ix_list (pv 6) pe_int (fun _ _ => rfl)) pa_nil)) (pv 3) (nomark _))))
      pss_nil)
    (pss_one (ps_ret (pe_and (pe_cmpR (op_eqD hr.units) (pe_callTy my_list (by rfl) T.z_list (by decide +kernel) (pa_cons (pe_ix ix_list (pv 6) pe_int (fun _ _ => rfl)) pa_nil)) (pe_slice sl_list (pv 3) po_none (po_some (pe_op op_fdiv (pv 2) pe_int))) (nomark _)) (pe_one (pe_cmpR (op_eqD hr.units) (pe_callTy my_list (by rfl) T.z_list (by decide +kernel) (pa_cons (pe_ix ix_list (pv 6) pe_int (fun _ _ => rfl)) pa_nil)) (pe_slice sl_list (pv 3) (po_some (pe_op op_fdiv (pv 2) pe_int)) po_none) (nomark _)))))))))))))))), ?_⟩
  wtm_at "go"
  generalize hw : 3 + cell ns 0 % 62 = wd
  have hw3 : 3 ≤ wd ∧ wd ≤ 64 := by omega
  refine g_cut (fun σ' H' => ∃ z : Int, σ' = [some (.ref a), some (.int wd), some (.int z), none, none, none, none, none] ∧ H' = H ∧ 0 ≤ z ∧ z ≤ 2 * wd) ?_ ?_
  · wtm_at "go"
    refine g_br (fun c => ?_) (fun c => ?_)
    · wtm_at "go"
      exact ⟨_, rfl, rfl, by omega, by omega⟩
    · wtm_at "go"
      exact ⟨_, rfl, rfl, Int.emod_nonneg _ (by omega), by have := Int.emod_lt_of_pos (cell ns 1) (show 0 < 2 * wd + 1 by omega); omega⟩
  rintro σ' H' ⟨z, rfl, rfl, hz0, hz1⟩
  wtm_at "go"
  refine g_lcR1 (n := z) (fun i y H => ∃ p : Addr, y = .ref p ∧ H p = some (.tup [.int (cell ns 3 % 50 + 2 * (i : Int)), .int ((i : Int) + 1)])) (fun R r => by wtm_at "go"; exact r) (by omega) (fun x => rfl)
    (fun i y H1 H2 st ⟨p, e, r⟩ => ⟨p, e, st.tup r⟩) (fun i H1 QE hi s1 k => ?_) (fun pr ys H1 nr s1 er hyl hys => ?_)
  · wtm_at "go"
    refine g_tupK (by wtm_at "ln") fun p H2 n2 s2 e2 => ?_
    exact k _ H2 s2 ⟨p, rfl, e2⟩
  -- the row's data
  have hds : ∀ H2, Same H1 H2 → DpAll K H2 ys ((List.range z.toNat).map fun i : Nat => PyData.tuple [.int (cell ns 3 % 50 + 2 * (i : Int)), .int ((i : Int) + 1)]) := fun H2 s2 => by
    refine dpAll_of (by rw [List.length_map, List.length_range, hyl]) fun i v d hv hd => ?_
    obtain ⟨p, rfl, ep⟩ := hys i v hv
    rw [List.getElem?_map] at hd
    obtain ⟨i', hi', rfl⟩ := Option.map_eq_some_iff.mp hd
    have hlt : i < z.toNat := by
      have := (List.getElem?_eq_some_iff.mp hi').1
      rwa [List.length_range] at this
    rw [List.getElem?_range hlt] at hi'
    cases Option.some.inj hi'
    exact .tup (SqT.of (s2 _ _ ep)) (.cons (.int _) (.cons (.int _) .nil))
  have hsh : ∀ d ∈ ((List.range z.toNat).map fun i : Nat => PyData.tuple [.int (cell ns 3 % 50 + 2 * (i : Int)), .int ((i : Int) + 1)]), PyData.canLay0 d = true ∧ PyData.depth d ≤ 1 := fun d hd => by
    obtain ⟨i, _, rfl⟩ := List.mem_map.mp hd
    exact ⟨rfl, Nat.le_refl _⟩
  generalize ((List.range z.toNat).map fun i : Nat => PyData.tuple [.int (cell ns 3 % 50 + 2 * (i : Int)), .int ((i : Int) + 1)]) = ds at hds hsh
  wtm_at "go"
  refine g_list (by wtm_at "so") fun ph H2 nh s2 eh => ?_
  wtm_at "go"
  refine g_cut (fun σ' H' => ∃ p : Addr, σ' = [some (.ref a), some (.int wd), some (.int z), some (.ref pr), none, some (.ref p), none, none] ∧ Same H2 H' ∧ (SqL K H' p ys ∨ SqT K H' p ys)) ?_ ?_
  · wtm_at "go"
    refine g_br (fun c => ?_) (fun c => ?_)
    · wtm_at "go"
      refine g_tupleL (by wtm_at "sq") fun p H3 n3 s3 e3 => ?_
      wtm_at "go"
      exact ⟨p, rfl, s3, .inr (SqT.of e3)⟩
    · wtm_at "go"
      exact ⟨ph, rfl, L2.Same.refl _, .inl (SqL.of eh)⟩
  rintro σ' H3 ⟨p, rfl, s3, hp⟩
  wtm_at "go"
  refine ⟨p, ys, wd, rfl, hp, by omega, by omega, fun pf H4 as s4 e4 has => ?_⟩
  have las : as.length = (partsV ys wd).length := Paired.length has
  wtm_at "go"
  refine g_isiL e4 ?_
  wtm_at "go"
  refine g_orK (fun c => nomatch c) (fun _ => ?_)
  wtm_at "go"
  have e5 : (!decide (V.int ((as.map V.ref).length : Int) = V.int (1 + if decide (wd < z) = true then 1 else 0))) = false := by
    rw [List.length_map, las]
    unfold partsV
    by_cases c : (ys.length : Int) ≤ wd
    · rw [if_pos c, if_neg (by simp; omega)]
      rfl
    · rw [if_neg c, if_pos (by simp; omega)]
      rfl
  rw [e5]
  refine g_orK (fun c => nomatch c) (fun _ => ?_)
  wtm_at "go"
  refine g_list (Same.seqO s4 hp) fun p6 H6 n6 s6 e6 => ?_
  wtm_at "go"
  have s16 : Same H1 H6 := s2.trans (s3.trans (s4.trans s6))
  refine g_neL (SqL.of e6) (SqL.of (s16 _ _ er)) (hds _ s16) (hds _ s16) hsh (by decide) ?_
  wtm_at "go"
  -- for one in found
  have hasT : ∀ (i : Nat) (x : V), (as.map V.ref)[i]? = some x → ∃ b zs, x = .ref b ∧ SqT K H4 b zs ∧ (partsV ys wd)[i]? = some zs := fun i x hx => by
    rw [List.getElem?_map] at hx
    obtain ⟨b, hb, rfl⟩ := Option.map_eq_some_iff.mp hx
    obtain ⟨zs, hz, hr⟩ := pair_at has hb
    exact ⟨b, zs, rfl, hr, hz⟩
  refine g_forL (fun i σ' H' => ∃ v, σ' = [some (.ref a), some (.int wd), some (.int z), some (.ref pr), none, some (.ref p), some (.ref pf), v] ∧ H' = H6) (fun R r => by wtm_at "go"; exact r) (SqL.of (s6 _ _ e4))
    ⟨_, rfl, rfl⟩ (fun i σ' H' _ ⟨v, _, e⟩ => by rw [e]; exact SqL.of (s6 _ _ e4)) (fun i x σ' H' hx ⟨v, e1, e2⟩ => ?_) (fun σ' H' ⟨v, e1, e2⟩ => ?_)
  · subst e1 e2
    obtain ⟨b, zs, rfl, hb, _⟩ := hasT i x hx
    wtm_at "go"
    refine g_isiT (Same.seqT s6 hb) ?_
    wtm_at "go"
    exact ⟨_, rfl, rfl⟩
  subst e1 e2
  wtm_at "go"
  refine g_br (fun c => ?_) (fun c => ?_)
  · have c' : z ≤ wd := of_decide_eq_true c
    have hpv : partsV ys wd = [ys] := by unfold partsV; rw [if_pos (by omega)]
    obtain ⟨x0, hx0⟩ : ∃ x, (as.map V.ref)[0]? = some x := ⟨_, List.getElem?_eq_getElem (by rw [List.length_map, las, hpv]; simp)⟩
    obtain ⟨b, zs, rfl, hb, hz⟩ := hasT 0 x0 hx0
    rw [hpv] at hz
    cases Option.some.inj hz
    wtm_at "go"
    refine g_ixL (SqL.of (s6 _ _ e4)) (atI_nat (j := 0) hx0) ?_
    wtm_at "go"
    refine g_list (.inr (Same.seqT s6 hb)) fun p7 H7 n7 s7 e7 => ?_
    wtm_at "go"
    have s17 := s16.trans s7
    exact g_eqL (SqL.of e7) (SqL.of (s17 _ _ er)) (hds _ s17) (hds _ s17) hsh (by decide) (q _)
  · have c' : ¬ z ≤ wd := of_decide_eq_false c
    have hpv : partsV ys wd = [ys.take (ys.length / 2), ys.drop (ys.length / 2)] := by unfold partsV; rw [if_neg (by omega)]
    obtain ⟨x0, hx0⟩ : ∃ x, (as.map V.ref)[0]? = some x := ⟨_, List.getElem?_eq_getElem (by rw [List.length_map, las, hpv]; simp)⟩
    obtain ⟨x1, hx1⟩ : ∃ x, (as.map V.ref)[1]? = some x := ⟨_, List.getElem?_eq_getElem (by rw [List.length_map, las, hpv]; simp)⟩
    obtain ⟨b, zs, rfl, hb, hz⟩ := hasT 0 x0 hx0
    obtain ⟨b1, zs1, rfl, hb1, hz1⟩ := hasT 1 x1 hx1
    rw [hpv] at hz hz1
    cases Option.some.inj hz
    cases Option.some.inj hz1
    have eh : z / 2 = ((ys.length / 2 : Nat) : Int) := by omega
    wtm_at "go"
    refine g_ixL (SqL.of (s6 _ _ e4)) (atI_nat (j := 0) hx0) ?_
    wtm_at "go"
    refine g_list (.inr (Same.seqT s6 hb)) fun p7 H7 n7 s7 e7 => ?_
    wtm_at "go"
    rw [eh]
    refine g_slL (SqL.of ((s16.trans s7) _ _ er)) fun p8 H8 n8 s8 e8 => ?_
    rw [cut_to] at e8
    have s18 := s16.trans (s7.trans s8)
    have sub : ∀ m, (∀ d ∈ ds.take m, PyData.canLay0 d = true ∧ PyData.depth d ≤ 1) ∧ ∀ d ∈ ds.drop m, PyData.canLay0 d = true ∧ PyData.depth d ≤ 1 := fun m => ⟨fun d hd => hsh d (List.mem_of_mem_take hd), fun d hd => hsh d (List.mem_of_mem_drop hd)⟩
    refine g_eqL (SqL.of (s8 _ _ e7)) (SqL.of e8) (dpAll_take _ (hds _ s18)) (dpAll_take _ (hds _ s18)) (sub _).1 (by decide) ?_
    refine g_andV (fun _ => ?_) (fun c => nomatch c)
    wtm_at "go"
    refine g_ixL (SqL.of ((s6.trans (s7.trans s8)) _ _ e4)) (atI_nat (j := 1) hx1) ?_
    wtm_at "go"
    refine g_list (.inr (Same.seqT (s6.trans (s7.trans s8)) hb1)) fun p9 H9 n9 s9 e9 => ?_
    wtm_at "go"
    rw [eh]
    refine g_slL (SqL.of ((s18.trans s9) _ _ er)) fun p10 H10 n10 s10 e10 => ?_
    rw [cut_from] at e10
    have s110 := s18.trans (s9.trans s10)
    exact g_eqL (SqL.of (s10 _ _ e9)) (SqL.of e10) (dpAll_drop _ (hds _ s110)) (dpAll_drop _ (hds _ s110)) (sub _).2 (by decide) (q _)
theorem all_mk {l : PySem.W.OpenLaw} {w : World} {K : PySem.W.Frag} {h : Heap} {mg : Str → Option Value} {fa : Addr} (X : K.In h) (G : h.Ns mainGlobals mg) (hfa : mg "law" = some (.ref fa))
    {f0 : Addr} {od0 an0 : Option Addr} {sl0 : Array (Option Value)} {oc0 kV0 dc0 pm0 cd0 ct0 : Value}
    (a0 : PySem.W.nsIn K mainGlobals "parts" = some (some (.ref f0))) (l0 : K.lookup f0 = some ⟨oc0, od0, .func (PySem.W.fnOf "parts" "parts" (defArgs s_parts) (defBody s_parts) (defScope s_parts) .none kV0 dc0 pm0 an0 cd0 ct0), sl0⟩) (c0 : PySem.W.codeIn K cd0 "parts" = true) (k0 : PySem.W.keepIn K (.ref f0) = true)
    {f1 : Addr} {od1 an1 : Option Addr} {sl1 : Array (Option Value)} {oc1 kV1 dc1 pm1 cd1 ct1 : Value}
    (a1 : PySem.W.nsIn K mainGlobals "_law_cell_at" = some (some (.ref f1))) (l1 : K.lookup f1 = some ⟨oc1, od1, .func (PySem.W.fnOf "_law_cell_at" "_law_cell_at" (defArgs s_l_cell_at) (defBody s_l_cell_at) (defScope s_l_cell_at) .none kV1 dc1 pm1 an1 cd1 ct1), sl1⟩) (c1 : PySem.W.codeIn K cd1 "_law_cell_at" = true) (k1 : PySem.W.keepIn K (.ref f1) = true)
    {f2 : Addr} {od2 an2 : Option Addr} {sl2 : Array (Option Value)} {oc2 kV2 dc2 pm2 cd2 ct2 : Value}
    (a2 : PySem.W.nsIn K mainGlobals "law" = some (some (.ref f2))) (l2 : K.lookup f2 = some ⟨oc2, od2, .func (PySem.W.fnOf "law" "law" (defArgs s_law) (defBody s_law) (defScope s_law) .none kV2 dc2 pm2 an2 cd2 ct2), sl2⟩) (c2 : PySem.W.codeIn K cd2 "law" = true) (k2 : PySem.W.keepIn K (.ref f2) = true)
    (z0 : PySem.W.nsIn K mainGlobals "int" = some none)
    (z1 : PySem.W.nsIn K mainGlobals "isinstance" = some none)
    (z2 : PySem.W.nsIn K mainGlobals "len" = some none)
    (z3 : PySem.W.nsIn K mainGlobals "list" = some none)
    (z4 : PySem.W.nsIn K mainGlobals "range" = some none)
    (z5 : PySem.W.nsIn K mainGlobals "tuple" = some none)
    : ∃ fd : FuncData, (∀ (s : Shared) (v : Value), BindsTo s fd ⟨[v], []⟩ [("_law_script", v)]) ∧ ∀ base : Heap, K.In base → base.Ns mainGlobals mg → FnOk l.prog w K mg base CX0 2 fa fd ["_law_script"] (spLaw K) := by
  have e := hfa.symm.trans (PySem.W.mg_of X G a2)
  cases e
  have F0 := fun_mk (st := s_parts) l0 c0 k0
  have b0 := F0.binds (ps := ["pairs", "width"]) fun _ _ _ _ _ _ us hl => match us, hl with | [_, _], _ => rfl
  have F1 := fun_mk (st := s_l_cell_at) l1 c1 k1
  have b1 := F1.binds (ps := ["_law_script", "_law_k"]) fun _ _ _ _ _ _ us hl => match us, hl with | [_, _], _ => rfl
  have F2 := fun_mk (st := s_law) l2 c2 k2
  have T : Tx K mg := ⟨f0, _, F0, b0, PySem.W.mg_of X G a0, f1, _, F1, b1, PySem.W.mg_of X G a1, PySem.W.mg_none_of X G z0, PySem.W.mg_none_of X G z1, PySem.W.mg_none_of X G z2, PySem.W.mg_none_of X G z3, PySem.W.mg_none_of X G z4, PySem.W.mg_none_of X G z5⟩
  exact ⟨_, fun s v => .of_eq rfl, fun base _ _ => ok_law F2 T⟩
end
end My
open PySem PySem.W PyProof.Rows
set_option maxRecDepth 100000 in
set_option maxHeartbeats 0 in
theorem PySem.Challenge.cw_btreelog_k02_rows_part_holds : PySem.Challenge.rw_btreelog_k02_rows_part.Holds := by
  w_on; o_law; k_head; (case hw => w_witness2)
  k_fill
  refine L2.walk_ofB (l := PySem.Challenge.rw_btreelog_k02_rows_part) (n := 63) (k := 2) (x := "_law_script") (CX := fun _ => L2.CX0) (sp := fun w => My.spLaw _) rfl (by decide) rfl ⟨rfl, by decide, by decide⟩ (fun w h Y => PySem.W.kIn_of Y) ?F (fun _ _ a ns hl hb _ hS => ⟨a, ns, rfl, hS, hl, hb, fun _ => rfl⟩) (fun _ _ _ _ _ h => h)
  case F =>
    intro w mg fa h KX G hmg
    refine' My.all_mk KX G hmg ?a0 ?l0 ?c0 ?k0 ?a1 ?l1 ?c1 ?k1 ?a2 ?l2 ?c2 ?k2 ?z0 ?z1 ?z2 ?z3 ?z4 ?z5
    (case a0 => k_is)
    (case l0 => k_is)
    (case c0 => k_is)
    (case k0 => k_is)
    (case a1 => k_is)
    (case l1 => k_is)
    (case c1 => k_is)
    (case k1 => k_is)
    (case a2 => k_is)
    (case l2 => k_is)
    (case c2 => k_is)
    (case k2 => k_is)
    (case z0 => k_is)
    (case z1 => k_is)
    (case z2 => k_is)
    (case z3 => k_is)
    (case z4 => k_is)
    (case z5 => k_is)
