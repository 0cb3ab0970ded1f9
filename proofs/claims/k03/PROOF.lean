import PyProof.Rows.All
import Wide.All
import OpenK.AllK
import Wide.FinOn
import HandS.ForMost
import HandS.More
import HandS.IsInst
import HandS.RevRange
import HandS.Style
import HandS.EndBits
import HandS.Evl
import HandS.Walk
import PySem.Challenge.RW_btreelog_k03_keys_and_values
set_option Elab.async false
set_option linter.all false
set_option maxRecDepth 100000
set_option maxHeartbeats 1000000
namespace My
open PySem L2
/-! ### facts carried from heap to heap -/
theorem Same.at {H H' : Hp} {a : Addr} {o : HO} (e : Same H H') (h : H a = some o) : H' a = some o := e a o h
theorem Same.seqT {K : PySem.W.Frag} {H H' : Hp} {a : Addr} {xs : List V} (e : Same H H') (h : SqT K H a xs) : SqT K H' a xs := Evl.ex_t e h
theorem Same.new {H : Hp} {p : Addr} (h : H p = none) (o : HO) : Same H (upd H p o) := Evl.Ex.new h
theorem seq_l {K : PySem.W.Frag} {H : Hp} {a : Addr} {xs : List V} (h : SqL K H a xs) : SqL K H a xs ∨ SqT K H a xs := .inl h
theorem seq_t {K : PySem.W.Frag} {H : Hp} {a : Addr} {xs : List V} (h : SqT K H a xs) : SqL K H a xs ∨ SqT K H a xs := .inr h
theorem Same.seqO {K : PySem.W.Frag} {H H' : Hp} {a : Addr} {xs : List V} (e : Same H H') (h : SqL K H a xs ∨ SqT K H a xs) : SqL K H' a xs ∨ SqT K H' a xs :=
  h.elim (fun h => .inl (e.seq h)) fun h => .inr (Same.seqT e h)
mutual
theorem Dp.go {K : PySem.W.Frag} {H H' : Hp} (e : Same H H') : ∀ {v : V} {d : PyData}, Dp K H v d → Dp K H' v d
  | _, _, .non => .non
  | _, _, .bl b => .bl b
  | _, _, .int i => .int i
  | _, _, .str x => .str x
  | _, _, .lst h r => .lst (e.seq h) (DpAll.go e r)
  | _, _, .tup h r => .tup (Same.seqT e h) (DpAll.go e r)
theorem DpAll.go {K : PySem.W.Frag} {H H' : Hp} (e : Same H H') : ∀ {vs : List V} {ds : List PyData}, DpAll K H vs ds → DpAll K H' vs ds
  | _, _, .nil => .nil
  | _, _, .cons h r => .cons (Dp.go e h) (DpAll.go e r)
end
/-! ### readings, a step at a time -/
section
variable {K : PySem.W.Frag} {σ : L2.St} {H : Hp} {Q : VK} {ta tb tc te : TE} {v x y z : V} {D : Ends} {t u : TS} {tt tu : TT} {r r' : R2} {tr : TA} {QA : List V → Hp → Prop} {QB : Bool → Hp → Prop}
theorem g_var {i : Nat} (h : σ[i]? = some (some v)) (q : Q v H) : tVar i σ H Q := ⟨v, h, q⟩
theorem g_c (q : Q v H) : tC v σ H Q := q
theorem g_op (q : ta σ H fun x H1 => tb σ H1 fun y H2 => r x y H2 Q) : tOp r ta tb σ H Q := q
theorem g_un {f : V → Hp → VK → Prop} (q : ta σ H fun x H1 => f x H1 Q) : tUn f ta σ H Q := q
theorem g_rI0 {g : Int → Int → V} {i j : Int} (q : Q (g i j) H) : rI0 g (.int i) (.int j) H Q := ⟨i, j, rfl, rfl, q⟩
theorem g_rI {C : Int → Int → Prop} {g : Int → Int → V} {i j : Int} (c : C i j) (q : Q (g i j) H) : rI C g (.int i) (.int j) H Q := ⟨i, j, rfl, rfl, c, q⟩
theorem g_rU {g : Int → V} {i : Int} (q : Q (g i) H) : rU g (.int i) H Q := ⟨i, rfl, q⟩
theorem g_rEq (s : scal x y = true) (q : Q (.bl (decide (x = y))) H) : rEq x y H Q := ⟨s, q⟩
theorem g_rNe (s : scal x y = true) (q : Q (.bl (!decide (x = y))) H) : rNe x y H Q := ⟨s, q⟩
/-- what a test waits for -/
def isB (QB : Bool → Hp → Prop) : VK := fun x H => ∃ k, x = .bl k ∧ QB k H
theorem g_isB {k : Bool} (q : QB k H) : isB QB (.bl k) H := ⟨k, rfl, q⟩
theorem g_test (q : ta σ H (isB QB)) : tTest ta σ H QB := q
theorem g_tB (q : ta σ H (isB QB)) : tB ta σ H QB := q
def chK (r' : R2) (tc : TE) (y : V) (σ : L2.St) (Q : VK) : Bool → Hp → Prop := fun k H => if k = true then tc σ H fun w H4 => r' y w H4 Q else Q (.bl false) H
theorem g_chain (q : ta σ H fun x H1 => tb σ H1 fun y H2 => r x y H2 (isB (chK r' tc y σ Q))) : tChain r r' ta tb tc σ H Q := q
theorem g_chK {k : Bool} (h1 : k = true → tc σ H fun w H4 => r' y w H4 Q) (h2 : k = false → Q (.bl false) H) : chK r' tc y σ Q k H := by
  cases k
  · exact h2 rfl
  · exact h1 rfl
def andK (u : TT) (σ : L2.St) (Q : Bool → Hp → Prop) : Bool → Hp → Prop := fun c H => if c = true then u σ H Q else Q false H
def orK (u : TT) (σ : L2.St) (Q : Bool → Hp → Prop) : Bool → Hp → Prop := fun c H => if c = true then Q true H else u σ H Q
def notK (Q : Bool → Hp → Prop) : Bool → Hp → Prop := fun c H => Q (!c) H
theorem g_and (q : tt σ H (andK tu σ QB)) : tAnd tt tu σ H QB := q
theorem g_or (q : tt σ H (orK tu σ QB)) : tOr tt tu σ H QB := q
theorem g_not (q : tt σ H (notK QB)) : tNot tt σ H QB := q
theorem g_notK {k : Bool} (q : QB (!k) H) : notK QB k H := q
theorem g_andK {k : Bool} (h1 : k = true → tu σ H QB) (h2 : k = false → QB false H) : andK tu σ QB k H := by
  cases k
  · exact h2 rfl
  · exact h1 rfl
theorem g_orK {k : Bool} (h1 : k = true → QB true H) (h2 : k = false → tu σ H QB) : orK tu σ QB k H := by
  cases k
  · exact h2 rfl
  · exact h1 rfl
/-- .. as values -/
def andV (tb : TE) (σ : L2.St) (Q : VK) : VK := fun x H => ∃ c, x = .bl c ∧ if c = true then tb σ H Q else Q (.bl false) H
def orV (tb : TE) (σ : L2.St) (Q : VK) : VK := fun x H => ∃ c, x = .bl c ∧ if c = true then Q (.bl true) H else tb σ H Q
def notV (Q : VK) : VK := fun x H => ∃ c, x = .bl c ∧ Q (.bl (!c)) H
theorem g_andT (q : ta σ H (andV tb σ Q)) : tAndV ta tb σ H Q := q
theorem g_orT (q : ta σ H (orV tb σ Q)) : tOrV ta tb σ H Q := q
theorem g_notT (q : ta σ H (notV Q)) : tNotV ta σ H Q := q
theorem g_andV {k : Bool} (h1 : k = true → tb σ H Q) (h2 : k = false → Q (.bl false) H) : andV tb σ Q (.bl k) H := ⟨k, rfl, by
  cases k
  · exact h2 rfl
  · exact h1 rfl⟩
theorem g_orV {k : Bool} (h1 : k = true → Q (.bl true) H) (h2 : k = false → tb σ H Q) : orV tb σ Q (.bl k) H := ⟨k, rfl, by
  cases k
  · exact h2 rfl
  · exact h1 rfl⟩
theorem g_notV {k : Bool} (q : Q (.bl (!k)) H) : notV Q (.bl k) H := ⟨k, rfl, q⟩
def ifV (ta tb : TE) (σ : L2.St) (Q : VK) : Bool → Hp → Prop := fun c H => if c = true then ta σ H Q else tb σ H Q
theorem g_ifE (q : tt σ H (ifV ta tb σ Q)) : tIf tt ta tb σ H Q := q
theorem g_ifV {k : Bool} (h1 : k = true → ta σ H Q) (h2 : k = false → tb σ H Q) : ifV ta tb σ Q k H := by
  cases k
  · exact h2 rfl
  · exact h1 rfl
/-! tuples, lists, arguments, calls -/
theorem g_nil (q : QA [] H) : tNil σ H QA := q
theorem g_cons (q : ta σ H fun x H1 => tr σ H1 fun xs H2 => QA (x :: xs) H2) : tCons ta tr σ H QA := q
def tupK (Q : VK) : List V → Hp → Prop := fun xs H => xs.length ≤ sizeLine ∧ ∀ p, H p = none → Q (.ref p) (upd H p (.tup xs))
def lstK (Q : VK) : List V → Hp → Prop := fun xs H => xs.length ≤ sizeLine ∧ ∀ p, H p = none → Q (.ref p) (upd H p (.lst xs))
theorem g_tup (q : tr σ H (tupK Q)) : tTup tr σ H Q := q
theorem g_lst (q : tr σ H (lstK Q)) : tLst tr σ H Q := q
theorem g_tupK {xs : List V} (hl : xs.length ≤ sizeLine) (q : ∀ p H1, H p = none → Same H H1 → H1 p = some (.tup xs) → Q (.ref p) H1) : tupK Q xs H :=
  ⟨hl, fun p hp => q p _ hp (Same.new hp _) upd_same⟩
theorem g_lstK {xs : List V} (hl : xs.length ≤ sizeLine) (q : ∀ p H1, H p = none → Same H H1 → H1 p = some (.lst xs) → Q (.ref p) H1) : lstK Q xs H :=
  ⟨hl, fun p hp => q p _ hp (Same.new hp _) upd_same⟩
theorem g_call {sp : Sp} {dvs : List V} {E : XK} (q : tr σ H fun vs H1 => sp (vs ++ dvs) H1 Q E) : tCall sp dvs E tr σ H Q := q
theorem g_cb {f : List V → Hp → VK → Prop} (q : tr σ H fun vs H1 => f vs H1 Q) : tCB f tr σ H Q := q
theorem g_bm {T : String} {f : V → List V → Hp → VK → Prop} (q : ta σ H fun x H1 => tyV K T x H1 ∧ tr σ H1 fun xs H2 => f x xs H2 Q) : tBM K T f ta tr σ H Q := q
/-! subscripts, slices -/
theorem g_ixL {p : Addr} {xs : List V} {i : Int} (h : SqL K H p xs) (ha : atI xs i = some v) (q : Q v H) : rIxL K (.ref p) (.int i) H Q := ⟨p, xs, i, v, rfl, rfl, h, ha, q⟩
theorem g_ixT {p : Addr} {xs : List V} {i : Int} (h : SqT K H p xs) (ha : atI xs i = some v) (q : Q v H) : rIxT K (.ref p) (.int i) H Q := ⟨p, xs, i, v, rfl, rfl, h, ha, q⟩
theorem g_ixO {p : Addr} {xs : List V} {i : Int} (h : SqL K H p xs ∨ SqT K H p xs) (ha : atI xs i = some v) (q : Q v H) : rIx K (.ref p) (.int i) H Q :=
  h.elim (fun h => .inl ⟨p, xs, i, v, rfl, rfl, h, ha, q⟩) fun h => .inr (.inl ⟨p, xs, i, v, rfl, rfl, h, ha, q⟩)
theorem g_sl {f : V → Option Int → Option Int → Hp → VK → Prop} {tl th : TO} (q : te σ H fun x H1 => tl σ H1 fun l H2 => th σ H2 fun u H3 => f x l u H3 Q) : tSl f te tl th σ H Q := q
theorem g_noPart {QO : Option Int → Hp → Prop} (q : QO none H) : tNoPart σ H QO := q
def partK (QO : Option Int → Hp → Prop) : VK := fun x H => ∃ i, x = .int i ∧ QO (some i) H
theorem g_part {QO : Option Int → Hp → Prop} (q : te σ H (partK QO)) : tPart te σ H QO := q
theorem g_partK {QO : Option Int → Hp → Prop} {i : Int} (q : QO (some i) H) : partK QO (.int i) H := ⟨i, rfl, q⟩
theorem g_slL {a : Addr} {xs : List V} {lo hi : Option Int} (h : SqL K H a xs) (q : ∀ p H1, H p = none → Same H H1 → H1 p = some (.lst (cutV xs lo hi)) → Q (.ref p) H1) : rSlL K (.ref a) lo hi H Q :=
  ⟨a, xs, rfl, h, fun p hp => q p _ hp (Same.new hp _) upd_same⟩
theorem g_slT {a : Addr} {xs : List V} {lo hi : Option Int} (h : SqT K H a xs) (n : ¬ (HT.sIx xs.length 0 lo = 0 ∧ HT.sIx xs.length xs.length hi = xs.length)) (q : ∀ p H1, H p = none → Same H H1 → H1 p = some (.tup (cutV xs lo hi)) → Q (.ref p) H1) : rSlT K (.ref a) lo hi H Q :=
  ⟨a, xs, rfl, h, n, fun p hp => q p _ hp (Same.new hp _) upd_same⟩
/-! statements -/
theorem g_seq (q : t { D with nx := u D } σ H) : tSeq t u D σ H := q
theorem g_next (q : D.nx σ H) : tNext D σ H := q
theorem g_asg {g : TG} (q : te σ H fun x H1 => g x σ H1 D.nx) : tAsg te g D σ H := q
theorem g_name {i : Nat} {QS : L2.St → Hp → Prop} (q : QS (σ.set i (some v)) H) : gName i v σ H QS := q
theorem g_gtup {n : Nat} {tg : TGs} {a : Addr} {xs : List V} {QS : L2.St → Hp → Prop} (h : SqT K H a xs) (hl : xs.length = n) (q : tg xs σ H QS) : gTup K n tg (.ref a) σ H QS := ⟨a, xs, rfl, h, hl, q⟩
theorem g_gcons {g : TG} {tg : TGs} {vs : List V} {QS : L2.St → Hp → Prop} (q : g v σ H fun σ' H' => tg vs σ' H' QS) : gCons g tg (v :: vs) σ H QS := ⟨v, vs, rfl, q⟩
theorem g_gnil {QS : L2.St → Hp → Prop} (q : QS σ H) : gNil [] σ H QS := ⟨rfl, q⟩
theorem g_ret (q : te σ H D.rt) : tRet te D σ H := q
theorem g_retN (q : D.rt .non H) : tRetN D σ H := q
theorem g_drop (q : te σ H fun _ H1 => D.nx σ H1) : tDrop te D σ H := q
def brS (t u : TS) (D : Ends) (σ : L2.St) : Bool → Hp → Prop := fun b H1 => if b = true then t D σ H1 else u D σ H1
theorem g_if (q : tt σ H (brS t u D σ)) : tIfS tt t u D σ H := q
theorem g_br {k : Bool} (h1 : k = true → t D σ H) (h2 : k = false → u D σ H) : brS t u D σ k H := by
  cases k
  · exact h2 rfl
  · exact h1 rfl
theorem g_brT (h1 : t D σ H) : brS t u D σ true H := h1
theorem g_brF (h1 : u D σ H) : brS t u D σ false H := h1
end
/-! ### rules whose relation has a name -/
section
variable {X : Cx}
def rLen (K : PySem.W.Frag) : List V → Hp → VK → Prop := fun xs H Q => ∃ p ys, xs = [.ref p] ∧ (SqL K H p ys ∨ SqT K H p ys) ∧ Q (.int ys.length) H
theorem my_len : CallR X (.builtin "len") (rLen X.K) := call_len_seq
def rLenS : List V → Hp → VK → Prop := fun us H Q => ∃ t, us = [.str t] ∧ t.length ≤ sizeLine ∧ Q (.int t.length) H
theorem my_lenS : CallR X (.builtin "len") rLenS := call_len_str
def rList (K : PySem.W.Frag) : List V → Hp → VK → Prop := fun xs H Q => ∃ p ys, xs = [.ref p] ∧ (SqL K H p ys ∨ SqT K H p ys) ∧ ∀ l, H l = none → Q (.ref l) (upd H l (.lst ys))
theorem my_list : CallR X (.type "list") (rList X.K) := call_list_of
def rTuple (K : PySem.W.Frag) : List V → Hp → VK → Prop := fun xs H Q => ∃ p ys, xs = [.ref p] ∧ ((SqL K H p ys ∧ ∀ l, H l = none → Q (.ref l) (upd H l (.tup ys))) ∨ (SqT K H p ys ∧ Q (.ref p) H))
theorem my_tuple : CallR X (.type "tuple") (rTuple X.K) := call_tuple_of
def rInt : List V → Hp → VK → Prop := fun xs H Q => (∃ i, xs = [.int i] ∧ Q (.int i) H) ∨ ∃ k, xs = [.bl k] ∧ Q (.int (if k then 1 else 0)) H
theorem my_int : CallR X (.type "int") rInt := call_int1
def rMax2 : List V → Hp → VK → Prop := fun us H Q => ∃ i j, us = [.int i, .int j] ∧ Q (.int (if j > i then j else i)) H
theorem my_max2 (hc : X.calm = true) : CallR X (.builtin "max") rMax2 := call_max2 hc
def rStrI : List V → Hp → VK → Prop := fun xs H Q => ∃ i, xs = [.int i] ∧ i.natAbs.log2 < 1920 ∧ Q (.str (toString i)) H
theorem my_strI : CallR X (.type "str") rStrI := call_str_int
def rAddS : R2 := fun x y H Q => ∃ i j, x = .str i ∧ y = .str j ∧ i.length + j.length ≤ sizeLine ∧ Q (.str (i ++ j)) H
theorem my_addS : OpR X (binaryOp .Add) rAddS := op_add_str
def rIsN : R2 := fun u v H Q => v = .non ∧ Q (.bl (decide (u = .non))) H
def rNotN : R2 := fun u v H Q => v = .non ∧ Q (.bl (!decide (u = .non))) H
theorem my_isN : OpR X (compareOp .Is) rIsN := op_isN
theorem my_notN : OpR X (compareOp .IsNot) rNotN := op_notN
def rIsTy : R2 := fun x y H Q => ∃ a b, x = .ty a ∧ y = .ty b ∧ Q (.bl (decide (a = b))) H
theorem my_isTy : OpR X (compareOp .Is) rIsTy := op_isTyB
theorem op_mulX : OpR X (binaryOp .Mult) (rI IntMulOk fun i j => .int (i * j)) := opI fun _ _ _ _ _ _ _ hc q => PyProof.Rows.mul_int q hc
end
section
variable {K : PySem.W.Frag} {H : Hp} {Q : VK} {v x y : V} {a : Addr} {xs : List V}
theorem g_len (h : SqL K H a xs ∨ SqT K H a xs) (q : Q (.int xs.length) H) : rLen K [.ref a] H Q := ⟨a, xs, rfl, h, q⟩
theorem g_lenS {z : Str} (h : z.length ≤ sizeLine) (q : Q (.int z.length) H) : rLenS [.str z] H Q := ⟨z, rfl, h, q⟩
theorem g_list (h : SqL K H a xs ∨ SqT K H a xs) (q : ∀ p H1, H p = none → Same H H1 → H1 p = some (.lst xs) → Q (.ref p) H1) : rList K [.ref a] H Q := ⟨a, xs, rfl, h, fun p hp => q p _ hp (Same.new hp _) upd_same⟩
theorem g_tupleL (h : SqL K H a xs) (q : ∀ p H1, H p = none → Same H H1 → H1 p = some (.tup xs) → Q (.ref p) H1) : rTuple K [.ref a] H Q := ⟨a, xs, rfl, .inl ⟨h, fun p hp => q p _ hp (Same.new hp _) upd_same⟩⟩
theorem g_tupleT (h : SqT K H a xs) (q : Q (.ref a) H) : rTuple K [.ref a] H Q := ⟨a, xs, rfl, .inr ⟨h, q⟩⟩
/-- tuple(x) of either: some tuple of the items -/
theorem g_tupleO (h : SqL K H a xs ∨ SqT K H a xs) (q : ∀ p H1, Same H H1 → SqT K H1 p xs → Q (.ref p) H1) : rTuple K [.ref a] H Q :=
  h.elim (fun h => g_tupleL h fun p H1 _ s e => q p H1 s (SqT.of e)) fun h => g_tupleT h (q a H (L2.Same.refl H) h)
theorem g_intB {k : Bool} (q : Q (.int (if k then 1 else 0)) H) : rInt [.bl k] H Q := .inr ⟨k, rfl, q⟩
theorem g_intI {i : Int} (q : Q (.int i) H) : rInt [.int i] H Q := .inl ⟨i, rfl, q⟩
theorem g_max2 {i j : Int} (q : Q (.int (if j > i then j else i)) H) : rMax2 [.int i, .int j] H Q := ⟨i, j, rfl, q⟩
theorem g_strI {i : Int} (h : i.natAbs.log2 < 1920) (q : Q (.str (toString i)) H) : rStrI [.int i] H Q := ⟨i, rfl, h, q⟩
theorem g_addS {i j : Str} (h : i.length + j.length ≤ sizeLine) (q : Q (.str (i ++ j)) H) : rAddS (.str i) (.str j) H Q := ⟨i, j, rfl, rfl, h, q⟩
theorem g_isN (q : Q (.bl (decide (x = .non))) H) : rIsN x .non H Q := ⟨rfl, q⟩
theorem g_notN (q : Q (.bl (!decide (x = .non))) H) : rNotN x .non H Q := ⟨rfl, q⟩
theorem g_isTy {m n : String} (q : Q (.bl (decide (m = n))) H) : rIsTy (.ty m) (.ty n) H Q := ⟨m, n, rfl, rfl, q⟩
theorem g_notTy {m n : String} (q : Q (.bl (!decide (m = n))) H) : rNT (.ty m) (.ty n) H Q := ⟨m, n, rfl, rfl, q⟩
theorem g_isBl {m n : Bool} (q : Q (.bl (decide (m = n))) H) : rIsB (.bl m) (.bl n) H Q := ⟨m, n, rfl, rfl, q⟩
theorem g_notBl {m n : Bool} (q : Q (.bl (!decide (m = n))) H) : rNotB (.bl m) (.bl n) H Q := ⟨m, n, rfl, rfl, q⟩
theorem g_typ {T : String} (t : TyB K H x T) (q : Q (.ty T) H) : rTyp K [x] H Q := ⟨x, T, rfl, t, q⟩
theorem g_isi {c : V} {t u : Value} {b : Bool} (k : ClsV c u) (ty : TyX K H x t) (e : PySem.W.kitOne K t u = some b) (q : Q (.bl b) H) : rIsi K [x, c] H Q := ⟨x, c, t, u, b, rfl, k, ty, e, q⟩
theorem g_eqD {d e : PyData} (hx : Dp K H x d) (hy : Dp K H y e) (sd : SeqAt.shaped d = true) (se : SeqAt.shaped e = true) (q : Q (.bl (PyData.eqv d e)) H) : rEqD K x y H Q := ⟨d, e, hx, hy, sd, se, q⟩
theorem g_neD {d e : PyData} (hx : Dp K H x d) (hy : Dp K H y e) (sd : SeqAt.shaped d = true) (se : SeqAt.shaped e = true) (q : Q (.bl (!PyData.eqv d e)) H) : rNeD K x y H Q := ⟨d, e, hx, hy, sd, se, q⟩
theorem g_all {bs : List Bool} (h : SqL K H a (bs.map V.bl)) (q : Q (.bl (bs.all id)) H) : rAll K [.ref a] H Q := ⟨a, bs, rfl, h, q⟩
theorem g_in {neg : Bool} (h : SqL K H a xs ∨ SqT K H a xs) (f : flatV x = true) (fs : xs.all flatV = true) (q : Q (.bl (if neg then !inV x xs else inV x xs)) H) : rIn K neg x (.ref a) H Q := ⟨a, xs, rfl, h, f, fs, q⟩
end
end My
namespace My
open PySem L2
section
variable {X : Cx} {K : PySem.W.Frag} {H : Hp} {Q : VK} {a : Addr} {xs : List V} {lo hi : Option Int}
def rSlO (K : PySem.W.Frag) : V → Option Int → Option Int → Hp → VK → Prop := fun x lo hi H Q => rSlL K x lo hi H Q ∨ rSlT K x lo hi H Q
theorem my_slO : SlR X (rSlO X.K) := sl_list.or sl_tup
theorem g_slO (h : SqL K H a xs ∨ SqT K H a xs) (n : ¬ (HT.sIx xs.length 0 lo = 0 ∧ HT.sIx xs.length xs.length hi = xs.length))
    (q : ∀ p H1, H p = none → Same H H1 → (SqL K H1 p (cutV xs lo hi) ∨ SqT K H1 p (cutV xs lo hi)) → Q (.ref p) H1) : rSlO K (.ref a) lo hi H Q :=
  h.elim (fun h => .inl (g_slL h fun p H1 np s e => q p H1 np s (.inl (SqL.of e)))) fun h => .inr (g_slT h n fun p H1 np s e => q p H1 np s (.inr (SqT.of e)))
theorem cut_to (xs : List V) (n : Nat) : cutV xs none (some (n : Int)) = xs.take n := by
  unfold cutV
  rw [HT.sIx_none, HT.sIx_nat, List.drop_zero, Nat.sub_zero]
  by_cases h : n ≤ xs.length
  · rw [Nat.min_eq_left h]
  · rw [Nat.min_eq_right (by omega), List.take_length, List.take_of_length_le (by omega)]
theorem cut_from (xs : List V) (n : Nat) : cutV xs (some (n : Int)) none = xs.drop n := by
  unfold cutV
  rw [HT.sIx_none, HT.sIx_nat]
  by_cases h : n ≤ xs.length
  · rw [Nat.min_eq_left h, List.take_of_length_le (by rw [List.length_drop]; omega)]
  · rw [Nat.min_eq_right (by omega), Nat.sub_self, List.take_zero, List.drop_eq_nil_of_le (by omega)]
theorem sz {n : Nat} (h : n ≤ 100000) : n ≤ sizeLine := Nat.le_trans h (by decide)
end
end My
namespace My
open PySem L2
/-! ### joins, comprehensions, loops -/
section
variable {K : PySem.W.Frag} {σ : L2.St} {H : Hp} {Q : VK} {D : Ends} {t u : TS} {te tl : TE}
theorem g_cut (M : L2.St → Hp → Prop) (h : t { D with nx := M } σ H) (k : ∀ σ' H', M σ' H' → u D σ' H') : Evl.tCut t u D σ H := ⟨M, h, k⟩
/-- all objects but lists stand as they stood -/
def Still (H H' : Hp) : Prop := ∀ b o, (∀ xs, o ≠ .lst xs) → H b = some o → H' b = some o
theorem Still.of (e : Same H H') : Still H H' := fun b o _ h => e b o h
theorem Still.refl (H : Hp) : Still H H := fun _ _ _ h => h
theorem Still.trans {H H1 H2 : Hp} (a : Still H H1) (b : Still H1 H2) : Still H H2 := fun c o n h => b c o n (a c o n h)
theorem Still.upd {H : Hp} {p : Addr} {xs ys : List V} (h : H p = some (.lst xs)) : Still H (upd H p (.lst ys)) := fun b o n e => by
  rw [upd_ne (ne_of e h (n xs))]
  exact e
theorem Still.tup {H H' : Hp} {p : Addr} {xs : List V} (e : Still H H') (h : H p = some (.tup xs)) : H' p = some (.tup xs) := e p _ (fun _ z => nomatch z) h
theorem g_lcR1 {ta : TA} {j : Nat} {vs : List Nat} {n : Int} (Rel : Nat → V → Hp → Prop) (ha : ∀ R : List V → Hp → Prop, R [.int n] H → ta σ H R) (hn : -40000 ≤ n ∧ n ≤ 40000)
    (hw : ∀ x, wipe ((wipe σ vs).set j (some x)) vs = wipe σ vs) (hst : ∀ i y H1 H2, Still H1 H2 → Rel i y H1 → Rel i y H2)
    (he : ∀ (i : Nat) (H1 : Hp) (QE : VK), (i : Int) < n → Same H H1 → (∀ y H2, Same H1 H2 → Rel i y H2 → QE y H2) → te ((wipe σ vs).set j (some (.int (i : Int)))) H1 QE)
    (q : ∀ p ys H1, H p = none → Same H H1 → H1 p = some (.lst ys) → ys.length = n.toNat → (∀ i y, ys[i]? = some y → Rel i y H1) → Q (.ref p) H1) :
    tLc (iRng1 ta) (gName j) tYes te vs σ H Q := by
  refine ha _ ⟨n, rfl, by omega, by omega, fun Dl hD => ?_⟩
  refine lc_range (lo := 0) (n := n.toNat) (fun i H' => Same H H' ∧ ∃ ys, H' Dl = some (.lst ys) ∧ ys.length = i ∧ ∀ k y, ys[k]? = some y → Rel k y H')
    ⟨Same.new hD _, [], upd_same, rfl, fun k y h => nomatch h⟩ (fun i H' hi p => ?_) (fun H' p => ?_)
  · obtain ⟨s, ys, e, hl, hr⟩ := p
    show wipe ((wipe σ vs).set j (some (.int ((0 : Int) + (i : Int))))) vs = wipe σ vs ∧ _
    rw [Int.zero_add]
    refine ⟨hw _, ?_⟩
    show te ((wipe σ vs).set j (some (.int (i : Int)))) H' _
    refine he i H' _ (by omega) s fun y H2 s2 r => ⟨ys, s2 _ _ e, Evl.sz_lt (by omega), ?_⟩
    have st : Still H2 (upd H2 Dl (.lst (ys ++ [y]))) := Still.upd (s2 _ _ e)
    refine ⟨fun b o h => ?_, ys ++ [y], upd_same, by rw [List.length_append, hl]; rfl, fun k z hk => ?_⟩
    · rw [upd_ne (ne_of_none h hD)]
      exact s2 _ _ (s _ _ h)
    · by_cases c : k < ys.length
      · rw [List.getElem?_append_left c] at hk
        exact hst k z _ _ st (hst k z _ _ (Still.of s2) (hr k z hk))
      · rw [List.getElem?_append_right (by omega)] at hk
        by_cases c2 : k - ys.length = 0
        · rw [c2] at hk
          have ez : y = z := Option.some.inj hk
          have ek : k = i := by omega
          subst ez ek
          exact hst _ _ _ _ st r
        · rw [List.getElem?_eq_none (by rw [List.length_singleton]; omega)] at hk
          cases hk
  · obtain ⟨s, ys, e, hl, hr⟩ := p
    exact q Dl ys H' hD s e hl hr
/-- over a list (its items told): a value for each item, no test -/
theorem g_lcL {a : Addr} {xs : List V} {j : Nat} {vs : List Nat} (Rel : Nat → V → Hp → Prop) (ha : ∀ R : VK, R (.ref a) H → tl σ H R) (hx : SqL K H a xs) (hn : xs.length ≤ 40000)
    (hw : ∀ x, wipe ((wipe σ vs).set j (some x)) vs = wipe σ vs) (hst : ∀ i y H1 H2, Still H1 H2 → Rel i y H1 → Rel i y H2)
    (he : ∀ (i : Nat) (x : V) (H1 : Hp) (QE : VK), xs[i]? = some x → Same H H1 → (∀ y H2, Same H1 H2 → Rel i y H2 → QE y H2) → te ((wipe σ vs).set j (some x)) H1 QE)
    (q : ∀ p ys H1, H p = none → Same H H1 → H1 p = some (.lst ys) → ys.length = xs.length → (∀ i y, ys[i]? = some y → Rel i y H1) → Q (.ref p) H1) :
    tLc (iList K tl) (gName j) tYes te vs σ H Q := by
  refine ha _ ⟨a, rfl, ⟨xs, hx⟩, fun Dl hD => ?_⟩
  refine lc_list (xs := xs) (fun i H' => Same H H' ∧ ∃ ys, H' Dl = some (.lst ys) ∧ ys.length = i ∧ ∀ k y, ys[k]? = some y → Rel k y H')
    ⟨Same.new hD _, [], upd_same, rfl, fun k y h => nomatch h⟩ (fun i H' _ p => p.1.seq hx) (fun i x H' hi p => ?_) (fun H' p => ?_)
  · obtain ⟨s, ys, e, hl, hr⟩ := p
    have hi2 := (List.getElem?_eq_some_iff.mp hi).1
    refine ⟨hw _, ?_⟩
    show te ((wipe σ vs).set j (some x)) H' _
    refine he i x H' _ hi s fun y H2 s2 r => ⟨ys, s2 _ _ e, Evl.sz_lt (by omega), ?_⟩
    have st : Still H2 (upd H2 Dl (.lst (ys ++ [y]))) := Still.upd (s2 _ _ e)
    refine ⟨fun b o h => ?_, ys ++ [y], upd_same, by rw [List.length_append, hl]; rfl, fun k z hk => ?_⟩
    · rw [upd_ne (ne_of_none h hD)]
      exact s2 _ _ (s _ _ h)
    · by_cases c : k < ys.length
      · rw [List.getElem?_append_left c] at hk
        exact hst k z _ _ st (hst k z _ _ (Still.of s2) (hr k z hk))
      · rw [List.getElem?_append_right (by omega)] at hk
        by_cases c2 : k - ys.length = 0
        · rw [c2] at hk
          have ez : y = z := Option.some.inj hk
          have ek : k = i := by omega
          subst ez ek
          exact hst _ _ _ _ st r
        · rw [List.getElem?_eq_none (by rw [List.length_singleton]; omega)] at hk
          cases hk
  · obtain ⟨s, ys, e, hl, hr⟩ := p
    exact q Dl ys H' hD s e hl hr
theorem g_lcT {a : Addr} {xs : List V} {j : Nat} {vs : List Nat} (Rel : Nat → V → Hp → Prop) (ha : ∀ R : VK, R (.ref a) H → tl σ H R) (hx : SqT K H a xs) (hn : xs.length ≤ 40000)
    (hw : ∀ x, wipe ((wipe σ vs).set j (some x)) vs = wipe σ vs) (hst : ∀ i y H1 H2, Still H1 H2 → Rel i y H1 → Rel i y H2)
    (he : ∀ (i : Nat) (x : V) (H1 : Hp) (QE : VK), xs[i]? = some x → Same H H1 → (∀ y H2, Same H1 H2 → Rel i y H2 → QE y H2) → te ((wipe σ vs).set j (some x)) H1 QE)
    (q : ∀ p ys H1, H p = none → Same H H1 → H1 p = some (.lst ys) → ys.length = xs.length → (∀ i y, ys[i]? = some y → Rel i y H1) → Q (.ref p) H1) :
    tLc (iTup K tl) (gName j) tYes te vs σ H Q := by
  refine ha _ ⟨a, rfl, ⟨xs, hx⟩, fun Dl hD => ?_⟩
  refine lc_tup (xs := xs) (fun i H' => Same H H' ∧ ∃ ys, H' Dl = some (.lst ys) ∧ ys.length = i ∧ ∀ k y, ys[k]? = some y → Rel k y H')
    ⟨Same.new hD _, [], upd_same, rfl, fun k y h => nomatch h⟩ (fun i H' _ p => Same.seqT p.1 hx) (fun i x H' hi p => ?_) (fun H' p => ?_)
  · obtain ⟨s, ys, e, hl, hr⟩ := p
    have hi2 := (List.getElem?_eq_some_iff.mp hi).1
    refine ⟨hw _, ?_⟩
    show te ((wipe σ vs).set j (some x)) H' _
    refine he i x H' _ hi s fun y H2 s2 r => ⟨ys, s2 _ _ e, Evl.sz_lt (by omega), ?_⟩
    have st : Still H2 (upd H2 Dl (.lst (ys ++ [y]))) := Still.upd (s2 _ _ e)
    refine ⟨fun b o h => ?_, ys ++ [y], upd_same, by rw [List.length_append, hl]; rfl, fun k z hk => ?_⟩
    · rw [upd_ne (ne_of_none h hD)]
      exact s2 _ _ (s _ _ h)
    · by_cases c : k < ys.length
      · rw [List.getElem?_append_left c] at hk
        exact hst k z _ _ st (hst k z _ _ (Still.of s2) (hr k z hk))
      · rw [List.getElem?_append_right (by omega)] at hk
        by_cases c2 : k - ys.length = 0
        · rw [c2] at hk
          have ez : y = z := Option.some.inj hk
          have ek : k = i := by omega
          subst ez ek
          exact hst _ _ _ _ st r
        · rw [List.getElem?_eq_none (by rw [List.length_singleton]; omega)] at hk
          cases hk
  · obtain ⟨s, ys, e, hl, hr⟩ := p
    exact q Dl ys H' hD s e hl hr
/-! loops: Pv of the turn, the slots and the heap -/
theorem g_forL {a : Addr} {xs : List V} {g : TG} (Pv : Nat → L2.St → Hp → Prop) (ha : ∀ R : VK, R (.ref a) H → tl σ H R) (hx : SqL K H a xs) (h0 : Pv 0 σ H) (hl : ∀ i σ' H', i ≤ xs.length → Pv i σ' H' → SqL K H' a xs)
    (hs : ∀ i x σ' H', xs[i]? = some x → Pv i σ' H' → g x σ' H' fun σ2 H2 => t { D with nx := Pv (i + 1), ct := Pv (i + 1), bk := D.nx } σ2 H2) (hd : ∀ σ' H', Pv xs.length σ' H' → D.nx σ' H') : tFor (iList K tl) g t D σ H :=
  ha _ ⟨a, rfl, ⟨xs, hx⟩, for_list Pv h0 hl hs hd⟩
theorem g_forT {a : Addr} {xs : List V} {g : TG} (Pv : Nat → L2.St → Hp → Prop) (ha : ∀ R : VK, R (.ref a) H → tl σ H R) (hx : SqT K H a xs) (h0 : Pv 0 σ H) (hl : ∀ i σ' H', i ≤ xs.length → Pv i σ' H' → SqT K H' a xs)
    (hs : ∀ i x σ' H', xs[i]? = some x → Pv i σ' H' → g x σ' H' fun σ2 H2 => t { D with nx := Pv (i + 1), ct := Pv (i + 1), bk := D.nx } σ2 H2) (hd : ∀ σ' H', Pv xs.length σ' H' → D.nx σ' H') : tFor (iTup K tl) g t D σ H :=
  ha _ ⟨a, rfl, ⟨xs, hx⟩, for_tup Pv h0 hl hs hd⟩
theorem g_forR1 {ta : TA} {j : Nat} {n : Int} (Pv : Nat → L2.St → Hp → Prop) (ha : ∀ R : List V → Hp → Prop, R [.int n] H → ta σ H R) (hn : -1000000 ≤ n ∧ n ≤ 1000000) (h0 : Pv 0 σ H)
    (hs : ∀ (i : Nat) σ' H', (i : Int) < n → Pv i σ' H' → t { D with nx := Pv (i + 1), ct := Pv (i + 1), bk := D.nx } (σ'.set j (some (.int (i : Int)))) H') (hd : ∀ σ' H', Pv n.toNat σ' H' → D.nx σ' H') : tFor (iRng1 ta) (gName j) t D σ H :=
  ha _ ⟨n, rfl, by omega, by omega, for_range (lo := 0) (n := n.toNat) Pv h0 (fun i σ' H' hi p => by
    have e0 : (0 : Int) + (i : Int) = (i : Int) := Int.zero_add _
    show t { D with nx := Pv (i + 1), ct := Pv (i + 1), bk := D.nx } (σ'.set j (some (.int ((0 : Int) + (i : Int))))) H'
    rw [e0]
    exact hs i σ' H' (by omega) p) hd⟩
end
/-! ### data of flat tuples: == and != -/
theorem canAll : ∀ {ds : List PyData}, (∀ d ∈ ds, PyData.canLay0 d = true) → PyData.canLayAll0 ds = true
  | [], _ => by simp [PyData.canLayAll0]
  | d :: ds, h => by
    simp only [PyData.canLayAll0, Bool.and_eq_true]
    exact ⟨h d List.mem_cons_self, canAll fun x hx => h x (List.mem_cons_of_mem _ hx)⟩
end My
namespace My
open PySem L2
theorem depthAll_le {n : Nat} : ∀ {ds : List PyData}, (∀ d ∈ ds, PyData.depth d ≤ n) → PyData.depthAll ds ≤ n
  | [], _ => by simp [PyData.depthAll]
  | d :: ds, h => by
    simp only [PyData.depthAll]
    have h1 := h d List.mem_cons_self
    have h2 := depthAll_le (ds := ds) fun x hx => h x (List.mem_cons_of_mem _ hx)
    omega
theorem shaped_list {ds : List PyData} {n : Nat} (h : ∀ d ∈ ds, PyData.canLay0 d = true ∧ PyData.depth d ≤ n) (hn : n < 64) : SeqAt.shaped (.list ds) = true := by
  unfold SeqAt.shaped
  rw [Bool.and_eq_true, decide_eq_true_eq]
  refine ⟨?_, ?_⟩
  · simp only [PyData.canLay0]
    exact canAll fun d hd => (h d hd).1
  · simp only [PyData.depth]
    have := depthAll_le (n := n) fun d hd => (h d hd).2
    omega
theorem dpAll_of {K : PySem.W.Frag} {H : Hp} : ∀ {vs : List V} {ds : List PyData}, vs.length = ds.length → (∀ (i : Nat) v d, vs[i]? = some v → ds[i]? = some d → Dp K H v d) → DpAll K H vs ds
  | [], [], _, _ => .nil
  | [], _ :: _, h, _ => nomatch h
  | _ :: _, [], h, _ => nomatch h
  | v :: vs, d :: ds, h, f => .cons (f 0 v d rfl rfl) (dpAll_of (by simpa using h) fun i x y hx hy => f (i + 1) x y (by simpa using hx) (by simpa using hy))
theorem dpAll_get {K : PySem.W.Frag} {H : Hp} : ∀ {vs : List V} {ds : List PyData}, DpAll K H vs ds → ∀ (i : Nat) (v : V), vs[i]? = some v → ∃ d, ds[i]? = some d ∧ Dp K H v d
  | _, _, .nil, i, v, h => nomatch h
  | _, _, .cons h1 h2, 0, v, h => ⟨_, rfl, by cases Option.some.inj h; exact h1⟩
  | _, _, .cons h1 h2, i + 1, v, h => dpAll_get h2 i v (by simpa using h)
theorem dpAll_len {K : PySem.W.Frag} {H : Hp} : ∀ {vs : List V} {ds : List PyData}, DpAll K H vs ds → vs.length = ds.length
  | _, _, .nil => rfl
  | _, _, .cons _ h => by simp [dpAll_len h]
theorem dpAll_take {K : PySem.W.Frag} {H : Hp} : ∀ {vs : List V} {ds : List PyData} (n : Nat), DpAll K H vs ds → DpAll K H (vs.take n) (ds.take n)
  | _, _, 0, _ => .nil
  | _, _, _ + 1, .nil => .nil
  | _, _, n + 1, .cons h r => .cons h (dpAll_take n r)
theorem dpAll_drop {K : PySem.W.Frag} {H : Hp} : ∀ {vs : List V} {ds : List PyData} (n : Nat), DpAll K H vs ds → DpAll K H (vs.drop n) (ds.drop n)
  | _, _, 0, h => h
  | _, _, _ + 1, .nil => .nil
  | _, _, n + 1, .cons _ r => dpAll_drop n r
theorem eqv_list {ds : List PyData} (h : SeqAt.shaped (.list ds) = true) : PyData.eqv (.list ds) (.list ds) = true := SeqAt.eqv_refl _ (SeqAt.canLay_of_shaped h)
/-- two lists of the same data: == is True, != is False -/
theorem g_eqL {K : PySem.W.Frag} {H : Hp} {Q : VK} {a b : Addr} {xs ys : List V} {ds : List PyData} {n : Nat} (ha : SqL K H a xs) (hb : SqL K H b ys) (h1 : DpAll K H xs ds) (h2 : DpAll K H ys ds) (hd : ∀ d ∈ ds, PyData.canLay0 d = true ∧ PyData.depth d ≤ n) (hn : n < 64)
    (q : Q (.bl true) H) : rEqD K (.ref a) (.ref b) H Q := by
  have sh := shaped_list hd hn
  refine ⟨_, _, .lst ha h1, .lst hb h2, sh, sh, ?_⟩
  rw [eqv_list sh]
  exact q
theorem g_neL {K : PySem.W.Frag} {H : Hp} {Q : VK} {a b : Addr} {xs ys : List V} {ds : List PyData} {n : Nat} (ha : SqL K H a xs) (hb : SqL K H b ys) (h1 : DpAll K H xs ds) (h2 : DpAll K H ys ds) (hd : ∀ d ∈ ds, PyData.canLay0 d = true ∧ PyData.depth d ≤ n) (hn : n < 64)
    (q : Q (.bl false) H) : rNeD K (.ref a) (.ref b) H Q := by
  have sh := shaped_list hd hn
  refine ⟨_, _, .lst ha h1, .lst hb h2, sh, sh, ?_⟩
  rw [eqv_list sh]
  exact q
end My
namespace My
open PySem L2
theorem kit_ll : PySem.W.kitOne K (.type "list") (.type "list") = some true := kit_ty (by decide +kernel)
theorem kit_tt : PySem.W.kitOne K (.type "tuple") (.type "tuple") = some true := kit_ty (by decide +kernel)
theorem g_isiL {K : PySem.W.Frag} {H : Hp} {Q : VK} {a : Addr} {xs : List V} (h : H a = some (.lst xs)) (q : Q (.bl true) H) : rIsi K [.ref a, .ty "list"] H Q := g_isi (.ty "list") (.base (.lst h)) kit_ll q
theorem tyx_t {K : PySem.W.Frag} {H : Hp} {a : Addr} {xs : List V} (h : SqT K H a xs) : TyX K H (.ref a) (.type "tuple") := by
  rcases h with (h | ⟨o, h⟩) | ⟨o, its, n, h, hc, _⟩
  · exact .base (.tup h)
  · exact .fTuple h
  · exact .kTuple h hc
theorem g_isiT {K : PySem.W.Frag} {H : Hp} {Q : VK} {a : Addr} {xs : List V} (h : SqT K H a xs) (q : Q (.bl true) H) : rIsi K [.ref a, .ty "tuple"] H Q := g_isi (.ty "tuple") (tyx_t h) kit_tt q
end My
namespace My
open PySem L2
theorem pair_at {α β : Type} {R : α → β → Prop} : ∀ {as : List α} {bs : List β}, Paired R as bs → ∀ {n : Nat} {a : α}, as[n]? = some a → ∃ b, bs[n]? = some b ∧ R a b
  | _, _, .nil, i, x, h => nomatch h
  | _, _, .cons r t, 0, x, h => ⟨_, rfl, by cases Option.some.inj h; exact r⟩
  | _, _, .cons r t, i + 1, x, h => pair_at t (by simpa using h)
end My
namespace My
open PySem L2
section
variable {K : PySem.W.Frag} {σ : L2.St} {H : Hp} {Q : VK} {D : Ends} {t u : TS} {te tl : TE}
theorem g_forRev {n : Int} {j : Nat} (Pv : Nat → L2.St → Hp → Prop) (ha : ∀ R : VK, R (.int n) H → te σ H R) (hn : 0 ≤ n ∧ n ≤ 1000000) (h0 : Pv 0 σ H)
    (hs : ∀ (i : Nat) σ' H', (i : Int) < n → Pv i σ' H' → t { D with nx := Pv (i + 1), ct := Pv (i + 1), bk := D.nx } (σ'.set j (some (.int (n - 1 - (i : Int))))) H') (hd : ∀ σ' H', Pv n.toNat σ' H' → D.nx σ' H') :
    tFor (iRevR (tRg1 te)) (gName j) t D σ H := by
  refine ha _ ⟨n, rfl, by omega, by omega, by omega, by omega, ?_⟩
  have e1 : (n - 0).toNat = n.toNat := by omega
  have e2 : 0 + ((n.toNat : Nat) : Int) - 1 = n - 1 := by omega
  rw [e1, e2]
  exact for_rangeC (lo := n - 1) (c := -1) (n := n.toNat) Pv h0 (fun i σ' H' hi p => by
    show t { D with nx := Pv (i + 1), ct := Pv (i + 1), bk := D.nx } (σ'.set j (some (.int (n - 1 + ((i : Nat) : Int) * (-1))))) H'
    have e3 : n - 1 + ((i : Nat) : Int) * (-1) = n - 1 - (i : Int) := by omega
    rw [e3]
    exact hs i σ' H' (by omega) p) hd
theorem g_tyL {P : Prop} {l : Addr} {xs : List V} (h : H l = some (.lst xs)) (q : P) : tyV K "list" (.ref l) H ∧ P := ⟨.inl ⟨rfl, _, SqL.of h⟩, q⟩
theorem g_append {l : Addr} {xs : List V} {v : V} (h : H l = some (.lst xs)) (hl : xs.length ≤ 100000) (q : Q .non (upd H l (.lst (xs ++ [v])))) : rAppend (.ref l) [v] H Q := ⟨l, xs, v, rfl, rfl, h, Nat.lt_of_le_of_lt hl (by decide), q⟩
/-- a comprehension over a list with a test: pure test, pure value -/
theorem g_lcF {tt : TT} {a : Addr} {xs : List V} {j : Nat} {vs : List Nat} (p : V → Bool) (f : V → V) (ha : ∀ R : VK, R (.ref a) H → tl σ H R) (hx : SqL K H a xs) (hn : xs.length ≤ 40000)
    (hw : ∀ x, wipe ((wipe σ vs).set j (some x)) vs = wipe σ vs)
    (ht : ∀ (i : Nat) (x : V) (H1 : Hp) (QB : Bool → Hp → Prop), xs[i]? = some x → Same H H1 → QB (p x) H1 → tt ((wipe σ vs).set j (some x)) H1 QB)
    (he : ∀ (i : Nat) (x : V) (H1 : Hp) (QE : VK), xs[i]? = some x → p x = true → Same H H1 → QE (f x) H1 → te ((wipe σ vs).set j (some x)) H1 QE)
    (q : ∀ pp H1, H pp = none → Same H H1 → H1 pp = some (.lst ((xs.filter p).map f)) → Q (.ref pp) H1) :
    tLc (iList K tl) (gName j) tt te vs σ H Q := by
  refine ha _ ⟨a, rfl, ⟨xs, hx⟩, fun Dl hD => ?_⟩
  refine lc_list (xs := xs) (fun i H' => Same H H' ∧ H' Dl = some (.lst (((xs.take i).filter p).map f)))
    ⟨Same.new hD _, upd_same⟩ (fun i H' _ p => p.1.seq hx) (fun i x H' hi pr => ?_) (fun H' pr => ?_)
  · obtain ⟨s, e⟩ := pr
    have hi2 := (List.getElem?_eq_some_iff.mp hi).1
    have et : xs.take (i + 1) = xs.take i ++ [x] := by rw [List.take_add_one, hi]; rfl
    have hz : (((xs.take i).filter p).map f).length < sizeLine := by
      rw [List.length_map]
      have h1 := List.length_filter_le p (xs.take i)
      rw [List.length_take] at h1
      exact Evl.sz_lt (by omega)
    refine ⟨hw _, ht i x H' _ hi s ?_⟩
    cases hp : p x with
    | true =>
      show te ((wipe σ vs).set j (some x)) H' _
      refine he i x H' _ hi hp s ⟨_, e, hz, fun b o h => ?_, ?_⟩
      · rw [upd_ne (ne_of_none h hD)]
        exact s _ _ h
      · rw [upd_same, et, List.filter_append, List.map_append, List.filter_cons, if_pos hp]
        rfl
    | false =>
      show Same H H' ∧ H' Dl = some (.lst (((xs.take (i + 1)).filter p).map f))
      refine ⟨s, ?_⟩
      rw [et, List.filter_append, List.map_append, List.filter_cons, if_neg (by rw [hp]; decide), e]
      simp
  · obtain ⟨s, e⟩ := pr
    rw [List.take_length] at e
    exact q Dl H' hD s e
end
theorem mulBits {a b : Int} (ha : Builtin.Int.intBits a ≤ 10000000) (hb : Builtin.Int.intBits b ≤ 10000000) : IntMulOk a b := by
  unfold IntMulOk Builtin.Int.intTooBig
  intro z
  rw [Bool.and_eq_true, decide_eq_true_eq] at z
  have z2 := z.2
  have e : bitsLine = 134217728 := by decide
  rw [e] at z2
  omega
/-! ### what all laws have: the script's cells, whole numbers, the answer -/
def cell (ns : List Int) (k : Int) : Int := ns.getD k.toNat 0
def sp_cell (K : PySem.W.Frag) : Sp := fun vs H Q _ => ∃ (a : Addr) (ns : List Int) (k : Int), vs = [.ref a, .int k] ∧ SqL K H a (ns.map V.int) ∧ 0 ≤ k ∧ Q (.int (cell ns k)) H
theorem use_cell {K : PySem.W.Frag} {H : Hp} {Q : VK} {E : XK} {a : Addr} {ns : List Int} {k : Int} (h : SqL K H a (ns.map V.int)) (h0 : 0 ≤ k) (q : Q (.int (cell ns k)) H) : sp_cell K [.ref a, .int k] H Q E := ⟨a, ns, k, rfl, h, h0, q⟩
def spLaw (K : PySem.W.Frag) : Sp := fun vs H Q _ => ∃ (a : Addr) (ns : List Int), vs = [.ref a] ∧ SqL K H a (ns.map V.int) ∧ ns.length ≤ 63 ∧ (∀ z ∈ ns, Builtin.Int.intBits z ≤ 1048576) ∧ ∀ H', Q (.bl true) H'
theorem atI_cell {ns : List Int} {k : Int} (h0 : 0 ≤ k) (h : k < (ns.length : Int)) : atI (ns.map V.int) k = some (.int (cell ns k)) := by
  have hk : k.toNat < ns.length := by omega
  have ek : k = ((k.toNat : Nat) : Int) := by omega
  rw [ek]
  refine atI_nat ?_
  rw [List.getElem?_map, List.getElem?_eq_getElem hk]
  show some (V.int ns[k.toNat]) = some (V.int (cell ns _))
  unfold cell
  rw [Int.toNat_natCast, List.getD_eq_getElem?_getD, List.getElem?_eq_getElem hk]
  rfl
theorem cell_out {ns : List Int} {k : Int} (h : ¬ k < (ns.length : Int)) : cell ns k = 0 := by
  unfold cell
  rw [List.getD_eq_getElem?_getD, List.getElem?_eq_none (by omega)]
  rfl
theorem cell_bits {ns : List Int} (h : ∀ z ∈ ns, Builtin.Int.intBits z ≤ 1048576) (k : Int) : Builtin.Int.intBits (cell ns k) ≤ 1048576 := by
  unfold cell
  rw [List.getD_eq_getElem?_getD]
  cases e : ns[k.toNat]? with
  | none => exact Nat.zero_le _
  | some z => exact h z (List.mem_of_getElem? e)
end My
namespace My
open PySem L2
section
variable {X : Cx} {K : PySem.W.Frag}
theorem ixTK (h : X.K = K) : IxR X (rIxT K) := h ▸ ix_tup
theorem ixLK (h : X.K = K) : IxR X (rIxL K) := h ▸ ix_list
theorem ixOK (h : X.K = K) : IxR X (rIx K) := h ▸ ix_seq
theorem lenK (h : X.K = K) : CallR X (.builtin "len") (rLen K) := h ▸ my_len
theorem listK (h : X.K = K) : CallR X (.type "list") (rList K) := h ▸ my_list
theorem tupleK (h : X.K = K) : CallR X (.type "tuple") (rTuple K) := h ▸ my_tuple
theorem typK (h : X.K = K) : CallR X (.type "type") (rTyp K) := h ▸ call_type1
theorem isiK (h : X.K = K) : CallR X (.builtin "isinstance") (rIsi K) := h ▸ call_isi
theorem inK (h : X.K = K) : OpR X (compareOp .In) (rIn K false) := h ▸ op_in_seq
theorem ninK (h : X.K = K) : OpR X (compareOp .NotIn) (rIn K true) := h ▸ op_notIn_seq
theorem slLK (h : X.K = K) : SlR X (rSlL K) := h ▸ sl_list
theorem slTK (h : X.K = K) : SlR X (rSlT K) := h ▸ sl_tup
end
end My

set_option Elab.async false
set_option linter.all false
set_option maxRecDepth 100000
set_option maxHeartbeats 1000000
/-! texts, and what keys and values are -/
namespace My
open PySem L2
section
variable {X : Cx} {K : PySem.W.Frag} {σ : L2.St} {H : Hp} {Q : VK} {D : Ends} {t u : TS} {te tl : TE}
/-- a comprehension over a text: a pure value for each sign -/
theorem g_lcS {z : Str} {j : Nat} {vs : List Nat} (f : Nat → V) (ha : ∀ R : VK, R (.str z) H → tl σ H R) (hn : z.cps.size ≤ 40000)
    (hw : ∀ x, wipe ((wipe σ vs).set j (some x)) vs = wipe σ vs)
    (he : ∀ (c : Nat) (H1 : Hp) (QE : VK), c ∈ z.cps.toList → Same H H1 → QE (f c) H1 → te ((wipe σ vs).set j (some (.str ⟨#[c]⟩))) H1 QE)
    (q : ∀ p H1, H p = none → Same H H1 → H1 p = some (.lst (z.cps.toList.map f)) → Q (.ref p) H1) :
    tLc (iStr tl) (gName j) tYes te vs σ H Q := by
  refine ha _ ⟨z, rfl, fun Dl hD => ?_⟩
  refine lc_it walk_str (fun i H' => Same H H' ∧ H' Dl = some (.lst ((z.cps.toList.take i).map f)))
    ⟨Same.new hD _, upd_same⟩ (fun _ _ _ _ => trivial) (fun i x H1 H' hi pr y => ?_) (fun H' pr => ?_)
  · obtain ⟨s, e⟩ := pr
    obtain ⟨rfl, c, hc, rfl⟩ := y
    have hc2 : z.cps.toList[i]? = some c := by rw [Array.getElem?_toList]; exact hc
    refine ⟨hw _, ?_⟩
    show te ((wipe σ vs).set j (some (.str ⟨#[c]⟩))) H' _
    refine he c H' _ (List.mem_of_getElem? hc2) s ⟨_, e, by rw [List.length_map, List.length_take]; exact Evl.sz_lt (by omega), fun b o h => ?_, ?_⟩
    · rw [upd_ne (ne_of_none h hD)]
      exact s _ _ h
    · rw [upd_same, List.take_add_one, hc2, List.map_append]
      rfl
  · obtain ⟨s, e⟩ := pr
    rw [show z.cps.size = z.cps.toList.length from Array.length_toList.symm, List.take_length] at e
    exact q Dl H' hD s e
theorem pe_gI {x : Str} {i : Int} {t : Tok} {pos : Pos} (hg : Gl X x) (hm : X.mg x = some (.int i t)) (hd : (x == ("__debug__" : Str)) = false := by decide) : PE X (.Name x pos) (tC (.int i)) := pe_glob hg hm ⟨t, rfl⟩ hd
theorem g_dnewK (q : ∀ p H1, H p = none → Same H H1 → H1 p = some (.dK []) → Q (.ref p) H1) : tDNewK σ H Q := fun p hp => q p _ hp (Same.new hp _) upd_same
def rLeS : R2 := fun x y H Q => ∃ i j, x = .str i ∧ y = .str j ∧ Q (.bl (!decide (j.cps.toList < i.cps.toList))) H
theorem my_leS : OpR X (compareOp .LtE) rLeS := op_le_str
theorem g_leS {i j : Str} (q : Q (.bl (!decide (j.cps.toList < i.cps.toList))) H) : rLeS (.str i) (.str j) H Q := ⟨i, j, rfl, rfl, q⟩
theorem g_slS {z : Str} {lo hi : Option Int} (h : z.length ≤ sizeLine) (q : Q (.str (cutS z lo hi)) H) : rSlS (.str z) lo hi H Q := ⟨z, rfl, h, q⟩
theorem g_ixS {z : Str} {i : Int} {c : Nat} (h : z.length ≤ sizeLine) (ha : atI z.cps.toList i = some c) (q : Q (.str ⟨#[c]⟩) H) : rIxS (.str z) (.int i) H Q := ⟨z, i, c, rfl, rfl, h, ha, q⟩
def rJoin (K : PySem.W.Frag) : V → List V → Hp → VK → Prop := fun x xs H Q => ∃ a p, ∃ ys : List Str, x = .str a ∧ xs = [.ref p] ∧ (SqL K H p (ys.map V.str) ∨ SqT K H p (ys.map V.str)) ∧
      (ys.map (·.length)).sum + ys.length * a.length ≤ 16777216 ∧ Q (.str (Txt.join a ys)) H
theorem my_join {o e : Expr} {to te : TE} {apos pos : Pos} (ho : PE X o to) (he : PE X e te) (hs : starEach [e] X.env = [(false, eval e X.env)] := by rfl) (hbase : attributeBase o "join" X.env (eval o X.env) = eval o X.env := by rfl) (hline : (apos.endLine == pos.line) = true := by rfl) :
    PE X (.Call (.Attribute o "join" apos) [e] [] pos) (tM1 (rJoin X.K) to te) := pe_join ho he hs hbase hline
theorem g_m1 {r : V → List V → Hp → VK → Prop} {to te : TE} {z : Str} (q : ∀ R : VK, R (.str z) H → to σ H R) (k : te σ H fun y H2 => r (.str z) [y] H2 Q) : tM1 r to te σ H Q := q _ ⟨⟨z, rfl⟩, k⟩
theorem g_join {a : Str} {p : Addr} {ys : List Str} (h : SqL K H p (ys.map V.str)) (hz : (ys.map (·.length)).sum + ys.length * a.length ≤ 16777216) (q : Q (.str (Txt.join a ys)) H) : rJoin K (.str a) [.ref p] H Q := ⟨a, p, ys, rfl, rfl, .inl h, hz, q⟩
end
/-! signs -/
theorem str_ext {a b : Str} (h : a.cps.toList = b.cps.toList) : a = b := by
  obtain ⟨⟨x⟩⟩ := a
  obtain ⟨⟨y⟩⟩ := b
  have : x = y := h
  rw [this]
theorem str_len (z : Str) : z.length = z.cps.toList.length := Array.length_toList.symm
theorem app_toList (a b : Str) : (a ++ b).cps.toList = a.cps.toList ++ b.cps.toList := Array.toList_append
theorem app_len (a b : Str) : (a ++ b).length = a.length + b.length := by rw [str_len, str_len, str_len, app_toList, List.length_append]
theorem join_signs : ∀ cs : List Nat, (Txt.join (Str.ofString "") (cs.map fun c => (⟨#[c]⟩ : Str))).cps.toList = cs := fun cs => by
  have e0 : (Str.ofString "") = (⟨#[]⟩ : Str) := by decide +kernel
  rw [e0, show Txt.join = Str.join from by funext y parts; exact TL.join_eq y parts]
  induction cs with
  | nil => rfl
  | cons c r ih =>
    cases r with
    | nil => rfl
    | cons d r =>
      show ((⟨#[c]⟩ : Str) ++ ⟨#[]⟩ ++ Str.join ⟨#[]⟩ ((d :: r).map fun c => (⟨#[c]⟩ : Str))).cps.toList = _
      rw [app_toList, app_toList, ih]
      rfl
theorem sum_ones (cs : List Nat) : ((cs.map fun c => (⟨#[c]⟩ : Str)).map (·.length)).sum = cs.length := by
  induction cs with
  | nil => rfl
  | cons c r ih =>
    rw [List.map_cons, List.map_cons, List.sum_cons, ih, List.length_cons]
    exact Nat.add_comm 1 r.length
theorem cutS_to (z : Str) (n : Nat) : (cutS z none (some (n : Int))).cps.toList = z.cps.toList.take n := by
  unfold cutS
  show (z.cps.toList.drop _).take _ = _
  rw [HT.sIx_none, HT.sIx_nat, List.drop_zero, Nat.sub_zero, str_len]
  by_cases h : n ≤ z.cps.toList.length
  · rw [Nat.min_eq_left h]
  · rw [Nat.min_eq_right (by omega), List.take_length, List.take_of_length_le (by omega)]
theorem cutS_from (z : Str) (n : Nat) : (cutS z (some (n : Int)) none).cps.toList = z.cps.toList.drop n := by
  unfold cutS
  show (z.cps.toList.drop _).take _ = _
  rw [HT.sIx_none, HT.sIx_nat, str_len]
  by_cases h : n ≤ z.cps.toList.length
  · rw [Nat.min_eq_left h, List.take_of_length_le (by rw [List.length_drop]; omega)]
  · rw [Nat.min_eq_right (by omega), Nat.sub_self, List.take_zero, List.drop_eq_nil_of_le (by omega)]
/-! ### keys and values -/
def KB : Int := 1000000000000000000000000000000000000000000000000000000000000
theorem KB_eq : KB = 10 ^ Int.toNat 60 := by decide +kernel
def isInt : V → Bool
  | .int _ => true
  | _ => false
def isStr : V → Bool
  | .str _ => true
  | _ => false
def isKeyV : V → Bool
  | .int i => decide (-KB < i) && decide (i < KB)
  | _ => false
def signOk (c : Nat) : Bool := decide (32 ≤ c) && decide (c ≤ 126)
def isValV : V → Bool
  | .str z => decide (z.length ≤ 60) && z.cps.toList.all signOk
  | _ => false
/-- a thing whose kind is known -/
def Thing (K : PySem.W.Frag) (H : Hp) (x : V) : Prop := ∃ T, TyB K H x T ∧ (∀ z, x = .str z → z.length ≤ sizeLine)
theorem Thing.int {K : PySem.W.Frag} {H : Hp} (i : Int) : Thing K H (.int i) := ⟨_, .int i, fun _ h => nomatch h⟩
theorem Thing.str {K : PySem.W.Frag} {H : Hp} (z : Str) (h : z.length ≤ sizeLine) : Thing K H (.str z) := ⟨_, .str z, fun y e => by cases e; exact h⟩
theorem tyb_int {K : PySem.W.Frag} {H : Hp} {x : V} {T : String} (t : TyB K H x T) : decide (T = "int") = isInt x := by cases t <;> rfl
theorem tyb_str {K : PySem.W.Frag} {H : Hp} {x : V} {T : String} (t : TyB K H x T) : decide (T = "str") = isStr x := by cases t <;> rfl
theorem isKeyV_no {x : V} (h : isInt x = false) : isKeyV x = false := by
  cases x <;> first | rfl | cases h
theorem isValV_no {x : V} (h : isStr x = false) : isValV x = false := by
  cases x <;> first | rfl | cases h
theorem sign_lo (c : Nat) : (!decide ((⟨#[c]⟩ : Str).cps.toList < (Str.ofString " ").cps.toList)) = decide (32 ≤ c) := by
  have e : (Str.ofString " ").cps.toList = [32] := by decide +kernel
  rw [e]
  show (!decide (([c] : List Nat) < [32])) = decide (32 ≤ c)
  by_cases h : 32 ≤ c
  · rw [decide_eq_true h, Bool.not_eq_true', decide_eq_false_iff_not, List.cons_lt_cons_iff]
    simp
    omega
  · rw [decide_eq_false h, Bool.not_eq_false', decide_eq_true_iff, List.cons_lt_cons_iff]
    exact .inl (by omega)
theorem sign_hi (c : Nat) : (!decide ((Str.ofString "~").cps.toList < (⟨#[c]⟩ : Str).cps.toList)) = decide (c ≤ 126) := by
  have e : (Str.ofString "~").cps.toList = [126] := by decide +kernel
  rw [e]
  show (!decide (([126] : List Nat) < [c])) = decide (c ≤ 126)
  by_cases h : c ≤ 126
  · rw [decide_eq_true h, Bool.not_eq_true', decide_eq_false_iff_not, List.cons_lt_cons_iff]
    simp
    omega
  · rw [decide_eq_false h, Bool.not_eq_false', decide_eq_true_iff, List.cons_lt_cons_iff]
    exact .inl (by omega)
def Thing0 (K : PySem.W.Frag) (H : Hp) (x : V) : Prop := ∃ T, TyB K H x T
theorem Thing.zero {K : PySem.W.Frag} {H : Hp} {x : V} (h : Thing K H x) : Thing0 K H x := ⟨_, h.choose_spec.1⟩
def sp_is_whole (K : PySem.W.Frag) : Sp := fun vs H Q _ => ∃ x : V, vs = [x] ∧ Thing0 K H x ∧ Q (.bl (isInt x)) H
def sp_is_key (K : PySem.W.Frag) : Sp := fun vs H Q _ => ∃ x : V, vs = [x] ∧ Thing0 K H x ∧ Q (.bl (isKeyV x)) H
def sp_is_value (K : PySem.W.Frag) : Sp := fun vs H Q _ => ∃ x : V, vs = [x] ∧ Thing K H x ∧ ∀ H', Same H H' → Q (.bl (isValV x)) H'
def sp_l_says : Sp := fun vs H Q _ => ∃ f d : Bool, vs = [.bl f, .bl d] ∧ Q (.bl (decide (f = d))) H
end My
namespace My
open PySem L2
theorem list_eq {α : Type} {xs ys : List α} (hl : xs.length = ys.length) (h : ∀ (i : Nat) x, xs[i]? = some x → ys[i]? = some x) : xs = ys := by
  refine List.ext_getElem? fun i => ?_
  cases e : xs[i]? with
  | some x => exact (h i x e).symm
  | none =>
    have := List.getElem?_eq_none_iff.mp e
    exact (List.getElem?_eq_none (by omega)).symm
theorem strL {cs : List Nat} : (cs.map fun c => V.str ⟨#[c]⟩) = (cs.map fun c => (⟨#[c]⟩ : Str)).map V.str := by rw [List.map_map]; rfl
end My
namespace My
open PySem L2
section
variable {σ : L2.St} {H : Hp} {Q : VK} {tb : TE}
theorem g_andVJ {k b : Bool} (h : k = true → ∀ R : VK, R (.bl b) H → tb σ H R) (q : Q (.bl (k && b)) H) : andV tb σ Q (.bl k) H := ⟨k, rfl, by
  cases k
  · exact q
  · exact h rfl _ q⟩
theorem g_orVJ {k b : Bool} (h : k = false → ∀ R : VK, R (.bl b) H → tb σ H R) (q : Q (.bl (k || b)) H) : orV tb σ Q (.bl k) H := ⟨k, rfl, by
  cases k
  · exact h rfl _ q
  · exact q⟩
end
theorem notval_of_mem {z : Str} {c : Nat} (h : c ∈ z.cps.toList) (hc : signOk c = false) : isValV (.str z) = false := by
  have e : isValV (.str z) = (decide (z.length ≤ 60) && z.cps.toList.all signOk) := rfl
  rw [e, Bool.and_eq_false_iff]
  refine .inr ?_
  rw [List.all_eq_false]
  exact ⟨c, h, by rw [hc]; decide⟩
end My
namespace My
open PySem L2
theorem tyof_same {K : PySem.W.Frag} {H H' : Hp} (e : Same H H') {x : V} {t : Value} (h : TyOf K H x t) : TyOf K H' x t := by
  cases h with
  | non => exact .non
  | bl b => exact .bl b
  | int i => exact .int i
  | str x => exact .str x
  | flt x => exact .flt x
  | lst ea => exact .lst (e _ _ ea)
  | frz ea => exact .frz (e _ _ ea)
  | tup ea => exact .tup (e _ _ ea)
  | dK ea => exact .dK (e _ _ ea)
  | dT ea => exact .dT (e _ _ ea)
  | ins ea cl ha hn htk hm => exact .ins (e _ _ ea) cl ha hn htk hm
end My

set_option Elab.async false
set_option linter.all false
set_option maxRecDepth 100000
set_option maxHeartbeats 4000000
namespace My
open PySem L2
def top (i : Nat) : Stmt := PySem.Challenge.pw_btreelog_k03_keys_and_values.main.body.getD i (.Pass ⟨0, 0, 0, 0⟩)
abbrev s_is_whole : Stmt := top 3
abbrev N_is_whole : List Str := ["thing"]
theorem sc_is_whole : FnScope N_is_whole ["thing"] (defScope s_is_whole) := ⟨rfl, rfl, rfl, by decide +kernel, rfl, by decide +kernel, by decide +kernel⟩
abbrev s_is_key : Stmt := top 4
abbrev N_is_key : List Str := ["thing"]
theorem sc_is_key : FnScope N_is_key ["thing"] (defScope s_is_key) := ⟨rfl, rfl, rfl, by decide +kernel, rfl, by decide +kernel, by decide +kernel⟩
abbrev s_is_value : Stmt := top 5
abbrev N_is_value : List Str := ["thing", "sign"]
theorem sc_is_value : FnScope N_is_value ["thing"] (defScope s_is_value) := ⟨rfl, rfl, rfl, by decide +kernel, rfl, by decide +kernel, by decide +kernel⟩
abbrev s_l_cell_at : Stmt := top 7
abbrev N_l_cell_at : List Str := ["_law_script", "_law_k"]
theorem sc_l_cell_at : FnScope N_l_cell_at ["_law_script", "_law_k"] (defScope s_l_cell_at) := ⟨rfl, rfl, rfl, by decide +kernel, rfl, by decide +kernel, by decide +kernel⟩
abbrev s_l_says : Stmt := top 8
abbrev N_l_says : List Str := ["_law_found", "_law_due"]
theorem sc_l_says : FnScope N_l_says ["_law_found", "_law_due"] (defScope s_l_says) := ⟨rfl, rfl, rfl, by decide +kernel, rfl, by decide +kernel, by decide +kernel⟩
abbrev s_l_other : Stmt := top 9
abbrev N_l_other : List Str := ["_law_cell"]
theorem sc_l_other : FnScope N_l_other ["_law_cell"] (defScope s_l_other) := ⟨rfl, rfl, rfl, by decide +kernel, rfl, by decide +kernel, by decide +kernel⟩
abbrev s_l_signs : Stmt := top 10
abbrev N_l_signs : List Str := ["_law_cell", "_law_size", "_law_some", "_law_k"]
theorem sc_l_signs : FnScope N_l_signs ["_law_cell", "_law_size"] (defScope s_l_signs) := ⟨rfl, rfl, rfl, by decide +kernel, rfl, by decide +kernel, by decide +kernel⟩
abbrev s_law : Stmt := top 11
abbrev N_law : List Str := ["_law_script", "_law_number", "_law_size", "_law_line", "_law_good", "_law_at", "_law_other_here"]
theorem sc_law : FnScope N_law ["_law_script"] (defScope s_law) := ⟨rfl, rfl, rfl, by decide +kernel, rfl, by decide +kernel, by decide +kernel⟩
abbrev sp_l_cell_at := sp_cell
def Other (K : PySem.W.Frag) (H : Hp) (x : V) : Prop := Thing K H x ∧ isInt x = false ∧ isValV x = isStr x ∧ ∃ t, (∀ H', Same H H' → TyX K H' x t) ∧ PySem.W.kitOne K t (.type "str") = some (isStr x)
def sp_l_other (K : PySem.W.Frag) : Sp := fun vs H Q _ => ∃ c : Int, vs = [.int c] ∧ ∀ x H', Same H H' → Other K H' x → Q x H'
def someL : List Nat := ((Str.ofString " !\"#$&'()*+,-./0123456789:;<=>?@ABCDEFGHIJKLMNOPQRSTUVWXYZ[\\]^_`") ++ (Str.ofString "abcdefghijklmnopqrstuvwxyz{|}~")).cps.toList
theorem someL_len : someL.length = 94 := by decide +kernel
theorem someL_ok : someL.all signOk = true := by decide +kernel
def signsL (c : Int) (n : Nat) : List Nat := (List.range n).map fun k : Nat => someL.getD ((c + 7 * (k : Int)) % 94).toNat 0
theorem signsL_len (c : Int) (n : Nat) : (signsL c n).length = n := by unfold signsL; rw [List.length_map, List.length_range]
theorem signsL_ok (c : Int) (n : Nat) : (signsL c n).all signOk = true := by
  rw [List.all_eq_true]
  intro x hx
  obtain ⟨k, _, rfl⟩ := List.mem_map.mp hx
  have h1 := Int.emod_nonneg (c + 7 * (k : Int)) (show (94 : Int) ≠ 0 by decide)
  have h2 := Int.emod_lt_of_pos (c + 7 * (k : Int)) (show (0 : Int) < 94 by decide)
  have h3 : ((c + 7 * (k : Int)) % 94).toNat < someL.length := by rw [someL_len]; omega
  rw [List.getD_eq_getElem?_getD, List.getElem?_eq_getElem h3]
  exact List.all_eq_true.mp someL_ok _ (List.getElem_mem h3)
def sp_l_signs : Sp := fun vs H Q _ => ∃ c n : Int, vs = [.int c, .int n] ∧ 0 ≤ n ∧ n ≤ 1000 ∧ ∀ z H', Same H H' → z.cps.toList = signsL c n.toNat → Q (.str z) H'
structure Tx (K : PySem.W.Frag) (mg : Str → Option Value) where
  a_is_whole : Addr
  d_is_whole : FuncData
  F_is_whole : Fun K "is_whole" "is_whole" s_is_whole a_is_whole d_is_whole
  b_is_whole : Binds K d_is_whole ["thing"] []
  g_is_whole : mg "is_whole" = some (.ref a_is_whole)
  a_is_key : Addr
  d_is_key : FuncData
  F_is_key : Fun K "is_key" "is_key" s_is_key a_is_key d_is_key
  b_is_key : Binds K d_is_key ["thing"] []
  g_is_key : mg "is_key" = some (.ref a_is_key)
  a_is_value : Addr
  d_is_value : FuncData
  F_is_value : Fun K "is_value" "is_value" s_is_value a_is_value d_is_value
  b_is_value : Binds K d_is_value ["thing"] []
  g_is_value : mg "is_value" = some (.ref a_is_value)
  a_l_cell_at : Addr
  d_l_cell_at : FuncData
  F_l_cell_at : Fun K "_law_cell_at" "_law_cell_at" s_l_cell_at a_l_cell_at d_l_cell_at
  b_l_cell_at : Binds K d_l_cell_at ["_law_script", "_law_k"] []
  g_l_cell_at : mg "_law_cell_at" = some (.ref a_l_cell_at)
  a_l_says : Addr
  d_l_says : FuncData
  F_l_says : Fun K "_law_says" "_law_says" s_l_says a_l_says d_l_says
  b_l_says : Binds K d_l_says ["_law_found", "_law_due"] []
  g_l_says : mg "_law_says" = some (.ref a_l_says)
  a_l_other : Addr
  d_l_other : FuncData
  F_l_other : Fun K "_law_other" "_law_other" s_l_other a_l_other d_l_other
  b_l_other : Binds K d_l_other ["_law_cell"] []
  g_l_other : mg "_law_other" = some (.ref a_l_other)
  a_l_signs : Addr
  d_l_signs : FuncData
  F_l_signs : Fun K "_law_signs" "_law_signs" s_l_signs a_l_signs d_l_signs
  b_l_signs : Binds K d_l_signs ["_law_cell", "_law_size"] []
  g_l_signs : mg "_law_signs" = some (.ref a_l_signs)
  t_KEY_BOUND : Tok
  c_KEY_BOUND : mg "KEY_BOUND" = some (.int (KB) t_KEY_BOUND)
  t_MOST_SIGNS : Tok
  c_MOST_SIGNS : mg "MOST_SIGNS" = some (.int (60) t_MOST_SIGNS)
  z_all : mg "all" = none
  z_int : mg "int" = none
  z_isinstance : mg "isinstance" = none
  z_len : mg "len" = none
  z_range : mg "range" = none
  z_str : mg "str" = none
  z_type : mg "type" = none
local macro_rules | `(tactic| wtm_at "at") => `(tactic| first | assumption | (refine Same.at (by assumption) ?_; wtm_at "at"))
local macro_rules | `(tactic| wtm_at "sq") => `(tactic| first | assumption | exact SqL.of (by wtm_at "at") | (refine L2.Same.seq (by assumption) ?_; wtm_at "sq"))
local macro_rules | `(tactic| wtm_at "st") => `(tactic| first | assumption | exact SqT.of (by wtm_at "at") | (refine Same.seqT (by assumption) ?_; wtm_at "st"))
local macro_rules | `(tactic| wtm_at "so") => `(tactic| first | assumption | exact seq_l (by wtm_at "sq") | exact seq_t (by wtm_at "st") | (refine Same.seqO (by assumption) ?_; wtm_at "so"))
local macro_rules | `(tactic| wtm_at "sd") => `(tactic| first
  | exact CMul.ok (Or.inl ⟨by omega, by omega⟩) | exact CMul.ok (Or.inr ⟨by omega, by omega⟩)
  | omega | (dsimp only <;> omega) | (show (0 : Int) < _; omega) | exact ⟨by omega, by omega⟩ | exact Or.inl ⟨by omega, by omega⟩ | exact Or.inr ⟨by omega, by omega⟩ | exact ⟨by decide, by decide, by decide⟩)
local macro_rules | `(tactic| wtm_at "call") => `(tactic| fail "no call")
local macro_rules | `(tactic| wtm_at "one") => `(tactic| first
  | with_reducible refine g_seq ?_
  | with_reducible refine g_asg ?_
  | with_reducible refine g_name ?_
  | with_reducible refine g_op ?_
  | with_reducible refine g_var rfl ?_
  | with_reducible refine g_c ?_
  | with_reducible refine g_rI0 ?_
  | ((with_reducible refine' g_rI ?cc ?_); (case cc => wtm_at "sd"))
  | with_reducible refine g_un ?_
  | with_reducible refine g_rU ?_
  | with_reducible refine g_call ?_
  | with_reducible refine g_cons ?_
  | with_reducible refine g_nil ?_
  | with_reducible refine g_cb ?_
  | with_reducible refine g_test ?_
  | with_reducible refine g_tB ?_
  | with_reducible refine g_isB ?_
  | with_reducible refine g_if ?_
  | with_reducible refine g_ret ?_
  | with_reducible refine g_retN ?_
  | with_reducible refine g_drop ?_
  | with_reducible refine g_next ?_
  | ((with_reducible refine' g_rEq ?cc ?_); (case cc => exact rfl))
  | ((with_reducible refine' g_rNe ?cc ?_); (case cc => exact rfl))
  | with_reducible refine g_chain ?_
  | with_reducible refine g_and ?_
  | with_reducible refine g_or ?_
  | with_reducible refine g_not ?_
  | with_reducible refine g_notK ?_
  | with_reducible refine g_andT ?_
  | with_reducible refine g_orT ?_
  | with_reducible refine g_notT ?_
  | with_reducible refine g_notV ?_
  | with_reducible refine g_ifE ?_
  | with_reducible refine g_tup ?_
  | with_reducible refine g_lst ?_
  | with_reducible refine g_sl ?_
  | with_reducible refine g_noPart ?_
  | with_reducible refine g_part ?_
  | with_reducible refine g_partK ?_
  | with_reducible refine g_brT ?_
  | with_reducible refine g_brF ?_
  | with_reducible refine g_gcons ?_
  | with_reducible refine g_gnil ?_
  | ((with_reducible refine' g_len ?cc ?_); (case cc => wtm_at "so"))
  | with_reducible refine g_intB ?_
  | with_reducible refine g_intI ?_
  | with_reducible refine g_isN ?_
  | with_reducible refine g_notN ?_
  | with_reducible refine g_isTy ?_
  | with_reducible refine g_notTy ?_
  | with_reducible refine g_isBl ?_
  | with_reducible refine g_notBl ?_
  | with_reducible refine g_max2 ?_
  | ((with_reducible refine' g_gtup ?cc ?cd ?_); (case cc => wtm_at "st"); (case cd => exact rfl))
  | with_reducible refine My.g_leS ?_
  | ((with_reducible refine' g_typ ?cc ?_); (case cc => assumption))
  | wtm_at "call")
local macro_rules | `(tactic| wtm_at "red") => `(tactic| try dsimp only [cxOf, List.cons_append, List.nil_append, List.set_cons_zero, List.set_cons_succ])
local macro_rules | `(tactic| wtm_at "go") => `(tactic| (wtm_at "red"; repeat (wtm_at "one"; wtm_at "red")))
local macro_rules | `(tactic| wtm_at "ln") => `(tactic| (refine sz ?_; simp only [List.length_cons, List.length_nil, List.length_map, List.length_append]; omega))
local macro_rules | `(tactic| wtm_at "go0") => `(tactic| ((with_reducible refine g_name ?_); wtm_at "red"))

local macro_rules | `(tactic| wtm_at "call") => `(tactic| first
  | ((with_reducible refine' use_cell ?cc ?cd ?_); (case cc => wtm_at "sq"); (case cd => omega))
  | (refine (show sp_l_says _ _ _ _ from ⟨_, _, rfl, ?_⟩)))
section
variable {P : Program} {w : World} {K : PySem.W.Frag} {mg : Str → Option Value} {base : Heap}
theorem ok_l_cell_at (T : Tx K mg) : FnOk P w K mg base CX0 1 T.a_l_cell_at T.d_l_cell_at ["_law_script", "_law_k"] (sp_cell K) := by
  refine T.F_l_cell_at.ok sc_l_cell_at (fun vs H Q E h => ?_) (fun cdv A outer s H vs Q E hr h => ?_)
  · obtain ⟨a, ns, k, rfl, _⟩ := h
    rfl
  obtain ⟨a, ns, k, rfl, hS, h0, q⟩ := h
  refine ⟨_, (pss_cons (ps_if (pt_cmpR op_lt (pv 1) (pe_callB my_len (by rfl) T.z_len PySem.boot_len (pa_cons (pv 0) pa_nil)) (nomark _))
      (pss_one (ps_ret (pe_ix ix_list (pv 0) (pv 1) (fun _ _ => rfl))))
      pss_nil)
    (pss_one (ps_ret pe_int))), ?_⟩
  wtm_at "go"
  refine g_br (fun c => ?_) (fun c => ?_)
  · have c' : k < ((ns.map V.int).length : Int) := of_decide_eq_true c
    rw [List.length_map] at c'
    wtm_at "go"
    exact g_ixL hS (atI_cell h0 c') q
  · have c' : ¬ k < ((ns.map V.int).length : Int) := of_decide_eq_false c
    rw [List.length_map] at c'
    rw [cell_out c'] at q
    wtm_at "go"
    exact q
theorem ok_is_whole (T : Tx K mg) : FnOk P w K mg base CX0 1 T.a_is_whole T.d_is_whole ["thing"] (sp_is_whole K) := by
  refine T.F_is_whole.ok sc_is_whole (fun vs H Q E h => ?_) (fun cdv A outer s H vs Q E hr h => ?_)
  · obtain ⟨x, rfl, _⟩ := h
    rfl
  obtain ⟨x, rfl, ⟨ty, ht⟩, q⟩ := h
  refine ⟨_, (pss_one (ps_ret (pe_cmpR my_isTy (pe_callTy call_type1 (by rfl) T.z_type (by decide +kernel) (pa_cons (pv 0) pa_nil)) (pe_bltn (v := .ty "int") (by rfl) T.z_int (by decide +kernel) rfl) (nomark _)))), ?_⟩
  wtm_at "go"
  rw [tyb_int ht]
  exact q
theorem ok_is_key (T : Tx K mg) : FnOk P w K mg base CX0 2 T.a_is_key T.d_is_key ["thing"] (sp_is_key K) := by
  refine T.F_is_key.ok sc_is_key (fun vs H Q E h => ?_) (fun cdv A outer s H vs Q E hr h => ?_)
  · obtain ⟨x, rfl, _⟩ := h
    rfl
  obtain ⟨x, rfl, ht, q⟩ := h
  refine ⟨_, (pss_one (ps_ret (pe_and (pe_call (ok_is_whole T) hr (by rfl) T.g_is_whole T.F_is_whole.kp T.b_is_whole .nil pass0 (pa_cons (pv 0) pa_nil)) (pe_one (pe_chain op_lt op_lt (pe_un un_neg (pe_gI (by rfl) T.c_KEY_BOUND)) (pv 0) (pe_gI (by rfl) T.c_KEY_BOUND)))))), ?_⟩
  wtm_at "go"
  refine ⟨x, rfl, ht, ?_⟩
  refine g_andV (fun c => ?_) (fun c => ?_)
  · cases x with
    | int i =>
      wtm_at "go"
      have e : isKeyV (.int i) = (decide (-KB < i) && decide (i < KB)) := rfl
      rw [e] at q
      refine g_chK (fun c => ?_) (fun c => ?_)
      · wtm_at "go"
        rw [show decide (-KB < i) = true from c, Bool.true_and] at q
        exact q
      · rw [show decide (-KB < i) = false from c, Bool.false_and] at q
        exact q
    | _ => cases c
  · rw [isKeyV_no c] at q
    exact q
theorem ok_is_value (T : Tx K mg) : FnOk P w K mg base CX0 1 T.a_is_value T.d_is_value ["thing"] (sp_is_value K) := by
  refine T.F_is_value.ok sc_is_value (fun vs H Q E h => ?_) (fun cdv A outer s H vs Q E hr h => ?_)
  · obtain ⟨x, rfl, _⟩ := h
    rfl
  obtain ⟨x, rfl, ⟨ty, ht, hz⟩, q⟩ := h
  refine ⟨_, (pss_cons (ps_if (pw_or (pt_cmpR op_notTyB (pe_callTy call_type1 (by rfl) T.z_type (by decide +kernel) (pa_cons (pv 0) pa_nil)) (pe_bltn (v := .ty "str") (by rfl) T.z_str (by decide +kernel) rfl) (nomark _)) (pw_or1 (pt_cmpR op_gt (pe_callB my_lenS (by rfl) T.z_len PySem.boot_len (pa_cons (pv 0) pa_nil)) (pe_gI (by rfl) T.c_MOST_SIGNS) (nomark _)))).pt
      (pss_one (ps_ret pe_bl))
      pss_nil)
    (pss_one (ps_ret (pe_callB (cr_all rfl) (by rfl) T.z_all (by decide +kernel) (pa_cons (pe_lc (own := [("sign", 1)]) (g := gName 1) (tt := tYes) rfl sc_is_value.nd (pi_str (pv 0)) (blkOk_by (own := [("sign", 1)]) (N := N_is_value) (sc := defScope s_is_value) (by decide +kernel)) (fun _ _ _ _ _ => (pg_name (i := 1) sc_is_value.nd rfl (Or.inl rfl))) (fun _ _ _ _ _ => pts_nil) (fun _ _ _ _ _ => (pe_chain my_leS my_leS pe_str (pv 1) pe_str))) pa_nil))))), ?_⟩
  wtm_at "go"
  rw [tyb_str ht]
  cases hx : isStr x with
  | false =>
    refine g_orK (fun _ => ?_) (fun c => nomatch c)
    wtm_at "go"
    rw [isValV_no hx] at q
    exact q H (L2.Same.refl H)
  | true =>
    refine g_orK (fun c => nomatch c) (fun _ => ?_)
    cases x with
    | str z =>
      have hl := hz z rfl
      have e : isValV (.str z) = (decide (z.length ≤ 60) && z.cps.toList.all signOk) := rfl
      rw [e] at q
      wtm_at "go"
      refine g_lenS hl ?_
      wtm_at "go"
      refine g_br (fun c => ?_) (fun c => ?_)
      · have c' : (60 : Int) < (z.length : Int) := of_decide_eq_true c
        rw [decide_eq_false (show ¬ z.length ≤ 60 by omega), Bool.false_and] at q
        wtm_at "go"
        exact q H (L2.Same.refl H)
      · have c' : ¬ (60 : Int) < (z.length : Int) := of_decide_eq_false c
        rw [decide_eq_true (show z.length ≤ 60 by omega), Bool.true_and] at q
        wtm_at "go"
        refine g_lcS (z := z) (fun c => .bl (signOk c)) (fun R r => by wtm_at "go"; exact r) (by have : z.cps.size = z.length := rfl; omega) (fun x => rfl) (fun c H1 QE hc s1 k => ?_) (fun p H1 n1 s1 e1 => ?_)
        · have es : signOk c = (decide (32 ≤ c) && decide (c ≤ 126)) := rfl
          rw [es] at k
          wtm_at "go"
          rw [sign_lo]
          refine g_chK (fun c1 => ?_) (fun c1 => ?_)
          · wtm_at "go"
            rw [sign_hi]
            rw [c1, Bool.true_and] at k
            exact k
          · rw [c1, Bool.false_and] at k
            exact k
        · wtm_at "go"
          refine g_all (bs := z.cps.toList.map signOk) (SqL.of (by rw [e1, List.map_map]; rfl)) ?_
          rw [List.all_map]
          exact q H1 s1
    | _ => cases hx
theorem ok_l_says (T : Tx K mg) : FnOk P w K mg base CX0 1 T.a_l_says T.d_l_says ["_law_found", "_law_due"] sp_l_says := by
  refine T.F_l_says.ok sc_l_says (fun vs H Q E h => ?_) (fun cdv A outer s H vs Q E hr h => ?_)
  · obtain ⟨f, d, rfl, _⟩ := h
    rfl
  obtain ⟨f, d, rfl, q⟩ := h
  refine ⟨_, (pss_one (ps_ret (pe_and (pe_or (pe_cmpR op_isBl (pv 0) pe_bl (nomark _)) (pe_one (pe_cmpR op_isBl (pv 0) pe_bl (nomark _)))) (pe_one (pe_cmpR op_eq (pv 0) (pv 1) (nomark _)))))), ?_⟩
  wtm_at "go"
  have e : decide (V.bl f = V.bl d) = decide (f = d) := by cases f <;> cases d <;> rfl
  cases f with
  | true =>
    refine g_orV (fun _ => ?_) (fun c => nomatch c)
    refine g_andV (fun _ => ?_) (fun c => nomatch c)
    wtm_at "go"
    rw [e]
    exact q
  | false =>
    refine g_orV (fun c => nomatch c) (fun _ => ?_)
    wtm_at "go"
    refine g_andV (fun _ => ?_) (fun c => nomatch c)
    wtm_at "go"
    rw [e]
    exact q
theorem ok_l_signs (T : Tx K mg) : FnOk P w K mg base CX0 1 T.a_l_signs T.d_l_signs ["_law_cell", "_law_size"] sp_l_signs := by
  refine T.F_l_signs.ok sc_l_signs (fun vs H Q E h => ?_) (fun cdv A outer s H vs Q E hr h => ?_)
  · obtain ⟨c, n, rfl, _⟩ := h
    rfl
  obtain ⟨c, n, rfl, h0, h1, q⟩ := h
  refine ⟨_, (pss_cons (ps_set (i := 2) sc_l_signs.nd rfl (Or.inr rfl) pe_str)
    (pss_cons (ps_set (i := 2) sc_l_signs.nd rfl (Or.inr rfl) (pe_op my_addS (pv 2) pe_str))
    (pss_one (ps_ret (my_join pe_str (pe_lc (own := [("_law_k", 3)]) (g := gName 3) (tt := tYes) rfl sc_l_signs.nd (pi_range1 (by rfl) T.z_range (pa_cons (pv 1) pa_nil)) (blkOk_by (own := [("_law_k", 3)]) (N := N_l_signs) (sc := defScope s_l_signs) (by decide +kernel)) (fun _ _ _ _ _ => (pg_name (i := 3) sc_l_signs.nd rfl (Or.inl rfl))) (fun _ _ _ _ _ => pts_nil) (fun _ _ _ _ _ => (pe_ix ix_str (pv 2) (pe_op op_mod (pe_op op_add (pv 0) (pe_op op_mulX pe_int (pv 3))) pe_int) (fun _ _ => rfl))))))))), ?_⟩
  wtm_at "go"
  refine g_addS (by decide +kernel) ?_
  have el : ((Str.ofString " !\"#$&'()*+,-./0123456789:;<=>?@ABCDEFGHIJKLMNOPQRSTUVWXYZ[\\]^_`") ++ (Str.ofString "abcdefghijklmnopqrstuvwxyz{|}~")).cps.toList = someL := rfl
  generalize (Str.ofString " !\"#$&'()*+,-./0123456789:;<=>?@ABCDEFGHIJKLMNOPQRSTUVWXYZ[\\]^_`") ++ (Str.ofString "abcdefghijklmnopqrstuvwxyz{|}~") = so at el
  have hso : so.length ≤ sizeLine := by rw [str_len, el, someL_len]; decide
  wtm_at "go"
  refine g_m1 (fun R r => by wtm_at "go"; exact r) ?_
  refine g_lcR1 (n := n) (fun i y H => y = .str ⟨#[someL.getD ((c + 7 * (i : Int)) % 94).toNat 0]⟩) (fun R r => by wtm_at "go"; exact r) (by omega) (fun x => rfl)
    (fun i y H1 H2 st e => e) (fun i H1 QE hi s1 k => ?_) (fun p ys H1 n1 s1 e1 hyl hys => ?_)
  · have b1 := Int.emod_nonneg (c + 7 * (i : Int)) (show (94 : Int) ≠ 0 by decide)
    have b2 := Int.emod_lt_of_pos (c + 7 * (i : Int)) (show (0 : Int) < 94 by decide)
    wtm_at "go"
    generalize (c + 7 * (i : Int)) % 94 = ix at b1 b2 k
    have e3 : atI so.cps.toList ix = some (someL.getD ix.toNat 0) := by
      rw [el, show ix = ((ix.toNat : Nat) : Int) by omega]
      refine atI_nat ?_
      have h3 : ix.toNat < someL.length := by rw [someL_len]; omega
      rw [Int.toNat_natCast, List.getD_eq_getElem?_getD, List.getElem?_eq_getElem h3]
      rfl
    exact g_ixS hso e3 (k _ H1 (L2.Same.refl _) rfl)
  · have ey : ys = ((signsL c n.toNat).map fun c => (⟨#[c]⟩ : Str)).map V.str := by
      rw [← strL]
      refine list_eq (by rw [hyl, List.length_map, signsL_len]) fun i y hy => ?_
      have hi := (List.getElem?_eq_some_iff.mp hy).1
      rw [hys i y hy]
      unfold signsL
      rw [List.map_map, List.getElem?_map, List.getElem?_range (by omega)]
      rfl
    subst ey
    refine g_join (SqL.of e1) ?_ ?_
    · rw [sum_ones, List.length_map, signsL_len, show (Str.ofString "").length = 0 by decide +kernel]
      omega
    · exact q _ H1 s1 (join_signs _)
theorem other_flat {K : PySem.W.Frag} {H : Hp} {x : V} {t : String} (h : TyOf K H x (.type t)) (ht : TyB K H x t) (hi : isInt x = false) (hs : isStr x = false) (hk : kitB t "str" = some false) : Other K H x :=
  ⟨⟨_, ht, fun z e => by subst e; cases hs⟩, hi, (isValV_no hs).trans hs.symm, _, fun _ e => .base (tyof_same e h), by rw [hs]; exact kit_ty hk⟩
theorem ok_l_other (T : Tx K mg) : FnOk P w K mg base CX0 1 T.a_l_other T.d_l_other ["_law_cell"] (sp_l_other K) := by
  refine T.F_l_other.ok sc_l_other (fun vs H Q E h => ?_) (fun cdv A outer s H vs Q E hr h => ?_)
  · obtain ⟨c, rfl, _⟩ := h
    rfl
  obtain ⟨c, rfl, q⟩ := h
  refine ⟨_, (pss_one (ps_ret (pe_ix ix_list (pe_lst (pa_cons pe_bl (pa_cons pe_bl (pa_cons pe_non (pa_cons pe_str (pa_cons (pe_lst pa_nil) (pa_cons (pe_tup (pa_cons pe_int (pa_cons pe_int pa_nil))) (pa_cons pe_dnewK (pa_cons (pe_lst (pa_cons pe_int pa_nil)) pa_nil))))))))) (pe_op op_mod (pv 0) pe_int) (fun _ _ => rfl)))), ?_⟩
  wtm_at "go"
  refine g_lstK (by wtm_at "ln") fun p1 H1 n1 s1 e1 => ?_
  wtm_at "go"
  refine g_tupK (by wtm_at "ln") fun p2 H2 n2 s2 e2 => ?_
  wtm_at "go"
  refine g_dnewK fun p3 H3 n3 s3 e3 => ?_
  wtm_at "go"
  refine g_lstK (by wtm_at "ln") fun p4 H4 n4 s4 e4 => ?_
  wtm_at "go"
  refine g_lstK (by wtm_at "ln") fun p5 H5 n5 s5 e5 => ?_
  wtm_at "go"
  have b1 := Int.emod_nonneg c (show (8 : Int) ≠ 0 by decide)
  have b2 := Int.emod_lt_of_pos c (show (0 : Int) < 8 by decide)
  have e1' : H5 p1 = some (.lst []) := by wtm_at "at"
  have e2' : H5 p2 = some (.tup [.int 1, .int 2]) := by wtm_at "at"
  have e3' : H5 p3 = some (.dK []) := by wtm_at "at"
  have e4' : H5 p4 = some (.lst [.int 1]) := by wtm_at "at"
  have st : Same H H5 := s1.trans (s2.trans (s3.trans (s4.trans s5)))
  have hc : c % 8 = 0 ∨ c % 8 = 1 ∨ c % 8 = 2 ∨ c % 8 = 3 ∨ c % 8 = 4 ∨ c % 8 = 5 ∨ c % 8 = 6 ∨ c % 8 = 7 := by omega
  rcases hc with h | h | h | h | h | h | h | h <;> rw [h]
  · exact g_ixL (SqL.of e5) (atI_nat (j := 0) rfl) (q _ H5 st (other_flat (.bl true) (.bl true) rfl rfl (by decide +kernel)))
  · exact g_ixL (SqL.of e5) (atI_nat (j := 1) rfl) (q _ H5 st (other_flat (.bl false) (.bl false) rfl rfl (by decide +kernel)))
  · exact g_ixL (SqL.of e5) (atI_nat (j := 2) rfl) (q _ H5 st (other_flat .non .non rfl rfl (by decide +kernel)))
  · exact g_ixL (SqL.of e5) (atI_nat (j := 3) rfl) (q _ H5 st ⟨Thing.str _ (by decide +kernel), rfl, by decide +kernel, _, fun _ _ => .base (.str _), kit_ty (by decide +kernel)⟩)
  · exact g_ixL (SqL.of e5) (atI_nat (j := 4) rfl) (q _ H5 st (other_flat (.lst e1') (.lst (SqL.of e1')) rfl rfl (by decide +kernel)))
  · exact g_ixL (SqL.of e5) (atI_nat (j := 5) rfl) (q _ H5 st (other_flat (.tup e2') (.tup (SqT.of e2')) rfl rfl (by decide +kernel)))
  · exact g_ixL (SqL.of e5) (atI_nat (j := 6) rfl) (q _ H5 st (other_flat (.dK e3') (.dK e3') rfl rfl (by decide +kernel)))
  · exact g_ixL (SqL.of e5) (atI_nat (j := 7) rfl) (q _ H5 st (other_flat (.lst e4') (.lst (SqL.of e4')) rfl rfl (by decide +kernel)))
theorem ok_law {f : Addr} {fd : FuncData} (F : Fun K "law" "law" s_law f fd) (T : Tx K mg) : FnOk P w K mg base CX0 3 f fd ["_law_script"] (spLaw K) := by
  refine F.ok sc_law (fun vs H Q E h => ?_) (fun cdv A outer s H vs Q E hr h => ?_)
  · obtain ⟨a, ns, rfl, _⟩ := h
    rfl
  obtain ⟨a, ns, rfl, hS, hl, hb, q⟩ := h
  refine ⟨_, (pss_cons (ps_set (i := 1) sc_law.nd rfl (Or.inl rfl) (pe_op op_sub (pe_op op_mod (pe_call (ok_l_cell_at T) (hr.mono (by decide)) (by rfl) T.g_l_cell_at T.F_l_cell_at.kp T.b_l_cell_at .nil pass0 (pa_cons (pv 0) (pa_cons pe_int pa_nil))) (pe_op op_mulX pe_int (pe_op op_pow pe_int pe_int))) (pe_op op_pow pe_int pe_int)))
    (Evl.pss_cut (ps_if (pt_cmpR op_eq (pe_op op_mod (pe_call (ok_l_cell_at T) (hr.mono (by decide)) (by rfl) T.g_l_cell_at T.F_l_cell_at.kp T.b_l_cell_at .nil pass0 (pa_cons (pv 0) (pa_cons pe_int pa_nil))) pe_int) pe_int (nomark _))
      (pss_one (ps_set (i := 1) sc_law.nd rfl (Or.inl rfl) (pe_op op_add (pe_op op_sub (pe_op op_pow pe_int pe_int) pe_int) (pe_op op_mod (pe_op op_fdiv (pe_call (ok_l_cell_at T) (hr.mono (by decide)) (by rfl) T.g_l_cell_at T.F_l_cell_at.kp T.b_l_cell_at .nil pass0 (pa_cons (pv 0) (pa_cons pe_int pa_nil))) pe_int) pe_int))))
      pss_nil)
    (Evl.pss_cut (ps_if (pt_cmpR op_eq (pe_op op_mod (pe_call (ok_l_cell_at T) (hr.mono (by decide)) (by rfl) T.g_l_cell_at T.F_l_cell_at.kp T.b_l_cell_at .nil pass0 (pa_cons (pv 0) (pa_cons pe_int pa_nil))) pe_int) pe_int (nomark _))
      (pss_one (ps_set (i := 1) sc_law.nd rfl (Or.inl rfl) (pe_op op_add (pe_op op_sub (pe_un un_neg (pe_op op_pow pe_int pe_int)) pe_int) (pe_op op_mod (pe_op op_fdiv (pe_call (ok_l_cell_at T) (hr.mono (by decide)) (by rfl) T.g_l_cell_at T.F_l_cell_at.kp T.b_l_cell_at .nil pass0 (pa_cons (pv 0) (pa_cons pe_int pa_nil))) pe_int) pe_int))))
      pss_nil)
    (pss_cons (ps_if (pw_or (pt_not (pt_val (pe_call (ok_l_says T) (hr.mono (by decide)) (by rfl) T.g_l_says T.F_l_says.kp T.b_l_says .nil pass0 (pa_cons (pe_call (ok_is_key T) hr (by rfl) T.g_is_key T.F_is_key.kp T.b_is_key .nil pass0 (pa_cons (pv 1) pa_nil)) (pa_cons (pe_and (pe_cmpR op_lt (pe_un un_neg (pe_op op_pow pe_int pe_int)) (pv 1) (nomark _)) (pe_one (pe_cmpR op_lt (pv 1) (pe_op op_pow pe_int pe_int) (nomark _)))) pa_nil))))) (pw_or1 (pt_cmpR op_notBl (pe_call (ok_is_value T) (hr.mono (by decide)) (by rfl) T.g_is_value T.F_is_value.kp T.b_is_value .nil pass0 (pa_cons (pv 1) pa_nil)) pe_bl (nomark _)))).pt
      (pss_one (ps_ret pe_bl))
      pss_nil)
    (pss_cons (ps_set (i := 2) sc_law.nd rfl (Or.inl rfl) (pe_op op_mod (pe_op op_fdiv (pe_call (ok_l_cell_at T) (hr.mono (by decide)) (by rfl) T.g_l_cell_at T.F_l_cell_at.kp T.b_l_cell_at .nil pass0 (pa_cons (pv 0) (pa_cons pe_int pa_nil))) pe_int) pe_int))
    (Evl.pss_cut (ps_if (pt_cmpR op_eq (pe_op op_mod (pe_call (ok_l_cell_at T) (hr.mono (by decide)) (by rfl) T.g_l_cell_at T.F_l_cell_at.kp T.b_l_cell_at .nil pass0 (pa_cons (pv 0) (pa_cons pe_int pa_nil))) pe_int) pe_int (nomark _))
      (pss_one (ps_set (i := 2) sc_law.nd rfl (Or.inl rfl) (pe_op op_add pe_int (pe_op op_mod (pe_op op_fdiv (pe_call (ok_l_cell_at T) (hr.mono (by decide)) (by rfl) T.g_l_cell_at T.F_l_cell_at.kp T.b_l_cell_at .nil pass0 (pa_cons (pv 0) (pa_cons pe_int pa_nil))) pe_int) pe_int))))
      pss_nil)
    (pss_cons (ps_set (i := 3) sc_law.nd rfl (Or.inl rfl) (pe_call (ok_l_signs T) (hr.mono (by decide)) (by rfl) T.g_l_signs T.F_l_signs.kp T.b_l_signs .nil pass0 (pa_cons (pe_op op_mod (pe_call (ok_l_cell_at T) (hr.mono (by decide)) (by rfl) T.g_l_cell_at T.F_l_cell_at.kp T.b_l_cell_at .nil pass0 (pa_cons (pv 0) (pa_cons pe_int pa_nil))) pe_int) (pa_cons (pv 2) pa_nil))))
    (pss_cons (ps_set (i := 4) sc_law.nd rfl (Or.inl rfl) (pe_cmpR op_lt (pv 2) pe_int (nomark _)))
    (pss_cons (ps_set (i := 5) sc_law.nd rfl (Or.inl rfl) (pe_op op_mod (pe_op op_fdiv (pe_call (ok_l_cell_at T) (hr.mono (by decide)) (by rfl) T.g_l_cell_at T.F_l_cell_at.kp T.b_l_cell_at .nil pass0 (pa_cons (pv 0) (pa_cons pe_int pa_nil))) pe_int) (pe_op op_add (pv 2) pe_int)))
    (Evl.pss_cut (ps_if (pt_cmpR op_eq (pe_op op_mod (pe_call (ok_l_cell_at T) (hr.mono (by decide)) (by rfl) T.g_l_cell_at T.F_l_cell_at.kp T.b_l_cell_at .nil pass0 (pa_cons (pv 0) (pa_cons pe_int pa_nil))) pe_int) pe_int (nomark _))
      (pss_cons (ps_set (i := 3) sc_law.nd rfl (Or.inl rfl) (pe_op my_addS (pe_op my_addS (pe_slice sl_str (pv 3) po_none (po_some (pv 5))) pe_str) (pe_slice sl_str (pv 3) (po_some (pv 5)) po_none)))
      (pss_one (ps_set (i := 4) sc_law.nd rfl (Or.inl rfl) pe_bl)))
      pss_nil)
    (Evl.pss_cut (ps_if (pt_cmpR op_eq (pe_op op_mod (pe_call (ok_l_cell_at T) (hr.mono (by decide)) (by rfl) T.g_l_cell_at T.F_l_cell_at.kp T.b_l_cell_at .nil pass0 (pa_cons (pv 0) (pa_cons pe_int pa_nil))) pe_int) pe_int (nomark _))
      (pss_cons (ps_set (i := 3) sc_law.nd rfl (Or.inl rfl) (pe_op my_addS (pe_op my_addS (pe_slice sl_str (pv 3) po_none (po_some (pv 5))) pe_str) (pe_slice sl_str (pv 3) (po_some (pe_op op_add (pv 5) pe_int)) po_none)))
      (pss_one (ps_set (i := 4) sc_law.nd rfl (Or.inl rfl) pe_bl)))
      pss_nil)
    (pss_cons (ps_if (pw_or (pt_not (pt_val (pe_call (ok_l_says T) (hr.mono (by decide)) (by rfl) T.g_l_says T.F_l_says.kp T.b_l_says .nil pass0 (pa_cons (pe_call (ok_is_value T) (hr.mono (by decide)) (by rfl) T.g_is_value T.F_is_value.kp T.b_is_value .nil pass0 (pa_cons (pv 3) pa_nil)) (pa_cons (pv 4) pa_nil))))) (pw_or1 (pt_cmpR op_notBl (pe_call (ok_is_key T) hr (by rfl) T.g_is_key T.F_is_key.kp T.b_is_key .nil pass0 (pa_cons (pv 3) pa_nil)) pe_bl (nomark _)))).pt
      (pss_one (ps_ret pe_bl))
      pss_nil)
    (pss_cons (ps_set (i := 6) sc_law.nd rfl (Or.inl rfl) (pe_call (ok_l_other T) (hr.mono (by decide)) (by rfl) T.g_l_other T.F_l_other.kp T.b_l_other .nil pass0 (pa_cons (pe_call (ok_l_cell_at T) (hr.mono (by decide)) (by rfl) T.g_l_cell_at T.F_l_cell_at.kp T.b_l_cell_at .nil pass0 (pa_cons (pv 0) (pa_cons pe_int pa_nil))) pa_nil)))
    (pss_one (ps_ret (pe_and (pe_cmpR op_isBl (pe_call (ok_is_key T) hr (by rfl) T.g_is_key T.F_is_key.kp T.b_is_key .nil pass0 (pa_cons (pv 6) pa_nil)) pe_bl (nomark _)) (pe_one (pe_call (ok_l_says T) (hr.mono (by decide)) (by rfl) T.g_l_says T.F_l_says.kp T.b_l_says .nil pass0 (pa_cons (pe_call (ok_is_value T) (hr.mono (by decide)) (by rfl) T.g_is_value T.F_is_value.kp T.b_is_value .nil pass0 (pa_cons (pv 6) pa_nil)) (pa_cons (pe_callB call_isi (by rfl) T.z_isinstance (by decide +kernel) (pa_cons (pv 6) (pa_cons (pe_bltn (v := .ty "str") (by rfl) T.z_str (by decide +kernel) rfl) pa_nil))) pa_nil)))))))))))))))))))), ?_⟩
  have hp61 : (0 : Int) < 2 * 10 ^ Int.toNat 61 := by decide +kernel
  wtm_at "go"
  refine g_cut (fun σ' H1 => ∃ n : Int, σ' = [some (.ref a), some (.int n), none, none, none, none, none] ∧ H1 = H) ?_ ?_
  · wtm_at "go"
    refine g_br (fun c => ?_) (fun c => ?_) <;> (wtm_at "go"; exact ⟨_, rfl, rfl⟩)
  rintro σ' H1 ⟨n1, rfl, rfl⟩
  refine g_cut (fun σ' H => ∃ n : Int, σ' = [some (.ref a), some (.int n), none, none, none, none, none] ∧ H = H1) ?_ ?_
  · wtm_at "go"
    refine g_br (fun c => ?_) (fun c => ?_) <;> (wtm_at "go"; exact ⟨_, rfl, rfl⟩)
  rintro σ' H ⟨n, rfl, rfl⟩
  wtm_at "go"
  refine ⟨.int n, rfl, (Thing.int n).zero, ?_⟩
  wtm_at "go"
  refine g_andVJ (b := decide (n < 10 ^ Int.toNat 60)) (fun _ R r => by wtm_at "go"; exact r) ?_
  wtm_at "go"
  have e1 : decide (isKeyV (.int n) = (decide (-10 ^ Int.toNat 60 < n) && decide (n < 10 ^ Int.toNat 60))) = true := by
    rw [← KB_eq]
    exact decide_eq_true rfl
  rw [e1]
  refine g_orK (fun c => nomatch c) (fun _ => ?_)
  wtm_at "go"
  refine ⟨.int n, rfl, Thing.int n, fun H1 s1 => ?_⟩
  wtm_at "go"
  refine g_br (fun c => nomatch c) (fun _ => ?_)
  wtm_at "go"
  refine g_cut (fun σ' H => ∃ z : Int, σ' = [some (.ref a), some (.int n), some (.int z), none, none, none, none] ∧ H = H1 ∧ 0 ≤ z ∧ z ≤ 64) ?_ ?_
  · wtm_at "go"
    refine g_br (fun c => ?_) (fun c => ?_) <;> (wtm_at "go"; exact ⟨_, rfl, rfl, by omega, by omega⟩)
  rintro σ' H2 ⟨z, rfl, rfl, hz0, hz1⟩
  wtm_at "go"
  refine ⟨_, z, rfl, hz0, by omega, fun ln H3 s3 el => ?_⟩
  have hln : ln.length = z.toNat := by rw [str_len, el, signsL_len]
  have hval : isValV (.str ln) = decide (z < 61) := by
    have e : isValV (.str ln) = (decide (ln.length ≤ 60) && ln.cps.toList.all signOk) := rfl
    rw [e, el, signsL_ok, Bool.and_true, hln]
    by_cases c : z < 61
    · rw [decide_eq_true c, decide_eq_true (by omega)]
    · rw [decide_eq_false c, decide_eq_false (by omega)]
  have hat0 := Int.emod_nonneg (cell ns 4 / 3) (show z + 1 ≠ 0 by omega)
  have hat1 := Int.emod_lt_of_pos (cell ns 4 / 3) (show 0 < z + 1 by omega)
  wtm_at "go"
  generalize cell ns 4 / 3 % (z + 1) = pl at hat0 hat1
  obtain ⟨m, rfl⟩ : ∃ m : Nat, pl = (m : Int) := ⟨pl.toNat, by omega⟩
  refine g_cut (fun σ' H => ∃ (l1 : Str) (g : Bool), σ' = [some (.ref a), some (.int n), some (.int z), some (.str l1), some (.bl g), some (.int (m : Int)), none] ∧ H = H3 ∧ isValV (.str l1) = g ∧ l1.length ≤ 200) ?_ ?_
  · wtm_at "go"
    refine g_br (fun c => ?_) (fun c => ?_)
    · wtm_at "go"
      refine g_slS (by rw [hln]; exact sz (by omega)) ?_
      wtm_at "go"
      have z1 : (cutS ln none (some (m : Int))).length ≤ 64 := by rw [str_len, cutS_to, List.length_take, ← str_len]; omega
      have z2 : (cutS ln (some (m : Int)) none).length ≤ 64 := by rw [str_len, cutS_from, List.length_drop, ← str_len]; omega
      have z3 : (Str.ofString "\n").length = 1 := by decide +kernel
      refine g_addS (by rw [z3]; exact sz (by omega)) ?_
      wtm_at "go"
      refine g_slS (by rw [hln]; exact sz (by omega)) ?_
      refine g_addS (by rw [app_len, z3]; exact sz (by omega)) ?_
      wtm_at "go"
      refine ⟨_, _, rfl, rfl, notval_of_mem (c := 10) ?_ (by decide), by rw [app_len, app_len, z3]; omega⟩
      rw [app_toList, app_toList, show (Str.ofString "\n").cps.toList = [10] by decide +kernel]
      simp
    · wtm_at "go"
      exact ⟨_, _, rfl, rfl, hval, by omega⟩
  rintro σ' H4 ⟨l1, g1, rfl, rfl, hg1, hl1⟩
  refine g_cut (fun σ' H => ∃ (l1 : Str) (g : Bool), σ' = [some (.ref a), some (.int n), some (.int z), some (.str l1), some (.bl g), some (.int (m : Int)), none] ∧ H = H4 ∧ isValV (.str l1) = g ∧ l1.length ≤ 1000) ?_ ?_
  · wtm_at "go"
    refine g_br (fun c => ?_) (fun c => ?_)
    · wtm_at "go"
      refine g_slS (sz (by omega)) ?_
      wtm_at "go"
      have z1 : (cutS l1 none (some (m : Int))).length ≤ 200 := by rw [str_len, cutS_to, List.length_take, ← str_len]; omega
      have z2 : (cutS l1 (some ((m : Int) + 1)) none).length ≤ 200 := by
        rw [show (m : Int) + 1 = ((m + 1 : Nat) : Int) by omega, str_len, cutS_from, List.length_drop, ← str_len]; omega
      have z3 : (Str.ofString "\t").length = 1 := by decide +kernel
      refine g_addS (by rw [z3]; exact sz (by omega)) ?_
      wtm_at "go"
      refine g_slS (sz (by omega)) ?_
      refine g_addS (by rw [app_len, z3]; exact sz (by omega)) ?_
      wtm_at "go"
      refine ⟨_, _, rfl, rfl, notval_of_mem (c := 9) ?_ (by decide), by rw [app_len, app_len, z3]; omega⟩
      rw [app_toList, app_toList, show (Str.ofString "\t").cps.toList = [9] by decide +kernel]
      simp
    · wtm_at "go"
      exact ⟨_, _, rfl, rfl, hg1, by omega⟩
  rintro σ' H5 ⟨l2, g2, rfl, rfl, hg2, hl2⟩
  wtm_at "go"
  refine ⟨.str l2, rfl, Thing.str _ (sz (by omega)), fun H6 s6 => ?_⟩
  wtm_at "go"
  rw [hg2, decide_eq_true (show g2 = g2 from rfl)]
  refine g_orK (fun c => nomatch c) (fun _ => ?_)
  wtm_at "go"
  refine ⟨.str l2, rfl, (Thing.str _ (sz (by omega))).zero, ?_⟩
  wtm_at "go"
  refine g_br (fun c => nomatch c) (fun _ => ?_)
  wtm_at "go"
  refine ⟨_, rfl, fun x H7 s7 ⟨ht, hi, hv, t, hty, hk⟩ => ?_⟩
  wtm_at "go"
  refine ⟨x, rfl, ht.zero, ?_⟩
  wtm_at "go"
  rw [isKeyV_no hi]
  refine g_andV (fun _ => ?_) (fun c => nomatch c)
  wtm_at "go"
  refine ⟨x, rfl, ht, fun H8 s8 => ?_⟩
  wtm_at "go"
  refine g_isi (.ty "str") (hty _ s8) hk ?_
  wtm_at "go"
  rw [hv, decide_eq_true (show isStr x = isStr x from rfl)]
  exact q _
theorem all_mk {l : PySem.W.OpenLaw} {w : World} {K : PySem.W.Frag} {h : Heap} {mg : Str → Option Value} {fa : Addr} (X : K.In h) (G : h.Ns mainGlobals mg) (hfa : mg "law" = some (.ref fa))
    {f0 : Addr} {od0 an0 : Option Addr} {sl0 : Array (Option Value)} {oc0 kV0 dc0 pm0 cd0 ct0 : Value}
    (a0 : PySem.W.nsIn K mainGlobals "is_whole" = some (some (.ref f0))) (l0 : K.lookup f0 = some ⟨oc0, od0, .func (PySem.W.fnOf "is_whole" "is_whole" (defArgs s_is_whole) (defBody s_is_whole) (defScope s_is_whole) .none kV0 dc0 pm0 an0 cd0 ct0), sl0⟩) (c0 : PySem.W.codeIn K cd0 "is_whole" = true) (k0 : PySem.W.keepIn K (.ref f0) = true)
    {f1 : Addr} {od1 an1 : Option Addr} {sl1 : Array (Option Value)} {oc1 kV1 dc1 pm1 cd1 ct1 : Value}
    (a1 : PySem.W.nsIn K mainGlobals "is_key" = some (some (.ref f1))) (l1 : K.lookup f1 = some ⟨oc1, od1, .func (PySem.W.fnOf "is_key" "is_key" (defArgs s_is_key) (defBody s_is_key) (defScope s_is_key) .none kV1 dc1 pm1 an1 cd1 ct1), sl1⟩) (c1 : PySem.W.codeIn K cd1 "is_key" = true) (k1 : PySem.W.keepIn K (.ref f1) = true)
    {f2 : Addr} {od2 an2 : Option Addr} {sl2 : Array (Option Value)} {oc2 kV2 dc2 pm2 cd2 ct2 : Value}
    (a2 : PySem.W.nsIn K mainGlobals "is_value" = some (some (.ref f2))) (l2 : K.lookup f2 = some ⟨oc2, od2, .func (PySem.W.fnOf "is_value" "is_value" (defArgs s_is_value) (defBody s_is_value) (defScope s_is_value) .none kV2 dc2 pm2 an2 cd2 ct2), sl2⟩) (c2 : PySem.W.codeIn K cd2 "is_value" = true) (k2 : PySem.W.keepIn K (.ref f2) = true)
    {f3 : Addr} {od3 an3 : Option Addr} {sl3 : Array (Option Value)} {oc3 kV3 dc3 pm3 cd3 ct3 : Value}
    (a3 : PySem.W.nsIn K mainGlobals "_law_cell_at" = some (some (.ref f3))) (l3 : K.lookup f3 = some ⟨oc3, od3, .func (PySem.W.fnOf "_law_cell_at" "_law_cell_at" (defArgs s_l_cell_at) (defBody s_l_cell_at) (defScope s_l_cell_at) .none kV3 dc3 pm3 an3 cd3 ct3), sl3⟩) (c3 : PySem.W.codeIn K cd3 "_law_cell_at" = true) (k3 : PySem.W.keepIn K (.ref f3) = true)
    {f4 : Addr} {od4 an4 : Option Addr} {sl4 : Array (Option Value)} {oc4 kV4 dc4 pm4 cd4 ct4 : Value}
    (a4 : PySem.W.nsIn K mainGlobals "_law_says" = some (some (.ref f4))) (l4 : K.lookup f4 = some ⟨oc4, od4, .func (PySem.W.fnOf "_law_says" "_law_says" (defArgs s_l_says) (defBody s_l_says) (defScope s_l_says) .none kV4 dc4 pm4 an4 cd4 ct4), sl4⟩) (c4 : PySem.W.codeIn K cd4 "_law_says" = true) (k4 : PySem.W.keepIn K (.ref f4) = true)
    {f5 : Addr} {od5 an5 : Option Addr} {sl5 : Array (Option Value)} {oc5 kV5 dc5 pm5 cd5 ct5 : Value}
    (a5 : PySem.W.nsIn K mainGlobals "_law_other" = some (some (.ref f5))) (l5 : K.lookup f5 = some ⟨oc5, od5, .func (PySem.W.fnOf "_law_other" "_law_other" (defArgs s_l_other) (defBody s_l_other) (defScope s_l_other) .none kV5 dc5 pm5 an5 cd5 ct5), sl5⟩) (c5 : PySem.W.codeIn K cd5 "_law_other" = true) (k5 : PySem.W.keepIn K (.ref f5) = true)
    {f6 : Addr} {od6 an6 : Option Addr} {sl6 : Array (Option Value)} {oc6 kV6 dc6 pm6 cd6 ct6 : Value}
    (a6 : PySem.W.nsIn K mainGlobals "_law_signs" = some (some (.ref f6))) (l6 : K.lookup f6 = some ⟨oc6, od6, .func (PySem.W.fnOf "_law_signs" "_law_signs" (defArgs s_l_signs) (defBody s_l_signs) (defScope s_l_signs) .none kV6 dc6 pm6 an6 cd6 ct6), sl6⟩) (c6 : PySem.W.codeIn K cd6 "_law_signs" = true) (k6 : PySem.W.keepIn K (.ref f6) = true)
    {f7 : Addr} {od7 an7 : Option Addr} {sl7 : Array (Option Value)} {oc7 kV7 dc7 pm7 cd7 ct7 : Value}
    (a7 : PySem.W.nsIn K mainGlobals "law" = some (some (.ref f7))) (l7 : K.lookup f7 = some ⟨oc7, od7, .func (PySem.W.fnOf "law" "law" (defArgs s_law) (defBody s_law) (defScope s_law) .none kV7 dc7 pm7 an7 cd7 ct7), sl7⟩) (c7 : PySem.W.codeIn K cd7 "law" = true) (k7 : PySem.W.keepIn K (.ref f7) = true)
    {tk0 : Tok} (q0 : PySem.W.nsIn K mainGlobals "KEY_BOUND" = some (some (.int (KB) tk0)))
    {tk1 : Tok} (q1 : PySem.W.nsIn K mainGlobals "MOST_SIGNS" = some (some (.int (60) tk1)))
    (z0 : PySem.W.nsIn K mainGlobals "all" = some none)
    (z1 : PySem.W.nsIn K mainGlobals "int" = some none)
    (z2 : PySem.W.nsIn K mainGlobals "isinstance" = some none)
    (z3 : PySem.W.nsIn K mainGlobals "len" = some none)
    (z4 : PySem.W.nsIn K mainGlobals "range" = some none)
    (z5 : PySem.W.nsIn K mainGlobals "str" = some none)
    (z6 : PySem.W.nsIn K mainGlobals "type" = some none)
    : ∃ fd : FuncData, (∀ (s : Shared) (v : Value), BindsTo s fd ⟨[v], []⟩ [("_law_script", v)]) ∧ ∀ base : Heap, K.In base → base.Ns mainGlobals mg → FnOk l.prog w K mg base CX0 3 fa fd ["_law_script"] (spLaw K) := by
  have e := hfa.symm.trans (PySem.W.mg_of X G a7)
  cases e
  have F0 := fun_mk (st := s_is_whole) l0 c0 k0
  have b0 := F0.binds (ps := ["thing"]) fun _ _ _ _ _ _ us hl => match us, hl with | [_], _ => rfl
  have F1 := fun_mk (st := s_is_key) l1 c1 k1
  have b1 := F1.binds (ps := ["thing"]) fun _ _ _ _ _ _ us hl => match us, hl with | [_], _ => rfl
  have F2 := fun_mk (st := s_is_value) l2 c2 k2
  have b2 := F2.binds (ps := ["thing"]) fun _ _ _ _ _ _ us hl => match us, hl with | [_], _ => rfl
  have F3 := fun_mk (st := s_l_cell_at) l3 c3 k3
  have b3 := F3.binds (ps := ["_law_script", "_law_k"]) fun _ _ _ _ _ _ us hl => match us, hl with | [_, _], _ => rfl
  have F4 := fun_mk (st := s_l_says) l4 c4 k4
  have b4 := F4.binds (ps := ["_law_found", "_law_due"]) fun _ _ _ _ _ _ us hl => match us, hl with | [_, _], _ => rfl
  have F5 := fun_mk (st := s_l_other) l5 c5 k5
  have b5 := F5.binds (ps := ["_law_cell"]) fun _ _ _ _ _ _ us hl => match us, hl with | [_], _ => rfl
  have F6 := fun_mk (st := s_l_signs) l6 c6 k6
  have b6 := F6.binds (ps := ["_law_cell", "_law_size"]) fun _ _ _ _ _ _ us hl => match us, hl with | [_, _], _ => rfl
  have F7 := fun_mk (st := s_law) l7 c7 k7
  have T : Tx K mg := ⟨f0, _, F0, b0, PySem.W.mg_of X G a0, f1, _, F1, b1, PySem.W.mg_of X G a1, f2, _, F2, b2, PySem.W.mg_of X G a2, f3, _, F3, b3, PySem.W.mg_of X G a3, f4, _, F4, b4, PySem.W.mg_of X G a4, f5, _, F5, b5, PySem.W.mg_of X G a5, f6, _, F6, b6, PySem.W.mg_of X G a6, _, PySem.W.mg_of X G q0, _, PySem.W.mg_of X G q1, PySem.W.mg_none_of X G z0, PySem.W.mg_none_of X G z1, PySem.W.mg_none_of X G z2, PySem.W.mg_none_of X G z3, PySem.W.mg_none_of X G z4, PySem.W.mg_none_of X G z5, PySem.W.mg_none_of X G z6⟩
  exact ⟨_, fun s v => .of_eq rfl, fun base _ _ => ok_law F7 T⟩
end
end My
open PySem PySem.W PyProof.Rows
set_option maxRecDepth 100000 in
set_option maxHeartbeats 0 in
theorem PySem.Challenge.cw_btreelog_k03_keys_and_values_holds : PySem.Challenge.rw_btreelog_k03_keys_and_values.Holds := by
  w_on; o_law; k_head; (case hw => w_witness2)
  k_fill
  refine L2.walk_ofB (l := PySem.Challenge.rw_btreelog_k03_keys_and_values) (n := 63) (k := 3) (x := "_law_script") (CX := fun _ => L2.CX0) (sp := fun w => My.spLaw _) rfl (by decide) rfl ⟨rfl, by decide, by decide⟩ (fun w h Y => PySem.W.kIn_of Y) ?F (fun _ _ a ns hl hb _ hS => ⟨a, ns, rfl, hS, hl, hb, fun _ => rfl⟩) (fun _ _ _ _ _ h => h)
  case F =>
    intro w mg fa h KX G hmg
    refine' My.all_mk KX G hmg ?a0 ?l0 ?c0 ?k0 ?a1 ?l1 ?c1 ?k1 ?a2 ?l2 ?c2 ?k2 ?a3 ?l3 ?c3 ?k3 ?a4 ?l4 ?c4 ?k4 ?a5 ?l5 ?c5 ?k5 ?a6 ?l6 ?c6 ?k6 ?a7 ?l7 ?c7 ?k7 ?q0 ?q1 ?z0 ?z1 ?z2 ?z3 ?z4 ?z5 ?z6
    (case a0 => k_is)
    (case l0 => k_is)
    (case c0 => k_is)
    (case k0 => k_is)
    (case a1 => k_is)
    (case l1 => k_is)
    (case c1 => k_is)
    (case k1 => k_is)
    (case a2 => k_is)
    (case l2 => k_is)
    (case c2 => k_is)
    (case k2 => k_is)
    (case a3 => k_is)
    (case l3 => k_is)
    (case c3 => k_is)
    (case k3 => k_is)
    (case a4 => k_is)
    (case l4 => k_is)
    (case c4 => k_is)
    (case k4 => k_is)
    (case a5 => k_is)
    (case l5 => k_is)
    (case c5 => k_is)
    (case k5 => k_is)
    (case a6 => k_is)
    (case l6 => k_is)
    (case c6 => k_is)
    (case k6 => k_is)
    (case a7 => k_is)
    (case l7 => k_is)
    (case c7 => k_is)
    (case k7 => k_is)
    (case q0 => k_is)
    (case q1 => k_is)
    (case z0 => k_is)
    (case z1 => k_is)
    (case z2 => k_is)
    (case z3 => k_is)
    (case z4 => k_is)
    (case z5 => k_is)
    (case z6 => k_is)
