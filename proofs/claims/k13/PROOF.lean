import PyProof.Rows.All
import Wide.All
import OpenK.AllK
import Wide.FinOn
import HandS.ForMost
import HandS.ForExc
import HandS.IsInst
import HandS.More
import HandS.Conv
import HandS.TupAny
import HandS.Zip
import KE.DataMinMax
import KE.SortData
import HandS.FStr
import HandS.Text
import HandS.StrMore
import HandS.WrittenGet
import HandS.Iter
import PySem.Challenge.RW_jumpsay_k13_asked_again
set_option Elab.async false
set_option linter.all false
set_option maxRecDepth 100000
set_option maxHeartbeats 4000000
namespace J
open PySem L2
/-! ### heaps -/
theorem sm_new {H : Hp} {p : Addr} (h : H p = none) (o : HO) : Same H (upd H p o) := fun b u q => by
  rw [upd_ne (ne_of_none q h)]
  exact q
theorem sm_ap {H H' : Hp} {b : Addr} {o : HO} (g : Same H H') (h : H b = some o) : H' b = some o := g _ _ h
theorem sm_l {K : PySem.W.Frag} {H H' : Hp} {a : Addr} {xs : List V} (g : Same H H') (h : SqL K H a xs) : SqL K H' a xs := g.seq h
theorem sm_t {K : PySem.W.Frag} {H H' : Hp} {a : Addr} {xs : List V} (e : Same H H') (h : SqT K H a xs) : SqT K H' a xs := by
  rcases h with (h | ⟨o, h⟩) | h
  · exact .inl (.inl (e _ _ h))
  · exact .inl (.inr ⟨o, e _ _ h⟩)
  · exact .inr h
theorem sm_tr {H H1 H2 : Hp} (b : Same H1 H2) (a : Same H H1) : Same H H2 := a.trans b
/-- the tuples stand -/
def Tups (H H' : Hp) : Prop := ∀ b xs, H b = some (.tup xs) → H' b = some (.tup xs)
theorem Same.tups {H H' : Hp} (g : Same H H') : Tups H H' := fun b xs h => g b _ h
theorem Tups.refl (H : Hp) : Tups H H := fun _ _ h => h
theorem Tups.trans {H H1 H2 : Hp} (a : Tups H H1) (b : Tups H1 H2) : Tups H H2 := fun c xs h => b c xs (a c xs h)
/-! ### what is new -/
def NewO (o : HO) (n : Nat) (H : Hp) (Q : VK) : Prop := n ≤ sizeLine ∧ ∀ p, H p = none → Q (.ref p) (upd H p o)
theorem l_new {o : HO} {n : Nat} {H : Hp} {Q : VK} (hn : n ≤ 100000) (h : ∀ (p : Addr) (H' : Hp), H p = none → Same H H' → H' p = some o → Q (.ref p) H') : NewO o n H Q :=
  ⟨Nat.le_trans hn (by decide), fun p hp => h p _ hp (sm_new hp o) upd_same⟩
/-! ### the readings, a step each -/
section
variable {K : PySem.W.Frag} {w : World} {σ : St} {H : Hp} {Q : VK} {QT : Bool → Hp → Prop} {QA : List V → Hp → Prop} {nx bk ct : St → Hp → Prop} {rt : VK} {ta tb tc te : TE} {t u : TT} {ts tu : TS} {g : TG} {r r' : R2} {x y v : V} {i j : Nat}
theorem l_seq (h : ts (Ends.mk (tu (Ends.mk nx rt bk ct)) rt bk ct) σ H) : tSeq ts tu (Ends.mk nx rt bk ct) σ H := h
theorem l_next (h : nx σ H) : tNext (Ends.mk nx rt bk ct) σ H := h
theorem l_brk (h : bk σ H) : tBreak (Ends.mk nx rt bk ct) σ H := h
theorem l_cnt (h : ct σ H) : tCont (Ends.mk nx rt bk ct) σ H := h
theorem l_asg (h : te σ H fun x H1 => g x σ H1 nx) : tAsg te g (Ends.mk nx rt bk ct) σ H := h
theorem l_drop (h : te σ H fun _ H1 => nx σ H1) : tDrop te (Ends.mk nx rt bk ct) σ H := h
theorem l_ret (h : te σ H rt) : tRet te (Ends.mk nx rt bk ct) σ H := h
theorem l_retN (h : rt .non H) : tRetN (Ends.mk nx rt bk ct) σ H := h
theorem l_ifS (h : t σ H fun b H1 => if b = true then ts (Ends.mk nx rt bk ct) σ H1 else tu (Ends.mk nx rt bk ct) σ H1) : tIfS t ts tu (Ends.mk nx rt bk ct) σ H := h
theorem l_name {QS : St → Hp → Prop} (h : QS (σ.set i (some v)) H) : gName i v σ H QS := h
theorem l_var (e : σ[i]? = some (some v)) (h : Q v H) : tVar i σ H Q := ⟨v, e, h⟩
theorem l_c (h : Q v H) : tC v σ H Q := h
theorem l_op (h : ta σ H fun x H1 => tb σ H1 fun y H2 => r x y H2 Q) : tOp r ta tb σ H Q := h
theorem l_un {ru : V → Hp → VK → Prop} (h : ta σ H fun x H1 => ru x H1 Q) : tUn ru ta σ H Q := h
theorem l_I0 {f : Int → Int → V} {a b : Int} (h : Q (f a b) H) : rI0 f (.int a) (.int b) H Q := ⟨a, b, rfl, rfl, h⟩
theorem l_I {C : Int → Int → Prop} {f : Int → Int → V} {a b : Int} (c : C a b) (h : Q (f a b) H) : rI C f (.int a) (.int b) H Q := ⟨a, b, rfl, rfl, c, h⟩
theorem l_U {f : Int → V} {a : Int} (h : Q (f a) H) : rU f (.int a) H Q := ⟨a, rfl, h⟩
theorem l_eq (e : scal x y = true) (h : Q (.bl (decide (x = y))) H) : rEq x y H Q := ⟨e, h⟩
theorem l_ne (e : scal x y = true) (h : Q (.bl (!decide (x = y))) H) : rNe x y H Q := ⟨e, h⟩
theorem l_ixT {p : Addr} {xs : List V} {k : Int} (ht : SqT K H p xs) (ha : atI xs k = some v) (h : Q v H) : rIxT K (.ref p) (.int k) H Q := ⟨p, xs, k, v, rfl, rfl, ht, ha, h⟩
theorem l_ixL {p : Addr} {xs : List V} {k : Int} (ht : SqL K H p xs) (ha : atI xs k = some v) (h : Q v H) : rIxL K (.ref p) (.int k) H Q := ⟨p, xs, k, v, rfl, rfl, ht, ha, h⟩
theorem l_test (h : te σ H fun x H' => ∃ k, x = .bl k ∧ QT k H') : tTest te σ H QT := h
theorem l_tB (h : te σ H fun x H' => ∃ k, x = .bl k ∧ QT k H') : tB te σ H QT := h
theorem l_bl {k : Bool} {G : Bool → Prop} (h : G k) : ∃ c, V.bl k = .bl c ∧ G c := ⟨k, rfl, h⟩
theorem l_and (h : t σ H fun c H1 => if c = true then u σ H1 QT else QT false H1) : tAnd t u σ H QT := h
theorem l_or (h : t σ H fun c H1 => if c = true then QT true H1 else u σ H1 QT) : tOr t u σ H QT := h
theorem l_not (h : t σ H fun c H1 => QT (!c) H1) : tNot t σ H QT := h
theorem l_andV (h : ta σ H fun x H1 => ∃ c, x = .bl c ∧ if c = true then tb σ H1 Q else Q (.bl false) H1) : tAndV ta tb σ H Q := h
theorem l_orV (h : ta σ H fun x H1 => ∃ c, x = .bl c ∧ if c = true then Q (.bl true) H1 else tb σ H1 Q) : tOrV ta tb σ H Q := h
theorem l_notV (h : ta σ H fun x H1 => ∃ c, x = .bl c ∧ Q (.bl (!c)) H1) : tNotV ta σ H Q := h
theorem l_if (h : t σ H fun c H1 => if c = true then ta σ H1 Q else tb σ H1 Q) : tIf t ta tb σ H Q := h
theorem l_chain (h : ta σ H fun x H1 => tb σ H1 fun y H2 => r x y H2 fun z H3 => ∃ k, z = .bl k ∧ (if k = true then tc σ H3 fun w' H4 => r' y w' H4 Q else Q (.bl false) H3)) : tChain r r' ta tb tc σ H Q := h
theorem l_nil (h : QA [] H) : tNil σ H QA := h
theorem l_cons {tr : TA} (h : te σ H fun x H1 => tr σ H1 fun xs H2 => QA (x :: xs) H2) : tCons te tr σ H QA := h
theorem l_tup {tr : TA} (h : tr σ H fun xs H1 => NewO (.tup xs) xs.length H1 Q) : tTup tr σ H Q := h
theorem l_lst {tr : TA} (h : tr σ H fun xs H1 => NewO (.lst xs) xs.length H1 Q) : tLst tr σ H Q := h
theorem l_CB {rc : List V → Hp → VK → Prop} {tr : TA} (h : tr σ H fun xs H1 => rc xs H1 Q) : tCB rc tr σ H Q := h
theorem l_call {sp : Sp} {E : XK} {tr : TA} (h : tr σ H fun vs H1 => sp vs H1 Q E) : tCall sp [] E tr σ H Q := by
  have e : (fun (vs : List V) (H1 : Hp) => sp (vs ++ []) H1 Q E) = fun vs H1 => sp vs H1 Q E := by
    funext vs H1
    rw [List.append_nil]
  show tr σ H (fun vs H1 => sp (vs ++ []) H1 Q E)
  rw [e]
  exact h
theorem l_bm {T : String} {rm : V → List V → Hp → VK → Prop} {tr : TA} (h : ta σ H fun x H1 => tyV K T x H1 ∧ tr σ H1 fun xs H2 => rm x xs H2 Q) : tBM K T rm ta tr σ H Q := h
theorem l_bm0 {T : String} {rm : V → List V → Hp → VK → Prop} (h : ta σ H fun x H1 => tyV K T x H1 ∧ rm x [] H1 Q) : tBM0 K T rm ta σ H Q := h
theorem l_sl {rs : V → Option Int → Option Int → Hp → VK → Prop} {tl th : TO} (h : te σ H fun x H1 => tl σ H1 fun l H2 => th σ H2 fun u H3 => rs x l u H3 Q) : tSl rs te tl th σ H Q := h
theorem l_noPart {QO : Option Int → Hp → Prop} (h : QO none H) : tNoPart σ H QO := h
theorem l_part {QO : Option Int → Hp → Prop} (h : te σ H fun x H1 => ∃ k, x = .int k ∧ QO (some k) H1) : tPart te σ H QO := h
theorem l_isInt {G : Int → Prop} {k : Int} (h : G k) : ∃ c, V.int k = .int c ∧ G c := ⟨k, rfl, h⟩
theorem l_slT {p : Addr} {xs : List V} {lo hi : Option Int} (ht : SqT K H p xs) (hw : ¬ (HT.sIx xs.length 0 lo = 0 ∧ HT.sIx xs.length xs.length hi = xs.length)) (h : ∀ (q : Addr) (H' : Hp), H q = none → Same H H' → H' q = some (.tup (cutV xs lo hi)) → Q (.ref q) H') : rSlT K (.ref p) lo hi H Q :=
  ⟨p, xs, rfl, ht, hw, fun q hq => h q _ hq (sm_new hq _) upd_same⟩
theorem l_slL {p : Addr} {xs : List V} {lo hi : Option Int} (ht : SqL K H p xs) (h : ∀ (q : Addr) (H' : Hp), H q = none → Same H H' → H' q = some (.lst (cutV xs lo hi)) → Q (.ref q) H') : rSlL K (.ref p) lo hi H Q :=
  ⟨p, xs, rfl, ht, fun q hq => h q _ hq (sm_new hq _) upd_same⟩
theorem l_cat {p q : Addr} {xs ys : List V} (hp : H p = some (.lst xs)) (hq : H q = some (.lst ys)) (hn : xs.length + ys.length ≤ 100000) (h : ∀ (p' : Addr) (H' : Hp), H p' = none → Same H H' → H' p' = some (.lst (xs ++ ys)) → Q (.ref p') H') : rCat (.ref p) (.ref q) H Q :=
  ⟨p, q, xs, ys, rfl, rfl, hp, hq, Nat.le_trans hn (by decide), fun p' hp' => h p' _ hp' (sm_new hp' _) upd_same⟩
theorem l_in {neg : Bool} {p : Addr} {xs : List V} (ht : SqT K H p xs) (hx : flatV x = true) (ha : xs.all flatV = true) (h : Q (.bl (if neg then !inV x xs else inV x xs)) H) : rIn K neg x (.ref p) H Q := ⟨p, xs, rfl, .inr ht, hx, ha, h⟩
theorem l_gtup {n : Nat} {tg : TGs} {p : Addr} {xs : List V} {QS : St → Hp → Prop} (ht : SqT K H p xs) (hn : xs.length = n) (h : tg xs σ H QS) : gTup K n tg (.ref p) σ H QS := ⟨p, xs, rfl, ht, hn, h⟩
theorem l_gnil {QS : St → Hp → Prop} (h : QS σ H) : gNil [] σ H QS := ⟨rfl, h⟩
theorem l_gcons {tg : TG} {tgs : TGs} {vs : List V} {QS : St → Hp → Prop} (h : tg v σ H fun σ' H' => tgs vs σ' H' QS) : gCons tg tgs (v :: vs) σ H QS := ⟨v, vs, rfl, h⟩
theorem l_gsub {to ti : TE} {tset : TSet} {QS : St → Hp → Prop} (h : to σ H fun o H1 => ti σ H1 fun k H2 => tset o k v H2 fun H3 => QS σ H3) : gSub to ti tset v σ H QS := h
/-! tests that are known -/
theorem i_t {A B : Prop} {b : Bool} (e : b = true) (h : A) : if b = true then A else B := by
  rw [if_pos e]
  exact h
theorem i_f {A B : Prop} {b : Bool} (e : b = false) (h : B) : if b = true then A else B := by
  rw [if_neg (by rw [e]; exact Bool.false_ne_true)]
  exact h
theorem i_b {A B : Prop} {b : Bool} (h1 : b = true → A) (h2 : b = false → B) : if b = true then A else B := by
  cases b
  · rw [if_neg Bool.false_ne_true]
    exact h2 rfl
  · rw [if_pos rfl]
    exact h1 rfl
end
/-! named forms of the library's unnamed ones -/
def rLen (K : PySem.W.Frag) : List V → Hp → VK → Prop := fun xs H Q => ∃ p ys, xs = [.ref p] ∧ (SqL K H p ys ∨ SqT K H p ys) ∧ Q (.int ys.length) H
theorem call_rLen {X : Cx} : CallR X (.builtin "len") (rLen X.K) := call_len_seq
def rListOf (K : PySem.W.Frag) : List V → Hp → VK → Prop := fun xs H Q => ∃ p ys, xs = [.ref p] ∧ (SqL K H p ys ∨ SqT K H p ys) ∧ ∀ l, H l = none → Q (.ref l) (upd H l (.lst ys))
theorem call_rListOf {X : Cx} : CallR X (.type "list") (rListOf X.K) := call_list_of
def rTupleOf (K : PySem.W.Frag) : List V → Hp → VK → Prop := fun xs H Q => ∃ p ys, xs = [.ref p] ∧ ((SqL K H p ys ∧ ∀ l, H l = none → Q (.ref l) (upd H l (.tup ys))) ∨ (SqT K H p ys ∧ Q (.ref p) H))
theorem call_rTupleOf {X : Cx} : CallR X (.type "tuple") (rTupleOf X.K) := call_tuple_of
def rInt1 : List V → Hp → VK → Prop := fun xs H Q => (∃ i, xs = [.int i] ∧ Q (.int i) H) ∨ ∃ k, xs = [.bl k] ∧ Q (.int (if k then 1 else 0)) H
theorem call_rInt1 {X : Cx} : CallR X (.type "int") rInt1 := call_int1
section
variable {K : PySem.W.Frag} {w : World} {σ : St} {H : Hp} {Q : VK} {p : Addr} {xs : List V}
theorem l_lenT (h : SqT K H p xs) (q : Q (.int xs.length) H) : rLen K [.ref p] H Q := ⟨p, xs, rfl, .inr h, q⟩
theorem l_lenL (h : SqL K H p xs) (q : Q (.int xs.length) H) : rLen K [.ref p] H Q := ⟨p, xs, rfl, .inl h, q⟩
theorem l_listL (h : SqL K H p xs) (q : ∀ (l : Addr) (H' : Hp), H l = none → Same H H' → H' l = some (.lst xs) → Q (.ref l) H') : rListOf K [.ref p] H Q := ⟨p, xs, rfl, .inl h, fun l hl => q l _ hl (sm_new hl _) upd_same⟩
theorem l_tupleL (h : SqL K H p xs) (q : ∀ (l : Addr) (H' : Hp), H l = none → Same H H' → H' l = some (.tup xs) → Q (.ref l) H') : rTupleOf K [.ref p] H Q := ⟨p, xs, rfl, .inl ⟨h, fun l hl => q l _ hl (sm_new hl _) upd_same⟩⟩
theorem l_intB {b : Bool} (q : Q (.int (if b then 1 else 0)) H) : rInt1 [.bl b] H Q := .inr ⟨b, rfl, q⟩
theorem l_intI {i : Int} (q : Q (.int i) H) : rInt1 [.int i] H Q := .inl ⟨i, rfl, q⟩
theorem l_sum {ns : List Int} (h : SqL K H p (ns.map V.int)) (q : Q (.int ns.sum) H) : rSum K [.ref p] H Q := ⟨p, ns, rfl, h, q⟩
theorem l_all {bs : List Bool} (h : SqL K H p (bs.map V.bl)) (q : Q (.bl (bs.all id)) H) : rAll K [.ref p] H Q := ⟨p, bs, rfl, h, q⟩
theorem l_isi {x c : V} {t u : Value} {b : Bool} (hc : ClsV c u) (ht : TyX K H x t) (hk : PySem.W.kitOne K t u = some b) (q : Q (.bl b) H) : rIsi K [x, c] H Q := ⟨x, c, t, u, b, rfl, hc, ht, hk, q⟩
theorem ty_tup (h : H p = some (.tup xs)) : TyX K H (.ref p) (.type "tuple") := .base (.tup h)
theorem ty_lst (h : H p = some (.lst xs)) : TyX K H (.ref p) (.type "list") := .base (.lst h)
theorem ty_int {i : Int} : TyX K H (.int i) (.type "int") := .base (.int i)
theorem ty_bl {i : Bool} : TyX K H (.bl i) (.type "bool") := .base (.bl i)
theorem ty_str {i : Str} : TyX K H (.str i) (.type "str") := .base (.str i)
theorem ty_non : TyX K H .non (.type "NoneType") := .base .non
theorem l_ixD {a : Addr} {z : Str} {v : V} (h : KDct K w a z v) (q : Q v H) : rIxD K w (.ref a) (.str z) H Q := ⟨a, z, v, rfl, rfl, h, q⟩
end
/-! more named forms -/
def rAddStr : R2 := fun x y H Q => ∃ i j, x = .str i ∧ y = .str j ∧ i.length + j.length ≤ sizeLine ∧ Q (.str (i ++ j)) H
def rIsNone : R2 := fun x y H Q => y = .non ∧ Q (.bl (decide (x = .non))) H
def rNotNone : R2 := fun x y H Q => y = .non ∧ Q (.bl (!decide (x = .non))) H
def rInStr : R2 := fun x y H Q => ∃ i j, x = .str i ∧ y = .str j ∧ Q (.bl (!(Builtin.Str.occurrences j i 0 j.length 1).isEmpty)) H
def rNotInStr : R2 := fun x y H Q => ∃ i j, x = .str i ∧ y = .str j ∧ Q (.bl (!(!(Builtin.Str.occurrences j i 0 j.length 1).isEmpty))) H
def rLenStr : List V → Hp → VK → Prop := fun xs H Q => ∃ z, xs = [.str z] ∧ z.length ≤ sizeLine ∧ Q (.int z.length) H
theorem l_isNone {x : V} {H : Hp} {Q : VK} (h : Q (.bl (decide (x = .non))) H) : rIsNone x .non H Q := ⟨rfl, h⟩
theorem l_notNone {x : V} {H : Hp} {Q : VK} (h : Q (.bl (!decide (x = .non))) H) : rNotNone x .non H Q := ⟨rfl, h⟩
/-! loops and comprehensions -/
theorem sm_mut {H H' : Hp} {p : Addr} {o : HO} (e : Same H H') (h : H p = none) : Same H (upd H' p o) := fun a u ha => by
  rw [upd_ne (ne_of_none ha h)]
  exact e a u ha
theorem take_snoc {α : Type} {l : List α} {i : Nat} {x : α} (h : l[i]? = some x) : l.take (i + 1) = l.take i ++ [x] := by
  rw [List.take_add_one, h]
  rfl
def LcB (g : TG) (tt : TT) (te : TE) (vs : List Nat) (σ : St) (Q : VK) : It → Hp → Prop := fun J H1 => ∀ D, H1 D = none → ∃ W : Nat → Nat → Hp → Prop, (∃ m, W 0 m (upd H1 D (.lst []))) ∧ ∀ i m H, W i m H →
  (J.stop i H ∧ Q (.ref D) H) ∨ (J.go i H ∧ ∃ Nx : Hp → Prop, (∀ H', Nx H' → ∃ m', m' < m ∧ W (i + 1) m' H') ∧ ∀ x H', J.yld i H x H' → g x (wipe σ vs) H' fun σ2 H2 => wipe σ2 vs = wipe σ vs ∧ tt σ2 H2 fun b H3 =>
    if b = true then te σ2 H3 fun y H4 => ∃ acc, H4 D = some (.lst acc) ∧ acc.length < sizeLine ∧ Nx (upd H4 D (.lst (acc ++ [y]))) else Nx H3)
def ForB (g : TG) (tb : TS) (D : Ends) (σ0 : St) : It → Hp → Prop := fun J H1 => ∃ W : Nat → Nat → St → Hp → Prop, (∃ m, W 0 m σ0 H1) ∧ ∀ i m σ H, W i m σ H →
  (J.stop i H ∧ D.nx σ H) ∨ (J.go i H ∧ ∃ N : St → Hp → Prop, (∀ σ' H', N σ' H' → ∃ m', m' < m ∧ W (i + 1) m' σ' H') ∧ ∀ x H', J.yld i H x H' → g x σ H' fun σ2 H2 => tb { D with nx := N, ct := N, bk := D.nx } σ2 H2)
def IT (K : PySem.W.Frag) (x : V) (H : Hp) (R : It → Hp → Prop) : Prop := ∃ a, x = .ref a ∧ (∃ xs, SqT K H a xs) ∧ R (Itt K a) H
def IL (K : PySem.W.Frag) (x : V) (H : Hp) (R : It → Hp → Prop) : Prop := ∃ a, x = .ref a ∧ (∃ xs, SqL K H a xs) ∧ R (Itl K a) H
def IR1 (vs : List V) (H : Hp) (R : It → Hp → Prop) : Prop := ∃ j : Int, vs = [.int j] ∧ -(2 ^ 62) ≤ j ∧ j < 2 ^ 62 ∧ R (Itr 0 j.toNat) H
def IR2 (vs : List V) (H : Hp) (R : It → Hp → Prop) : Prop := ∃ i j : Int, vs = [.int i, .int j] ∧ (-(2 ^ 62) ≤ i ∧ i < 2 ^ 62 ∧ -(2 ^ 62) ≤ j ∧ j < 2 ^ 62) ∧ R (Itr i (j - i).toNat) H
section
variable {K : PySem.W.Frag} {w : World} {σ : St} {H : Hp} {Q : VK} {nx bk ct : St → Hp → Prop} {rt : VK} {te tl : TE} {tt : TT} {tb : TS} {g : TG} {j : Nat} {vs : List Nat} {ta : TA} {wi : TI} {R : It → Hp → Prop} {D : Ends}
theorem l_lc (h : wi σ H (LcB g tt te vs σ Q)) : tLc wi g tt te vs σ H Q := h
theorem l_for (h : wi σ H (ForB g tb D σ)) : tFor wi g tb D σ H := h
theorem l_iTup (h : tl σ H fun x H1 => IT K x H1 R) : iTup K tl σ H R := h
theorem l_iList (h : tl σ H fun x H1 => IL K x H1 R) : iList K tl σ H R := h
theorem l_iRng1 (h : ta σ H fun vs H1 => IR1 vs H1 R) : iRng1 ta σ H R := h
theorem l_iRng2 (h : ta σ H fun vs H1 => IR2 vs H1 R) : iRng2 ta σ H R := h
/-- [e for x in ..], every item's value known, nothing that was known changes: the turns -/
def LcTurns (te : TE) (vs : List Nat) (σ : St) (j : Nat) (H1 : Hp) (xs ys : List V) : Prop :=
  ys.length = xs.length ∧ ∀ (i : Nat) (x y : V) H' (Q' : VK), xs[i]? = some x → ys[i]? = some y → Same H1 H' → (∀ H'', Same H' H'' → Q' y H'') → te ((wipe σ vs).set j (some x)) H' Q'
theorem lc_turn {te : TE} {vs : List Nat} {σ : St} {j : Nat} {H1 : Hp} {xs ys : List V} {D : Addr} (hD : H1 D = none) (hl : xs.length ≤ 100000) (h : LcTurns te vs σ j H1 xs ys) {i : Nat} {x : V} {H' : Hp} (hx : xs[i]? = some x)
    (p : Same H1 H' ∧ H' D = some (.lst (ys.take i))) :
    te ((wipe σ vs).set j (some x)) H' fun y H4 => ∃ acc, H4 D = some (.lst acc) ∧ acc.length < sizeLine ∧ (Same H1 (upd H4 D (.lst (acc ++ [y]))) ∧ upd H4 D (.lst (acc ++ [y])) D = some (.lst (ys.take (i + 1)))) := by
  have hi := (List.getElem?_eq_some_iff.mp hx).1
  have hy : ∃ y, ys[i]? = some y := ⟨ys[i]'(by rw [h.1]; exact hi), List.getElem?_eq_getElem _⟩
  obtain ⟨y, hy⟩ := hy
  refine h.2 i x y H' _ hx hy p.1 fun H'' g => ?_
  refine ⟨ys.take i, g _ _ p.2, ?_, sm_mut (p.1.trans g) hD, ?_⟩
  · rw [List.length_take]
    exact Nat.lt_of_le_of_lt (Nat.le_trans (Nat.min_le_left _ _) (Nat.le_trans (Nat.le_of_lt hi) hl)) (by decide)
  · rw [upd_same, take_snoc hy]
theorem lcT {a : Addr} {xs ys : List V} (hw : ∀ x, wipe ((wipe σ vs).set j (some x)) vs = wipe σ vs) (ht : SqT K H a xs) (hl : xs.length ≤ 100000) (h : LcTurns te vs σ j H xs ys) (q : ∀ D H2, H D = none → Same H H2 → H2 D = some (.lst ys) → Q (.ref D) H2) :
    IT K (.ref a) H (LcB (gName j) tYes te vs σ Q) :=
  ⟨a, rfl, ⟨xs, ht⟩, fun D hD => lc_tup (K := K) (a := a) (xs := xs) (fun i H' => Same H H' ∧ H' D = some (.lst (ys.take i))) ⟨sm_new hD _, upd_same⟩ (fun i H' _ p => sm_t p.1 ht)
    (fun i x H' hx p => ⟨hw x, lc_turn hD hl h hx p⟩) fun H' p => q D H' hD p.1 (by have e := p.2; rw [← h.1, List.take_length] at e; exact e)⟩
theorem lcL {a : Addr} {xs ys : List V} (hw : ∀ x, wipe ((wipe σ vs).set j (some x)) vs = wipe σ vs) (ht : SqL K H a xs) (hl : xs.length ≤ 100000) (h : LcTurns te vs σ j H xs ys) (q : ∀ D H2, H D = none → Same H H2 → H2 D = some (.lst ys) → Q (.ref D) H2) :
    IL K (.ref a) H (LcB (gName j) tYes te vs σ Q) :=
  ⟨a, rfl, ⟨xs, ht⟩, fun D hD => lc_list (K := K) (a := a) (xs := xs) (fun i H' => Same H H' ∧ H' D = some (.lst (ys.take i))) ⟨sm_new hD _, upd_same⟩ (fun i H' _ p => sm_l p.1 ht)
    (fun i x H' hx p => ⟨hw x, lc_turn hD hl h hx p⟩) fun H' p => q D H' hD p.1 (by have e := p.2; rw [← h.1, List.take_length] at e; exact e)⟩
/-- over range(n) -/
def irs (n : Nat) : List V := (List.range n).map vI where vI (i : Nat) : V := .int (0 + (i : Int))
theorem irs_at {n i : Nat} (h : i < n) : (irs n)[i]? = some (.int (0 + (i : Int))) := by
  unfold irs
  rw [List.getElem?_map, List.getElem?_range h]
  rfl
theorem lcR {n : Nat} {ys : List V} (hw : ∀ x, wipe ((wipe σ vs).set j (some x)) vs = wipe σ vs) (hl : n ≤ 100000) (h : LcTurns te vs σ j H (irs n) ys) (q : ∀ D H2, H D = none → Same H H2 → H2 D = some (.lst ys) → Q (.ref D) H2) :
    IR1 [.int (n : Int)] H (LcB (gName j) tYes te vs σ Q) := by
  have hz : (irs n).length = n := by unfold irs; rw [List.length_map, List.length_range]
  refine ⟨(n : Int), rfl, ?_, ?_, ?_⟩
  · have : (0 : Int) ≤ 2 ^ 62 := by decide
    omega
  · have : (100000 : Int) < 2 ^ 62 := by decide
    omega
  · intro D hD
    rw [Int.toNat_natCast]
    refine lc_range (lo := 0) (n := n) (fun i H' => Same H H' ∧ H' D = some (.lst (ys.take i))) ⟨sm_new hD _, upd_same⟩ (fun i H' hi p => ⟨hw _, ?_⟩) fun H' p => q D H' hD p.1 ?_
    · exact lc_turn (xs := irs n) hD (by rw [hz]; exact hl) h (irs_at hi) p
    · have e := p.2
      rw [← hz, ← h.1, List.take_length] at e
      exact e
/-! for -/
theorem forT {a : Addr} {xs : List V} (Pv : Nat → St → Hp → Prop) (h0 : Pv 0 σ H) (hx : SqT K H a xs) (hl : ∀ i σ' H', i ≤ xs.length → Pv i σ' H' → SqT K H' a xs) (hs : ∀ i x σ' H', xs[i]? = some x → Pv i σ' H' → g x σ' H' fun σ2 H2 => tb (Ends.mk (Pv (i + 1)) rt nx (Pv (i + 1))) σ2 H2) (hd : ∀ σ' H', Pv xs.length σ' H' → nx σ' H') :
    IT K (.ref a) H (ForB g tb (Ends.mk nx rt bk ct) σ) := ⟨a, rfl, ⟨xs, hx⟩, for_tup (D := Ends.mk nx rt bk ct) Pv h0 hl hs hd⟩
theorem forL {a : Addr} {xs : List V} (Pv : Nat → St → Hp → Prop) (h0 : Pv 0 σ H) (hx : SqL K H a xs) (hl : ∀ i σ' H', i ≤ xs.length → Pv i σ' H' → SqL K H' a xs) (hs : ∀ i x σ' H', xs[i]? = some x → Pv i σ' H' → g x σ' H' fun σ2 H2 => tb (Ends.mk (Pv (i + 1)) rt nx (Pv (i + 1))) σ2 H2) (hd : ∀ σ' H', Pv xs.length σ' H' → nx σ' H') :
    IL K (.ref a) H (ForB g tb (Ends.mk nx rt bk ct) σ) := ⟨a, rfl, ⟨xs, hx⟩, for_list (D := Ends.mk nx rt bk ct) Pv h0 hl hs hd⟩
theorem forR {n : Nat} (hn : n ≤ 100000) (Pv : Nat → St → Hp → Prop) (h0 : Pv 0 σ H) (hs : ∀ i σ' H', i < n → Pv i σ' H' → g (.int (0 + (i : Int))) σ' H' fun σ2 H2 => tb (Ends.mk (Pv (i + 1)) rt nx (Pv (i + 1))) σ2 H2) (hd : ∀ σ' H', Pv n σ' H' → nx σ' H') :
    IR1 [.int (n : Int)] H (ForB g tb (Ends.mk nx rt bk ct) σ) := by
  refine ⟨(n : Int), rfl, ?_, ?_, ?_⟩
  · have : (0 : Int) ≤ 2 ^ 62 := by decide
    omega
  · have : (100000 : Int) < 2 ^ 62 := by decide
    omega
  · rw [Int.toNat_natCast]
    exact for_range (D := Ends.mk nx rt bk ct) (lo := 0) (n := n) Pv h0 hs hd
/-- while -/
theorem l_while {t : TT} (Pv : St → Hp → Prop) (μ : St → Hp → Nat) (h0 : Pv σ H) (hs : ∀ σ' H', Pv σ' H' → t σ' H' fun b H1 => if b = true then tb (Ends.mk (fun σ2 H2 => Pv σ2 H2 ∧ μ σ2 H2 < μ σ' H') rt nx (fun σ2 H2 => Pv σ2 H2 ∧ μ σ2 H2 < μ σ' H')) σ' H1 else nx σ' H1)
    (hm : ∀ (σ : St) (H : Hp) (Q Q' : Bool → Hp → Prop), (∀ (b : Bool) (H1 : Hp), Q b H1 → Q' b H1) → t σ H Q → t σ H Q') :
    tWhile t tb (Ends.mk nx rt bk ct) σ H := while_by (D := Ends.mk nx rt bk ct) Pv μ h0 hs hm
end
section
variable {K : PySem.W.Frag} {w : World} {σ : St} {H : Hp} {Q : VK} {p : Addr} {xs : List V}
theorem l_ty {G : Prop} (h : SqL K H p xs) (q : G) : tyV K "list" (.ref p) H ∧ G := ⟨Or.inl ⟨rfl, _, h⟩, q⟩
theorem l_append {y : V} (h : H p = some (.lst xs)) (hn : xs.length < 100000) (q : Q .non (upd H p (.lst (xs ++ [y])))) : rAppend (.ref p) [y] H Q := ⟨p, xs, y, rfl, rfl, h, Nat.lt_of_lt_of_le hn (by decide), q⟩
theorem l_setL {k : Int} {i : Nat} {y : V} {Q' : Hp → Prop} (h : H p = some (.lst xs)) (hk : ixN xs.length k = some i) (q : Q' (upd H p (.lst (xs.set i y)))) : rSetL (.ref p) (.int k) y H Q' := ⟨p, xs, k, i, rfl, rfl, h, hk, q⟩
theorem l_max {ns : List Int} (h : SqL K H p (ns.map V.int)) (hn : 0 < ns.length) (q : ∀ m, m ∈ ns → (∀ y, y ∈ ns → y ≤ m) → Q (.int m) H) : rMax K [.ref p] H Q := ⟨p, ns, rfl, h, hn, q⟩
theorem l_pop0 {x : V} (h : H p = some (.lst (x :: xs))) (q : Q x (upd H p (.lst xs))) : rPopAt (.ref p) [.int 0] H Q :=
  ⟨p, x :: xs, 0, 0, x, rfl, rfl, h, by decide, by decide, by
    unfold seqIndex?
    simp, rfl, q⟩
theorem l_eqD {x y : V} {d e : PyData} (hx : Dp K H x d) (hy : Dp K H y e) (s1 : SeqAt.shaped d = true) (s2 : SeqAt.shaped e = true) (q : Q (.bl (PyData.eqv d e)) H) : rEqD K x y H Q := ⟨d, e, hx, hy, s1, s2, q⟩
theorem l_neD {x y : V} {d e : PyData} (hx : Dp K H x d) (hy : Dp K H y e) (s1 : SeqAt.shaped d = true) (s2 : SeqAt.shaped e = true) (q : Q (.bl (!PyData.eqv d e)) H) : rNeD K x y H Q := ⟨d, e, hx, hy, s1, s2, q⟩
end
theorem ix0 {n : Nat} (h : 0 < n) : ixN n 0 = some 0 := by
  unfold ixN
  rw [if_pos (Int.le_refl 0), if_pos (by omega)]
  rfl
theorem at0 {α : Type} {x : α} {xs : List α} : atI (x :: xs) 0 = some x := by
  unfold atI
  rw [ix0 (by simp)]
  rfl
theorem ixNat {n i : Nat} (h : i < n) : ixN n (i : Int) = some i := by
  unfold ixN
  rw [if_pos (by omega), if_pos (by omega)]
  rfl
/-! while, by a measure -/
def WB (W : Nat → St → Hp → Prop) (m : Nat) (tb : TS) (rt : VK) (nx : St → Hp → Prop) (σ : St) : Bool → Hp → Prop := fun b H1 =>
  if b = true then ∃ N : St → Hp → Prop, (∀ σ' H', N σ' H' → ∃ m', m' < m ∧ W m' σ' H') ∧ tb (Ends.mk N rt nx N) σ H1 else nx σ H1
theorem l_whileN {t : TT} {tb : TS} {σ : St} {H : Hp} {nx bk ct : St → Hp → Prop} {rt : VK} (W : Nat → St → Hp → Prop) (m0 : Nat) (h0 : W m0 σ H) (hs : ∀ m σ' H', W m σ' H' → t σ' H' (WB W m tb rt nx σ')) : tWhile t tb (Ends.mk nx rt bk ct) σ H := ⟨W, ⟨m0, h0⟩, hs⟩
theorem wb {W : Nat → St → Hp → Prop} {m : Nat} {tb : TS} {rt : VK} {nx : St → Hp → Prop} {σ : St} {b : Bool} {H1 : Hp} (h1 : b = true → tb (Ends.mk (fun σ2 H2 => ∃ m', m' < m ∧ W m' σ2 H2) rt nx (fun σ2 H2 => ∃ m', m' < m ∧ W m' σ2 H2)) σ H1) (h2 : b = false → nx σ H1) : WB W m tb rt nx σ b H1 := by
  cases b
  · exact i_f rfl (h2 rfl)
  · exact i_t rfl ⟨_, fun _ _ h => h, h1 rfl⟩
/-- [e for i in range(n) if t], t never true -/
theorem lcR_none {σ : St} {H : Hp} {Q : VK} {te : TE} {tt : TT} {j n : Nat} {vs : List Nat} (hw : ∀ x, wipe ((wipe σ vs).set j (some x)) vs = wipe σ vs) (hl : n ≤ 100000)
    (h : ∀ (i : Nat) H' (Q' : Bool → Hp → Prop), i < n → Same H H' → (∀ H'', Same H' H'' → Q' false H'') → tt ((wipe σ vs).set j (some (.int (0 + (i : Int))))) H' Q')
    (q : ∀ D H2, H D = none → Same H H2 → H2 D = some (.lst []) → Q (.ref D) H2) : IR1 [.int (n : Int)] H (LcB (gName j) tt te vs σ Q) := by
  refine ⟨(n : Int), rfl, ?_, ?_, ?_⟩
  · have : (0 : Int) ≤ 2 ^ 62 := by decide
    omega
  · have : (100000 : Int) < 2 ^ 62 := by decide
    omega
  · intro D hD
    rw [Int.toNat_natCast]
    refine lc_range (lo := 0) (n := n) (fun i H' => Same H H' ∧ H' D = some (.lst [])) ⟨sm_new hD _, upd_same⟩ (fun i H' hi p => ⟨hw _, ?_⟩) fun H' p => q D H' hD p.1 p.2
    refine h i H' _ hi p.1 fun H'' g => ?_
    exact i_f rfl ⟨p.1.trans g, g _ _ p.2⟩
theorem flat_one {α : Type} : ∀ (n : Nat) (x : α), (List.replicate n [x]).flatten = List.replicate n x
  | 0, _ => rfl
  | n + 1, x => by rw [List.replicate_succ, List.flatten_cons, flat_one n x]; rfl
theorem l_rep {p : Addr} {n : Nat} {x : V} {H : Hp} {Q : VK} (h : H p = some (.lst [x])) (hn : n ≤ 100000) (q : ∀ (l : Addr) (H' : Hp), H l = none → Same H H' → H' l = some (.lst (List.replicate n x)) → Q (.ref l) H') : rRep (.ref p) (.int (n : Int)) H Q := by
  have e : (List.replicate ((n : Int)).toNat [x]).flatten = List.replicate n x := by
    rw [Int.toNat_natCast]
    exact flat_one n x
  refine ⟨p, (n : Int), [x], rfl, rfl, h, ?_, ?_, ?_, fun l hl => ?_⟩
  · have : (-(2 ^ 63) : Int) < 0 := by decide
    omega
  · have : (100000 : Int) < 2 ^ 63 := by decide
    omega
  · rw [Int.toNat_natCast]
    exact Nat.le_trans (show 1 * n ≤ 100000 by omega) (by decide)
  · rw [e]
    exact q l _ hl (sm_new hl _) upd_same
end J

namespace J
open PySem L2
/-! conditions -/
inductive Cond where
  | look (i : Nat)
  | not (c : Cond)
  | bin (a : Bool) (l r : Cond)
  deriving DecidableEq
def wd : Bool → Str
  | true => "and"
  | false => "or"
def Cond.deep : Cond → Nat
  | .look _ => 0
  | .not c => c.deep + 1
  | .bin _ l r => max l.deep r.deep + 1
def Cond.looks : Cond → Nat
  | .look _ => 1
  | .not c => c.looks
  | .bin _ l r => l.looks + r.looks
def Cond.ok : Cond → Prop
  | .look i => i < 8
  | .not c => c.ok
  | .bin _ l r => l.ok ∧ r.ok
def vn (k : Nat) : V := .int (k : Int)
def bi (b : Bool) : Int := if b then 1 else 0
def vb (b : Bool) : V := .int (bi b)
/-- a condition at a value -/
inductive CA (H : Hp) : V → Cond → Prop
  | look {p : Addr} {i : Nat} : H p = some (.tup [.str "look", vn i]) → CA H (.ref p) (.look i)
  | not {p : Addr} {v : V} {c : Cond} : H p = some (.tup [.str "not", v]) → CA H v c → CA H (.ref p) (.not c)
  | bin {p : Addr} {a : Bool} {v u : V} {c d : Cond} : H p = some (.tup [.str (wd a), v, u]) → CA H v c → CA H u d → CA H (.ref p) (.bin a c d)
theorem CA.tups {H H' : Hp} (g : Tups H H') {v : V} {c : Cond} (h : CA H v c) : CA H' v c := by
  induction h with
  | look e => exact .look (g _ _ e)
  | not e _ ih => exact .not (g _ _ e) ih
  | bin e _ _ i1 i2 => exact .bin (g _ _ e) i1 i2
theorem CA.mono {H H' : Hp} (g : Same H H') {v : V} {c : Cond} (h : CA H v c) : CA H' v c := h.tups (Same.tups g)
/-- what a condition comes to, and the looks -/
def ev (ws : List Bool) : Cond → Bool × List Nat
  | .look i => (ws.getD i false, [i])
  | .not c => (!(ev ws c).1, (ev ws c).2)
  | .bin a l r => if (ev ws l).1 = a then ((ev ws r).1, (ev ws l).2 ++ (ev ws r).2) else ev ws l
theorem ev_len (ws : List Bool) (c : Cond) : (ev ws c).2.length ≤ c.looks := by
  induction c with
  | look i => exact Nat.le_refl _
  | not c ih => exact ih
  | bin a l r i1 i2 =>
    unfold ev Cond.looks
    split
    · simp only [List.length_append]; omega
    · omega
theorem looks_deep (c : Cond) : c.looks ≤ 2 ^ c.deep := by
  induction c with
  | look i => exact Nat.le_refl _
  | not c ih => exact Nat.le_trans ih (Nat.pow_le_pow_right (by decide) (Nat.le_succ _))
  | bin a l r i1 i2 =>
    unfold Cond.looks Cond.deep
    have h1 := Nat.pow_le_pow_right (n := 2) (by decide) (Nat.le_max_left l.deep r.deep)
    have h2 := Nat.pow_le_pow_right (n := 2) (by decide) (Nat.le_max_right l.deep r.deep)
    rw [Nat.pow_succ]; omega
theorem bi_not (b : Bool) : 1 - bi b = bi (!b) := by cases b <;> rfl
theorem at_map {α : Type} {f : α → V} {ws : List α} {i : Nat} {d : α} (h : i < ws.length) : atI (ws.map f) (i : Int) = some (f (ws.getD i d)) := by
  refine atI_nat ?_
  rw [List.getElem?_map, List.getD_eq_getElem?_getD, List.getElem?_eq_getElem h]
  rfl
/-- worths at a value -/
def WA (H : Hp) (v : V) (ws : List Bool) : Prop := ∃ a, v = .ref a ∧ H a = some (.tup (ws.map vb)) ∧ ws.length = 8
theorem WA.tups {H H' : Hp} (g : Tups H H') {v : V} {ws : List Bool} (h : WA H v ws) : WA H' v ws := by
  obtain ⟨a, e, q, l⟩ := h
  exact ⟨a, e, g _ _ q, l⟩
theorem WA.mono {H H' : Hp} (g : Same H H') {v : V} {ws : List Bool} (h : WA H v ws) : WA H' v ws := h.tups (Same.tups g)
/-- (a worth, things looked at): a tuple, with a list that is new -/
def Told (H H' : Hp) (v : V) (x : Bool × List Nat) : Prop := ∃ p l, v = .ref p ∧ H l = none ∧ H' p = some (.tup [vb x.1, .ref l]) ∧ H' l = some (.lst (x.2.map vn))
theorem told_mk {H H' : Hp} {p l : Addr} {x : Bool × List Nat} (hp : H' p = some (.tup [vb x.1, .ref l])) (hl : H' l = some (.lst (x.2.map vn))) (h0 : H l = none) : Told H H' (.ref p) x := ⟨p, l, rfl, h0, hp, hl⟩
def wts (n : Nat) : List Bool := [128, 64, 32, 16, 8, 4, 2, 1].map fun d => n / d % 2 == 1
end J

namespace J
open PySem L2
/-! data -/
theorem dp_ints {K : PySem.W.Frag} {H : Hp} : ∀ ns : List Int, DpAll K H (ns.map V.int) (ns.map PyData.int)
  | [] => .nil
  | n :: r => .cons (.int n) (dp_ints r)
theorem dp_vn {K : PySem.W.Frag} {H : Hp} : ∀ ns : List Nat, DpAll K H (ns.map vn) (ns.map fun (k : Nat) => PyData.int (k : Int))
  | [] => .nil
  | n :: r => .cons (.int n) (dp_vn r)
theorem lay_ints : ∀ ns : List Int, PyData.canLayAll0 (ns.map PyData.int) = true
  | [] => rfl
  | n :: r => by
    show (true && PyData.canLayAll0 (r.map PyData.int)) = true
    rw [lay_ints r]; rfl
theorem dep_ints : ∀ ns : List Int, PyData.depthAll (ns.map PyData.int) = 0
  | [] => rfl
  | n :: r => by
    show max _ (PyData.depthAll (r.map PyData.int)) = 0
    rw [dep_ints r]; rfl
theorem shaped_ints (ns : List Int) : SeqAt.shaped (.list (ns.map PyData.int)) = true := by
  show (PyData.canLayAll0 (ns.map PyData.int) && decide (PyData.depthAll (ns.map PyData.int) + 1 ≤ 64)) = true
  rw [lay_ints, dep_ints]; rfl
theorem lay_vn : ∀ ns : List Nat, PyData.canLayAll0 (ns.map fun (k : Nat) => PyData.int (k : Int)) = true
  | [] => rfl
  | n :: r => by
    show (true && PyData.canLayAll0 (r.map fun (k : Nat) => PyData.int (k : Int))) = true
    rw [lay_vn r]; rfl
theorem dep_vn : ∀ ns : List Nat, PyData.depthAll (ns.map fun (k : Nat) => PyData.int (k : Int)) = 0
  | [] => rfl
  | n :: r => by
    show max _ (PyData.depthAll (r.map fun (k : Nat) => PyData.int (k : Int))) = 0
    rw [dep_vn r]; rfl
theorem Dp.mono {K : PySem.W.Frag} {H H' : Hp} (g : Same H H') : ∀ {v : V} {d : PyData}, Dp K H v d → Dp K H' v d := by
  intro v d h
  refine Dp.rec (motive_1 := fun v d _ => Dp K H' v d) (motive_2 := fun vs ds _ => DpAll K H' vs ds) ?_ ?_ ?_ ?_ ?_ ?_ ?_ ?_ h
  · exact .non
  · intro b; exact .bl b
  · intro i; exact .int i
  · intro x; exact .str x
  · intro a xs ds hl _ ih; exact .lst (sm_l g hl) ih
  · intro a xs ds hl _ ih; exact .tup (sm_t g hl) ih
  · exact .nil
  · intro v vs d ds _ _ i1 i2; exact .cons i1 i2
/-! one object may change -/
def But (p : Addr) (H H' : Hp) : Prop := ∀ a o, a ≠ p → H a = some o → H' a = some o
theorem but_upd {H : Hp} {p : Addr} {o : HO} : But p H (upd H p o) := fun a u n h => by rw [upd_ne n]; exact h
theorem l_setL' {K : PySem.W.Frag} {H : Hp} {p : Addr} {xs : List V} {k : Int} {i : Nat} {y : V} {Q' : Hp → Prop} (h : H p = some (.lst xs)) (hk : ixN xs.length k = some i) (q : ∀ H', But p H H' → H' p = some (.lst (xs.set i y)) → Q' H') : rSetL (.ref p) (.int k) y H Q' := l_setL h hk (q _ but_upd upd_same)
theorem l_append' {H : Hp} {p : Addr} {xs : List V} {y : V} {Q : VK} (h : H p = some (.lst xs)) (hn : xs.length < 100000) (q : ∀ H', But p H H' → H' p = some (.lst (xs ++ [y])) → Q .non H') : rAppend (.ref p) [y] H Q := l_append h hn (q _ but_upd upd_same)
theorem l_pop0' {H : Hp} {p : Addr} {xs : List V} {x : V} {Q : VK} (h : H p = some (.lst (x :: xs))) (q : ∀ H', But p H H' → H' p = some (.lst xs) → Q x H') : rPopAt (.ref p) [.int 0] H Q := l_pop0 h (q _ but_upd upd_same)
/-! the box: [numbers, stirred] -/
structure Bx (H : Hp) (b l : Addr) (ns : List Int) (s : Int) : Prop where
  ne : b ≠ l
  hb : H b = some (.lst [.ref l, .int s])
  hl : H l = some (.lst (ns.map V.int))
  s0 : 0 ≤ s
  s1 : s < 2147483647
  n63 : ns.length ≤ 63
/-- all but the box stands -/
def Fr (b l : Addr) (H H' : Hp) : Prop := ∀ a o, a ≠ b → a ≠ l → H a = some o → H' a = some o
theorem Fr.of {b l : Addr} {H H' : Hp} (g : Same H H') : Fr b l H H' := fun a o _ _ h => g a o h
theorem Fr.b {b l : Addr} {H H' : Hp} (g : But b H H') : Fr b l H H' := fun a o n _ h => g a o n h
theorem Fr.l {b l : Addr} {H H' : Hp} (g : But l H H') : Fr b l H H' := fun a o _ n h => g a o n h
theorem Fr.refl {b l : Addr} (H : Hp) : Fr b l H H := fun _ _ _ _ h => h
theorem Fr.trans {b l : Addr} {H H1 H2 : Hp} (x : Fr b l H H1) (y : Fr b l H1 H2) : Fr b l H H2 := fun a o n m h => y a o n m (x a o n m h)
theorem Fr.at {b l a : Addr} {H H' : Hp} {o : HO} (g : Fr b l H H') (n : a ≠ b) (m : a ≠ l) (h : H a = some o) : H' a = some o := g a o n m h
theorem Bx.tups {H H' : Hp} {b l : Addr} {ns : List Int} {s : Int} (x : Bx H b l ns s) (g : Fr b l H H') : Tups H H' := fun a xs h => g a _ (ne_of h x.hb (by intro e; cases e)) (ne_of h x.hl (by intro e; cases e)) h
theorem Bx.same {H H' : Hp} {b l : Addr} {ns : List Int} {s : Int} (x : Bx H b l ns s) (g : Same H H') : Bx H' b l ns s := ⟨x.ne, g _ _ x.hb, g _ _ x.hl, x.s0, x.s1, x.n63⟩
/-! data of some height -/
def okd : Nat → PyData → Prop
  | 0, _ => False
  | n + 1, .list ds => ds.length ≤ 1000 ∧ ∀ x ∈ ds, okd n x
  | n + 1, .tuple ds => ds.length ≤ 1000 ∧ ∀ x ∈ ds, okd n x
  | _ + 1, .dict _ => False
  | _ + 1, _ => True
theorem DpAll.len {K : PySem.W.Frag} {H : Hp} : ∀ {xs : List V} {ds : List PyData}, DpAll K H xs ds → xs.length = ds.length
  | _, _, .nil => rfl
  | _, _, .cons _ t => by rw [List.length_cons, List.length_cons, DpAll.len t]
theorem DpAll.get {K : PySem.W.Frag} {H : Hp} : ∀ {xs : List V} {ds : List PyData} {i : Nat}, DpAll K H xs ds → i < ds.length → ∃ x d, xs[i]? = some x ∧ ds[i]? = some d ∧ Dp K H x d
  | _, _, _, .nil, h => absurd h (Nat.not_lt_zero _)
  | _, _, 0, .cons a _, _ => ⟨_, _, rfl, rfl, a⟩
  | _, _, i + 1, .cons _ t, h => by
    obtain ⟨x, d, h1, h2, h3⟩ := DpAll.get (i := i) t (Nat.lt_of_succ_lt_succ h)
    exact ⟨x, d, h1, h2, h3⟩
theorem ty_sqL {K : PySem.W.Frag} {H : Hp} {a : Addr} {xs : List V} (h : SqL K H a xs) : TyX K H (.ref a) (.type "list") := by
  rcases h with (h | ⟨o, h⟩) | ⟨o, its, n, h, c, _⟩
  · exact .base (.lst h)
  · exact .base (.frz h)
  · exact .kList h c
theorem ty_sqT {K : PySem.W.Frag} {H : Hp} {a : Addr} {xs : List V} (h : SqT K H a xs) : TyX K H (.ref a) (.type "tuple") := by
  rcases h with (h | ⟨o, h⟩) | ⟨o, its, n, h, c, _⟩
  · exact .base (.tup h)
  · exact .fTuple h
  · exact .kTuple h c
theorem l_ixSL {K : PySem.W.Frag} {H : Hp} {Q : VK} {p : Addr} {xs : List V} {k : Int} {v : V} (ht : SqL K H p xs) (ha : atI xs k = some v) (h : Q v H) : rIx K (.ref p) (.int k) H Q := .inl ⟨p, xs, k, v, rfl, rfl, ht, ha, h⟩
theorem l_ixST {K : PySem.W.Frag} {H : Hp} {Q : VK} {p : Addr} {xs : List V} {k : Int} {v : V} (ht : SqT K H p xs) (ha : atI xs k = some v) (h : Q v H) : rIx K (.ref p) (.int k) H Q := .inr (.inl ⟨p, xs, k, v, rfl, rfl, ht, ha, h⟩)
theorem But.tups {p : Addr} {H H' : Hp} {xs : List V} (g : But p H H') (h : H p = some (.lst xs)) : Tups H H' := fun a ys e => g a _ (fun z => by subst z; rw [h] at e; cases e) e
theorem Bx.but {p b l : Addr} {H H' : Hp} {ns : List Int} {s : Int} (x : Bx H b l ns s) (g : But p H H') (n1 : b ≠ p) (n2 : l ≠ p) : Bx H' b l ns s := ⟨x.ne, g _ _ n1 x.hb, g _ _ n2 x.hl, x.s0, x.s1, x.n63⟩
/-- what is told, as data -/
def dTold (x : Bool × List Nat) : PyData := .tuple [.int (bi x.1), .list (x.2.map fun (k : Nat) => PyData.int (k : Int))]
theorem dp_told {K : PySem.W.Frag} {H H' : Hp} {v : V} {x : Bool × List Nat} (h : Told H H' v x) : Dp K H' v (dTold x) := by
  obtain ⟨p, l, rfl, h0, hp, hl⟩ := h
  exact .tup (SqT.of hp) (.cons (.int _) (.cons (.lst (SqL.of hl) (dp_vn _)) .nil))
theorem lay_told (x : Bool × List Nat) : (dTold x).canLay0 = true := by
  show (true && ((PyData.canLayAll0 (x.2.map fun (k : Nat) => PyData.int (k : Int))) && true)) = true
  rw [lay_vn]; rfl
theorem shaped_told (x : Bool × List Nat) : SeqAt.shaped (dTold x) = true := by
  show ((dTold x).canLay0 && decide ((max 0 (max (PyData.depthAll (x.2.map fun (k : Nat) => PyData.int (k : Int)) + 1) 0)) + 1 ≤ 64)) = true
  rw [lay_told, dep_vn]; rfl
theorem ok_told {x : Bool × List Nat} (h : x.2.length ≤ 1000) : okd 3 (dTold x) := by
  refine ⟨by show 2 ≤ 1000; decide, fun y hy => ?_⟩
  rcases List.mem_cons.mp hy with rfl | hy
  · trivial
  · obtain rfl := List.mem_singleton.mp hy
    refine ⟨by rw [List.length_map]; exact h, fun z hz => ?_⟩
    obtain ⟨k, _, rfl⟩ := List.mem_map.mp hz
    trivial
theorem l_reverse' {H : Hp} {p : Addr} {xs : List V} {Q : VK} (h : H p = some (.lst xs)) (q : ∀ H', But p H H' → H' p = some (.lst xs.reverse) → Q .non H') : rReverse (.ref p) [] H Q := ⟨p, xs, rfl, rfl, h, q _ but_upd upd_same⟩
theorem But.of {p : Addr} {H H' : Hp} (g : Same H H') : But p H H' := fun a o _ h => g a o h
theorem But.refl {p : Addr} (H : Hp) : But p H H := fun _ _ _ h => h
theorem But.trans {p : Addr} {H H1 H2 : Hp} (x : But p H H1) (y : But p H1 H2) : But p H H2 := fun a o n h => y a o n (x a o n h)
theorem Fr.mut {b l D : Addr} {H H' : Hp} {o : HO} (f : Fr b l H H') (h : H D = none) : Fr b l H (upd H' D o) := fun a u n m e => by
  rw [upd_ne (ne_of_none e h)]
  exact f a u n m e
theorem Fr.fresh {b l D : Addr} {H H' : Hp} (f : Fr b l H H') (hb : D ≠ b) (hl : D ≠ l) (h : H' D = none) : H D = none := by
  cases e : H D with
  | none => rfl
  | some o => rw [f D o hb hl e] at h; cases h
/-- [e for i in range(n)], e draws from the box; every item is such as P says -/
theorem lcR_draw {σ : St} {H : Hp} {Q : VK} {te : TE} {j n : Nat} {vs : List Nat} {b l : Addr} {ns : List Int} {s : Int} (P : V → Prop) (hx : Bx H b l ns s) (hw : ∀ x, wipe ((wipe σ vs).set j (some x)) vs = wipe σ vs) (hl : n ≤ 100000)
    (h : ∀ (i : Nat) H' ns' s' (Q' : VK), i < n → Fr b l H H' → Bx H' b l ns' s' → (∀ y H'' ns'' s'', P y → Fr b l H' H'' → Bx H'' b l ns'' s'' → Q' y H'') → te ((wipe σ vs).set j (some (.int (0 + (i : Int))))) H' Q')
    (q : ∀ D ys H2 ns2 s2, H D = none → Fr b l H H2 → Bx H2 b l ns2 s2 → ys.length = n → (∀ y ∈ ys, P y) → H2 D = some (.lst ys) → Q (.ref D) H2) : IR1 [.int (n : Int)] H (LcB (gName j) tYes te vs σ Q) := by
  refine ⟨(n : Int), rfl, ?_, ?_, ?_⟩
  · have : (0 : Int) ≤ 2 ^ 62 := by decide
    omega
  · have : (100000 : Int) < 2 ^ 62 := by decide
    omega
  · intro D hD
    rw [Int.toNat_natCast]
    have nb : D ≠ b := (ne_of_none hx.hb hD).symm
    have nl : D ≠ l := (ne_of_none hx.hl hD).symm
    refine lc_range (lo := 0) (n := n) (fun i H' => ∃ ys ns' s', Fr b l H H' ∧ Bx H' b l ns' s' ∧ H' D = some (.lst ys) ∧ ys.length = i ∧ ∀ y ∈ ys, P y) ⟨[], ns, s, Fr.of (sm_new hD _), hx.same (sm_new hD _), upd_same, rfl, fun _ h => by cases h⟩ (fun i H' hi p => ⟨hw _, ?_⟩) fun H' p => ?_
    · obtain ⟨ys, ns', s', f, x, e, hn, hp⟩ := p
      refine h i H' ns' s' _ hi f x fun y H'' ns'' s'' py f2 x2 => ?_
      refine ⟨ys, f2.at nb nl e, Nat.lt_of_lt_of_le (show ys.length < 100001 by omega) (by decide), ys ++ [y], ns'', s'', (f.trans f2).mut hD, ⟨x2.ne, ?_, ?_, x2.s0, x2.s1, x2.n63⟩, upd_same, by rw [List.length_append, hn]; rfl, fun z hz => ?_⟩
      · rw [upd_ne nb.symm]; exact x2.hb
      · rw [upd_ne nl.symm]; exact x2.hl
      · rcases List.mem_append.mp hz with hz | hz
        · exact hp z hz
        · rw [List.mem_singleton.mp hz]; exact py
    · obtain ⟨ys, ns', s', f, x, e, hn, hp⟩ := p
      exact q D ys H' ns' s' hD f x hn hp e
/-- [e for x in a tuple], every item's value related, by what stands in tuples -/
theorem lcT_rel {K : PySem.W.Frag} {σ : St} {H : Hp} {Q : VK} {te : TE} {j : Nat} {vs : List Nat} {a : Addr} {xs : List V} (R : Nat → V → Hp → Prop) (mono : ∀ i y H H', Tups H H' → R i y H → R i y H') (hw : ∀ x, wipe ((wipe σ vs).set j (some x)) vs = wipe σ vs) (ht : SqT K H a xs) (hl : xs.length ≤ 100000)
    (h : ∀ (i : Nat) (x : V) H' (Q' : VK), xs[i]? = some x → Same H H' → (∀ y H'', Same H' H'' → R i y H'' → Q' y H'') → te ((wipe σ vs).set j (some x)) H' Q')
    (q : ∀ D ys H2, H D = none → Same H H2 → H2 D = some (.lst ys) → ys.length = xs.length → (∀ i y, ys[i]? = some y → R i y H2) → Q (.ref D) H2) : IT K (.ref a) H (LcB (gName j) tYes te vs σ Q) :=
  ⟨a, rfl, ⟨xs, ht⟩, fun D hD => by
    refine lc_tup (K := K) (a := a) (xs := xs) (fun i H' => ∃ ys, Same H H' ∧ H' D = some (.lst ys) ∧ ys.length = i ∧ i ≤ xs.length ∧ ∀ k y, ys[k]? = some y → R k y H') ⟨[], sm_new hD _, upd_same, rfl, Nat.zero_le _, fun k y e => by cases e⟩ (fun i H' _ ⟨_, g, _⟩ => sm_t g ht) (fun i x H' hx p => ⟨hw x, ?_⟩) fun H' ⟨ys, g, e, n, _, r⟩ => q D ys H' hD g e n r
    obtain ⟨ys, g, e, n, n2, r⟩ := p
    have hi := (List.getElem?_eq_some_iff.mp hx).1
    refine h i x H' _ hx g fun y H'' g2 ry => ?_
    have tp : Tups H'' (upd H'' D (.lst (ys ++ [y]))) := but_upd.tups (g2 _ _ e)
    refine ⟨ys, g2 _ _ e, Nat.lt_of_lt_of_le (show ys.length < 100001 by omega) (by decide), ys ++ [y], sm_mut (g.trans g2) hD, upd_same, by rw [List.length_append, n]; rfl, hi, fun k z hz => mono _ _ _ _ tp ?_⟩
    by_cases hk : k < ys.length
    · rw [List.getElem?_append_left hk] at hz
      exact mono _ _ _ _ (Same.tups g2) (r k z hz)
    · rw [List.getElem?_append_right (by omega)] at hz
      have hk2 : k - ys.length = 0 := by
        have := (List.getElem?_eq_some_iff.mp hz).1
        have : ([y] : List V).length = 1 := rfl
        omega
      rw [hk2] at hz
      obtain rfl := Option.some.inj hz
      have : k = i := by omega
      rw [this]
      exact ry⟩
/-! tuples joined, the written swap of and, or -/
theorem l_catT1 {K : PySem.W.Frag} {H : Hp} {Q : VK} {p r : Addr} {xs ys : List V} (hp : SqT K H p xs) (hr : SqT K H r ys) (hx : xs ≠ []) (hy : ys ≠ []) (hn : xs.length + ys.length ≤ 100000) (q : ∀ (l : Addr) (H' : Hp), H l = none → Same H H' → H' l = some (.tup (xs ++ ys)) → Q (.ref l) H') : rCatT K (.ref p) (.ref r) H Q :=
  ⟨p, r, xs, ys, rfl, rfl, hp, hr, hx, Nat.le_trans hn (by decide), fun e => absurd e hy, fun _ l hl => q l _ hl (sm_new hl _) upd_same⟩
theorem l_catT0 {K : PySem.W.Frag} {H : Hp} {Q : VK} {p r : Addr} {xs : List V} (hp : SqT K H p xs) (hr : SqT K H r []) (hx : xs ≠ []) (hn : xs.length ≤ 100000) (q : Q (.ref p) H) : rCatT K (.ref p) (.ref r) H Q :=
  ⟨p, r, xs, [], rfl, rfl, hp, hr, hx, Nat.le_trans hn (by decide), fun _ => q, fun e => absurd rfl e⟩
def swapD : List (Key × V) := [(Sum.inr "and", .str "or"), (Sum.inr "or", .str "and")]
theorem swap_merge : mergeK [] swapD = swapD := by decide +kernel
theorem swap_at (a : Bool) : valV swapD (Sum.inr (wd a)) = some (.str (wd (!a))) := by cases a <;> decide +kernel
theorem l_swapD {σ : St} {H : Hp} {Q : VK} (q : ∀ (p : Addr) (H' : Hp), H p = none → Same H H' → H' p = some (.dK swapD) → Q (.ref p) H') : tDisp [(tC (.str "and"), tC (.str "or")), (tC (.str "or"), tC (.str "and"))] σ H Q := fun p hp =>
  show upd H p (.dK []) p = some (.dK []) ∧ _ from ⟨upd_same, swapD, rfl, by decide, by rw [upd_upd, swap_merge]; exact q p _ hp (sm_new hp _) upd_same⟩
theorem l_dget {td ty : TE} {σ : St} {H : Hp} {Q : VK} (h : td σ H fun x H1 => ty σ H1 fun y H2 => ∃ a v, x = .ref a ∧ DGet H2 a y (some v) ∧ Q v H2) : tDGet td ty σ H Q := h
theorem l_dgetS {H : Hp} {G : V → Prop} {d : Addr} {a : Bool} (h : H d = some (.dK swapD)) (q : G (.str (wd (!a)))) : ∃ a' v, V.ref d = .ref a' ∧ DGet H a' (.str (wd a)) (some v) ∧ G v :=
  ⟨d, _, rfl, by have e := DGet.k (k := Sum.inr (wd a)) h; rw [swap_at] at e; exact e, q⟩
end J

namespace J
open PySem L2
/-! data of tuples -/
mutual
inductive TD (H : Hp) : V → PyData → Prop
  | non : TD H .non .none
  | bl (b : Bool) : TD H (.bl b) (.bool b)
  | int (i : Int) : TD H (.int i) (.int i)
  | str (x : Str) : TD H (.str x) (.str x)
  | tup {a : Addr} {xs : List V} {ds : List PyData} : H a = some (.tup xs) → TDA H xs ds → TD H (.ref a) (.tuple ds)
inductive TDA (H : Hp) : List V → List PyData → Prop
  | nil : TDA H [] []
  | cons {v : V} {vs : List V} {d : PyData} {ds : List PyData} : TD H v d → TDA H vs ds → TDA H (v :: vs) (d :: ds)
end
theorem TD.tups {H H' : Hp} (g : Tups H H') {v : V} {d : PyData} (h : TD H v d) : TD H' v d := by
  refine TD.rec (motive_1 := fun v d _ => TD H' v d) (motive_2 := fun vs ds _ => TDA H' vs ds) ?_ ?_ ?_ ?_ ?_ ?_ ?_ h
  · exact .non
  · intro b; exact .bl b
  · intro i; exact .int i
  · intro x; exact .str x
  · intro a xs ds e _ ih; exact .tup (g _ _ e) ih
  · exact .nil
  · intro v vs d ds _ _ i1 i2; exact .cons i1 i2
theorem TDA.tups {H H' : Hp} (g : Tups H H') : ∀ {vs : List V} {ds : List PyData}, TDA H vs ds → TDA H' vs ds
  | _, _, .nil => .nil
  | _, _, .cons a t => .cons (a.tups g) (TDA.tups g t)
theorem TD.mono {H H' : Hp} (g : Same H H') {v : V} {d : PyData} (h : TD H v d) : TD H' v d := h.tups (Same.tups g)
theorem TDA.mono {H H' : Hp} (g : Same H H') {vs : List V} {ds : List PyData} (h : TDA H vs ds) : TDA H' vs ds := h.tups (Same.tups g)
theorem TD.dp {K : PySem.W.Frag} {H : Hp} {v : V} {d : PyData} (h : TD H v d) : Dp K H v d := by
  refine TD.rec (motive_1 := fun v d _ => Dp K H v d) (motive_2 := fun vs ds _ => DpAll K H vs ds) ?_ ?_ ?_ ?_ ?_ ?_ ?_ h
  · exact .non
  · intro b; exact .bl b
  · intro i; exact .int i
  · intro x; exact .str x
  · intro a xs ds e _ ih; exact .tup (SqT.of e) ih
  · exact .nil
  · intro v vs d ds _ _ i1 i2; exact .cons i1 i2
theorem TDA.dp {K : PySem.W.Frag} {H : Hp} : ∀ {vs : List V} {ds : List PyData}, TDA H vs ds → DpAll K H vs ds
  | _, _, .nil => .nil
  | _, _, .cons a t => .cons a.dp (TDA.dp t)
theorem TDA.len {H : Hp} : ∀ {vs : List V} {ds : List PyData}, TDA H vs ds → vs.length = ds.length
  | _, _, .nil => rfl
  | _, _, .cons _ t => by rw [List.length_cons, List.length_cons, TDA.len t]
theorem TDA.append {H : Hp} : ∀ {vs us : List V} {ds es : List PyData}, TDA H vs ds → TDA H us es → TDA H (vs ++ us) (ds ++ es)
  | _, _, _, _, .nil, h => h
  | _, _, _, _, .cons a t, h => .cons a (TDA.append t h)
theorem TDA.get {H : Hp} : ∀ {vs : List V} {ds : List PyData} {i : Nat} {d : PyData}, TDA H vs ds → ds[i]? = some d → ∃ v, vs[i]? = some v ∧ TD H v d
  | _, _, 0, _, .cons a _, h => ⟨_, rfl, by cases h; exact a⟩
  | _, _, i + 1, _, .cons _ t, h => TDA.get (i := i) t h
theorem TDA.getV {H : Hp} : ∀ {vs : List V} {ds : List PyData} {i : Nat} {v : V}, TDA H vs ds → vs[i]? = some v → ∃ d, ds[i]? = some d ∧ TD H v d
  | _, _, 0, _, .cons a _, h => ⟨_, rfl, by cases h; exact a⟩
  | _, _, i + 1, _, .cons _ t, h => TDA.getV (i := i) t h
theorem TDA.take {H : Hp} : ∀ {vs : List V} {ds : List PyData} (n : Nat), TDA H vs ds → TDA H (vs.take n) (ds.take n)
  | _, _, 0, _ => .nil
  | _, _, _ + 1, .nil => .nil
  | _, _, n + 1, .cons a t => .cons a (TDA.take n t)
theorem TDA.drop {H : Hp} : ∀ {vs : List V} {ds : List PyData} (n : Nat), TDA H vs ds → TDA H (vs.drop n) (ds.drop n)
  | _, _, 0, h => h
  | _, _, _ + 1, .nil => .nil
  | _, _, n + 1, .cons _ t => TDA.drop n t
/-- what stands in a tuple -/
theorem TD.at {H : Hp} {v : V} {ds : List PyData} (h : TD H v (.tuple ds)) : ∃ a xs, v = .ref a ∧ H a = some (.tup xs) ∧ TDA H xs ds := by
  cases h with
  | tup e h => exact ⟨_, _, rfl, e, h⟩
theorem atI_get {α : Type} {xs : List α} {i : Nat} {v : α} (h : xs[i]? = some v) : atI xs (i : Int) = some v := atI_nat h
/-! conditions as data -/
def cdata : Cond → PyData
  | .look i => .tuple [.str "look", .int (i : Int)]
  | .not c => .tuple [.str "not", cdata c]
  | .bin a l r => .tuple [.str (wd a), cdata l, cdata r]
theorem CA.td {H : Hp} {v : V} {c : Cond} (h : CA H v c) : TD H v (cdata c) := by
  induction h with
  | look e => exact .tup e (.cons (.str _) (.cons (.int _) .nil))
  | not e _ ih => exact .tup e (.cons (.str _) (.cons ih .nil))
  | bin e _ _ i1 i2 => exact .tup e (.cons (.str _) (.cons i1 (.cons i2 .nil)))
theorem wd_inj {a b : Bool} (h : wd a = wd b) : a = b := by
  cases a <;> cases b <;> first | rfl | (exact absurd h (by decide +kernel))
theorem TD.ca {H : Hp} : ∀ {c : Cond} {v : V}, TD H v (cdata c) → CA H v c
  | .look i, v, h => by
    obtain ⟨a, xs, rfl, e, t⟩ := h.at
    cases t with
    | cons h1 t => cases t with
      | cons h2 t => cases t; cases h1; cases h2; exact .look e
  | .not c, v, h => by
    obtain ⟨a, xs, rfl, e, t⟩ := h.at
    cases t with
    | cons h1 t => cases t with
      | cons h2 t => cases t; cases h1; exact .not e (TD.ca h2)
  | .bin b l r, v, h => by
    obtain ⟨a, xs, rfl, e, t⟩ := h.at
    cases t with
    | cons h1 t => cases t with
      | cons h2 t => cases t with
        | cons h3 t => cases t; cases h1; exact .bin e (TD.ca h2) (TD.ca h3)
/-! pairs, exchanges -/
def Cond.pairs : Cond → Nat
  | .look _ => 0
  | .not c => c.pairs
  | .bin _ l r => 1 + l.pairs + r.pairs
theorem pairs_looks (c : Cond) : c.pairs + 1 = c.looks := by
  induction c with
  | look i => rfl
  | not c ih => exact ih
  | bin a l r i1 i2 => unfold Cond.pairs Cond.looks; omega
def exch : Cond → List Bool → Cond
  | .look i, _ => .look i
  | .not c, ts => .not (exch c ts)
  | .bin a l r, ts => if ts.getD 0 false then .bin a (exch r (ts.drop (1 + l.pairs))) (exch l ((ts.drop 1).take l.pairs)) else .bin a (exch l ((ts.drop 1).take l.pairs)) (exch r (ts.drop (1 + l.pairs)))
theorem exch_ok : ∀ (c : Cond) (ts : List Bool), c.ok → (exch c ts).ok
  | .look _, _, h => h
  | .not c, ts, h => exch_ok c ts h
  | .bin a l r, ts, h => by
    unfold exch
    split
    · exact ⟨exch_ok r _ h.2, exch_ok l _ h.1⟩
    · exact ⟨exch_ok l _ h.1, exch_ok r _ h.2⟩
theorem exch_deep : ∀ (c : Cond) (ts : List Bool), (exch c ts).deep = c.deep
  | .look _, _ => rfl
  | .not c, ts => congrArg (· + 1) (exch_deep c ts)
  | .bin a l r, ts => by
    unfold exch
    split
    · show max (exch r _).deep (exch l _).deep + 1 = max l.deep r.deep + 1
      rw [exch_deep r, exch_deep l, Nat.max_comm]
    · show max (exch l _).deep (exch r _).deep + 1 = max l.deep r.deep + 1
      rw [exch_deep r, exch_deep l]
theorem exch_looks : ∀ (c : Cond) (ts : List Bool), (exch c ts).looks = c.looks
  | .look _, _ => rfl
  | .not c, ts => exch_looks c ts
  | .bin a l r, ts => by
    unfold exch
    split
    · show (exch r _).looks + (exch l _).looks = l.looks + r.looks
      rw [exch_looks r, exch_looks l, Nat.add_comm]
    · show (exch l _).looks + (exch r _).looks = l.looks + r.looks
      rw [exch_looks r, exch_looks l]
/-! slices -/
theorem cut_lo {xs : List V} {i : Nat} (h : i ≤ xs.length) : cutV xs (some (i : Int)) none = xs.drop i := by
  unfold cutV
  rw [HT.sIx_nat, Nat.min_eq_left h, HT.sIx_none]
  exact List.take_of_length_le (by rw [List.length_drop]; exact Nat.le_refl _)
theorem cut_lohi {xs : List V} {i j : Nat} (h : i ≤ xs.length) (h2 : j ≤ xs.length) : cutV xs (some (i : Int)) (some (j : Int)) = (xs.drop i).take (j - i) := by
  unfold cutV
  rw [HT.sIx_nat, HT.sIx_nat, Nat.min_eq_left h, Nat.min_eq_left h2]
theorem cut_hi {xs : List V} {j : Nat} (h2 : j ≤ xs.length) : cutV xs none (some (j : Int)) = xs.take j := by
  unfold cutV
  rw [HT.sIx_nat, HT.sIx_none, Nat.min_eq_left h2]
  rfl
theorem exch_zero : ∀ (c : Cond) (ts : List Bool), (∀ b ∈ ts, b = false) → exch c ts = c
  | .look _, _, _ => rfl
  | .not c, ts, h => congrArg Cond.not (exch_zero c ts h)
  | .bin a l r, ts, h => by
    have h0 : ts.getD 0 false = false := by
      cases ts with
      | nil => rfl
      | cons b t => exact h b List.mem_cons_self
    unfold exch
    rw [h0, if_neg Bool.false_ne_true, exch_zero l _ (fun b hb => h b (List.mem_of_mem_drop (List.mem_of_mem_take hb))), exch_zero r _ (fun b hb => h b (List.mem_of_mem_drop hb))]
theorem exch_pairs (c : Cond) (ts : List Bool) : (exch c ts).pairs = c.pairs := by
  have h1 := pairs_looks c
  have h2 := pairs_looks (exch c ts)
  rw [exch_looks] at h2
  omega
end J

namespace J
open PySem L2
/-! codes -/
inductive Row where
  | look (t : Nat) (w : Bool) (to : Nat)
  | fin (b : Bool)
  deriving DecidableEq
def rowD : Row → PyData
  | .look t w to => .tuple [.str "look", .int (t : Int), .int (bi w), .int (to : Int)]
  | .fin b => .tuple [.str "end", .int (bi b)]
/-- where one may go on -/
def Row.okAt (n : Nat) (i : Nat) : Row → Prop
  | .look t _ to => t < 8 ∧ i + 2 < n ∧ i < to ∧ to < n
  | .fin _ => n ≤ i + 2
def okRows (rows : List Row) : Prop := 2 ≤ rows.length ∧ rows.length ≤ 1000 ∧ ∀ (i : Nat) (r : Row), rows[i]? = some r → Row.okAt rows.length i r
def runM (rows : List Row) (ws : List Bool) : Nat → Nat → Bool × List Nat × Nat
  | 0, _ => (false, [], 0)
  | f + 1, i => match rows[i]? with
    | some (.look t w to) => (fun (r : Bool × List Nat × Nat) => (r.1, t :: r.2.1, (if ws.getD t false == w then 1 else 0) + r.2.2)) (runM rows ws f (if ws.getD t false == w then to else i + 1))
    | some (.fin b) => (b, [], 0)
    | none => (false, [], 0)
theorem runM_more {rows : List Row} {ws : List Bool} (h : okRows rows) : ∀ (f i : Nat), i < rows.length → rows.length ≤ f + i → runM rows ws f i = runM rows ws (rows.length - i) i := by
  suffices hs : ∀ (m f i : Nat), rows.length - i ≤ m → i < rows.length → rows.length ≤ f + i → runM rows ws f i = runM rows ws (rows.length - i) i from fun f i h1 h2 => hs _ f i (Nat.le_refl _) h1 h2
  intro m
  induction m with
  | zero => intro f i h1 h2; omega
  | succ m ih =>
    intro f i h1 h2 h3
    obtain ⟨f', rfl⟩ : ∃ f', f = f' + 1 := ⟨f - 1, by omega⟩
    obtain ⟨g', hg⟩ : ∃ g', rows.length - i = g' + 1 := ⟨rows.length - i - 1, by omega⟩
    rw [hg]
    have hr : rows[i]? = some (rows[i]'h2) := List.getElem?_eq_getElem h2
    have hk := h.2.2 i _ hr
    unfold runM
    rw [hr]
    cases e : rows[i]'h2 with
    | fin b => rfl
    | look t w to =>
      rw [e] at hk
      obtain ⟨_, h5, h6, h7⟩ := hk
      show (fun (r : Bool × List Nat × Nat) => (r.1, t :: r.2.1, (if ws.getD t false == w then 1 else 0) + r.2.2)) (runM rows ws f' (if ws.getD t false == w then to else i + 1)) = (fun (r : Bool × List Nat × Nat) => (r.1, t :: r.2.1, (if ws.getD t false == w then 1 else 0) + r.2.2)) (runM rows ws g' (if ws.getD t false == w then to else i + 1))
      congr 1
      by_cases c : (ws.getD t false == w) = true
      · rw [if_pos c, ih f' to (by omega) h7 (by omega), ih g' to (by omega) h7 (by omega)]
      · rw [if_neg c, ih f' (i + 1) (by omega) (by omega) (by omega), ih g' (i + 1) (by omega) (by omega) (by omega)]
/-- what run tells -/
def runC (rows : List Row) (ws : List Bool) : Bool × List Nat × Nat := runM rows ws rows.length 0
/-- one row further -/
theorem runM_look {rows : List Row} {ws : List Bool} (h : okRows rows) {i t to : Nat} {w : Bool} (hr : rows[i]? = some (.look t w to)) :
    runM rows ws (rows.length - i) i = ((runM rows ws (rows.length - (if ws.getD t false == w then to else i + 1)) (if ws.getD t false == w then to else i + 1)).1, t :: (runM rows ws (rows.length - (if ws.getD t false == w then to else i + 1)) (if ws.getD t false == w then to else i + 1)).2.1, (if ws.getD t false == w then 1 else 0) + (runM rows ws (rows.length - (if ws.getD t false == w then to else i + 1)) (if ws.getD t false == w then to else i + 1)).2.2) := by
  have hi := (List.getElem?_eq_some_iff.mp hr).1
  obtain ⟨_, h5, h6, h7⟩ := h.2.2 i _ hr
  obtain ⟨g', hg⟩ : ∃ g', rows.length - i = g' + 1 := ⟨rows.length - i - 1, by omega⟩
  rw [hg]
  conv => lhs; unfold runM
  rw [hr]
  show ((runM rows ws g' (if ws.getD t false == w then to else i + 1)).1, t :: (runM rows ws g' (if ws.getD t false == w then to else i + 1)).2.1, (if ws.getD t false == w then 1 else 0) + (runM rows ws g' (if ws.getD t false == w then to else i + 1)).2.2) = _
  have e : runM rows ws g' (if ws.getD t false == w then to else i + 1) = runM rows ws (rows.length - (if ws.getD t false == w then to else i + 1)) (if ws.getD t false == w then to else i + 1) := by
    split
    · exact runM_more h g' to h7 (by omega)
    · exact runM_more h g' (i + 1) (by omega) (by omega)
  rw [e]
theorem runM_fin {rows : List Row} {ws : List Bool} {i : Nat} {b : Bool} (hr : rows[i]? = some (.fin b)) : runM rows ws (rows.length - i) i = (b, [], 0) := by
  have hi := (List.getElem?_eq_some_iff.mp hr).1
  obtain ⟨g', hg⟩ : ∃ g', rows.length - i = g' + 1 := ⟨rows.length - i - 1, by omega⟩
  rw [hg]
  unfold runM
  rw [hr]
theorem sm_but {H H' H'' : Hp} {p : Addr} (e : Same H H') (g : But p H' H'') (h : H p = none) : Same H H'' := fun a o ha => g a o (ne_of_none ha h) (e a o ha)
/-- (worth, looks, jumps): a tuple, its list new -/
def RTold (H H' : Hp) (v : V) (x : Bool × List Nat × Nat) : Prop := ∃ p l, v = .ref p ∧ H l = none ∧ H' p = some (.tup [vb x.1, .ref l, vn x.2.2]) ∧ H' l = some (.lst (x.2.1.map vn))
theorem rtold_mk {H H' : Hp} {p l : Addr} {x : Bool × List Nat × Nat} (hp : H' p = some (.tup [vb x.1, .ref l, vn x.2.2])) (hl : H' l = some (.lst (x.2.1.map vn))) (h0 : H l = none) : RTold H H' (.ref p) x := ⟨p, l, rfl, h0, hp, hl⟩
theorem RTold.back {H H1 H2 : Hp} {v : V} {x : Bool × List Nat × Nat} (g : Same H H1) (h : RTold H1 H2 v x) : RTold H H2 v x := by
  obtain ⟨p, l, rfl, h0, hp, hq⟩ := h
  exact ⟨p, l, rfl, g.free h0, hp, hq⟩
/-- rows at a list -/
def RA (K : PySem.W.Frag) (H : Hp) (p : Addr) (rows : List Row) : Prop := ∃ rs, SqL K H p rs ∧ TDA H rs (rows.map rowD)
theorem RA.mono {K : PySem.W.Frag} {H H' : Hp} {p : Addr} {rows : List Row} (g : Same H H') (h : RA K H p rows) : RA K H' p rows := by
  obtain ⟨rs, h1, h2⟩ := h
  exact ⟨rs, sm_l g h1, h2.mono g⟩
theorem RA.get {K : PySem.W.Frag} {H : Hp} {p : Addr} {rows : List Row} {i : Nat} {r : Row} (h : RA K H p rows) (hr : rows[i]? = some r) : ∃ rs v, SqL K H p rs ∧ atI rs (i : Int) = some v ∧ TD H v (rowD r) := by
  obtain ⟨rs, h1, h2⟩ := h
  obtain ⟨v, hv, ht⟩ := h2.get (i := i) (d := rowD r) (by rw [List.getElem?_map, hr]; rfl)
  exact ⟨rs, v, h1, atI_nat hv, ht⟩
theorem row_look {H : Hp} {v : V} {t to : Nat} {w : Bool} (h : TD H v (rowD (.look t w to))) : ∃ a, v = .ref a ∧ H a = some (.tup [.str "look", vn t, vb w, vn to]) := by
  obtain ⟨a, xs, rfl, e, t⟩ := h.at
  cases t with
  | cons h1 t => cases t with
    | cons h2 t => cases t with
      | cons h3 t => cases t with
        | cons h4 t => cases t; cases h1; cases h2; cases h3; cases h4; exact ⟨a, rfl, e⟩
theorem row_fin {H : Hp} {v : V} {b : Bool} (h : TD H v (rowD (.fin b))) : ∃ a, v = .ref a ∧ H a = some (.tup [.str "end", vb b]) := by
  obtain ⟨a, xs, rfl, e, t⟩ := h.at
  cases t with
  | cons h1 t => cases t with
    | cons h2 t => cases t; cases h1; cases h2; exact ⟨a, rfl, e⟩
theorem row_look_mk {H : Hp} {a : Addr} {t to : Nat} {w : Bool} (h : H a = some (.tup [.str "look", vn t, vb w, vn to])) : TD H (.ref a) (rowD (.look t w to)) := .tup h (.cons (.str _) (.cons (.int _) (.cons (.int _) (.cons (.int _) .nil))))
theorem row_fin_mk {H : Hp} {a : Addr} {b : Bool} (h : H a = some (.tup [.str "end", vb b])) : TD H (.ref a) (rowD (.fin b)) := .tup h (.cons (.str _) (.cons (.int _) .nil))
end J
namespace J
open PySem L2
/-! what is due behind each look -/
def dueM : Cond → Nat → Nat → Nat → List (Nat × Nat × Nat)
  | .look i, _, y, n => [(i, y, n)]
  | .not c, b, y, n => dueM c b n y
  | .bin a l r, b, y, n => (if a then dueM l b (b + l.looks) n else dueM l b y (b + l.looks)) ++ dueM r (b + l.looks) y n
theorem dueM_len : ∀ (c : Cond) (b y n : Nat), (dueM c b y n).length = c.looks
  | .look _, _, _, _ => rfl
  | .not c, b, y, n => dueM_len c b n y
  | .bin a l r, b, y, n => by
    unfold dueM Cond.looks
    rw [List.length_append, dueM_len r]
    cases a
    · rw [if_neg Bool.false_ne_true, dueM_len l]
    · rw [if_pos rfl, dueM_len l]
def tri (x : Nat × Nat × Nat) : PyData := .tuple [.int (x.1 : Int), .int (x.2.1 : Int), .int (x.2.2 : Int)]
def rowsM : Nat → List (Nat × Nat × Nat) → List Row
  | _, [] => []
  | k, x :: r => (if x.2.1 = k + 1 then .look x.1 false x.2.2 else .look x.1 true x.2.1) :: rowsM (k + 1) r
theorem rowsM_len : ∀ (k : Nat) (l : List (Nat × Nat × Nat)), (rowsM k l).length = l.length
  | _, [] => rfl
  | k, x :: r => congrArg (· + 1) (rowsM_len (k + 1) r)
theorem rowsM_app : ∀ (k : Nat) (l m : List (Nat × Nat × Nat)), rowsM k (l ++ m) = rowsM k l ++ rowsM (k + l.length) m
  | _, [], _ => rfl
  | k, x :: r, m => by
    show _ :: rowsM (k + 1) (r ++ m) = _ :: (rowsM (k + 1) r ++ rowsM (k + (r.length + 1)) m)
    rw [rowsM_app (k + 1) r m, Nat.add_assoc, Nat.add_comm 1]
def codeM (c : Cond) (f : Bool) : List Row := rowsM 0 (dueM c 0 (if f then c.looks else c.looks + 1) (if f then c.looks + 1 else c.looks)) ++ [.fin f, .fin (!f)]
theorem codeM_len (c : Cond) (f : Bool) : (codeM c f).length = c.looks + 2 := by
  unfold codeM
  rw [List.length_append, rowsM_len, dueM_len]
  rfl
/-- rows at a list that is new -/
def RN (H H' : Hp) (v : V) (rows : List Row) : Prop := ∃ l vs, v = .ref l ∧ H l = none ∧ H' l = some (.lst vs) ∧ TDA H' vs (rows.map rowD)
theorem RN.back {H H1 H2 : Hp} {v : V} {rows : List Row} (g : Same H H1) (h : RN H1 H2 v rows) : RN H H2 v rows := by
  obtain ⟨l, vs, e, h0, h1, h2⟩ := h
  exact ⟨l, vs, e, g.free h0, h1, h2⟩
theorem RN.ra {K : PySem.W.Frag} {H H' : Hp} {v : V} {rows : List Row} (h : RN H H' v rows) : ∃ l, v = .ref l ∧ H l = none ∧ RA K H' l rows := by
  obtain ⟨l, vs, e, h0, h1, h2⟩ := h
  exact ⟨l, e, h0, vs, SqL.of h1, h2⟩
end J
namespace J
open PySem L2
/-! small facts of values -/
theorem vb1 (b : Bool) : decide (vb b = V.int 1) = b := by cases b <;> decide
theorem vbb (a b : Bool) : decide (vb a = vb b) = (a == b) := by cases a <;> cases b <;> decide
theorem vnn {a b : Nat} : decide (vn a = V.int ((b : Int) + 1)) = decide (a = b + 1) := by
  by_cases h : a = b + 1
  · rw [decide_eq_true h, decide_eq_true]
    rw [h]
    exact congrArg V.int (by omega)
  · rw [decide_eq_false h, decide_eq_false]
    intro e
    have := V.int.inj e
    omega
end J
namespace J
open PySem L2
theorem dp_rows {K : PySem.W.Frag} {H : Hp} {l : Addr} {vs : List V} {rows : List Row} (e : H l = some (.lst vs)) (t : TDA H vs (rows.map rowD)) : Dp K H (.ref l) (.list (rows.map rowD)) := .lst (SqL.of e) t.dp
theorem ok_row (r : Row) : okd 2 (rowD r) := by
  cases r with
  | look t w to =>
    refine ⟨by show 4 ≤ 1000; decide, fun x hx => ?_⟩
    rcases List.mem_cons.mp hx with rfl | hx
    · trivial
    · rcases List.mem_cons.mp hx with rfl | hx
      · trivial
      · rcases List.mem_cons.mp hx with rfl | hx
        · trivial
        · obtain rfl := List.mem_singleton.mp hx
          trivial
  | fin b =>
    refine ⟨by show 2 ≤ 1000; decide, fun x hx => ?_⟩
    rcases List.mem_cons.mp hx with rfl | hx
    · trivial
    · obtain rfl := List.mem_singleton.mp hx
      trivial
theorem ok_rows {rows : List Row} (h : rows.length ≤ 1000) : okd 3 (.list (rows.map rowD)) := by
  refine ⟨by rw [List.length_map]; exact h, fun x hx => ?_⟩
  obtain ⟨r, _, rfl⟩ := List.mem_map.mp hx
  exact ok_row r
theorem str_look : PyData.strOk ("look" : Str) = true := by decide +kernel
theorem str_end : PyData.strOk ("end" : Str) = true := by decide +kernel
theorem lay_row (r : Row) : (rowD r).canLay0 = true := by
  cases r with
  | look t w to =>
    show (PyData.strOk ("look" : Str) && (true && (true && (true && true)))) = true
    rw [str_look]; rfl
  | fin b =>
    show (PyData.strOk ("end" : Str) && (true && true)) = true
    rw [str_end]; rfl
theorem lay_rows : ∀ rows : List Row, PyData.canLayAll0 (rows.map rowD) = true
  | [] => rfl
  | r :: rs => by
    show ((rowD r).canLay0 && PyData.canLayAll0 (rs.map rowD)) = true
    rw [lay_row, lay_rows rs]; rfl
theorem dep_row (r : Row) : (rowD r).depth = 1 := by
  cases r with
  | look t w to => rfl
  | fin b => rfl
theorem dep_rows : ∀ rows : List Row, PyData.depthAll (rows.map rowD) ≤ 1
  | [] => Nat.zero_le _
  | r :: rs => by
    show max (rowD r).depth (PyData.depthAll (rs.map rowD)) ≤ 1
    rw [dep_row]
    have := dep_rows rs
    omega
theorem shaped_rows (rows : List Row) : SeqAt.shaped (.list (rows.map rowD)) = true := by
  show (PyData.canLayAll0 (rows.map rowD) && decide (PyData.depthAll (rows.map rowD) + 1 ≤ 64)) = true
  have := dep_rows rows
  rw [lay_rows, decide_eq_true (by omega)]; rfl
end J
namespace J
open PySem L2
/-- rows at a tracked list -/
def RT (H : Hp) (l : Addr) (rows : List Row) : Prop := ∃ vs, H l = some (.lst vs) ∧ TDA H vs (rows.map rowD)
theorem RT.ra {K : PySem.W.Frag} {H : Hp} {l : Addr} {rows : List Row} (h : RT H l rows) : RA K H l rows := by
  obtain ⟨vs, h1, h2⟩ := h
  exact ⟨vs, SqL.of h1, h2⟩
theorem RT.mono {H H' : Hp} {l : Addr} {rows : List Row} (g : Same H H') (h : RT H l rows) : RT H' l rows := by
  obtain ⟨vs, h1, h2⟩ := h
  exact ⟨vs, g _ _ h1, h2.mono g⟩
theorem RT.but {H H' : Hp} {l p : Addr} {rows : List Row} (g : But p H H') (tp : Tups H H') (n : l ≠ p) (h : RT H l rows) : RT H' l rows := by
  obtain ⟨vs, h1, h2⟩ := h
  exact ⟨vs, g _ _ n h1, h2.tups tp⟩
theorem RN.rt {H H' : Hp} {v : V} {rows : List Row} (h : RN H H' v rows) : ∃ l, v = .ref l ∧ H l = none ∧ RT H' l rows := by
  obtain ⟨l, vs, e, h0, h1, h2⟩ := h
  exact ⟨l, e, h0, vs, h1, h2⟩
end J

namespace J
open PySem L2
/-! a condition's code comes to what the condition comes to -/
theorem ev_bin (ws : List Bool) (a : Bool) (l r : Cond) : ev ws (.bin a l r) = if (ev ws l).1 = a then ((ev ws r).1, (ev ws l).2 ++ (ev ws r).2) else ev ws l := rfl
theorem looks_pos (c : Cond) : 0 < c.looks := by
  have := pairs_looks c
  omega
def EntOk (M k : Nat) (x : Nat × Nat × Nat) : Prop := x.1 < 8 ∧ (x.2.1 = k + 1 ∨ x.2.2 = k + 1) ∧ x.2.1 ≠ x.2.2 ∧ k < x.2.1 ∧ k < x.2.2 ∧ x.2.1 ≤ M ∧ x.2.2 ≤ M
theorem due_ent : ∀ (c : Cond) (b y n M : Nat), c.ok → (y = b + c.looks ∨ n = b + c.looks) → y ≠ n → b + c.looks ≤ y → b + c.looks ≤ n → y ≤ M → n ≤ M → ∀ (j : Nat) (x : Nat × Nat × Nat), (dueM c b y n)[j]? = some x → EntOk M (b + j) x
  | .look i, b, y, n, M, ho, h1, h2, h3, h4, h5, h6, j, x, hx => by
    unfold dueM at hx
    unfold Cond.looks at h1 h3 h4
    cases j with
    | zero =>
      obtain rfl := Option.some.inj hx
      exact ⟨ho, h1, h2, by show b + 0 < y; omega, by show b + 0 < n; omega, h5, h6⟩
    | succ j => cases hx
  | .not c, b, y, n, M, ho, h1, h2, h3, h4, h5, h6, j, x, hx => due_ent c b n y M ho h1.symm h2.symm h4 h3 h6 h5 j x hx
  | .bin a l r, b, y, n, M, ho, h1, h2, h3, h4, h5, h6, j, x, hx => by
    have hr := looks_pos r
    have hl := looks_pos l
    unfold Cond.looks at h1 h3 h4
    unfold dueM at hx
    have hlen : (if a = true then dueM l b (b + l.looks) n else dueM l b y (b + l.looks)).length = l.looks := by cases a <;> exact dueM_len _ _ _ _
    by_cases hj : j < l.looks
    · rw [List.getElem?_append_left (by omega)] at hx
      cases a
      · exact due_ent l b y (b + l.looks) M ho.1 (.inr rfl) (by omega) (by omega) (by omega) h5 (by omega) j x hx
      · exact due_ent l b (b + l.looks) n M ho.1 (.inl rfl) (by omega) (by omega) (by omega) (by omega) h6 j x hx
    · rw [List.getElem?_append_right (by omega), hlen] at hx
      have := due_ent r (b + l.looks) y n M ho.2 (by omega) h2 (by omega) (by omega) h5 h6 (j - l.looks) x hx
      rw [show b + l.looks + (j - l.looks) = b + j by omega] at this
      exact this
def entRow (k : Nat) (x : Nat × Nat × Nat) : Row := if x.2.1 = k + 1 then .look x.1 false x.2.2 else .look x.1 true x.2.1
theorem rowsM_get : ∀ (k : Nat) (l : List (Nat × Nat × Nat)) (j : Nat), (rowsM k l)[j]? = (l[j]?).map (entRow (k + j))
  | _, [], _ => rfl
  | k, x :: r, 0 => rfl
  | k, x :: r, j + 1 => by
    show (rowsM (k + 1) r)[j]? = (r[j]?).map (entRow (k + (j + 1)))
    rw [rowsM_get (k + 1) r j, show k + 1 + j = k + (j + 1) by omega]
theorem ent_row {M k : Nat} {x : Nat × Nat × Nat} (h : EntOk M k x) : ∃ w to, entRow k x = .look x.1 w to ∧ x.1 < 8 ∧ k + 1 < to ∧ to ≤ M ∧ ∀ b : Bool, (if b == w then to else k + 1) = if b then x.2.1 else x.2.2 := by
  obtain ⟨h8, h1, h2, h3, h4, h5, h6⟩ := h
  unfold entRow
  by_cases e : x.2.1 = k + 1
  · rw [if_pos e]
    refine ⟨false, x.2.2, rfl, h8, by omega, h6, fun b => ?_⟩
    cases b
    · rfl
    · show k + 1 = x.2.1
      omega
  · rw [if_neg e]
    refine ⟨true, x.2.1, rfl, h8, by omega, h5, fun b => ?_⟩
    cases b
    · show k + 1 = x.2.2
      omega
    · rfl
/-- the code's rows -/
theorem codeM_at (c : Cond) (f : Bool) (ho : c.ok) (i : Nat) (r : Row) (h : (codeM c f)[i]? = some r) :
    (i < c.looks ∧ ∃ t w to, r = .look t w to ∧ t < 8 ∧ i + 1 < to ∧ to < c.looks + 2) ∨ (i = c.looks ∧ r = .fin f) ∨ (i = c.looks + 1 ∧ r = .fin (!f)) := by
  unfold codeM at h
  have hl : (rowsM 0 (dueM c 0 (if f then c.looks else c.looks + 1) (if f then c.looks + 1 else c.looks))).length = c.looks := by rw [rowsM_len, dueM_len]
  by_cases hi : i < c.looks
  · rw [List.getElem?_append_left (by omega), rowsM_get] at h
    left
    refine ⟨hi, ?_⟩
    cases hd : (dueM c 0 (if f then c.looks else c.looks + 1) (if f then c.looks + 1 else c.looks))[i]? with
    | none => rw [hd] at h; cases h
    | some x =>
      rw [hd] at h
      obtain rfl := Option.some.inj h
      have he : EntOk (c.looks + 1) (0 + i) x := due_ent c 0 _ _ (c.looks + 1) ho (by cases f <;> simp) (by cases f <;> simp) (by cases f <;> simp) (by cases f <;> simp) (by cases f <;> simp) (by cases f <;> simp) i x hd
      obtain ⟨w, to, e, h8, h1, h2, _⟩ := ent_row he
      exact ⟨x.1, w, to, e, h8, by omega, by omega⟩
  · right
    rw [List.getElem?_append_right (by omega), hl] at h
    obtain ⟨k, hk⟩ : ∃ k, i - c.looks = k := ⟨_, rfl⟩
    rw [hk] at h
    match k, h with
    | 0, h => exact .inl ⟨by omega, (Option.some.inj h).symm⟩
    | 1, h => exact .inr ⟨by omega, (Option.some.inj h).symm⟩
    | k + 2, h => cases h
theorem codeM_ok (c : Cond) (f : Bool) (ho : c.ok) (hk : c.looks ≤ 900) : okRows (codeM c f) := by
  have hl := codeM_len c f
  refine ⟨by omega, by omega, fun i r h => ?_⟩
  rw [hl]
  rcases codeM_at c f ho i r h with ⟨h1, t, w, to, rfl, h2, h3, h4⟩ | ⟨h1, rfl⟩ | ⟨h1, rfl⟩
  · exact ⟨h2, by omega, by omega, h4⟩
  · show c.looks + 2 ≤ i + 2
    omega
  · show c.looks + 2 ≤ i + 2
    omega
theorem run_part {rows : List Row} {ws : List Bool} (hok : okRows rows) : ∀ (c : Cond) (b y n : Nat), c.ok → (y = b + c.looks ∨ n = b + c.looks) → y ≠ n → b + c.looks ≤ y → b + c.looks ≤ n →
    (∀ j, j < c.looks → rows[b + j]? = (rowsM b (dueM c b y n))[j]?) →
    ∃ j : Nat, j ≤ (ev ws c).2.length ∧ runM rows ws (rows.length - b) b = ((runM rows ws (rows.length - (if (ev ws c).1 then y else n)) (if (ev ws c).1 then y else n)).1, (ev ws c).2 ++ (runM rows ws (rows.length - (if (ev ws c).1 then y else n)) (if (ev ws c).1 then y else n)).2.1, j + (runM rows ws (rows.length - (if (ev ws c).1 then y else n)) (if (ev ws c).1 then y else n)).2.2)
  | .look i, b, y, n, ho, h1, h2, h3, h4, hr => by
    have h0 := hr 0 (by unfold Cond.looks; decide)
    rw [rowsM_get] at h0
    have he : EntOk (max y n) (b + 0) (i, y, n) := due_ent (.look i) b y n (max y n) ho h1 h2 h3 h4 (Nat.le_max_left _ _) (Nat.le_max_right _ _) 0 _ rfl
    obtain ⟨w, to, e, _, _, _, hg⟩ := ent_row he
    have h0' : rows[b]? = some (.look i w to) := by rw [← e]; exact h0
    have hl := runM_look (ws := ws) hok h0'
    have hg' : (if ws.getD i false == w then to else b + 1) = if ws.getD i false then y else n := hg (ws.getD i false)
    rw [hg'] at hl
    refine ⟨if ws.getD i false == w then 1 else 0, ?_, hl⟩
    show (if ws.getD i false == w then 1 else 0) ≤ 1
    split <;> decide
  | .not c, b, y, n, ho, h1, h2, h3, h4, hr => by
    obtain ⟨j, hj, e⟩ := run_part (ws := ws) hok c b n y ho h1.symm h2.symm h4 h3 hr
    refine ⟨j, hj, ?_⟩
    have e2 : (if (ev ws c).1 then n else y) = if (ev ws c.not).1 then y else n := by
      show _ = if (!(ev ws c).1) = true then y else n
      cases (ev ws c).1 <;> rfl
    rw [e2] at e
    exact e
  | .bin a l r, b, y, n, ho, h1, h2, h3, h4, hr => by
    have hrp := looks_pos r
    have hlp := looks_pos l
    unfold Cond.looks at h1 h3 h4
    have hsplit : ∀ (A : List (Nat × Nat × Nat)), A.length = l.looks → dueM (.bin a l r) b y n = A ++ dueM r (b + l.looks) y n →
        (∀ j, j < l.looks → rows[b + j]? = (rowsM b A)[j]?) ∧ ∀ j, j < r.looks → rows[b + l.looks + j]? = (rowsM (b + l.looks) (dueM r (b + l.looks) y n))[j]? := by
      intro A hA hd
      rw [hd, rowsM_app] at hr
      constructor
      · intro j hj
        have := hr j (by show j < l.looks + r.looks; omega)
        rw [List.getElem?_append_left (by rw [rowsM_len]; omega)] at this
        exact this
      · intro j hj
        have := hr (l.looks + j) (by show l.looks + j < l.looks + r.looks; omega)
        rw [List.getElem?_append_right (by rw [rowsM_len]; omega), rowsM_len, hA, Nat.add_sub_cancel_left, ← Nat.add_assoc] at this
        exact this
    cases a
    · obtain ⟨hL, hR⟩ := hsplit (dueM l b y (b + l.looks)) (dueM_len _ _ _ _) rfl
      obtain ⟨j1, hj1, e1⟩ := run_part (ws := ws) hok l b y (b + l.looks) ho.1 (.inr rfl) (by omega) (by omega) (by omega) hL
      obtain ⟨j2, hj2, e2⟩ := run_part (ws := ws) hok r (b + l.looks) y n ho.2 (by omega) h2 (by omega) (by omega) hR
      cases hx : (ev ws l).1
      · have ee : ev ws (.bin false l r) = ((ev ws r).1, (ev ws l).2 ++ (ev ws r).2) := by rw [ev_bin, if_pos hx]
        rw [hx, if_neg Bool.false_ne_true, e2] at e1
        rw [ee]
        refine ⟨j1 + j2, by show j1 + j2 ≤ ((ev ws l).2 ++ (ev ws r).2).length; rw [List.length_append]; omega, ?_⟩
        rw [e1, List.append_assoc, Nat.add_assoc]
      · have ee : ev ws (.bin false l r) = ev ws l := by rw [ev_bin, if_neg (by rw [hx]; decide)]
        rw [ee]
        refine ⟨j1, hj1, ?_⟩
        rw [hx] at e1 ⊢
        exact e1
    · obtain ⟨hL, hR⟩ := hsplit (dueM l b (b + l.looks) n) (dueM_len _ _ _ _) rfl
      obtain ⟨j1, hj1, e1⟩ := run_part (ws := ws) hok l b (b + l.looks) n ho.1 (.inl rfl) (by omega) (by omega) (by omega) hL
      obtain ⟨j2, hj2, e2⟩ := run_part (ws := ws) hok r (b + l.looks) y n ho.2 (by omega) h2 (by omega) (by omega) hR
      cases hx : (ev ws l).1
      · have ee : ev ws (.bin true l r) = ev ws l := by rw [ev_bin, if_neg (by rw [hx]; decide)]
        rw [ee]
        refine ⟨j1, hj1, ?_⟩
        rw [hx] at e1 ⊢
        exact e1
      · have ee : ev ws (.bin true l r) = ((ev ws r).1, (ev ws l).2 ++ (ev ws r).2) := by rw [ev_bin, if_pos hx]
        rw [hx, if_pos rfl, e2] at e1
        rw [ee]
        refine ⟨j1 + j2, by show j1 + j2 ≤ ((ev ws l).2 ++ (ev ws r).2).length; rw [List.length_append]; omega, ?_⟩
        rw [e1, List.append_assoc, Nat.add_assoc]
/-- POINT 8 -/
theorem run_code (c : Cond) (f : Bool) (ws : List Bool) (ho : c.ok) (hk : c.looks ≤ 900) : ∃ j : Nat, j ≤ (ev ws c).2.length ∧ runC (codeM c f) ws = ((ev ws c).1, (ev ws c).2, j) := by
  have hok := codeM_ok c f ho hk
  have hl := codeM_len c f
  obtain ⟨j, hj, e⟩ := run_part (ws := ws) hok c 0 (if f then c.looks else c.looks + 1) (if f then c.looks + 1 else c.looks) ho (by cases f <;> simp) (by cases f <;> simp) (by cases f <;> simp) (by cases f <;> simp) (by
    intro j hj
    unfold codeM
    rw [Nat.zero_add, List.getElem?_append_left (by rw [rowsM_len, dueM_len]; exact hj)])
  refine ⟨j, hj, ?_⟩
  have h0 : (codeM c f)[c.looks]? = some (.fin f) := by
    unfold codeM
    rw [List.getElem?_append_right (by rw [rowsM_len, dueM_len]; omega), rowsM_len, dueM_len, Nat.sub_self]
    rfl
  have h1 : (codeM c f)[c.looks + 1]? = some (.fin (!f)) := by
    unfold codeM
    rw [List.getElem?_append_right (by rw [rowsM_len, dueM_len]; omega), rowsM_len, dueM_len, Nat.add_sub_cancel_left]
    rfl
  have hfin : runM (codeM c f) ws ((codeM c f).length - (if (ev ws c).1 then (if f then c.looks else c.looks + 1) else (if f then c.looks + 1 else c.looks))) (if (ev ws c).1 then (if f then c.looks else c.looks + 1) else (if f then c.looks + 1 else c.looks)) = ((ev ws c).1, [], 0) := by
    cases hx : (ev ws c).1 <;> cases f
    · exact runM_fin h0
    · exact runM_fin h1
    · exact runM_fin h1
    · exact runM_fin h0
  rw [hfin, List.append_nil] at e
  unfold runC
  rw [← Nat.sub_zero (codeM c f).length, e]
  rfl
end J
namespace J
open PySem L2
/-- a code as the document has it -/
def GoodCode (rows : List Row) : Prop := ∃ (ls : List Row) (f : Bool), rows = ls ++ [.fin f, .fin (!f)] ∧ ls.length ≤ 38 ∧ ∀ (i : Nat) (r : Row), ls[i]? = some r → ∃ t w to, r = .look t w to ∧ t < 8 ∧ i < to ∧ to < ls.length + 2
theorem codeM_good (c : Cond) (f : Bool) (ho : c.ok) (hk : c.looks ≤ 38) : GoodCode (codeM c f) := by
  refine ⟨_, f, rfl, by rw [rowsM_len, dueM_len]; exact hk, fun i r h => ?_⟩
  rw [rowsM_len, dueM_len]
  have hi : i < c.looks := by
    have := (List.getElem?_eq_some_iff.mp h).1
    rw [rowsM_len, dueM_len] at this
    exact this
  have h2 : (codeM c f)[i]? = some r := by
    unfold codeM
    rw [List.getElem?_append_left (by rw [rowsM_len, dueM_len]; exact hi)]
    exact h
  rcases codeM_at c f ho i r h2 with ⟨_, t, w, to, e, h3, h4, h5⟩ | ⟨h1, _⟩ | ⟨h1, _⟩
  · exact ⟨t, w, to, e, h3, by omega, h5⟩
  · omega
  · omega
theorem GoodCode.ok {rows : List Row} (h : GoodCode rows) : okRows rows := by
  obtain ⟨ls, f, rfl, hl, hr⟩ := h
  have hlen : (ls ++ [Row.fin f, Row.fin (!f)]).length = ls.length + 2 := by rw [List.length_append]; rfl
  refine ⟨by omega, by omega, fun i r hi => ?_⟩
  rw [hlen]
  by_cases h1 : i < ls.length
  · rw [List.getElem?_append_left h1] at hi
    obtain ⟨t, w, to, rfl, h2, h3, h4⟩ := hr i r hi
    exact ⟨h2, by omega, h3, h4⟩
  · rw [List.getElem?_append_right (by omega)] at hi
    obtain ⟨k, hk⟩ : ∃ k, i - ls.length = k := ⟨_, rfl⟩
    rw [hk] at hi
    match k, hi with
    | 0, hi =>
      obtain rfl := Option.some.inj hi
      show ls.length + 2 ≤ i + 2
      omega
    | 1, hi =>
      obtain rfl := Option.some.inj hi
      show ls.length + 2 ≤ i + 2
      omega
    | k + 2, hi => cases hi
/-- what is told of a run, as data -/
def rTold (x : Bool × List Nat × Nat) : PyData := .tuple [.int (bi x.1), .list (x.2.1.map fun (k : Nat) => PyData.int (k : Int)), .int (x.2.2 : Int)]
theorem dp_rtold {K : PySem.W.Frag} {H H' : Hp} {v : V} {x : Bool × List Nat × Nat} (h : RTold H H' v x) : Dp K H' v (rTold x) := by
  obtain ⟨p, l, rfl, h0, hp, hl⟩ := h
  exact .tup (SqT.of hp) (.cons (.int _) (.cons (.lst (SqL.of hl) (dp_vn _)) (.cons (.int _) .nil)))
theorem lay_rtold (x : Bool × List Nat × Nat) : (rTold x).canLay0 = true := by
  show (true && ((PyData.canLayAll0 (x.2.1.map fun (k : Nat) => PyData.int (k : Int))) && (true && true))) = true
  rw [lay_vn]; rfl
theorem shaped_rtold (x : Bool × List Nat × Nat) : SeqAt.shaped (rTold x) = true := by
  show ((rTold x).canLay0 && decide ((max 0 (max (PyData.depthAll (x.2.1.map fun (k : Nat) => PyData.int (k : Int)) + 1) (max 0 0))) + 1 ≤ 64)) = true
  rw [lay_rtold, dep_vn]; rfl
end J

namespace J
open PySem L2
/-! counted over all worths -/
def sumN (n : Nat) (g : Nat → Nat) : Nat := match n with
  | 0 => 0
  | n + 1 => sumN n g + g n
def tmsN (ch : List Nat) (ws : List Bool) : Nat → Nat
  | 0 => 1
  | n + 1 => tmsN ch ws n * (if ws.getD n false then ch.getD n 0 else 100 - ch.getD n 0)
def looksM (ch : List Nat) (c : Cond) : Nat := sumN 256 fun n => tmsN ch (wts n) 8 * (ev (wts n) c).2.length
def jumpsM (ch : List Nat) (f : Bool) (c : Cond) : Nat := sumN 256 fun n => tmsN ch (wts n) 8 * (runC (codeM c f) (wts n)).2.2
theorem tmsN_le (ch : List Nat) (ws : List Bool) (h : ∀ x ∈ ch, x ≤ 100) : ∀ n, tmsN ch ws n ≤ 100 ^ n
  | 0 => Nat.le_refl _
  | n + 1 => by
    unfold tmsN
    rw [Nat.pow_succ]
    refine Nat.mul_le_mul (tmsN_le ch ws h n) ?_
    split
    · rw [List.getD_eq_getElem?_getD]
      cases e : ch[n]? with
      | none => exact Nat.zero_le _
      | some x => exact h x (List.mem_of_getElem? e)
    · omega
/-- chances at a value -/
def ChA (H : Hp) (v : V) (ch : List Nat) : Prop := ∃ a, v = .ref a ∧ H a = some (.tup (ch.map vn)) ∧ ch.length = 8 ∧ ∀ x ∈ ch, x ≤ 100
theorem ChA.tups {H H' : Hp} (g : Tups H H') {v : V} {ch : List Nat} (h : ChA H v ch) : ChA H' v ch := by
  obtain ⟨a, e, q, l⟩ := h
  exact ⟨a, e, g _ _ q, l⟩
theorem ChA.mono {H H' : Hp} (g : Same H H') {v : V} {ch : List Nat} (h : ChA H v ch) : ChA H' v ch := h.tups (Same.tups g)
theorem vals_vn : ∀ {ys : List V}, (∀ y ∈ ys, ∃ k : Nat, y = vn k ∧ k ≤ 100) → ∃ ch : List Nat, ys = ch.map vn ∧ ∀ x ∈ ch, x ≤ 100
  | [], _ => ⟨[], rfl, fun _ h => by cases h⟩
  | y :: r, h => by
    obtain ⟨k, rfl, hk⟩ := h y List.mem_cons_self
    obtain ⟨ch, rfl, hc⟩ := vals_vn (ys := r) fun z hz => h z (List.mem_cons_of_mem _ hz)
    exact ⟨k :: ch, rfl, fun x hx => by
      rcases List.mem_cons.mp hx with rfl | hx
      · exact hk
      · exact hc x hx⟩
theorem vals_vb : ∀ {ys : List V}, (∀ y ∈ ys, ∃ b : Bool, y = vb b) → ∃ ts : List Bool, ys = ts.map vb
  | [], _ => ⟨[], rfl⟩
  | y :: r, h => by
    obtain ⟨b, rfl⟩ := h y List.mem_cons_self
    obtain ⟨ts, rfl⟩ := vals_vb (ys := r) fun z hz => h z (List.mem_cons_of_mem _ hz)
    exact ⟨b :: ts, rfl⟩
theorem lay_cond : ∀ c : Cond, (cdata c).canLay0 = true
  | .look i => by
    show (PyData.strOk ("look" : Str) && (true && true)) = true
    rw [str_look]; rfl
  | .not c => by
    show (PyData.strOk ("not" : Str) && ((cdata c).canLay0 && true)) = true
    rw [lay_cond c, show PyData.strOk ("not" : Str) = true by decide +kernel]; rfl
  | .bin a l r => by
    show (PyData.strOk (wd a) && ((cdata l).canLay0 && ((cdata r).canLay0 && true))) = true
    rw [lay_cond l, lay_cond r, show PyData.strOk (wd a) = true by cases a <;> decide +kernel]; rfl
theorem ok_cond : ∀ (c : Cond) (n : Nat), c.deep + 2 ≤ n → okd n (cdata c)
  | .look i, n + 2, _ => by
    refine ⟨by show 2 ≤ 1000; decide, fun x hx => ?_⟩
    rcases List.mem_cons.mp hx with rfl | hx
    · trivial
    · obtain rfl := List.mem_singleton.mp hx
      trivial
  | .not c, n + 1, h => by
    have h' : c.deep + 1 + 2 ≤ n + 1 := h
    refine ⟨by show 2 ≤ 1000; decide, fun x hx => ?_⟩
    rcases List.mem_cons.mp hx with rfl | hx
    · obtain ⟨m, rfl⟩ : ∃ m, n = m + 1 := ⟨n - 1, by omega⟩
      trivial
    · obtain rfl := List.mem_singleton.mp hx
      exact ok_cond c n (by omega)
  | .bin a l r, n + 1, h => by
    have h' : max l.deep r.deep + 1 + 2 ≤ n + 1 := h
    refine ⟨by show 3 ≤ 1000; decide, fun x hx => ?_⟩
    rcases List.mem_cons.mp hx with rfl | hx
    · obtain ⟨m, rfl⟩ : ∃ m, n = m + 1 := ⟨n - 1, by omega⟩
      trivial
    · rcases List.mem_cons.mp hx with rfl | hx
      · exact ok_cond l n (by omega)
      · obtain rfl := List.mem_singleton.mp hx
        exact ok_cond r n (by omega)
theorem dep_cond : ∀ c : Cond, (cdata c).depth ≤ c.deep + 1
  | .look i => Nat.le_refl _
  | .not c => by
    show max 0 (max (cdata c).depth 0) + 1 ≤ c.deep + 1 + 1
    have := dep_cond c
    omega
  | .bin a l r => by
    show max 0 (max (cdata l).depth (max (cdata r).depth 0)) + 1 ≤ max l.deep r.deep + 1 + 1
    have := dep_cond l
    have := dep_cond r
    omega
theorem shaped_cond {c : Cond} (h : c.deep ≤ 40) : SeqAt.shaped (cdata c) = true := by
  show ((cdata c).canLay0 && decide ((cdata c).depth ≤ 64)) = true
  have := dep_cond c
  rw [lay_cond, decide_eq_true (by omega)]; rfl
end J

namespace J
open PySem L2
/-! what parts two conditions -/
def unlike (c d : Cond) (n : Nat) : Bool := !decide (ev (wts n) c = ev (wts n) d)
def partM (c d : Cond) : Nat → Option Nat
  | 0 => none
  | n + 1 => match partM c d n with
    | some m => some m
    | none => if unlike c d n then some n else none
def sameM (c d : Cond) : Nat → Bool
  | 0 => true
  | n + 1 => sameM c d n && ((ev (wts n) c).1 == (ev (wts n) d).1)
theorem unlike_comm (c d : Cond) (n : Nat) : unlike c d n = unlike d c n := by
  unfold unlike
  by_cases h : ev (wts n) c = ev (wts n) d
  · rw [decide_eq_true h, decide_eq_true h.symm]
  · rw [decide_eq_false h, decide_eq_false fun e => h e.symm]
theorem partM_comm (c d : Cond) : ∀ n, partM c d n = partM d c n
  | 0 => rfl
  | n + 1 => by
    unfold partM
    rw [partM_comm c d n, unlike_comm]
theorem eqv_vn : ∀ l m : List Nat, PyData.eqvAll (l.map fun (k : Nat) => PyData.int (k : Int)) (m.map fun (k : Nat) => PyData.int (k : Int)) = decide (l = m)
  | [], [] => rfl
  | [], _ :: _ => rfl
  | _ :: _, [] => rfl
  | a :: l, b :: m => by
    show ((a : Int) == (b : Int) && PyData.eqvAll (l.map _) (m.map _)) = decide (a :: l = b :: m)
    rw [eqv_vn l m]
    by_cases h : a = b
    · subst h
      by_cases h2 : l = m
      · subst h2; simp
      · rw [decide_eq_false h2, decide_eq_false fun e => h2 (List.cons.inj e).2, Bool.and_false]
    · rw [decide_eq_false (show ¬ a :: l = b :: m from fun e => h (List.cons.inj e).1)]
      have : ((a : Int) == (b : Int)) = false := by
        rw [beq_eq_false_iff_ne]
        omega
      rw [this, Bool.false_and]
theorem eqv_told (x y : Bool × List Nat) : PyData.eqv (dTold x) (dTold y) = decide (x = y) := by
  obtain ⟨a, l⟩ := x
  obtain ⟨b, m⟩ := y
  show (bi a == bi b && (PyData.eqvAll (l.map _) (m.map _) && true)) = decide ((a, l) = (b, m))
  rw [eqv_vn, Bool.and_true]
  by_cases h2 : l = m
  · subst h2
    cases a <;> cases b <;> simp [bi]
  · rw [decide_eq_false h2, decide_eq_false fun e => h2 (Prod.mk.inj e).2, Bool.and_false]
/-- a telling, its list tracked -/
def TT (H : Hp) (v : V) (x : Bool × List Nat) : Prop := ∃ p l, v = .ref p ∧ H p = some (.tup [vb x.1, .ref l]) ∧ H l = some (.lst (x.2.map vn))
theorem TT.mono {H H' : Hp} {v : V} {x : Bool × List Nat} (g : Same H H') (h : TT H v x) : TT H' v x := by
  obtain ⟨p, l, rfl, h1, h2⟩ := h
  exact ⟨p, l, rfl, g _ _ h1, g _ _ h2⟩
theorem Told.tt {H H' : Hp} {v : V} {x : Bool × List Nat} (h : Told H H' v x) : TT H' v x := by
  obtain ⟨p, l, e, _, h1, h2⟩ := h
  exact ⟨p, l, e, h1, h2⟩
theorem TT.dp {K : PySem.W.Frag} {H : Hp} {v : V} {x : Bool × List Nat} (h : TT H v x) : Dp K H v (dTold x) := by
  obtain ⟨p, l, rfl, hp, hl⟩ := h
  exact .tup (SqT.of hp) (.cons (.int _) (.cons (.lst (SqL.of hl) (dp_vn _)) .nil))
def wdata (ws : List Bool) : PyData := .tuple (ws.map fun b => PyData.int (bi b))
theorem wa_dp {K : PySem.W.Frag} {H : Hp} {v : V} {ws : List Bool} (h : WA H v ws) : Dp K H v (wdata ws) := by
  obtain ⟨a, rfl, e, h8⟩ := h
  refine .tup (SqT.of e) ?_
  clear e h8
  induction ws with
  | nil => exact .nil
  | cons b r ih => exact .cons (.int _) ih
/-- None, or (worths, telling, telling) -/
def DueAt (H : Hp) (v : V) (o : Option Nat) (c d : Cond) : Prop := match o with
  | none => v = .non
  | some n => ∃ p u t1 t2, v = .ref p ∧ H p = some (.tup [u, t1, t2]) ∧ WA H u (wts n) ∧ TT H t1 (ev (wts n) c) ∧ TT H t2 (ev (wts n) d)
theorem DueAt.mono {H H' : Hp} {v : V} {o : Option Nat} {c d : Cond} (g : Same H H') (h : DueAt H v o c d) : DueAt H' v o c d := by
  cases o with
  | none => exact h
  | some n =>
    obtain ⟨p, u, t1, t2, e, h1, h2, h3, h4⟩ := h
    exact ⟨p, u, t1, t2, e, g _ _ h1, h2.mono g, h3.mono g, h4.mono g⟩
def dueD (o : Option Nat) (c d : Cond) : PyData := match o with
  | none => .none
  | some n => .tuple [wdata (wts n), dTold (ev (wts n) c), dTold (ev (wts n) d)]
theorem DueAt.dp {K : PySem.W.Frag} {H : Hp} {v : V} {o : Option Nat} {c d : Cond} (h : DueAt H v o c d) : Dp K H v (dueD o c d) := by
  cases o with
  | none =>
    obtain rfl := h
    exact .non
  | some n =>
    obtain ⟨p, u, t1, t2, rfl, h1, h2, h3, h4⟩ := h
    exact .tup (SqT.of h1) (.cons (wa_dp h2) (.cons h3.dp (.cons h4.dp .nil)))
theorem okd_more : ∀ (n : Nat) (d : PyData), okd n d → okd (n + 1) d
  | 0, _, h => h.elim
  | n + 1, .list ds, h => ⟨h.1, fun x hx => okd_more n x (h.2 x hx)⟩
  | n + 1, .tuple ds, h => ⟨h.1, fun x hx => okd_more n x (h.2 x hx)⟩
  | _ + 1, .dict _, h => h
  | _ + 1, .none, _ => trivial
  | _ + 1, .bool _, _ => trivial
  | _ + 1, .int _, _ => trivial
  | _ + 1, .str _, _ => trivial
theorem ok_due {o : Option Nat} {c d : Cond} (h1 : c.looks ≤ 1000) (h2 : d.looks ≤ 1000) : okd 4 (dueD o c d) := by
  cases o with
  | none => trivial
  | some n =>
    refine ⟨by show 3 ≤ 1000; decide, fun x hx => ?_⟩
    rcases List.mem_cons.mp hx with rfl | hx
    · refine ⟨by rw [List.length_map]; show 8 ≤ 1000; decide, fun y hy => ?_⟩
      obtain ⟨b, _, rfl⟩ := List.mem_map.mp hy
      trivial
    · rcases List.mem_cons.mp hx with rfl | hx
      · exact ok_told (Nat.le_trans (ev_len _ c) h1)
      · obtain rfl := List.mem_singleton.mp hx
        exact ok_told (Nat.le_trans (ev_len _ d) h2)
/-- what parting tells: its lists new -/
def PTold (H H' : Hp) (v : V) (o : Option Nat) (c d : Cond) : Prop := match o with
  | none => v = .non
  | some n => ∃ p u t1 t2, v = .ref p ∧ H' p = some (.tup [u, t1, t2]) ∧ WA H' u (wts n) ∧ Told H H' t1 (ev (wts n) c) ∧ Told H H' t2 (ev (wts n) d)
theorem PTold.due {H H' : Hp} {v : V} {o : Option Nat} {c d : Cond} (h : PTold H H' v o c d) : DueAt H' v o c d := by
  cases o with
  | none => exact h
  | some n =>
    obtain ⟨p, u, t1, t2, e, h1, h2, h3, h4⟩ := h
    exact ⟨p, u, t1, t2, e, h1, h2, h3.tt, h4.tt⟩
/-! two names at once -/
theorem l_par {i j : Nat} {ta : TA} {nx bk ct : L2.St → Hp → Prop} {rt : VK} {σ : L2.St} {H : Hp} (h : ta σ H fun vs H1 => ∃ v w, vs = [v, w] ∧ nx ((σ.set i (some v)).set j (some w)) H1) : tPar i j ta (Ends.mk nx rt bk ct) σ H := h
theorem l_two {v w : V} {G : V → V → Prop} (h : G v w) : ∃ v' w', [v, w] = [v', w'] ∧ G v' w' := ⟨v, w, rfl, h⟩
end J

namespace J
open PySem L2
/-! ands for ors with nots about looks -/
def dualM : Cond → Cond
  | .look i => .not (.look i)
  | .not c => .not (dualM c)
  | .bin a l r => .bin (!a) (dualM l) (dualM r)
theorem dual_looks : ∀ c : Cond, (dualM c).looks = c.looks
  | .look _ => rfl
  | .not c => dual_looks c
  | .bin a l r => by
    show (dualM l).looks + (dualM r).looks = l.looks + r.looks
    rw [dual_looks l, dual_looks r]
theorem dual_ok : ∀ c : Cond, c.ok → (dualM c).ok
  | .look _, h => h
  | .not c, h => dual_ok c h
  | .bin a l r, h => ⟨dual_ok l h.1, dual_ok r h.2⟩
theorem dual_deep : ∀ c : Cond, (dualM c).deep ≤ c.deep + 1
  | .look _ => Nat.le_refl _
  | .not c => Nat.succ_le_succ (dual_deep c)
  | .bin a l r => by
    show max (dualM l).deep (dualM r).deep + 1 ≤ max l.deep r.deep + 1 + 1
    have := dual_deep l
    have := dual_deep r
    omega
theorem ev_dual (ws : List Bool) : ∀ c : Cond, ev ws (dualM c) = (!(ev ws c).1, (ev ws c).2)
  | .look _ => rfl
  | .not c => by
    show (!(ev ws (dualM c)).1, (ev ws (dualM c)).2) = (!(!(ev ws c).1), (ev ws c).2)
    rw [ev_dual ws c]
  | .bin a l r => by
    show (if (ev ws (dualM l)).1 = !a then ((ev ws (dualM r)).1, (ev ws (dualM l)).2 ++ (ev ws (dualM r)).2) else ev ws (dualM l)) = (!(ev ws (.bin a l r)).1, (ev ws (.bin a l r)).2)
    rw [ev_bin, ev_dual ws l, ev_dual ws r]
    obtain ⟨x, y⟩ := ev ws l
    cases a <;> cases x <;> rfl
theorem ev_contrary (ws : List Bool) (c : Cond) : ev ws (.not (dualM c)) = ev ws c := by
  show (!(ev ws (dualM c)).1, (ev ws (dualM c)).2) = ev ws c
  rw [ev_dual]
  cases e : ev ws c with
  | mk a b => rw [Bool.not_not]
theorem due_dual : ∀ (c : Cond) (b y n : Nat), dueM (dualM c) b y n = dueM c b n y
  | .look _, _, _, _ => rfl
  | .not c, b, y, n => due_dual c b n y
  | .bin a l r, b, y, n => by
    unfold dualM dueM
    rw [dual_looks, due_dual l, due_dual l, due_dual r]
    cases a <;> rfl
def lookRows (c : Cond) (f : Bool) : List Row := rowsM 0 (dueM c 0 (if f then c.looks else c.looks + 1) (if f then c.looks + 1 else c.looks))
theorem code_split (c : Cond) (f : Bool) : codeM c f = lookRows c f ++ [.fin f, .fin (!f)] := rfl
theorem lookRows_len (c : Cond) (f : Bool) : (lookRows c f).length = c.looks := by
  unfold lookRows
  rw [rowsM_len, dueM_len]
theorem code_contrary (c : Cond) (f : Bool) : codeM (.not (dualM c)) f = codeM c f := by
  have e : (Cond.not (dualM c)).looks = c.looks := dual_looks c
  unfold codeM
  rw [e]
  show rowsM 0 (dueM (dualM c) 0 _ _) ++ _ = _
  rw [due_dual]
theorem look_not (c : Cond) (f : Bool) : lookRows (.not c) (!f) = lookRows c f := by
  unfold lookRows
  show rowsM 0 (dueM c 0 (if (!f) = true then c.looks + 1 else c.looks) (if (!f) = true then c.looks else c.looks + 1)) = _
  cases f <;> rfl
/-! other numbers -/
def mapC (f : Nat → Nat) : Cond → Cond
  | .look i => .look (f i)
  | .not c => .not (mapC f c)
  | .bin a l r => .bin a (mapC f l) (mapC f r)
theorem map_looks (f : Nat → Nat) : ∀ c : Cond, (mapC f c).looks = c.looks
  | .look _ => rfl
  | .not c => map_looks f c
  | .bin a l r => by
    show (mapC f l).looks + (mapC f r).looks = l.looks + r.looks
    rw [map_looks f l, map_looks f r]
theorem map_deep (f : Nat → Nat) : ∀ c : Cond, (mapC f c).deep = c.deep
  | .look _ => rfl
  | .not c => congrArg (· + 1) (map_deep f c)
  | .bin a l r => by
    show max (mapC f l).deep (mapC f r).deep + 1 = max l.deep r.deep + 1
    rw [map_deep f l, map_deep f r]
theorem map_ok {f : Nat → Nat} (hf : ∀ i, i < 8 → f i < 8) : ∀ c : Cond, c.ok → (mapC f c).ok
  | .look i, h => hf i h
  | .not c, h => map_ok hf c h
  | .bin a l r, h => ⟨map_ok hf l h.1, map_ok hf r h.2⟩
theorem ev_map {f : Nat → Nat} {ws us : List Bool} (h : ∀ i, i < 8 → us.getD i false = ws.getD (f i) false) : ∀ c : Cond, c.ok → ev ws (mapC f c) = ((ev us c).1, (ev us c).2.map f)
  | .look i, ho => by
    show (ws.getD (f i) false, [f i]) = (us.getD i false, [f i])
    rw [h i ho]
  | .not c, ho => by
    show (!(ev ws (mapC f c)).1, (ev ws (mapC f c)).2) = _
    rw [ev_map h c ho]
    rfl
  | .bin a l r, ho => by
    show (if (ev ws (mapC f l)).1 = a then ((ev ws (mapC f r)).1, (ev ws (mapC f l)).2 ++ (ev ws (mapC f r)).2) else ev ws (mapC f l)) = ((ev us (.bin a l r)).1, (ev us (.bin a l r)).2.map f)
    rw [ev_bin, ev_map h l ho.1, ev_map h r ho.2]
    show (if (ev us l).1 = a then _ else _) = _
    by_cases e : (ev us l).1 = a
    · rw [if_pos e, if_pos e, List.map_append]
    · rw [if_neg e, if_neg e]
def mapR (f : Nat → Nat) : Row → Row
  | .look t w to => .look (f t) w to
  | .fin b => .fin b
theorem due_map (f : Nat → Nat) : ∀ (c : Cond) (b y n : Nat), dueM (mapC f c) b y n = (dueM c b y n).map fun x => (f x.1, x.2)
  | .look _, _, _, _ => rfl
  | .not c, b, y, n => due_map f c b n y
  | .bin a l r, b, y, n => by
    unfold mapC dueM
    rw [map_looks, due_map f l, due_map f l, due_map f r, List.map_append]
    cases a <;> rfl
theorem rows_map (f : Nat → Nat) : ∀ (k : Nat) (l : List (Nat × Nat × Nat)), rowsM k (l.map fun x => (f x.1, x.2)) = (rowsM k l).map (mapR f)
  | _, [] => rfl
  | k, x :: r => by
    show (if x.2.1 = k + 1 then Row.look (f x.1) false x.2.2 else Row.look (f x.1) true x.2.1) :: rowsM (k + 1) (r.map _) = mapR f (if x.2.1 = k + 1 then .look x.1 false x.2.2 else .look x.1 true x.2.1) :: (rowsM (k + 1) r).map (mapR f)
    rw [rows_map f (k + 1) r]
    congr 1
    split <;> rfl
theorem code_map (f : Nat → Nat) (c : Cond) (b : Bool) : codeM (mapC f c) b = (codeM c b).map (mapR f) := by
  unfold codeM
  rw [map_looks, due_map, rows_map, List.map_append]
  rfl
theorem runM_map {f : Nat → Nat} {ws us : List Bool} (h : ∀ i, i < 8 → us.getD i false = ws.getD (f i) false) {rows : List Row} (hr : ∀ (i : Nat) (t : Nat) (w : Bool) (to : Nat), rows[i]? = some (.look t w to) → t < 8) : ∀ (k i : Nat), runM (rows.map (mapR f)) ws k i = ((runM rows us k i).1, (runM rows us k i).2.1.map f, (runM rows us k i).2.2)
  | 0, _ => rfl
  | k + 1, i => by
    unfold runM
    rw [List.getElem?_map]
    cases e : rows[i]? with
    | none => rfl
    | some r =>
      cases r with
      | fin b => rfl
      | look t w to =>
        have h8 := hr i t w to e
        show (fun (r : Bool × List Nat × Nat) => (r.1, f t :: r.2.1, (if ws.getD (f t) false == w then 1 else 0) + r.2.2)) (runM (rows.map (mapR f)) ws k (if ws.getD (f t) false == w then to else i + 1)) = _
        rw [← h t h8, runM_map h hr k]
        rfl
theorem runC_map {f : Nat → Nat} {ws us : List Bool} (h : ∀ i, i < 8 → us.getD i false = ws.getD (f i) false) {rows : List Row} (hr : okRows rows) : runC (rows.map (mapR f)) ws = ((runC rows us).1, (runC rows us).2.1.map f, (runC rows us).2.2) := by
  unfold runC
  rw [List.length_map]
  exact runM_map h (fun i t w to e => (hr.2.2 i _ e).1) _ _
/-! a turn of the things: all worths once each -/
def pw (nm : List Nat) (ws : List Bool) : List Bool := nm.map fun j => ws.getD j false
theorem pw_get {nm : List Nat} {ws : List Bool} {i : Nat} (h : i < nm.length) : (pw nm ws).getD i false = ws.getD (nm.getD i 0) false := by
  unfold pw
  rw [List.getD_eq_getElem?_getD, List.getElem?_map, List.getD_eq_getElem?_getD (l := nm), List.getElem?_eq_getElem h]
  rfl
def allW : List (List Bool) := (List.range 256).map wts
theorem allW_nodup : allW.Nodup := by decide +kernel
theorem mem_all {l : List Bool} (h : l.length = 8) : l ∈ allW := by
  match l, h with
  | [a, b, c, d, e, f, g, i], _ =>
    have : ∀ a b c d e f g i : Bool, [a, b, c, d, e, f, g, i] ∈ allW := by decide +kernel
    exact this a b c d e f g i
theorem wts_len (n : Nat) : (wts n).length = 8 := rfl
theorem all_len {l : List Bool} (h : l ∈ allW) : l.length = 8 := by
  obtain ⟨n, _, rfl⟩ := List.mem_map.mp h
  rfl
theorem perm_sub {α : Type} [DecidableEq α] : ∀ {l m : List α}, l.Nodup → (∀ x ∈ l, x ∈ m) → l.length = m.length → l.Perm m
  | [], m, _, _, hl => by
    obtain rfl : m = [] := List.length_eq_zero_iff.mp hl.symm
    exact List.Perm.nil
  | a :: r, m, hn, hs, hl => by
    have ha := hs a List.mem_cons_self
    have pe := List.perm_cons_erase ha
    obtain ⟨h1, h2⟩ := List.nodup_cons.mp hn
    refine (List.Perm.cons a (perm_sub (m := m.erase a) h2 (fun x hx => ?_) ?_)).trans pe.symm
    · refine (List.mem_erase_of_ne ?_).mpr (hs x (List.mem_cons_of_mem _ hx))
      rintro rfl
      exact h1 hx
    · rw [List.length_erase_of_mem ha, ← hl]
      rfl
theorem pw_inj {nm : List Nat} (hp : nm.Perm (List.range 8)) {a b : List Bool} (ha : a.length = 8) (hb : b.length = 8) (e : pw nm a = pw nm b) : a = b := by
  refine List.ext_getElem (by omega) fun i h1 h2 => ?_
  have hi : i ∈ nm := hp.mem_iff.mpr (List.mem_range.mpr (by omega))
  have := List.map_inj_left.mp e i hi
  rw [List.getD_eq_getElem?_getD, List.getD_eq_getElem?_getD, List.getElem?_eq_getElem h1, List.getElem?_eq_getElem h2] at this
  exact this
theorem nodup_map {α β : Type} {f : α → β} : ∀ {l : List α}, l.Nodup → (∀ x ∈ l, ∀ y ∈ l, f x = f y → x = y) → (l.map f).Nodup
  | [], _, _ => List.nodup_nil
  | a :: r, hn, hi => by
    obtain ⟨h1, h2⟩ := List.nodup_cons.mp hn
    refine List.nodup_cons.mpr ⟨fun h => ?_, nodup_map h2 fun x hx y hy => hi x (List.mem_cons_of_mem _ hx) y (List.mem_cons_of_mem _ hy)⟩
    obtain ⟨y, hy, e⟩ := List.mem_map.mp h
    have := hi y (List.mem_cons_of_mem _ hy) a List.mem_cons_self e
    subst this
    exact h1 hy
theorem pw_all {nm : List Nat} (hp : nm.Perm (List.range 8)) : (allW.map (pw nm)).Perm allW := by
  refine perm_sub (nodup_map allW_nodup fun x hx y hy e => pw_inj hp (all_len hx) (all_len hy) e) (fun x hx => ?_) (List.length_map ..)
  obtain ⟨y, _, rfl⟩ := List.mem_map.mp hx
  refine mem_all ?_
  unfold pw
  rw [List.length_map, hp.length_eq]
  rfl
def sumL : List Nat → Nat
  | [] => 0
  | a :: r => a + sumL r
theorem sumL_perm {l m : List Nat} (h : l.Perm m) : sumL l = sumL m := by
  induction h with
  | nil => rfl
  | cons a _ ih => exact congrArg (a + ·) ih
  | swap a b l =>
    show b + (a + sumL l) = a + (b + sumL l)
    omega
  | trans _ _ i1 i2 => exact i1.trans i2
theorem sumL_app : ∀ l m : List Nat, sumL (l ++ m) = sumL l + sumL m
  | [], m => (Nat.zero_add _).symm
  | a :: r, m => by
    show a + sumL (r ++ m) = a + sumL r + sumL m
    rw [sumL_app r m, Nat.add_assoc]
theorem sumN_eq (g : Nat → Nat) : ∀ n, sumN n g = sumL ((List.range n).map g)
  | 0 => rfl
  | n + 1 => by
    rw [List.range_succ, List.map_append, sumL_app, ← sumN_eq g n]
    rfl
theorem sum_turn {nm : List Nat} (hp : nm.Perm (List.range 8)) (A : List Bool → Nat) : (sumN 256 fun n => A (pw nm (wts n))) = sumN 256 fun n => A (wts n) := by
  have e : ∀ B : List Bool → Nat, (sumN 256 fun n => B (wts n)) = sumL (allW.map B) := fun B => by
    rw [sumN_eq]
    unfold allW
    rw [List.map_map]
    rfl
  rw [e A, e fun ws => A (pw nm ws), ← sumL_perm ((pw_all hp).map A), List.map_map]
  rfl
def prodL (F : Nat → Nat) : List Nat → Nat
  | [] => 1
  | a :: r => prodL F r * F a
theorem prodL_perm {F : Nat → Nat} {l m : List Nat} (h : l.Perm m) : prodL F l = prodL F m := by
  induction h with
  | nil => rfl
  | cons a _ ih => exact congrArg (· * F a) ih
  | swap a b l =>
    show prodL F l * F a * F b = prodL F l * F b * F a
    rw [Nat.mul_assoc, Nat.mul_comm (F a), ← Nat.mul_assoc]
  | trans _ _ i1 i2 => exact i1.trans i2
theorem prodL_app {F : Nat → Nat} : ∀ l m : List Nat, prodL F (l ++ m) = prodL F m * prodL F l
  | [], m => (Nat.mul_one _).symm
  | a :: r, m => by
    show prodL F (r ++ m) * F a = prodL F m * (prodL F r * F a)
    rw [prodL_app r m, Nat.mul_assoc]
def tmF (ch : List Nat) (ws : List Bool) (j : Nat) : Nat := if ws.getD j false then ch.getD j 0 else 100 - ch.getD j 0
theorem tmsN_eq (ch : List Nat) (ws : List Bool) : ∀ n, tmsN ch ws n = prodL (tmF ch ws) (List.range n)
  | 0 => rfl
  | n + 1 => by
    rw [List.range_succ, prodL_app, ← tmsN_eq ch ws n]
    show tmsN ch ws n * tmF ch ws n = 1 * tmF ch ws n * tmsN ch ws n
    rw [Nat.one_mul, Nat.mul_comm]
theorem prodL_map {F G : Nat → Nat} (f : Nat → Nat) : ∀ {l : List Nat}, (∀ t ∈ l, F (f t) = G t) → prodL F (l.map f) = prodL G l
  | [], _ => rfl
  | a :: r, h => by
    show prodL F (r.map f) * F (f a) = prodL G r * G a
    rw [prodL_map f fun t ht => h t (List.mem_cons_of_mem _ ht), h a List.mem_cons_self]
theorem list_getD {nm : List Nat} (h : nm.length = 8) : nm = (List.range 8).map fun t => nm.getD t 0 := by
  refine List.ext_getElem (by rw [List.length_map, List.length_range]; exact h) fun i h1 h2 => ?_
  rw [List.getElem_map, List.getElem_range, List.getD_eq_getElem?_getD, List.getElem?_eq_getElem h1]
  rfl
theorem tms_turn {nm : List Nat} (hp : nm.Perm (List.range 8)) {ch th : List Nat} (h : ∀ t, t < 8 → th.getD (nm.getD t 0) 0 = ch.getD t 0) (ws : List Bool) : tmsN th ws 8 = tmsN ch (pw nm ws) 8 := by
  have hl : nm.length = 8 := hp.length_eq
  rw [tmsN_eq, tmsN_eq, ← prodL_perm hp]
  conv => lhs; rw [list_getD hl]
  refine prodL_map _ fun t ht => ?_
  have ht8 := List.mem_range.mp ht
  unfold tmF
  rw [pw_get (by omega), h t ht8]
theorem sumN_congr {g f : Nat → Nat} (h : ∀ n, g n = f n) (n : Nat) : sumN n g = sumN n f := by
  rw [funext h]
theorem looks_turn {nm : List Nat} (hp : nm.Perm (List.range 8)) {ch th : List Nat} (h : ∀ t, t < 8 → th.getD (nm.getD t 0) 0 = ch.getD t 0) {c : Cond} (ho : c.ok) : looksM th (mapC (fun i => nm.getD i 0) c) = looksM ch c := by
  unfold looksM
  rw [← sum_turn hp fun ws => tmsN ch ws 8 * (ev ws c).2.length]
  refine sumN_congr (fun n => ?_) _
  have hl : nm.length = 8 := hp.length_eq
  rw [tms_turn hp h, ev_map (us := pw nm (wts n)) (fun i hi => pw_get (by omega)) c ho, List.length_map]
theorem jumps_turn {nm : List Nat} (hp : nm.Perm (List.range 8)) {ch th : List Nat} (h : ∀ t, t < 8 → th.getD (nm.getD t 0) 0 = ch.getD t 0) {c : Cond} (f : Bool) (ho : c.ok) (hk : c.looks ≤ 900) : jumpsM th f (mapC (fun i => nm.getD i 0) c) = jumpsM ch f c := by
  unfold jumpsM
  rw [← sum_turn hp fun ws => tmsN ch ws 8 * (runC (codeM c f) ws).2.2]
  refine sumN_congr (fun n => ?_) _
  have hl : nm.length = 8 := hp.length_eq
  rw [tms_turn hp h, code_map, runC_map (us := pw nm (wts n)) (fun i hi => pw_get (by omega)) (codeM_ok c f ho hk)]
/-! the place of a number among the names -/
theorem nm_nodup {nm : List Nat} (hp : nm.Perm (List.range 8)) : nm.Nodup := hp.nodup_iff.mpr List.nodup_range
theorem nm_lt {nm : List Nat} (hp : nm.Perm (List.range 8)) {t : Nat} (ht : t < 8) : nm.getD t 0 < 8 := by
  have hl : nm.length = 8 := hp.length_eq
  rw [List.getD_eq_getElem?_getD, List.getElem?_eq_getElem (show t < nm.length by omega)]
  exact List.mem_range.mp (hp.mem_iff.mp (List.getElem_mem _))
theorem idx_lt {nm : List Nat} (hp : nm.Perm (List.range 8)) {t : Nat} (ht : t < 8) : nm.idxOf t < 8 := by
  have hl : nm.length = 8 := hp.length_eq
  have := List.idxOf_lt_length_of_mem (hp.mem_iff.mpr (List.mem_range.mpr ht))
  omega
theorem nm_idx {nm : List Nat} (hp : nm.Perm (List.range 8)) {t : Nat} (ht : t < 8) : nm.getD (nm.idxOf t) 0 = t := by
  have h : nm.idxOf t < nm.length := List.idxOf_lt_length_of_mem (hp.mem_iff.mpr (List.mem_range.mpr ht))
  rw [List.getD_eq_getElem?_getD, List.getElem?_eq_getElem h, List.getElem_idxOf h]
  rfl
theorem nm_ne {nm : List Nat} (hp : nm.Perm (List.range 8)) {t m : Nat} (ht : t < 8) (hm : m < nm.idxOf t) : nm.getD m 0 ≠ t := fun e => by
  have hl : nm.length = 8 := hp.length_eq
  have h := idx_lt hp ht
  rw [← nm_idx hp ht] at e
  have := (List.getD_inj (fallback := 0) (by omega) (by omega) (nm_nodup hp)).mp e
  omega
theorem idx_nm {nm : List Nat} (hp : nm.Perm (List.range 8)) {t : Nat} (ht : t < 8) : nm.idxOf (nm.getD t 0) = t := by
  have hl : nm.length = 8 := hp.length_eq
  have h8 := nm_lt hp ht
  have h := idx_lt hp h8
  exact (List.getD_inj (fallback := 0) (by omega) (by omega) (nm_nodup hp)).mp (nm_idx hp h8)
theorem erase_perm : ∀ {l : List Nat} {i : Nat}, i < l.length → (l.getD i 0 :: l.eraseIdx i).Perm l
  | a :: r, 0, _ => List.Perm.refl _
  | a :: r, i + 1, h => by
    have ih := erase_perm (l := r) (i := i) (Nat.lt_of_succ_lt_succ h)
    show (r.getD i 0 :: a :: r.eraseIdx i).Perm (a :: r)
    exact (List.Perm.swap a (r.getD i 0) (r.eraseIdx i)).trans (List.Perm.cons a ih)
theorem pop_perm {done left : List Nat} {i : Nat} (h : i < left.length) : ((done ++ [left.getD i 0]) ++ left.eraseIdx i).Perm (done ++ left) := by
  rw [List.append_assoc]
  exact List.Perm.append_left done (erase_perm h)
theorem erase_map : ∀ {l : List Nat} {i : Nat}, (l.map vn).eraseIdx i = (l.eraseIdx i).map vn
  | [], _ => rfl
  | a :: r, 0 => rfl
  | a :: r, i + 1 => congrArg (vn a :: ·) (erase_map (l := r) (i := i))
theorem l_popAt {H : Hp} {p : Addr} {xs : List Nat} {i : Nat} {Q : VK} (h : H p = some (.lst (xs.map vn))) (hi : i < xs.length) (hl : xs.length ≤ 1000) (q : ∀ H', But p H H' → H' p = some (.lst ((xs.eraseIdx i).map vn)) → Q (vn (xs.getD i 0)) H') : rPopAt (.ref p) [.int (i : Int)] H Q := by
  refine ⟨p, xs.map vn, (i : Int), i, vn (xs.getD i 0), rfl, rfl, h, ?_, ?_, ?_, ?_, ?_⟩
  · have : (-(2 ^ 63) : Int) ≤ 0 := by decide
    omega
  · have : (1000 : Int) < 2 ^ 63 := by decide
    omega
  · rw [List.length_map]
    show (if (decide (0 ≤ (if (i : Int) < 0 then (i : Int) + (xs.length : Int) else (i : Int))) && decide ((if (i : Int) < 0 then (i : Int) + (xs.length : Int) else (i : Int)) < (xs.length : Int))) = true then some (if (i : Int) < 0 then (i : Int) + (xs.length : Int) else (i : Int)).toNat else none) = some i
    rw [if_neg (show ¬ ((i : Int) < 0) by omega), decide_eq_true (show (0 : Int) ≤ (i : Int) by omega), decide_eq_true (show (i : Int) < (xs.length : Int) by omega)]
    rfl
  · rw [List.getElem?_map, List.getElem?_eq_getElem hi, List.getD_eq_getElem?_getD, List.getElem?_eq_getElem hi]
    rfl
  · rw [erase_map]
    exact q _ but_upd upd_same
/-- [e for i in range(n)], by an invariant that stands a store at a new place -/
theorem lcR_inv {σ : St} {H : Hp} {Q : VK} {te : TE} {j n : Nat} {vs : List Nat} (J : Nat → List V → Hp → Prop) (hw : ∀ x, wipe ((wipe σ vs).set j (some x)) vs = wipe σ vs) (hl : n ≤ 100000)
    (h0 : ∀ H', Same H H' → J 0 [] H') (keep : ∀ i ys (D : Addr) H' o, H D = none → J i ys H' → J i ys (upd H' D o)) (len : ∀ i ys H', J i ys H' → ys.length = i)
    (h : ∀ (i : Nat) (D : Addr) ys H' (Q' : VK), i < n → H D = none → J i ys H' → H' D = some (.lst ys) → (∀ y H'', J (i + 1) (ys ++ [y]) H'' → H'' D = some (.lst ys) → Q' y H'') → te ((wipe σ vs).set j (some (.int (0 + (i : Int))))) H' Q')
    (q : ∀ D ys H2, H D = none → J n ys H2 → H2 D = some (.lst ys) → Q (.ref D) H2) : IR1 [.int (n : Int)] H (LcB (gName j) tYes te vs σ Q) := by
  refine ⟨(n : Int), rfl, ?_, ?_, ?_⟩
  · have : (0 : Int) ≤ 2 ^ 62 := by decide
    omega
  · have : (100000 : Int) < 2 ^ 62 := by decide
    omega
  · intro D hD
    rw [Int.toNat_natCast]
    refine lc_range (lo := 0) (n := n) (fun i H' => ∃ ys, J i ys H' ∧ H' D = some (.lst ys)) ⟨[], h0 _ (sm_new hD _), upd_same⟩ (fun i H' hi p => ⟨hw _, ?_⟩) fun H' p => ?_
    · obtain ⟨ys, jj, e⟩ := p
      refine h i D ys H' _ hi hD jj e fun y H'' j2 e2 => ?_
      have hn := len _ _ _ jj
      refine ⟨ys, e2, Nat.lt_of_lt_of_le (show ys.length < 100001 by omega) (by decide), ys ++ [y], keep _ _ _ _ _ hD j2, upd_same⟩
    · obtain ⟨ys, jj, e⟩ := p
      exact q D ys H' hD jj e
theorem lcRm {σ : St} {H : Hp} {Q : VK} {te : TE} {j n : Nat} {vs : List Nat} (F : Nat → V) (hw : ∀ x, wipe ((wipe σ vs).set j (some x)) vs = wipe σ vs) (hl : n ≤ 100000)
    (h : ∀ (i : Nat) H' (Q' : VK), i < n → Same H H' → (∀ H'', Same H' H'' → Q' (F i) H'') → te ((wipe σ vs).set j (some (.int (i : Int)))) H' Q')
    (q : ∀ D H2, H D = none → Same H H2 → H2 D = some (.lst ((List.range n).map F)) → Q (.ref D) H2) : IR1 [.int (n : Int)] H (LcB (gName j) tYes te vs σ Q) := by
  refine lcR (ys := (List.range n).map F) hw hl ⟨?_, fun i x y H' Q' hx hy g k => ?_⟩ q
  · unfold irs
    rw [List.length_map, List.length_map]
  · have hi : i < n := by
      have := (List.getElem?_eq_some_iff.mp hx).1
      unfold irs at this
      rw [List.length_map, List.length_range] at this
      exact this
    rw [irs_at hi] at hx
    obtain rfl := Option.some.inj hx
    rw [List.getElem?_map, List.getElem?_range hi] at hy
    obtain rfl : F i = y := Option.some.inj hy
    rw [Int.zero_add]
    exact h i H' Q' hi g k
theorem lcLm {K : PySem.W.Frag} {σ : St} {H : Hp} {Q : VK} {te : TE} {j : Nat} {vs : List Nat} {a : Addr} {l : List Nat} (F : Nat → V) (hw : ∀ x, wipe ((wipe σ vs).set j (some x)) vs = wipe σ vs) (ht : SqL K H a (l.map vn)) (hl : l.length ≤ 100000)
    (h : ∀ (k : Nat) H' (Q' : VK), k ∈ l → Same H H' → (∀ H'', Same H' H'' → Q' (F k) H'') → te ((wipe σ vs).set j (some (vn k))) H' Q')
    (q : ∀ D H2, H D = none → Same H H2 → H2 D = some (.lst (l.map F)) → Q (.ref D) H2) : IL K (.ref a) H (LcB (gName j) tYes te vs σ Q) := by
  refine lcL (ys := l.map F) hw ht (by rw [List.length_map]; exact hl) ⟨?_, fun i x y H' Q' hx hy g k => ?_⟩ q
  · rw [List.length_map, List.length_map]
  · rw [List.getElem?_map] at hx hy
    cases e : l[i]? with
    | none => rw [e] at hx; cases hx
    | some m =>
      rw [e] at hx hy
      obtain rfl : vn m = x := Option.some.inj hx
      obtain rfl : F m = y := Option.some.inj hy
      exact h m H' Q' (List.mem_of_getElem? e) g k
theorem pw_range {nm : List Nat} (hl : nm.length = 8) (ws : List Bool) : (List.range 8).map (fun t => vb (ws.getD (nm.getD t 0) false)) = (pw nm ws).map vb := by
  unfold pw
  conv => rhs; rw [list_getD hl]
  rw [List.map_map, List.map_map]
  rfl
theorem RT.fr {b l lr : Addr} {H H' : Hp} {rows : List Row} (f : Fr b l H H') (tp : Tups H H') (n1 : lr ≠ b) (n2 : lr ≠ l) (h : RT H lr rows) : RT H' lr rows := by
  obtain ⟨vs, h1, h2⟩ := h
  exact ⟨vs, f.at n1 n2 h1, h2.tups tp⟩
theorem ev_lt (ws : List Bool) : ∀ c : Cond, c.ok → ∀ t ∈ (ev ws c).2, t < 8
  | .look i, ho, t, h => by
    obtain rfl := List.mem_singleton.mp h
    exact ho
  | .not c, ho, t, h => ev_lt ws c ho t h
  | .bin a l r, ho, t, h => by
    rw [ev_bin] at h
    split at h
    · rcases List.mem_append.mp h with h | h
      · exact ev_lt ws l ho.1 t h
      · exact ev_lt ws r ho.2 t h
    · exact ev_lt ws l ho.1 t h
theorem part_same {c d : Cond} (h : ∀ ws, ev ws c = ev ws d) : ∀ n, partM c d n = none
  | 0 => rfl
  | n + 1 => by
    unfold partM
    rw [part_same h n]
    show (if unlike c d n then some n else none) = none
    unfold unlike
    rw [h, decide_eq_true rfl]
    rfl
theorem same_not (c : Cond) : ∀ n, sameM c (.not c) (n + 1) = false
  | 0 => by
    show (true && ((ev (wts 0) c).1 == !(ev (wts 0) c).1)) = false
    cases (ev (wts 0) c).1 <;> rfl
  | n + 1 => by
    show (sameM c (.not c) (n + 1) && _) = false
    rw [same_not c n]
    rfl
theorem cut_2 {vs : List V} {k : Nat} (h : vs.length = k + 2) : cutV vs none (some (-2)) = vs.take k := by
  unfold cutV
  rw [HT.sIx_none, h]
  show (vs.drop 0).take (((-2 : Int) + ((k + 2 : Nat) : Int)).toNat - 0) = vs.take k
  rw [List.drop_zero, Nat.sub_zero]
  congr 1
  omega
theorem l_listRg {σ : St} {H : Hp} {Q : VK} {n : Nat} (hn : n ≤ 10000) (q : ∀ p H', H p = none → Same H H' → H' p = some (.lst ((List.range n).map vn)) → Q (.ref p) H') : tLstRg (tRg1 (tC (.int (n : Int)))) σ H Q := by
  refine ⟨(n : Int), rfl, ⟨?_, ?_, ?_, ?_, ?_⟩, fun p hp => ?_⟩
  · decide
  · decide
  · have : (-(2 ^ 62) : Int) ≤ 0 := by decide
    omega
  · have : (10000 : Int) < 2 ^ 62 := by decide
    omega
  · have : (10000 : Nat) ≤ 2 ^ 24 := by decide
    omega
  · refine q p _ hp (sm_new hp _) ?_
    rw [upd_same]
    unfold rgV
    rw [Int.sub_zero, Int.toNat_natCast]
    congr 2
    refine List.map_congr_left fun i _ => ?_
    rw [Int.zero_add]
    rfl
end J

namespace J
open PySem L2
theorem lcR_invD {σ : St} {H : Hp} {Q : VK} {te : TE} {j n : Nat} {vs : List Nat} (J : Addr → Nat → List V → Hp → Prop) (hw : ∀ x, wipe ((wipe σ vs).set j (some x)) vs = wipe σ vs) (hl : n ≤ 100000)
    (h0 : ∀ D H', H D = none → Same H H' → J D 0 [] H') (keep : ∀ i ys (D : Addr) H' o, H D = none → J D i ys H' → J D i ys (upd H' D o)) (len : ∀ D i ys H', J D i ys H' → ys.length = i)
    (h : ∀ (i : Nat) (D : Addr) ys H' (Q' : VK), i < n → H D = none → J D i ys H' → H' D = some (.lst ys) → (∀ y H'', J D (i + 1) (ys ++ [y]) H'' → H'' D = some (.lst ys) → Q' y H'') → te ((wipe σ vs).set j (some (.int (0 + (i : Int))))) H' Q')
    (q : ∀ D ys H2, H D = none → J D n ys H2 → H2 D = some (.lst ys) → Q (.ref D) H2) : IR1 [.int (n : Int)] H (LcB (gName j) tYes te vs σ Q) := by
  refine ⟨(n : Int), rfl, ?_, ?_, ?_⟩
  · have : (0 : Int) ≤ 2 ^ 62 := by decide
    omega
  · have : (100000 : Int) < 2 ^ 62 := by decide
    omega
  · intro D hD
    rw [Int.toNat_natCast]
    refine lc_range (lo := 0) (n := n) (fun i H' => ∃ ys, J D i ys H' ∧ H' D = some (.lst ys)) ⟨[], h0 D _ hD (sm_new hD _), upd_same⟩ (fun i H' hi p => ⟨hw _, ?_⟩) fun H' p => ?_
    · obtain ⟨ys, jj, e⟩ := p
      refine h i D ys H' _ hi hD jj e fun y H'' j2 e2 => ?_
      have hn := len _ _ _ _ jj
      refine ⟨ys, e2, Nat.lt_of_lt_of_le (show ys.length < 100001 by omega) (by decide), ys ++ [y], keep _ _ _ _ _ hD j2, upd_same⟩
    · obtain ⟨ys, jj, e⟩ := p
      exact q D ys H' hD jj e
theorem ev_exch (ws : List Bool) : ∀ (c : Cond) (ts : List Bool), (ev ws (exch c ts)).1 = (ev ws c).1
  | .look _, _ => rfl
  | .not c, ts => by
    show (!(ev ws (exch c ts)).1) = !(ev ws c).1
    rw [ev_exch ws c]
  | .bin a l r, ts => by
    have hb : ∀ x y : Cond, (ev ws (.bin a x y)).1 = if (ev ws x).1 = a then (ev ws y).1 else (ev ws x).1 := fun x y => by
      rw [ev_bin]
      split <;> rfl
    rw [hb l r]
    unfold exch
    split
    · rw [hb, ev_exch ws r, ev_exch ws l]
      cases a <;> cases (ev ws l).1 <;> cases (ev ws r).1 <;> rfl
    · rw [hb, ev_exch ws r, ev_exch ws l]
theorem same_exch (c : Cond) (ts : List Bool) : ∀ n, sameM c (exch c ts) n = true
  | 0 => rfl
  | n + 1 => by
    show (sameM c (exch c ts) n && ((ev (wts n) c).1 == (ev (wts n) (exch c ts)).1)) = true
    rw [same_exch c ts n, ev_exch, beq_self_eq_true]
    rfl
/-! the least, and of several the first -/
def lexB : List Bool → List Bool → Bool
  | [], _ => true
  | _ :: _, [] => false
  | a :: r, b :: s => if a = b then lexB r s else b
def BestL (ch : List Nat) (c : Cond) (ts : List Bool) : Prop := ts.length = c.pairs ∧ ∀ us : List Bool, us.length = c.pairs → looksM ch (exch c ts) < looksM ch (exch c us) ∨ looksM ch (exch c ts) = looksM ch (exch c us) ∧ lexB ts us = true
def BestJ (ch : List Nat) (c : Cond) (ts : List Bool) (f : Bool) : Prop := ts.length = c.pairs ∧ ∀ (us : List Bool) (g : Bool), us.length = c.pairs → jumpsM ch f (exch c ts) < jumpsM ch g (exch c us) ∨ jumpsM ch f (exch c ts) = jumpsM ch g (exch c us) ∧ (ts ≠ us ∧ lexB ts us = true ∨ ts = us ∧ (f = true → g = true))
theorem BestL.le {ch : List Nat} {c : Cond} {ts us : List Bool} (h : BestL ch c ts) (hu : us.length = c.pairs) : looksM ch (exch c ts) ≤ looksM ch (exch c us) := by
  rcases h.2 us hu with h | h
  · omega
  · omega
theorem BestJ.le {ch : List Nat} {c : Cond} {ts us : List Bool} {f g : Bool} (h : BestJ ch c ts f) (hu : us.length = c.pairs) : jumpsM ch f (exch c ts) ≤ jumpsM ch g (exch c us) := by
  rcases h.2 us g hu with h | h
  · omega
  · omega
/-- what fewest_looks, fewest_jumps tell: their lists new -/
def FL (H H' : Hp) (v : V) (ch : List Nat) (c : Cond) : Prop := ∃ p t ts, v = .ref p ∧ H t = none ∧ H' p = some (.tup [.int (looksM ch (exch c ts) : Int), .ref t]) ∧ H' t = some (.lst (ts.map vb)) ∧ BestL ch c ts
def FJ (H H' : Hp) (v : V) (ch : List Nat) (c : Cond) : Prop := ∃ p t ts f, v = .ref p ∧ H t = none ∧ H' p = some (.tup [.int (jumpsM ch f (exch c ts) : Int), .ref t, vb f]) ∧ H' t = some (.lst (ts.map vb)) ∧ BestJ ch c ts f
/-- one exchange more or less -/
def flipT (ts : List Bool) (i : Nat) : List Bool := ts.take i ++ [!ts.getD i false] ++ ts.drop (i + 1)
theorem flip_len {ts : List Bool} {i : Nat} (h : i < ts.length) : (flipT ts i).length = ts.length := by
  unfold flipT
  rw [List.length_append, List.length_append, List.length_take, List.length_drop, Nat.min_eq_left (by omega)]
  show i + 1 + (ts.length - (i + 1)) = ts.length
  omega
theorem flip_vb {ts : List Bool} {i : Nat} (h : i < ts.length) : (cutV (ts.map vb) none (some (i : Int)) ++ [V.int (1 - bi (ts.getD i false))]) ++ cutV (ts.map vb) (some ((i : Int) + 1)) none = (flipT ts i).map vb := by
  rw [cut_hi (by rw [List.length_map]; omega), show ((i : Int) + 1) = ((i + 1 : Nat) : Int) from rfl, cut_lo (by rw [List.length_map]; omega)]
  unfold flipT
  rw [List.map_append, List.map_append, List.map_take, List.map_drop]
  cases ts.getD i false <;> rfl
end J

namespace J
open PySem L2
def Good (c : Cond) : Prop := c.ok ∧ c.deep ≤ 10 ∧ c.looks ≤ 12
/-! x += e -/
section
variable {K : PySem.W.Frag} {w : World} {σ : St} {H : Hp} {Q : VK} {nx bk ct : St → Hp → Prop} {rt : VK} {te : TE} {i : Nat}
theorem l_aug {ti : TIp} {x : V} (e : σ[i]? = some (some x)) (h : te σ H fun y H1 => ti x y H1 fun z H2 => nx (σ.set i (some z)) H2) : tAug i te ti (Ends.mk nx rt bk ct) σ H := ⟨x, e, h⟩
theorem l_ipI {f : Int → Int → Int} {a b : Int} (h : Q (.int (f a b)) H) : ipI f (.int a) (.int b) H Q := ⟨a, b, rfl, rfl, h⟩
theorem l_catA {p r : Addr} {xs : List V} {y : V} (hp : H p = some (.tup xs)) (hr : H r = some (.tup [y])) (hn : xs.length ≤ 1000) (q : ∀ (l : Addr) (H' : Hp), Same H H' → H' l = some (.tup (xs ++ [y])) → Q (.ref l) H') : rCatA K (.ref p) (.ref r) H Q := by
  refine ⟨p, r, xs, [y], rfl, rfl, SqT.of hp, SqT.of hr, Nat.le_trans (show xs.length + 1 ≤ 100000 by omega) (by decide), fun e => ?_, fun _ e => absurd e (List.cons_ne_nil _ _), fun _ _ l hl => q l _ (sm_new hl _) upd_same⟩
  subst e
  exact q r _ (Same.refl _) hr
theorem l_listT {p : Addr} {xs : List V} (h : SqT K H p xs) (q : ∀ (l : Addr) (H' : Hp), H l = none → Same H H' → H' l = some (.lst xs) → Q (.ref l) H') : rListOf K [.ref p] H Q := ⟨p, xs, rfl, .inr h, fun l hl => q l _ hl (sm_new hl _) upd_same⟩
theorem yes_t {F : Bool → Hp → Prop} (h : F true H) : tYes σ H F := h
/-- zip of two tuples -/
def IZ (K : PySem.W.Frag) (vs : List V) (H : Hp) (R : It → Hp → Prop) : Prop := ∃ a b xs ys, vs = [.ref a, .ref b] ∧ ((SqL K H a xs ∧ SqL K H b ys ∧ R (Itz K a b) H) ∨ (SqT K H a xs ∧ SqT K H b ys ∧ R (RZ.ItzT K a b) H))
theorem l_iZip {ta : TA} {R : It → Hp → Prop} (h : ta σ H fun vs H1 => IZ K vs H1 R) : RZ.iZipA K ta σ H R := h
theorem forZ {a b : Addr} {xs ys : List V} {g : TG} {tb : TS} (hl : xs.length = ys.length) (ha : SqT K H a xs) (hb : SqT K H b ys) (Pv : Nat → St → Hp → Prop) (h0 : Pv 0 σ H) (hq : ∀ i σ' H', Pv i σ' H' → Same H H')
    (hs : ∀ (i : Nat) (x y : V) (T : Addr) σ' H' H'', xs[i]? = some x → ys[i]? = some y → Pv i σ' H' → Same H' H'' → H'' T = some (.tup [x, y]) → g (.ref T) σ' H'' fun σ2 H2 => tb (Ends.mk (Pv (i + 1)) rt nx (Pv (i + 1))) σ2 H2)
    (hd : ∀ σ' H', Pv xs.length σ' H' → nx σ' H') : IZ K [.ref a, .ref b] H (ForB g tb (Ends.mk nx rt bk ct) σ) :=
  ⟨a, b, xs, ys, rfl, .inr ⟨ha, hb, RZ.for_zipT (D := Ends.mk nx rt bk ct) hl Pv h0 (fun i σ' H' p => ⟨sm_t (hq i σ' H' p) ha, sm_t (hq i σ' H' p) hb⟩) (fun i x y T σ' H' hx hy p hT => hs i x y T σ' H' _ hx hy p (sm_new hT _) upd_same) hd⟩⟩
end
/-! bits, all of some length -/
def bitsM : Nat → List (List Bool)
  | 0 => [[]]
  | n + 1 => (bitsM n).flatMap fun b => [b ++ [false], b ++ [true]]
theorem bits8 : bitsM 8 = (List.range 256).map wts := by decide +kernel
theorem flat_at {α β : Type} (f g : α → β) : ∀ (l : List α) (i : Nat), ((l.flatMap fun b => [f b, g b])[2 * i]? = (l[i]?).map f) ∧ ((l.flatMap fun b => [f b, g b])[2 * i + 1]? = (l[i]?).map g)
  | [], i => ⟨rfl, rfl⟩
  | x :: r, 0 => ⟨rfl, rfl⟩
  | x :: r, i + 1 => by
    have := flat_at f g r i
    exact this
theorem flat_len {α β : Type} (f g : α → β) : ∀ (l : List α), (l.flatMap fun b => [f b, g b]).length = 2 * l.length
  | [] => rfl
  | x :: r => by
    show (r.flatMap fun b => [f b, g b]).length + 1 + 1 = 2 * (r.length + 1)
    rw [flat_len f g r]; omega
theorem bitsM_len : ∀ n, (bitsM n).length = 2 ^ n
  | 0 => rfl
  | n + 1 => by
    unfold bitsM
    rw [flat_len, bitsM_len n, Nat.pow_succ, Nat.mul_comm]
theorem bitsM_mem : ∀ (n : Nat) (b : List Bool), b ∈ bitsM n → b.length = n
  | 0, b, h => by obtain rfl := List.mem_singleton.mp h; rfl
  | n + 1, b, h => by
    obtain ⟨x, hx, hb⟩ := List.mem_flatMap.mp h
    have := bitsM_mem n x hx
    rcases List.mem_cons.mp hb with rfl | hb
    · rw [List.length_append, this]; rfl
    · obtain rfl := List.mem_singleton.mp hb
      rw [List.length_append, this]; rfl
theorem bitsM_all : ∀ (b : List Bool) , b ∈ bitsM b.length := by
  have hs : ∀ (n : Nat) (b : List Bool), b.length = n → b ∈ bitsM n := by
    intro n
    induction n with
    | zero => intro b h; obtain rfl := List.length_eq_zero_iff.mp h; exact List.mem_singleton.mpr rfl
    | succ n ih =>
      intro b h
      have hne : b ≠ [] := by intro e; subst e; cases h
      have hd : b = b.dropLast ++ [b.getLast hne] := (List.dropLast_concat_getLast hne).symm
      have hl : b.dropLast.length = n := by rw [List.length_dropLast, h]; rfl
      refine List.mem_flatMap.mpr ⟨b.dropLast, ih _ hl, ?_⟩
      rw [hd]
      cases b.getLast hne
      · rw [List.dropLast_concat]; exact List.mem_cons_self
      · rw [List.dropLast_concat]; exact List.mem_cons_of_mem _ (List.mem_singleton.mpr rfl)
  exact fun b => hs _ b rfl
/-- tuples of bits at values -/
def BTA (H : Hp) (v : V) (b : List Bool) : Prop := ∃ a, v = .ref a ∧ H a = some (.tup (b.map vb))
theorem BTA.tups {H H' : Hp} (g : Tups H H') {v : V} {b : List Bool} (h : BTA H v b) : BTA H' v b := by
  obtain ⟨a, e, h⟩ := h
  exact ⟨a, e, g _ _ h⟩
def BT (H : Hp) (vs : List V) (bs : List (List Bool)) : Prop := vs.length = bs.length ∧ ∀ (i : Nat) (y : V), vs[i]? = some y → ∃ b, bs[i]? = some b ∧ BTA H y b
theorem BT.tups {H H' : Hp} (g : Tups H H') {vs : List V} {bs : List (List Bool)} (h : BT H vs bs) : BT H' vs bs :=
  ⟨h.1, fun i y e => by obtain ⟨b, e1, e2⟩ := h.2 i y e; exact ⟨b, e1, e2.tups g⟩⟩
theorem BT.mono {H H' : Hp} (g : Same H H') {vs : List V} {bs : List (List Bool)} (h : BT H vs bs) : BT H' vs bs := h.tups (Same.tups g)
theorem BT.get {H : Hp} {vs : List V} {bs : List (List Bool)} {i : Nat} {y : V} (h : BT H vs bs) (e : vs[i]? = some y) : ∃ b, bs[i]? = some b ∧ BTA H y b := h.2 i y e
def Lc2B (g : TG) (tt : L2.TT) (wi1 : TI) (g1 : TG) (tt1 : L2.TT) (te : TE) (vs vs1 : List Nat) (σ : St) (Q : VK) : It → Hp → Prop := fun J H1 => ∀ D, H1 D = none → ∃ W : Nat → Nat → Hp → Prop, (∃ m, W 0 m (upd H1 D (.lst []))) ∧ ∀ i m H, W i m H →
  (J.stop i H ∧ Q (.ref D) H) ∨ (J.go i H ∧ ∃ Nx : Hp → Prop, (∀ H', Nx H' → ∃ m', m' < m ∧ W (i + 1) m' H') ∧ ∀ x H', J.yld i H x H' → g x (wipe σ vs) H' fun σ2 H2 => wipe σ2 vs = wipe σ vs ∧ tt σ2 H2 fun b H3 =>
    if b = true then wi1 σ2 H3 fun J1 H4 => ∃ W1 : Nat → Nat → Hp → Prop, (∃ m, W1 0 m H4) ∧ ∀ j k H, W1 j k H →
      (J1.stop j H ∧ Nx H) ∨ (J1.go j H ∧ ∃ Nx1 : Hp → Prop, (∀ H', Nx1 H' → ∃ k', k' < k ∧ W1 (j + 1) k' H') ∧ ∀ x H', J1.yld j H x H' → g1 x (wipe σ2 vs1) H' fun σ3 H5 => wipe σ3 vs1 = wipe σ2 vs1 ∧ tt1 σ3 H5 fun b H6 =>
        if b = true then te σ3 H6 fun y H7 => ∃ acc, H7 D = some (.lst acc) ∧ acc.length < sizeLine ∧ Nx1 (upd H7 D (.lst (acc ++ [y]))) else Nx1 H6)
    else Nx H3)
theorem l_lc2 {wi wi1 : TI} {g g1 : TG} {tt tt1 : L2.TT} {te : TE} {vs vs1 : List Nat} {σ : St} {H : Hp} {Q : VK} (h : wi σ H (Lc2B g tt wi1 g1 tt1 te vs vs1 σ Q)) : tLc2 wi g tt wi1 g1 tt1 te vs vs1 σ H Q := h
/-- [e for x in a list for b in (0, 1)], every item's value related, by what stands in tuples -/
theorem lc2_rel {K : PySem.W.Frag} {σ : St} {H : Hp} {Q : VK} {te : TE} {j j1 : Nat} {vs vs1 : List Nat} {a : Addr} {xs : List V} (E : Nat → V → Hp → Prop) (mono : ∀ m y H H', Tups H H' → E m y H → E m y H') (ht : SqL K H a xs) (hl : xs.length ≤ 40000)
    (hw0 : ∀ x, wipe ((wipe σ vs).set j (some x)) vs = wipe σ vs) (hw1 : ∀ x y, wipe ((wipe ((wipe σ vs).set j (some x)) vs1).set j1 (some y)) vs1 = wipe ((wipe σ vs).set j (some x)) vs1)
    (h : ∀ (i : Nat) (x : V) (b : Bool) H' (Q' : VK), xs[i]? = some x → Same H H' → (∀ y H'', Same H' H'' → E (2 * i + b.toNat) y H'' → Q' y H'') → te ((wipe ((wipe σ vs).set j (some x)) vs1).set j1 (some (vb b))) H' Q')
    (q : ∀ D ys H2, H D = none → Same H H2 → H2 D = some (.lst ys) → ys.length = 2 * xs.length → (∀ m y, ys[m]? = some y → E m y H2) → Q (.ref D) H2) :
    IL K (.ref a) H (Lc2B (gName j) tYes (iTup K (tTup (tCons (tC (.int 0)) (tCons (tC (.int 1)) tNil)))) (gName j1) tYes te vs vs1 σ Q) := by
  refine ⟨a, rfl, ⟨xs, ht⟩, fun D hD => ?_⟩
  let Pv : Nat → Hp → Prop := fun k H' => ∃ ys, Same H H' ∧ H' D = some (.lst ys) ∧ ys.length = k ∧ ∀ m y, ys[m]? = some y → E m y H'
  refine ⟨fun i m H' => m = xs.length - i ∧ i ≤ xs.length ∧ Pv (2 * i) H', ⟨xs.length, by simp, Nat.zero_le _, [], sm_new hD _, upd_same, rfl, fun m y e => by cases e⟩, ?_⟩
  rintro i m H' ⟨rfl, hi, p⟩
  have qt : SqL K H' a xs := sm_l p.choose_spec.1 ht
  by_cases hlt : i < xs.length
  · refine .inr ⟨⟨xs, xs[i], qt, by simp [hlt]⟩, Pv (2 * (i + 1)), fun H' p' => ⟨xs.length - (i + 1), by omega, rfl, hlt, p'⟩, fun x H'' y => ?_⟩
    obtain ⟨e, y⟩ := y
    subst e
    have hx := y xs qt
    show wipe _ vs = _ ∧ _
    refine ⟨hw0 x, ?_⟩
    refine yes_t ?_
    show ite _ _ _
    rw [if_pos rfl]
    refine l_iTup (l_tup (l_cons (l_c (l_cons (l_c (l_nil (l_new (by decide) fun t H4 nt g4 e4 => ?_)))))))
    refine ⟨t, rfl, ⟨_, SqT.of e4⟩, ?_⟩
    refine ⟨fun k m H' => m = 2 - k ∧ k ≤ 2 ∧ Pv (2 * i + k) H' ∧ H' t = some (.tup [.int 0, .int 1]), ⟨2, rfl, by omega, ?_, e4⟩, ?_⟩
    · obtain ⟨ys, s1, s2, s3, s4⟩ := p
      exact ⟨ys, s1.trans g4, g4 _ _ s2, s3, fun m y e => mono _ _ _ _ (Same.tups g4) (s4 m y e)⟩
    rintro k m H5 ⟨rfl, hk, p5, e5⟩
    by_cases hk2 : k < 2
    · obtain ⟨b, hb, hbk⟩ : ∃ b : Bool, [V.int 0, V.int 1][k]? = some (vb b) ∧ b.toNat = k := by
        obtain rfl | rfl : k = 0 ∨ k = 1 := by omega
        · exact ⟨false, rfl, rfl⟩
        · exact ⟨true, rfl, rfl⟩
      refine .inr ⟨⟨_, _, SqT.of e5, hb⟩, fun H' => Pv (2 * i + (k + 1)) H' ∧ H' t = some (.tup [.int 0, .int 1]), fun H' p' => ⟨2 - (k + 1), by omega, rfl, hk2, p'⟩, fun z H6 y6 => ?_⟩
      obtain ⟨e, y6⟩ := y6
      subst e
      have hz := y6 _ (SqT.of e5)
      rw [hb] at hz
      obtain rfl := Option.some.inj hz
      show wipe _ vs1 = _ ∧ _
      refine ⟨hw1 x _, ?_⟩
      refine yes_t ?_
      show ite _ _ _
      rw [if_pos rfl]
      obtain ⟨ys, s1, s2, s3, s4⟩ := p5
      refine h i x b _ _ hx s1 fun y H7 g7 ey => ?_
      have tp : Tups H7 (upd H7 D (.lst (ys ++ [y]))) := but_upd.tups (g7 _ _ s2)
      have nt : t ≠ D := ne_of e5 s2 (by intro z; cases z)
      refine ⟨ys, g7 _ _ s2, Nat.lt_of_lt_of_le (show ys.length < 100001 by omega) (by decide), ⟨ys ++ [y], sm_mut (s1.trans g7) hD, upd_same, by rw [List.length_append, s3]; rfl, fun m z hz => mono _ _ _ _ tp ?_⟩, by rw [upd_ne nt]; exact g7 _ _ e5⟩
      by_cases hm : m < ys.length
      · rw [List.getElem?_append_left hm] at hz
        exact mono _ _ _ _ (Same.tups g7) (s4 m z hz)
      · rw [List.getElem?_append_right (by omega)] at hz
        have hm2 : m - ys.length = 0 := by
          have := (List.getElem?_eq_some_iff.mp hz).1
          have : ([y] : List V).length = 1 := rfl
          omega
        rw [hm2] at hz
        obtain rfl := Option.some.inj hz
        have : m = 2 * i + b.toNat := by omega
        rw [this]
        exact ey
    · have : k = 2 := by omega
      subst this
      exact .inl ⟨⟨_, SqT.of e5, Nat.le_refl 2⟩, p5⟩
  · have e : i = xs.length := by omega
    subst e
    obtain ⟨ys, s1, s2, s3, s4⟩ := p
    exact .inl ⟨⟨xs, qt, Nat.le_refl _⟩, q D ys H' hD s1 s2 s3 s4⟩
/-- [e for x, y in a list of pairs], every item's value known -/
theorem lcL2 {K : PySem.W.Frag} {σ : St} {H : Hp} {Q : VK} {te : TE} {j j1 : Nat} {vs : List Nat} {a : Addr} {xs ys : List V} {n : Nat} (hn : xs.length = n) (hy : ys.length = n) (hw : ∀ x y, wipe (((wipe σ vs).set j (some x)).set j1 (some y)) vs = wipe σ vs) (ht : SqL K H a xs) (hl : n ≤ 100000)
    (P : ∀ (i : Nat) (v : V), xs[i]? = some v → ∃ t x y, v = .ref t ∧ H t = some (.tup [x, y]))
    (h : ∀ (i : Nat) (x y z : V) (t : Addr) H' (Q' : VK), xs[i]? = some (.ref t) → H t = some (.tup [x, y]) → ys[i]? = some z → Same H H' → (∀ H'', Same H' H'' → Q' z H'') → te (((wipe σ vs).set j (some x)).set j1 (some y)) H' Q')
    (q : ∀ D H2, H D = none → Same H H2 → H2 D = some (.lst ys) → Q (.ref D) H2) :
    IL K (.ref a) H (LcB (gTup K 2 (gCons (gName j) (gCons (gName j1) gNil))) tYes te vs σ Q) :=
  ⟨a, rfl, ⟨xs, ht⟩, fun D hD => lc_list (K := K) (a := a) (xs := xs) (fun i H' => Same H H' ∧ H' D = some (.lst (ys.take i))) ⟨sm_new hD _, upd_same⟩ (fun i H' _ p => sm_l p.1 ht)
    (fun i v H' hx p => by
      obtain ⟨t, x, y, rfl, e⟩ := P i v hx
      refine l_gtup (SqT.of (p.1 _ _ e)) rfl (l_gcons (l_name (l_gcons (l_name (l_gnil ?_)))))
      refine ⟨hw x y, yes_t ?_⟩
      show ite _ _ _
      rw [if_pos rfl]
      have hi := (List.getElem?_eq_some_iff.mp hx).1
      obtain ⟨z, hz⟩ : ∃ z, ys[i]? = some z := ⟨ys[i]'(by omega), List.getElem?_eq_getElem _⟩
      refine h i x y z t _ _ hx e hz p.1 fun H'' g => ?_
      refine ⟨ys.take i, g _ _ p.2, ?_, sm_mut (p.1.trans g) hD, ?_⟩
      · rw [List.length_take]
        exact Nat.lt_of_le_of_lt (Nat.le_trans (Nat.min_le_left _ _) (Nat.le_trans (Nat.le_of_lt hi) (show xs.length ≤ 100000 by omega))) (by decide)
      · rw [upd_same, take_snoc hz])
    fun H' p => q D H' hD p.1 (by have e := p.2; rw [hn, ← hy, List.take_length] at e; exact e)⟩
end J

namespace J
open PySem PySem.W PySem.SeqAt PyProof.Rows L2
section
variable {prog : Program} {w : World} {A : Around} {E : Value → Shared → Prop} {s : Shared}
theorem min_list_at {l : Addr} {vs : Array Value} {x : PyData} {xs : List PyData} {as : List Addr} {Q : Value → Shared → Prop} (hh : A.handled = none) (hl : s.heap.IsList l vs) (hr : ReadsAll s.heap vs.toList (x :: xs) as) (ha : AlikeAll (x :: xs)) (hu : A.units + 1 + PyData.depthAll (x :: xs) < cLine)
    (h : ∀ (i : Nat) v h' tk, vs[i]? = some v → (x :: xs).getD i .none = minD x xs → (∀ b o, s.heap.get? b = some o → h'.get? b = some o) → Q v { s with heap := h', toks := tk }) :
    wpAny (model prog w) A (call (.builtin "min") [.ref l]) Q E s := by
  have hn : vs.size = xs.length + 1 := readsAll_len hr
  refine call_min_walkH (iter_listW (A := A.in1) hh hl fun s₂ e W st hfp hw hk => ?_)
  refine ⟨_, _, _, _, _, _, _, s.heap, _, rfl, W, st, hfp, by omega, hw, hk, cmpIn_lt (A := A.in1) hr ha (by show A.units + 1 + _ < _; exact hu), fun v s' hP m => ?_⟩
  obtain ⟨h', tk, rfl, hk'⟩ := moved_old e rfl m
  have e1 : vs.size - 1 = xs.length := by omega
  have e2 := (argBest_fold dataLt PyData.none x xs xs.length (Nat.le_refl _)).2
  rw [List.take_length] at e2
  rw [e1] at hP
  exact h _ v h' tk hP e2 hk'
end
/-- min of a list of alike data -/
def rMinD (K : PySem.W.Frag) : List V → Hp → VK → Prop := fun vs H Q => ∃ (a : Addr) (xs : List V) (x : PyData) (ds : List PyData), vs = [V.ref a] ∧ SqL K H a xs ∧ DpAll K H xs (x :: ds) ∧ AlikeAll (x :: ds) ∧ PyData.depthAll (x :: ds) ≤ 60 ∧
  ∀ (i : Nat) (v : V), xs[i]? = some v → (x :: ds).getD i .none = minD x ds → Q v H
theorem cr_minD {X : Cx} (hc : X.calm = true) (hu : X.A.units + 64 < cLine) : CallR X (.builtin "min") (rMinD X.K) := by
  intro pins s σ H vs us Q I r h
  obtain ⟨a, xs, x, ds, rfl, hs, hd, ha, hp, q⟩ := h
  obtain ⟨its, rv, hl, _⟩ := I.list hs
  rw [Vals.ref1 r]
  obtain ⟨as, hr⟩ := Dp.readsAll I (x :: ds) xs its hd rv
  refine min_list_at (I.ok.hd hc) hl.isList (by simpa using hr) ha (by omega) fun i v h' tk hv he hk => ?_
  have hv' : its[i]? = some v := by simpa using hv
  cases hx : xs[i]? with
  | none =>
    have := rv.none_of hx
    rw [hv'] at this
    cases this
  | some y =>
    obtain ⟨u, hu1, ru⟩ := rv.get hx
    rw [hv'] at hu1
    obtain rfl := Option.some.inj hu1
    exact ⟨y, H, I.kept hk, ru, q i y hx he⟩
/-! the order -/
def lexS : List Bool → List Bool → Bool
  | [], [] => false
  | [], _ :: _ => true
  | _ :: _, [] => false
  | a :: r, b :: s => if a = b then lexS r s else b
theorem lexS_asym : ∀ a b, lexS a b = true → lexS b a = false
  | [], [], h => by cases h
  | [], _ :: _, _ => rfl
  | _ :: _, [], h => by cases h
  | a :: r, b :: s, h => by
    unfold lexS at h ⊢
    by_cases e : a = b
    · subst e
      rw [if_pos rfl] at h ⊢
      exact lexS_asym r s h
    · rw [if_neg e] at h
      rw [if_neg fun z => e z.symm]
      subst h
      cases a
      · rfl
      · exact absurd rfl e
theorem lexS_tr : ∀ x y z, lexS y x = false → lexS z y = false → lexS z x = false
  | [], [], z, _, h => h
  | [], _ :: _, [], h1, h2 => by cases h2
  | [], _ :: _, _ :: _, h1, h2 => rfl
  | _ :: _, [], _, h1, _ => by cases h1
  | _ :: _, _ :: _, [], _, h2 => by cases h2
  | a :: r, b :: s, c :: t, h1, h2 => by
    unfold lexS at h1 h2 ⊢
    by_cases e1 : b = a
    · subst e1
      rw [if_pos rfl] at h1
      by_cases e2 : c = b
      · subst e2
        rw [if_pos rfl] at h2 ⊢
        exact lexS_tr r s t h1 h2
      · rw [if_neg e2] at h2 ⊢
        exact h2
    · rw [if_neg e1] at h1
      subst h1
      by_cases e2 : c = b
      · subst e2
        rw [if_neg e1]
      · rw [if_neg e2] at h2
        subst h2
        cases c
        · exact absurd rfl e2
        · rw [if_neg (by decide)]
theorem lexS_B : ∀ ts us : List Bool, ts.length = us.length → lexS us ts = false → lexB ts us = true
  | [], _, _, _ => rfl
  | _ :: _, [], h, _ => by cases h
  | a :: r, b :: s, hl, h => by
    unfold lexS at h
    unfold lexB
    by_cases e : a = b
    · subst e
      rw [if_pos rfl] at h ⊢
      exact lexS_B r s (Nat.succ.inj hl) h
    · rw [if_neg fun z => e z.symm] at h
      rw [if_neg e]
      subst h
      cases b
      · exact absurd rfl e
      · rfl
theorem lexS_eq : ∀ ts us : List Bool, lexS us ts = false → lexS ts us = false → ts = us
  | [], [], _, _ => rfl
  | [], _ :: _, _, h => by cases h
  | _ :: _, [], h, _ => by cases h
  | a :: r, b :: s, h1, h2 => by
    unfold lexS at h1 h2
    by_cases e : a = b
    · subst e
      rw [if_pos rfl] at h1 h2
      rw [lexS_eq r s h1 h2]
    · rw [if_neg fun z => e z.symm] at h1
      rw [if_neg e] at h2
      rw [h1, h2] at e
      exact absurd rfl e
abbrev KL := Nat × List Bool
abbrev KJ := Nat × List Bool × Bool
def ltL (x y : KL) : Bool := decide (x.1 < y.1) || (decide (x.1 = y.1) && lexS x.2 y.2)
def ltJ (x y : KJ) : Bool := decide (x.1 < y.1) || (decide (x.1 = y.1) && (lexS x.2.1 y.2.1 || (decide (x.2.1 = y.2.1) && (!x.2.2 && y.2.2))))
theorem ltL_no {x y : KL} : ltL x y = false ↔ y.1 < x.1 ∨ (y.1 = x.1 ∧ lexS x.2 y.2 = false) := by
  unfold ltL
  by_cases h1 : x.1 < y.1
  · rw [decide_eq_true h1]; simp; omega
  · rw [decide_eq_false h1]
    by_cases h2 : x.1 = y.1
    · rw [decide_eq_true h2]; simp [h2]
    · rw [decide_eq_false h2]; simp; omega
theorem ltJ_no {x y : KJ} : ltJ x y = false ↔ y.1 < x.1 ∨ (y.1 = x.1 ∧ lexS x.2.1 y.2.1 = false ∧ (x.2.1 = y.2.1 → x.2.2 = true ∨ y.2.2 = false)) := by
  unfold ltJ
  by_cases h1 : x.1 < y.1
  · rw [decide_eq_true h1]; simp; omega
  · rw [decide_eq_false h1]
    by_cases h2 : x.1 = y.1
    · rw [decide_eq_true h2]
      have h3 : ¬ y.1 < x.1 := by omega
      by_cases h4 : x.2.1 = y.2.1
      · rw [decide_eq_true h4]; simp [h2, h3, h4]; intro _; cases x.2.2 <;> simp
      · rw [decide_eq_false h4]; simp [h2, h3, h4]
    · rw [decide_eq_false h2]; simp; omega
theorem trL (x y z : KL) (h1 : ltL y x = false) (h2 : ltL z y = false) : ltL z x = false := by
  rw [ltL_no] at *
  rcases h1 with h1 | ⟨e1, h1⟩ <;> rcases h2 with h2 | ⟨e2, h2⟩
  · exact .inl (by omega)
  · exact .inl (by omega)
  · exact .inl (by omega)
  · exact .inr ⟨by omega, lexS_tr _ _ _ h1 h2⟩
theorem trJ (x y z : KJ) (h1 : ltJ y x = false) (h2 : ltJ z y = false) : ltJ z x = false := by
  rw [ltJ_no] at *
  rcases h1 with h1 | ⟨e1, h1, k1⟩ <;> rcases h2 with h2 | ⟨e2, h2, k2⟩
  · exact .inl (by omega)
  · exact .inl (by omega)
  · exact .inl (by omega)
  · refine .inr ⟨by omega, lexS_tr _ _ _ h1 h2, fun e => ?_⟩
    have ey : y.2.1 = x.2.1 := by
      rw [e] at h2
      exact (lexS_eq x.2.1 y.2.1 h1 h2).symm
    rcases k2 (e.trans ey.symm) with k | k
    · exact .inl k
    · rcases k1 ey with k' | k'
      · rw [k] at k'; cases k'
      · exact .inr k'
theorem asymL (x y : KL) (h : ltL x y = true) : ltL y x = false := by
  cases e : ltL y x with
  | false => rfl
  | true =>
    unfold ltL at h e
    simp at h e
    rcases h with h | ⟨h1, h2⟩ <;> rcases e with e | ⟨e1, e2⟩
    · omega
    · omega
    · omega
    · rw [lexS_asym _ _ h2] at e2; cases e2
theorem asymJ (x y : KJ) (h : ltJ x y = true) : ltJ y x = false := by
  cases e : ltJ y x with
  | false => rfl
  | true =>
    unfold ltJ at h e
    simp at h e
    rcases h with h | ⟨h1, h2⟩ <;> rcases e with e | ⟨e1, e2⟩
    · omega
    · omega
    · omega
    · rcases h2 with h2 | ⟨h3, h4, h5⟩ <;> rcases e2 with e2 | ⟨e3, e4, e5⟩
      · rw [lexS_asym _ _ h2] at e2; cases e2
      · rw [e3] at h2; have := lexS_asym _ _ h2; rw [this] at h2; cases h2
      · rw [h3] at e2; have := lexS_asym _ _ e2; rw [this] at e2; cases e2
      · rw [h4] at e5; cases e5
theorem fold_least {α : Type} {lt : α → α → Bool} (tr : ∀ x y z, lt y x = false → lt z y = false → lt z x = false) (asym : ∀ x y, lt x y = true → lt y x = false) : ∀ (xs : List α) (x : α),
    xs.foldl (fun a y => if lt y a then y else a) x ∈ x :: xs ∧ ∀ y ∈ x :: xs, lt y (xs.foldl (fun a y => if lt y a then y else a) x) = false
  | [], x => ⟨List.mem_cons_self, fun y hy => by
      rw [List.mem_singleton.mp hy]
      show lt x x = false
      cases e : lt x x with
      | false => rfl
      | true => rw [asym x x e] at e; cases e⟩
  | z :: xs, x => by
    rw [List.foldl_cons]
    by_cases h : lt z x = true
    · rw [if_pos h]
      obtain ⟨m1, m2⟩ := fold_least tr asym xs z
      refine ⟨List.mem_cons_of_mem _ m1, fun y hy => ?_⟩
      rcases List.mem_cons.mp hy with rfl | hy
      · exact tr _ _ _ (m2 z List.mem_cons_self) (asym _ _ h)
      · exact m2 y hy
    · rw [if_neg h]
      obtain ⟨m1, m2⟩ := fold_least tr asym xs x
      refine ⟨?_, fun y hy => ?_⟩
      · rcases List.mem_cons.mp m1 with m1 | m1
        · rw [m1]; exact List.mem_cons_self
        · exact List.mem_cons_of_mem _ (List.mem_cons_of_mem _ m1)
      · rcases List.mem_cons.mp hy with rfl | hy
        · exact m2 _ List.mem_cons_self
        · rcases List.mem_cons.mp hy with rfl | hy
          · exact tr _ _ _ (m2 x List.mem_cons_self) (by cases e : lt y x with | false => rfl | true => exact absurd e h)
          · exact m2 y (List.mem_cons_of_mem _ hy)
/-! as data -/
def bd (ts : List Bool) : List PyData := ts.map fun b => PyData.int (bi b)
def eL (x : KL) : PyData := .tuple [.int (x.1 : Int), .list (bd x.2)]
def eJ (x : KJ) : PyData := .tuple [.int (x.1 : Int), .list (bd x.2.1), .int (bi x.2.2)]
theorem alike_bd : ∀ ts us : List Bool, alikeAll (bd ts) (bd us) = true
  | [], _ => by unfold bd; rw [List.map_nil]; unfold alikeAll; rfl
  | _ :: _, [] => by unfold bd; rw [List.map_nil, List.map_cons]; unfold alikeAll; rfl
  | a :: r, b :: s => by
    show alikeAll (PyData.int (bi a) :: bd r) (PyData.int (bi b) :: bd s) = true
    rw [alikeAll, alike_bd r s]
    simp [alike]
theorem eqv_bd : ∀ ts us : List Bool, PyData.eqvAll (bd ts) (bd us) = decide (ts = us)
  | [], [] => rfl
  | [], _ :: _ => rfl
  | _ :: _, [] => rfl
  | a :: r, b :: s => by
    show (bi a == bi b && PyData.eqvAll (bd r) (bd s)) = _
    rw [eqv_bd r s]
    by_cases h : r = s
    · subst h; cases a <;> cases b <;> simp [bi]
    · rw [decide_eq_false h, decide_eq_false (fun e => h (List.cons.inj e).2), Bool.and_false]
theorem dlt_int (a b : Int) : dataLt (.int a) (.int b) = decide (a < b) := by
  show PyProof.Rows.lexLt itemOrd [.inl a] [.inl b] = _
  by_cases h : a = b
  · subst h
    rw [lex_self (O := itemOrd) (.inl a) [] []]
    rw [decide_eq_false (by omega)]; rfl
  · rw [lex_diff (O := itemOrd) (by intro e; exact h (Sum.inl.inj e))]; rfl
theorem dlt_bd : ∀ ts us : List Bool, dataLt (.list (bd ts)) (.list (bd us)) = lexS ts us
  | [], [] => by
    show PyProof.Rows.lexLt itemOrd [.inl 0] [.inl 0] = false
    rw [lex_self (O := itemOrd) (.inl 0) [] []]; rfl
  | [], b :: s => by
    show PyProof.Rows.lexLt itemOrd [.inl 0] (.inl 1 :: _) = true
    rw [lex_diff (O := itemOrd) (by decide)]; rfl
  | a :: r, [] => by
    show PyProof.Rows.lexLt itemOrd (.inl 1 :: _) [.inl 0] = false
    rw [lex_diff (O := itemOrd) (by decide)]; rfl
  | a :: r, b :: s => by
    have ih := dlt_bd r s
    unfold lexS
    show PyProof.Rows.lexLt itemOrd (keyToksAll (.int (bi a) :: bd r)) (keyToksAll (.int (bi b) :: bd s)) = _
    by_cases h : a = b
    · subst h
      rw [if_pos rfl, dataLt_all_yes (by simp [alike]) (by show (bi a == bi a) = true; simp)]
      exact ih
    · rw [if_neg h, dataLt_all_no (by simp [alike]) (by show (bi a == bi b) = false; cases a <;> cases b <;> simp [bi] at h ⊢), dlt_int]
      cases a <;> cases b <;> first | rfl | exact absurd rfl h
theorem lt_nil2 : PyProof.Rows.lexLt itemOrd (keyToksAll []) (keyToksAll []) = false := by
  show PyProof.Rows.lexLt itemOrd [.inl 0] [.inl 0] = false
  rw [lex_self (O := itemOrd) (.inl 0) [] []]; rfl
theorem alike_l (ts us : List Bool) : alike (.list (bd ts)) (.list (bd us)) = true := by
  unfold alike; exact alike_bd ts us
theorem dlt_L (x y : KL) : dataLt (eL x) (eL y) = ltL x y := by
  obtain ⟨n, ts⟩ := x
  obtain ⟨m, us⟩ := y
  show PyProof.Rows.lexLt itemOrd (keyToksAll [.int (n : Int), .list (bd ts)]) (keyToksAll [.int (m : Int), .list (bd us)]) = _
  unfold ltL
  by_cases h : n = m
  · subst h
    rw [dataLt_all_yes (by simp [alike]) (by show ((n : Int) == (n : Int)) = true; simp), decide_eq_false (Nat.lt_irrefl _), decide_eq_true rfl, Bool.false_or, Bool.true_and]
    by_cases h2 : ts = us
    · subst h2
      rw [dataLt_all_yes (alike_l ts ts) (by show PyData.eqvAll (bd ts) (bd ts) = true; rw [eqv_bd]; exact decide_eq_true rfl), lt_nil2]
      cases e : lexS ts ts with
      | false => rfl
      | true => rw [lexS_asym _ _ e] at e; cases e
    · rw [dataLt_all_no (alike_l ts us) (by show PyData.eqvAll (bd ts) (bd us) = false; rw [eqv_bd]; exact decide_eq_false h2), dlt_bd]
  · rw [dataLt_all_no (by simp [alike]) (by show ((n : Int) == (m : Int)) = false; rw [beq_eq_false_iff_ne]; omega), dlt_int, decide_eq_false h, Bool.false_and, Bool.or_false]
    by_cases h2 : n < m
    · rw [decide_eq_true h2, decide_eq_true (by omega)]
    · rw [decide_eq_false h2, decide_eq_false (by omega)]
theorem dlt_J (x y : KJ) : dataLt (eJ x) (eJ y) = ltJ x y := by
  obtain ⟨n, ts, f⟩ := x
  obtain ⟨m, us, g⟩ := y
  show PyProof.Rows.lexLt itemOrd (keyToksAll [.int (n : Int), .list (bd ts), .int (bi f)]) (keyToksAll [.int (m : Int), .list (bd us), .int (bi g)]) = _
  unfold ltJ
  by_cases h : n = m
  · subst h
    rw [dataLt_all_yes (by simp [alike]) (by show ((n : Int) == (n : Int)) = true; simp), decide_eq_false (Nat.lt_irrefl _), decide_eq_true rfl, Bool.false_or, Bool.true_and]
    by_cases h2 : ts = us
    · subst h2
      rw [dataLt_all_yes (alike_l ts ts) (by show PyData.eqvAll (bd ts) (bd ts) = true; rw [eqv_bd]; exact decide_eq_true rfl), decide_eq_true rfl, Bool.true_and]
      have e0 : lexS ts ts = false := by
        cases e : lexS ts ts with
        | false => rfl
        | true => rw [lexS_asym _ _ e] at e; cases e
      show _ = (lexS ts ts || (!f && g))
      rw [e0, Bool.false_or]
      by_cases h3 : f = g
      · subst h3
        rw [dataLt_all_yes (by simp [alike]) (by show (bi f == bi f) = true; simp), lt_nil2]
        cases f <;> rfl
      · rw [dataLt_all_no (by simp [alike]) (by show (bi f == bi g) = false; cases f <;> cases g <;> simp [bi] at h3 ⊢), dlt_int]
        cases f <;> cases g <;> first | rfl | exact absurd rfl h3
    · rw [dataLt_all_no (alike_l ts us) (by show PyData.eqvAll (bd ts) (bd us) = false; rw [eqv_bd]; exact decide_eq_false h2), dlt_bd, decide_eq_false h2, Bool.false_and, Bool.or_false]
  · rw [dataLt_all_no (by simp [alike]) (by show ((n : Int) == (m : Int)) = false; rw [beq_eq_false_iff_ne]; omega), dlt_int, decide_eq_false h, Bool.false_and, Bool.or_false]
    by_cases h2 : n < m
    · rw [decide_eq_true h2, decide_eq_true (by omega)]
    · rw [decide_eq_false h2, decide_eq_false (by omega)]
theorem fold_map {α : Type} (e : α → PyData) (lt : α → α → Bool) (h : ∀ x y, dataLt (e x) (e y) = lt x y) : ∀ (xs : List α) (x : α), minD (e x) (xs.map e) = e (xs.foldl (fun a y => if lt y a then y else a) x)
  | [], _ => rfl
  | z :: xs, x => by
    have ih := fold_map e lt h xs
    show minD (if dataLt (e z) (e x) then e z else e x) (xs.map e) = e (xs.foldl _ (if lt z x then z else x))
    rw [h]
    split
    · exact ih z
    · exact ih x
/-! sorted, of lists of bits -/
def rSortedD (K : PySem.W.Frag) : List V → Hp → VK → Prop := fun vs H Q => ∃ (a : Addr) (bs : List (V × List Bool)), vs = [V.ref a] ∧ SqL K H a (bs.map Prod.fst) ∧ (∀ b ∈ bs, Dp K H b.1 (.list (bd b.2))) ∧ bs.length ≤ 1000 ∧
  ∀ (cs : List (V × List Bool)) (p : Addr), cs.Perm bs → H p = none → Q (.ref p) (upd H p (.lst (cs.map Prod.fst)))
theorem each_fst : ∀ {bs : List (V × List Bool)} {us : List Value}, Vals (bs.map Prod.fst) us → EachIs (fun v (b : V × List Bool) => RelV b.1 v) us bs
  | [], _, r => by cases r; exact .nil
  | b :: bs, _, r => by
    cases r with
    | cons h t => exact .cons h (each_fst t)
theorem fst_each : ∀ {bs : List (V × List Bool)} {us : List Value}, EachIs (fun v (b : V × List Bool) => RelV b.1 v) us bs → Vals (bs.map Prod.fst) us
  | _, _, .nil => .nil
  | _, _, .cons h t => .cons h (fst_each t)
theorem dep_bds : ∀ ts : List Bool, PyData.depthAll (bd ts) = 0
  | [] => rfl
  | b :: r => by
    show max 0 (PyData.depthAll (bd r)) = 0
    rw [dep_bds r]; rfl
theorem each_reads {X : Cx} {pins : List (Addr × Obj)} {σ : L2.St} {H : Hp} {s : Shared} (I : Inv X pins σ H s) : ∀ {bs : List (V × List Bool)} {us : List Value}, EachIs (fun v (b : V × List Bool) => RelV b.1 v) us bs → (∀ b ∈ bs, Dp X.K H b.1 (.list (bd b.2))) → EachIs (fun v (b : V × List Bool) => ∃ as, Reads s.heap v (.list (bd b.2)) as) us bs
  | _, _, .nil, _ => .nil
  | _, _, .cons h t, hd => .cons (Dp.reads I _ _ _ (hd _ List.mem_cons_self) h) (each_reads I t fun b hb => hd b (List.mem_cons_of_mem _ hb))
theorem cr_sortedD {X : Cx} (hu : X.A.units + 64 < cLine) : CallR X (.builtin "sorted") (rSortedD X.K) := by
  intro pins s σ H vs us Q I r h
  obtain ⟨a, bs, rfl, hs, hd, hl, q⟩ := h
  obtain ⟨its, rv, hL, hz⟩ := I.list hs
  rw [Vals.ref1 r]
  have hsz : bs.length ≤ sizeLine := Nat.le_trans (show bs.length ≤ 100000 by omega) (by decide)
  refine sorted_data (enc := fun b : V × List Bool => PyData.list (bd b.2)) hL.isList (each_fst rv) (each_reads I (each_fst rv) hd) (AllAlike.of fun b b' => alike_l b.2 b'.2) (Sortable.others fun b => ⟨PyData.noConfusion, fun xs => PyData.noConfusion⟩) hsz (fun b _ => ?_) fun out hlen eo => ?_
  · show X.A.units + 2 + (PyData.depthAll (bd b.2) + 1) < cLine
    rw [dep_bds]
    omega
  · obtain ⟨ep, he'⟩ := PyProof.Rows.sortedAll_at s.heap its out.toArray
    refine ⟨.ref _, upd H (s.heap.objs.size + 1) (.lst ((bs.mergeSort (dataLe false fun b : V × List Bool => PyData.list (bd b.2))).map Prod.fst)), I.laid (t' := s.toks) (fun _ _ => PyProof.Rows.sortedAll_old) (Nat.le_succ _) ⟨?_, out, ep, fst_each eo, he'⟩, rfl, q _ _ (List.mergeSort_perm _ _) (I.hok.fresh (Nat.le_succ _))⟩
    rw [List.length_map, (List.mergeSort_perm _ _).length_eq]
    exact hsz
theorem dp_bds {K : PySem.W.Frag} {H : Hp} : ∀ ts : List Bool, DpAll K H (ts.map vb) (bd ts)
  | [] => .nil
  | b :: r => .cons (.int _) (dp_bds r)
theorem lcL_invD {K : PySem.W.Frag} {σ : L2.St} {H : Hp} {Q : VK} {te : TE} {j : Nat} {vs : List Nat} {a : Addr} {xs : List V} (J : Addr → Nat → List V → Hp → Prop) (hw : ∀ x, wipe ((wipe σ vs).set j (some x)) vs = wipe σ vs) (ht : SqL K H a xs) (hl : xs.length ≤ 100000)
    (st : ∀ D i ys H', J D i ys H' → Same H H') (h0 : ∀ D H', H D = none → Same H H' → J D 0 [] H') (keep : ∀ i ys (D : Addr) H' o, H D = none → J D i ys H' → J D i ys (upd H' D o)) (len : ∀ D i ys H', J D i ys H' → ys.length = i)
    (h : ∀ (i : Nat) (x : V) (D : Addr) ys H' (Q' : VK), xs[i]? = some x → H D = none → J D i ys H' → H' D = some (.lst ys) → (∀ y H'', J D (i + 1) (ys ++ [y]) H'' → H'' D = some (.lst ys) → Q' y H'') → te ((wipe σ vs).set j (some x)) H' Q')
    (q : ∀ D ys H2, H D = none → J D xs.length ys H2 → H2 D = some (.lst ys) → Q (.ref D) H2) : IL K (.ref a) H (LcB (gName j) tYes te vs σ Q) :=
  ⟨a, rfl, ⟨xs, ht⟩, fun D hD => by
    refine lc_list (K := K) (a := a) (xs := xs) (fun i H' => ∃ ys, J D i ys H' ∧ H' D = some (.lst ys)) ⟨[], h0 D _ hD (sm_new hD _), upd_same⟩ (fun i H' _ ⟨ys, jj, _⟩ => sm_l (st _ _ _ _ jj) ht) (fun i x H' hx p => ⟨hw x, ?_⟩) fun H' ⟨ys, jj, e⟩ => q D ys H' hD jj e
    obtain ⟨ys, jj, e⟩ := p
    have hi := (List.getElem?_eq_some_iff.mp hx).1
    refine h i x D ys H' _ hx hD jj e fun y H'' j2 e2 => ?_
    have hn := len _ _ _ _ jj
    exact ⟨ys, e2, Nat.lt_of_lt_of_le (show ys.length < 100001 by omega) (by decide), ys ++ [y], keep _ _ _ _ _ hD j2, upd_same⟩⟩
end J

namespace J
open PySem PySem.Spec PyProof.Rows L2
/-! for i, c in enumerate(s), s a text -/
def ItES (x : Str) : It := ⟨fun i _ => i < x.cps.size, fun i H v H' => ∃ T c, v = .ref T ∧ H T = none ∧ H' = upd H T (.tup [.int (i : Nat), .str ⟨#[c]⟩]) ∧ x.cps[i]? = some c, fun i _ => x.cps.size ≤ i⟩
theorem turn_enumS {P : Program} {w : World} {K : PySem.W.Frag} {elts : List Expr} {kk : Nat} {tpos : Pos} (e it : Addr) (x : Str) (t : Tok) (ty : String) (hty : ty = "str_ascii_iterator" ∨ ty = "str_iterator") :
    Turn P w K (.Tuple elts kk tpos) (ItES x) [e, it] e (fun i h => (∃ old, IsEnum h e it ((i : Nat) : Int) old) ∧ h.IsStrIter it ty x t i ∧ e ≠ it ∧ i ≤ x.cps.size) where
  mem := by simp
  obj := fun i h st b hb => by
    obtain ⟨⟨old, he⟩, ⟨o, ho, hc, hd⟩, _⟩ := st
    have e' : b = e ∨ b = it := by simpa using hb
    rcases e' with z | z
    · rw [z]; exact ⟨_, he, fun v q => nomatch q⟩
    · rw [z]; exact ⟨o, ho, fun v q => by rw [hd] at q; cases q⟩
  keep := fun i h h' st k => let ⟨⟨old, he⟩, ⟨o, ho, r⟩, hne, hle⟩ := st; ⟨⟨old, k e (by simp) _ he⟩, ⟨o, k it (by simp) o ho, r⟩, hne, hle⟩
  item := by
    intro X hP hw hK hc i pins s σ H E I hf st hg
    subst hP hw hK
    obtain ⟨⟨old, he⟩, hit, hne, hle⟩ := st
    have hel : e < s.heap.objs.size := Heap.lt_size he
    have hil : it < s.heap.objs.size := by obtain ⟨_, q, _⟩ := hit; exact Heap.lt_size q
    have D : Draws X.prog X.w X.A.in1 it [it] x.cps.size (fun i v => ∃ c u, x.cps[i]? = some c ∧ v = .str ⟨#[c]⟩ u) (fun i h => h.IsStrIter it ty x t i) := by
      rcases hty with z | z
      · rw [z]; exact Draws.strAscii (by exact I.ok.hd hc) it x t
      · rw [z]; exact Draws.strWide (by exact I.ok.hd hc) it x t
    have hef : e ∉ [it] := by simpa using hne
    refine wpAny_pyNext_enum_itemD D he hit hg hne hef fun v h' tk hv ho hit' hT hsz hk => ?_
    obtain ⟨c, u, hcx, rfl⟩ := hv
    refine ⟨_, rfl, wpAny_letOwnedTupleGo_enum (s := { s with heap := h', toks := tk + 1 }) ho fun h'' he' sb => ?_⟩
    have hT2 : h''.get? s.heap.objs.size = some { cls := .type "tuple", data := .seq #[.int i tk, .str ⟨#[c]⟩ u] } := (sb.2 _ (Nat.ne_of_gt hel)).trans hT
    have new : ObjOk X.prog X.w (upd H s.heap.objs.size (.tup [.int (i : Nat), .str ⟨#[c]⟩])) h'' s.heap.objs.size (.tup [.int (i : Nat), .str ⟨#[c]⟩]) :=
      ⟨by show 2 ≤ sizeLine; decide, [.int i tk, .str ⟨#[c]⟩ u], .cons ⟨_, rfl⟩ (.cons ⟨_, rfl⟩ .nil), ⟨_, hT2, rfl, _, rfl⟩⟩
    have I1 : Inv X pins σ (upd H s.heap.objs.size (.tup [.int (i : Nat), .str ⟨#[c]⟩])) { s with heap := h'', toks := tk + 1 } :=
      I.turnedNew (ch := [e, it]) (fun b ob hb q => (sb.2 b (fun z => hb (by simp [z]))).trans (hk b ob (fun z => hb (by simp [z])) (fun z => hb (by simp [z])) q)) hf (Nat.le_refl _) new
    have hit2 : h''.IsStrIter it ty x t (i + 1) := by
      obtain ⟨o, ho2, r⟩ := hit'
      exact ⟨o, (sb.2 it (Ne.symm hne)).trans ho2, r⟩
    refine ⟨.ref s.heap.objs.size, _, I1, rfl, ⟨_, c, rfl, I.hok.fresh (Nat.le_refl _), rfl, hcx⟩, ⟨⟨.str ⟨#[c]⟩ u, ?_⟩, hit2, hne, hg⟩, fun b hb => ?_⟩
    · have e1 : ((i + 1 : Nat) : Int) = (i : Int) + 1 := by omega
      rw [e1]; exact he'
    · have hb' : b < s.heap.objs.size := by
        have e' : b = e ∨ b = it := by simpa using hb
        rcases e' with z | z
        · rw [z]; exact hel
        · rw [z]; exact hil
      rw [upd_ne (Nat.ne_of_lt hb')]
      exact (hf b hb).1
  done := by
    intro X hP hw hK hc i pins s σ H E I hf st hg
    subst hP hw hK
    obtain ⟨⟨old, he⟩, hit, hne, hle⟩ := st
    obtain ⟨f0, f1, f2, f3, f4, f5⟩ := hf it (by simp)
    have hge : x.cps.size ≤ i := hg
    obtain rfl : i = x.cps.size := Nat.le_antisymm hle hge
    have D : Draws X.prog X.w X.A.in1 it [it] x.cps.size (fun i v => ∃ c u, x.cps[i]? = some c ∧ v = .str ⟨#[c]⟩ u) (fun i h => h.IsStrIter it ty x t i) := by
      rcases hty with z | z
      · rw [z]; exact Draws.strAscii (by exact I.ok.hd hc) it x t
      · rw [z]; exact Draws.strWide (by exact I.ok.hd hc) it x t
    exact wpAny_pyNext_enum_endD D he hit fun h' eb => ⟨rfl, I.turned (t' := s.toks) (fun b o hb q => eb b o hb q) f0 f1 f3 f4 f5⟩
  self := fun A i s Q E st h => let ⟨⟨_, he⟩, _⟩ := st; wpAny_pyIter_enum he h
def iEnumS (ta : TA) : TI := fun σ H R => ta σ H fun vs H1 => ∃ x, vs = [.str x] ∧ R (ItES x) H1
theorem pi_enumS {X : Cx} {e : Expr} {ta : TA} {p pos tpos : Pos} {elts : List Expr} {kk : Nat} (hg : Gl X "enumerate") (hm : X.mg "enumerate" = none) (ha : PA X [e] ta) (hs : starEach [e] X.env = [(false, eval e X.env)] := by rfl) :
    PI X (.Tuple elts kk tpos) (.Call (.Name "enumerate" p) [e] [] pos) (iEnumS ta) := by
  refine ⟨fun pins s σ H R I h => ?_⟩
  refine Call_ (ld_blt I hg hm boot_enumerate (PyProof.Rows.callWith_type1 (thn (ha.run pos pins s σ H _ I h) fun us s1 ⟨vs, H1, I1, r1, q1⟩ => ?_) hs rfl))
  obtain ⟨x, ex, q⟩ := q1
  subst ex
  cases r1 with
  | cons r rr =>
    cases rr
    obtain ⟨t, rfl⟩ := r
    refine call_enumerate_str fun h' he hit hsz hk => wpAny_pyIter_enum he ?_
    have I2 : Inv X pins σ H1 { s1 with heap := h' } := I1.kept (t' := s1.toks) hk
    refine ⟨s1.heap.objs.size + 1, [s1.heap.objs.size + 1, s1.heap.objs.size], _, _, H1, rfl, I2, turn_enumS (s1.heap.objs.size + 1) s1.heap.objs.size x t (strIterType x) (by unfold strIterType; split <;> first | exact .inl rfl | exact .inr rfl), ⟨⟨.none, he⟩, hit, Nat.succ_ne_self _, Nat.zero_le _⟩, fun b hb => ?_, q⟩
    have e' : b = s1.heap.objs.size + 1 ∨ b = s1.heap.objs.size := by simpa using hb
    have hle : s1.heap.objs.size ≤ b := by
      rcases e' with z | z
      · rw [z]; exact Nat.le_add_right _ _
      · rw [z]; exact Nat.le_refl _
    exact I1.fpOk hle (I1.hok.fresh hle)
/-! k in d, d a written dict -/
def KHas (K : PySem.W.Frag) (w : World) (a : Addr) (x : Str) (b : Bool) : Prop := ∃ es n r, K.lookup a = some ⟨.type "dict", none, .dict es n, #[]⟩ ∧ PySem.W.KeysLit w.params es.toList ∧ (a == sysModules) = false ∧ PySem.W.nsIn K a x = some r ∧ r.isSome = b
def rInKD (K : PySem.W.Frag) (w : World) : R2 := fun x y H Q => ∃ z p b, x = .str z ∧ y = .ref p ∧ KHas K w p z b ∧ Q (.bl b) H
theorem op_inKD {X : Cx} : OpR X (compareOp .In) (rInKD X.K X.w) := by
  intro pins s σ H x y v u Q I rx ry h
  obtain ⟨z, p, b, rfl, rfl, ⟨es, n, r, hl, hk, low, e, eb⟩, q⟩ := h
  obtain ⟨t, rfl⟩ := rx
  obtain rfl : u = Value.ref p := ry
  have hm := PySem.W.mapOf_K (prog := X.prog) (w := X.w) I.kIn hl hk
  refine wpAny_in_of (strKind_is X.prog X.w z t) low hm ?_
  rw [PySem.W.find_K hl e, eb]
  exact ⟨.bl b, H, I.tok _, rfl, q⟩
def tJoin (ts : List TE) : TE := fun σ H Q => tJs ts Str.empty σ H fun out H1 => Q (.str out) H1
def rInSign : R2 := fun x y H Q => ∃ (c : Nat) (z : Str), x = .str ⟨#[c]⟩ ∧ y = .str z ∧ Q (.bl (decide (c ∈ z.cps.toList))) H
/-- s.index(t), there -/
def rIndexS : V → List V → Hp → VK → Prop := fun x xs H Q => ∃ (a b : Str) (k : Nat), x = .str a ∧ xs = [.str b] ∧ Txt.index0 a b = some k ∧ Q (.int (k : Nat)) H
theorem mt_indexS {X : Cx} : MtR X "str.index" rIndexS := by
  intro pins s σ H x xs v us Q I rx rs h
  obtain ⟨a, b, k, rfl, rfl, e, w⟩ := h
  obtain ⟨t, rfl⟩ := rx
  cases rs with
  | cons r1 rs =>
    cases rs
    obtain ⟨u, rfl⟩ := r1
    cases q : Builtin.Str.occurrences a b 0 a.length 1 with
    | nil =>
      unfold Txt.index0 at e
      rw [q] at e
      cases e
    | cons k' rest =>
      unfold Txt.index0 at e
      rw [q] at e
      obtain rfl : k' = k := Option.some.inj e
      exact PySem.SC.index q ⟨.int (k' : Nat), H, I.tok _, ⟨_, rfl⟩, w⟩
end J

namespace J
open PySem L2
/-! trees of data: lists of their own -/
/-- what stands but for the lists of F -/
def Off (F : Addr → Prop) (H H' : Hp) : Prop := ∀ a o, H a = some o → (¬ F a ∨ ∃ xs, o = .tup xs) → H' a = some o
def New (H H' : Hp) (a : Addr) : Prop := H a = none ∧ H' a ≠ none
def Atm (v : V) (d : PyData) : Prop := (v = .non ∧ d = .none) ∨ (∃ b, v = .bl b ∧ d = .bool b) ∨ (∃ i, v = .int i ∧ d = .int i) ∨ ∃ x, v = .str x ∧ d = .str x ∧ PyData.strOk x = true
def Parts (T : (Addr → Prop) → V → PyData → Prop) (F : Addr → Prop) (G : Nat → Addr → Prop) (xs : List V) (ds : List PyData) : Prop :=
  xs.length = ds.length ∧ xs.length ≤ 1000 ∧ (∀ (i : Nat) x e, xs[i]? = some x → ds[i]? = some e → T (G i) x e) ∧ (∀ i a, G i a → F a) ∧ ∀ (i j : Nat) a, i ≠ j → G i a → ¬ G j a
def Tr (H : Hp) : Nat → (Addr → Prop) → V → PyData → Prop
  | 0, _, _, _ => False
  | n + 1, F, v, d => Atm v d ∨
      (∃ a xs ds G, v = .ref a ∧ d = .tuple ds ∧ H a = some (.tup xs) ∧ Parts (Tr H n) F G xs ds) ∨
      (∃ a xs ds G, v = .ref a ∧ d = .list ds ∧ H a = some (.lst xs) ∧ F a ∧ (∀ i, ¬ G i a) ∧ Parts (Tr H n) F G xs ds)
theorem Tr.frame {H H' : Hp} : ∀ {n : Nat} {F : Addr → Prop} {v : V} {d : PyData}, (∀ a o, H a = some o → (F a ∨ ∃ xs, o = .tup xs) → H' a = some o) → Tr H n F v d → Tr H' n F v d
  | 0, _, _, _, _, h => h
  | n + 1, F, v, d, g, h => by
    have hp : ∀ {G xs ds}, Parts (Tr H n) F G xs ds → Parts (Tr H' n) F G xs ds := fun {G xs ds} p =>
      ⟨p.1, p.2.1, fun i x e hx he => Tr.frame (fun a o ho hf => g a o ho (hf.imp (p.2.2.2.1 i a) id)) (p.2.2.1 i x e hx he), p.2.2.2⟩
    rcases h with h | ⟨a, xs, ds, G, e1, e2, e3, p⟩ | ⟨a, xs, ds, G, e1, e2, e3, fa, ng, p⟩
    · exact .inl h
    · exact .inr (.inl ⟨a, xs, ds, G, e1, e2, g _ _ e3 (.inr ⟨_, rfl⟩), hp p⟩)
    · exact .inr (.inr ⟨a, xs, ds, G, e1, e2, g _ _ e3 (.inl fa), fa, ng, hp p⟩)
theorem Tr.mono {H H' : Hp} {n : Nat} {F : Addr → Prop} {v : V} {d : PyData} (h : Tr H n F v d) (g : Same H H') : Tr H' n F v d := Tr.frame (fun a o e _ => g a o e) h
theorem Tr.off {H H' : Hp} {n : Nat} {F F' : Addr → Prop} {v : V} {d : PyData} (h : Tr H n F v d) (g : Off F' H H') (n1 : ∀ a, F a → ¬ F' a) : Tr H' n F v d := Tr.frame (fun a o e hf => g a o e (hf.imp (n1 a) id)) h
theorem Parts.sub {T : (Addr → Prop) → V → PyData → Prop} {F F' : Addr → Prop} {G xs ds} (s : ∀ a, F a → F' a) (p : Parts T F G xs ds) : Parts T F' G xs ds := ⟨p.1, p.2.1, p.2.2.1, fun i a h => s a (p.2.2.2.1 i a h), p.2.2.2.2⟩
theorem Tr.sub {H : Hp} {n : Nat} {F F' : Addr → Prop} {v : V} {d : PyData} (h : Tr H n F v d) (s : ∀ a, F a → F' a) : Tr H n F' v d := by
  cases n with
  | zero => exact h
  | succ n =>
    rcases h with h | ⟨a, xs, ds, G, e1, e2, e3, p⟩ | ⟨a, xs, ds, G, e1, e2, e3, fa, ng, p⟩
    · exact .inl h
    · exact .inr (.inl ⟨a, xs, ds, G, e1, e2, e3, p.sub s⟩)
    · exact .inr (.inr ⟨a, xs, ds, G, e1, e2, e3, s a fa, ng, p.sub s⟩)
theorem Tr.up {H : Hp} : ∀ {n : Nat} {F : Addr → Prop} {v : V} {d : PyData}, Tr H n F v d → Tr H (n + 1) F v d
  | 0, _, _, _, h => h.elim
  | n + 1, F, v, d, h => by
    have hp : ∀ {G xs ds}, Parts (Tr H n) F G xs ds → Parts (Tr H (n + 1)) F G xs ds := fun {G xs ds} p => ⟨p.1, p.2.1, fun i x e hx he => (p.2.2.1 i x e hx he).up, p.2.2.2⟩
    rcases h with h | ⟨a, xs, ds, G, e1, e2, e3, p⟩ | ⟨a, xs, ds, G, e1, e2, e3, fa, ng, p⟩
    · exact .inl h
    · exact .inr (.inl ⟨a, xs, ds, G, e1, e2, e3, hp p⟩)
    · exact .inr (.inr ⟨a, xs, ds, G, e1, e2, e3, fa, ng, hp p⟩)
theorem Tr.le {H : Hp} {n m : Nat} {F : Addr → Prop} {v : V} {d : PyData} (h : Tr H n F v d) (l : n ≤ m) : Tr H m F v d := by
  induction l with
  | refl => exact h
  | step _ ih => exact ih.up
theorem dpAll_tr {K : PySem.W.Frag} {H : Hp} : ∀ {xs : List V} {ds : List PyData}, xs.length = ds.length → (∀ (i : Nat) x e, xs[i]? = some x → ds[i]? = some e → Dp K H x e) → DpAll K H xs ds
  | [], [], _, _ => .nil
  | [], _ :: _, h, _ => nomatch h
  | _ :: _, [], h, _ => nomatch h
  | x :: xs, d :: ds, h, f => .cons (f 0 x d rfl rfl) (dpAll_tr (Nat.succ.inj h) fun i x e hx he => f (i + 1) x e hx he)
theorem Tr.dp {K : PySem.W.Frag} {H : Hp} : ∀ {n : Nat} {F : Addr → Prop} {v : V} {d : PyData}, Tr H n F v d → Dp K H v d
  | 0, _, _, _, h => h.elim
  | n + 1, F, v, d, h => by
    rcases h with h | ⟨a, xs, ds, G, rfl, rfl, e3, p⟩ | ⟨a, xs, ds, G, rfl, rfl, e3, fa, ng, p⟩
    · rcases h with ⟨rfl, rfl⟩ | ⟨b, rfl, rfl⟩ | ⟨i, rfl, rfl⟩ | ⟨x, rfl, rfl, sx⟩
      · exact .non
      · exact .bl b
      · exact .int i
      · exact .str x
    · exact .tup (SqT.of e3) (dpAll_tr p.1 fun i x e hx he => (p.2.2.1 i x e hx he).dp)
    · exact .lst (SqL.of e3) (dpAll_tr p.1 fun i x e hx he => (p.2.2.1 i x e hx he).dp)
theorem layAll_tr : ∀ {ds : List PyData}, (∀ e ∈ ds, e.canLay0 = true) → PyData.canLayAll0 ds = true
  | [], _ => rfl
  | d :: ds, f => by
    show (d.canLay0 && PyData.canLayAll0 ds) = true
    rw [f d List.mem_cons_self, layAll_tr fun e he => f e (List.mem_cons_of_mem _ he)]; rfl
theorem depAll_tr {n : Nat} : ∀ {ds : List PyData}, (∀ e ∈ ds, e.depth ≤ n) → PyData.depthAll ds ≤ n
  | [], _ => Nat.zero_le _
  | d :: ds, f => by
    show max d.depth (PyData.depthAll ds) ≤ n
    exact Nat.max_le.mpr ⟨f d List.mem_cons_self, depAll_tr fun e he => f e (List.mem_cons_of_mem _ he)⟩
theorem eqvAll_tr : ∀ {ds : List PyData}, (∀ e ∈ ds, PyData.eqv e e = true) → PyData.eqvAll ds ds = true
  | [], _ => rfl
  | d :: ds, f => by
    show (PyData.eqv d d && PyData.eqvAll ds ds) = true
    rw [f d List.mem_cons_self, eqvAll_tr fun e he => f e (List.mem_cons_of_mem _ he)]; rfl
theorem Parts.all {T : (Addr → Prop) → V → PyData → Prop} {F G xs ds} (p : Parts T F G xs ds) {P : PyData → Prop} (f : ∀ G x e, T G x e → P e) : ∀ e ∈ ds, P e := by
  intro e he
  obtain ⟨i, hi, rfl⟩ := List.getElem_of_mem he
  exact f _ _ _ (p.2.2.1 i (xs[i]'(by rw [p.1]; exact hi)) _ (List.getElem?_eq_getElem _) (List.getElem?_eq_getElem _))
theorem Tr.good {H : Hp} : ∀ {n : Nat} {F : Addr → Prop} {v : V} {d : PyData}, Tr H n F v d → d.canLay0 = true ∧ d.depth ≤ n ∧ PyData.eqv d d = true
  | 0, _, _, _, h => h.elim
  | n + 1, F, v, d, h => by
    rcases h with h | ⟨a, xs, ds, G, rfl, rfl, e3, p⟩ | ⟨a, xs, ds, G, rfl, rfl, e3, fa, ng, p⟩
    · rcases h with ⟨rfl, rfl⟩ | ⟨b, rfl, rfl⟩ | ⟨i, rfl, rfl⟩ | ⟨x, rfl, rfl, sx⟩
      · exact ⟨rfl, Nat.zero_le _, rfl⟩
      · exact ⟨rfl, Nat.zero_le _, by cases b <;> rfl⟩
      · exact ⟨rfl, Nat.zero_le _, by show (i == i) = true; exact beq_self_eq_true i⟩
      · exact ⟨sx, Nat.zero_le _, by show (x == x) = true; exact beq_self_eq_true x⟩
    · have A := p.all (P := fun d => d.canLay0 = true ∧ d.depth ≤ n ∧ PyData.eqv d d = true) fun G x e t => t.good
      exact ⟨layAll_tr fun e he => (A e he).1, Nat.succ_le_succ (depAll_tr fun e he => (A e he).2.1), eqvAll_tr fun e he => (A e he).2.2⟩
    · have A := p.all (P := fun d => d.canLay0 = true ∧ d.depth ≤ n ∧ PyData.eqv d d = true) fun G x e t => t.good
      exact ⟨layAll_tr fun e he => (A e he).1, Nat.succ_le_succ (depAll_tr fun e he => (A e he).2.1), eqvAll_tr fun e he => (A e he).2.2⟩
theorem Tr.shaped {H : Hp} {n : Nat} {F : Addr → Prop} {v : V} {d : PyData} (h : Tr H n F v d) (l : n ≤ 64) : SeqAt.shaped d = true := by
  show (d.canLay0 && decide (d.depth ≤ 64)) = true
  rw [h.good.1, decide_eq_true (Nat.le_trans h.good.2.1 l)]; rfl
/-- tuples alone -/
def okT : Nat → PyData → Prop
  | 0, _ => False
  | n + 1, .tuple ds => ds.length ≤ 1000 ∧ ∀ x ∈ ds, okT n x
  | _ + 1, .str x => PyData.strOk x = true
  | _ + 1, .none => True
  | _ + 1, .bool _ => True
  | _ + 1, .int _ => True
  | _ + 1, _ => False
theorem okT.up : ∀ {n : Nat} {d : PyData}, okT n d → okT (n + 1) d
  | 0, _, h => h.elim
  | n + 1, .tuple ds, h => ⟨h.1, fun x hx => okT.up (h.2 x hx)⟩
  | _ + 1, .str _, h => h
  | _ + 1, .none, _ => trivial
  | _ + 1, .bool _, _ => trivial
  | _ + 1, .int _, _ => trivial
  | _ + 1, .list _, h => h.elim
  | _ + 1, .dict _, h => h.elim
theorem okT.le {n m : Nat} {d : PyData} (h : okT n d) (l : n ≤ m) : okT m d := by
  induction l with
  | refl => exact h
  | step _ ih => exact ih.up
theorem okT_cond : ∀ c : Cond, okT (c.deep + 2) (cdata c)
  | .look i => ⟨by show 2 ≤ 1000; decide, fun x hx => by
      rcases List.mem_cons.mp hx with rfl | hx
      · show PyData.strOk "look" = true; decide +kernel
      · obtain rfl := List.mem_singleton.mp hx
        exact trivial⟩
  | .not c => ⟨by show 2 ≤ 1000; decide, fun x hx => by
      rcases List.mem_cons.mp hx with rfl | hx
      · show PyData.strOk "not" = true; decide +kernel
      · obtain rfl := List.mem_singleton.mp hx
        exact okT_cond c |>.le (by show c.deep + 2 ≤ c.deep + 1 + 1; omega)⟩
  | .bin a l r => ⟨by show 3 ≤ 1000; decide, fun x hx => by
      rcases List.mem_cons.mp hx with rfl | hx
      · show PyData.strOk (wd a) = true; cases a <;> decide +kernel
      · have e : (Cond.bin a l r).deep = max l.deep r.deep + 1 := rfl
        rcases List.mem_cons.mp hx with rfl | hx
        · exact okT_cond l |>.le (by omega)
        · obtain rfl := List.mem_singleton.mp hx
          exact okT_cond r |>.le (by omega)⟩
theorem TD.tr {H : Hp} : ∀ {n : Nat} {v : V} {d : PyData}, TD H v d → okT n d → Tr H n (fun _ => False) v d
  | 0, _, _, _, h => h.elim
  | n + 1, v, d, t, h => by
    cases t with
    | non => exact .inl (.inl ⟨rfl, rfl⟩)
    | bl b => exact .inl (.inr (.inl ⟨b, rfl, rfl⟩))
    | int i => exact .inl (.inr (.inr (.inl ⟨i, rfl, rfl⟩)))
    | str x => exact .inl (.inr (.inr (.inr ⟨x, rfl, rfl, h⟩)))
    | @tup a xs ds e t =>
      refine .inr (.inl ⟨a, xs, ds, fun _ _ => False, rfl, rfl, e, t.len, by rw [t.len]; exact h.1, fun i x d hx hd => ?_, fun _ _ h => h, fun _ _ _ _ h => h.elim⟩)
      obtain ⟨d', hd', td⟩ := t.getV hx
      rw [hd] at hd'
      obtain rfl := Option.some.inj hd'
      exact td.tr (h.2 d (List.mem_of_getElem? hd))
theorem Tr.td {H : Hp} : ∀ {n : Nat} {v : V} {d : PyData}, Tr H n (fun _ => False) v d → TD H v d
  | 0, _, _, h => h.elim
  | n + 1, v, d, h => by
    rcases h with h | ⟨a, xs, ds, G, rfl, rfl, e3, p⟩ | ⟨a, xs, ds, G, rfl, rfl, e3, fa, ng, p⟩
    · rcases h with ⟨rfl, rfl⟩ | ⟨b, rfl, rfl⟩ | ⟨i, rfl, rfl⟩ | ⟨x, rfl, rfl, sx⟩
      · exact .non
      · exact .bl b
      · exact .int i
      · exact .str x
    · refine .tup e3 ?_
      have f : ∀ (i : Nat) x e, xs[i]? = some x → ds[i]? = some e → TD H x e := fun i x e hx he => ((p.2.2.1 i x e hx he).sub (F' := fun _ => False) fun a h => p.2.2.2.1 i a h).td
      have l := p.1
      clear p e3
      induction xs generalizing ds with
      | nil => cases ds with
        | nil => exact .nil
        | cons _ _ => cases l
      | cons x xs ih => cases ds with
        | nil => cases l
        | cons d ds => exact .cons (f 0 x d rfl rfl) (ih ds (fun i x e hx he => f (i + 1) x e hx he) (Nat.succ.inj l))
    · exact fa.elim
/-! a row of trees, each with lists of its own, none of them in the first heap -/
def Line (n : Nat) (H0 H : Hp) (xs : List V) (ds : List PyData) : Prop := ∃ G : Nat → Addr → Prop, xs.length = ds.length ∧ (∀ (i : Nat) x e, xs[i]? = some x → ds[i]? = some e → Tr H n (G i) x e) ∧ (∀ i a, G i a → New H0 H a) ∧ ∀ (i j : Nat) a, i ≠ j → G i a → ¬ G j a
theorem Line.nil {n : Nat} {H0 H : Hp} : Line n H0 H [] [] := ⟨fun _ _ => False, rfl, by intro i x e h; simp at h, fun _ _ h => absurd h id, fun _ _ _ _ h => absurd h id⟩
theorem some_of_same {H H' : Hp} {a : Addr} (g : Same H H') (h : H a ≠ none) : H' a ≠ none := by
  cases e : H a with
  | none => exact absurd e h
  | some o => rw [g _ _ e]; exact fun z => nomatch z
theorem Line.frame {n : Nat} {H0 H H' : Hp} {xs : List V} {ds : List PyData} (l : Line n H0 H xs ds) (g : ∀ a o, H a = some o → (H0 a = none ∨ ∃ xs, o = .tup xs) → H' a = some o) : Line n H0 H' xs ds := by
  obtain ⟨G, e, t, s, d⟩ := l
  refine ⟨G, e, fun i x e hx he => Tr.frame (fun a o ho hf => g a o ho (hf.imp (fun z => (s i a z).1) id)) (t i x e hx he), fun i a z => ⟨(s i a z).1, ?_⟩, d⟩
  cases ho : H a with
  | none => exact absurd ho (s i a z).2
  | some o => rw [g _ _ ho (.inl (s i a z).1)]; exact fun z => nomatch z
theorem Line.same {n : Nat} {H0 H H' : Hp} {xs : List V} {ds : List PyData} (l : Line n H0 H xs ds) (g : Same H H') : Line n H0 H' xs ds := l.frame fun a o e _ => g a o e
theorem snoc_at {α : Type} {l : List α} {x y : α} {i : Nat} (h : (l ++ [x])[i]? = some y) : l[i]? = some y ∧ i < l.length ∨ i = l.length ∧ x = y := by
  by_cases hi : i < l.length
  · rw [List.getElem?_append_left hi] at h
    exact .inl ⟨h, hi⟩
  · rw [List.getElem?_append_right (Nat.le_of_not_lt hi)] at h
    by_cases h0 : i = l.length
    · subst h0
      rw [Nat.sub_self] at h
      exact .inr ⟨rfl, Option.some.inj h⟩
    · have : i - l.length = (i - l.length - 1) + 1 := by omega
      rw [this] at h
      cases h
theorem Line.snoc {n : Nat} {H0 H H' : Hp} {xs : List V} {ds : List PyData} {v : V} {d : PyData} (l : Line n H0 H xs ds) (g0 : ∀ a, H a = none → H0 a = none) (g : Same H H') (t : Tr H' n (New H H') v d) : Line n H0 H' (xs ++ [v]) (ds ++ [d]) := by
  obtain ⟨G, e, t0, s, ds0⟩ := l
  refine ⟨fun i a => i < xs.length ∧ G i a ∨ i = xs.length ∧ New H H' a, by rw [List.length_append, List.length_append, e]; rfl, fun i x e' hx he => ?_, fun i a z => ?_, fun i j a hij zi zj => ?_⟩
  · rcases snoc_at hx with ⟨hx, hi⟩ | ⟨rfl, rfl⟩
    · rcases snoc_at he with ⟨he, _⟩ | ⟨h, _⟩
      · exact ((t0 i x e' hx he).mono g).sub fun a z => .inl ⟨hi, z⟩
      · omega
    · rcases snoc_at he with ⟨_, h⟩ | ⟨_, rfl⟩
      · omega
      · exact t.sub fun a z => .inr ⟨rfl, z⟩
  · rcases z with ⟨_, z⟩ | ⟨_, z⟩
    · exact ⟨(s i a z).1, some_of_same g (s i a z).2⟩
    · exact ⟨g0 a z.1, z.2⟩
  · rcases zi with ⟨hi, zi⟩ | ⟨hi, zi⟩ <;> rcases zj with ⟨hj, zj⟩ | ⟨hj, zj⟩
    · exact ds0 i j a hij zi zj
    · exact (s i a zi).2 zj.1
    · exact (s j a zj).2 zi.1
    · omega
theorem Line.list {n : Nat} {H0 H H' : Hp} {xs : List V} {ds : List PyData} {p : Addr} (l : Line n H0 H xs ds) (hl : xs.length ≤ 1000) (h0 : H0 p = none) (hn : H p = none) (g : Same H H') (e : H' p = some (.lst xs)) : Tr H' (n + 1) (New H0 H') (.ref p) (.list ds) := by
  obtain ⟨G, e1, t0, s, ds0⟩ := l
  exact .inr (.inr ⟨p, xs, ds, G, rfl, rfl, e, ⟨h0, by rw [e]; exact fun z => nomatch z⟩, fun i z => (s i p z).2 hn, e1, hl, fun i x d hx hd => (t0 i x d hx hd).mono g, fun i a z => ⟨(s i a z).1, some_of_same g (s i a z).2⟩, ds0⟩)
theorem Line.tup {n : Nat} {H0 H : Hp} {xs : List V} {ds : List PyData} {p : Addr} (l : Line n H0 H xs ds) (hl : xs.length ≤ 1000) (e : H p = some (.tup xs)) : Tr H (n + 1) (New H0 H) (.ref p) (.tuple ds) := by
  obtain ⟨G, e1, t0, s, ds0⟩ := l
  exact .inr (.inl ⟨p, xs, ds, G, rfl, rfl, e, e1, hl, t0, s, ds0⟩)
/-- a list of atoms -/
theorem Tr.flatL {H : Hp} {n : Nat} {F : Addr → Prop} {p : Addr} {xs : List V} {ds : List PyData} (e : H p = some (.lst xs)) (f : F p) (hl : xs.length ≤ 1000) (l : xs.length = ds.length) (h : ∀ (i : Nat) x d, xs[i]? = some x → ds[i]? = some d → Tr H n (fun _ => False) x d) : Tr H (n + 1) F (.ref p) (.list ds) :=
  .inr (.inr ⟨p, xs, ds, fun _ _ => False, rfl, rfl, e, f, fun _ h => h, l, hl, h, fun _ _ h => h.elim, fun _ _ _ _ h => h.elim⟩)
theorem Off.refl {F : Addr → Prop} (H : Hp) : Off F H H := fun _ _ h _ => h
theorem Off.trans {F : Addr → Prop} {H H1 H2 : Hp} (x : Off F H H1) (y : Off F H1 H2) : Off F H H2 := fun a o h z => y a o (x a o h z) z
theorem Off.sub {F F' : Addr → Prop} {H H1 : Hp} (x : Off F H H1) (s : ∀ a, F a → F' a) : Off F' H H1 := fun a o h z => x a o h (z.imp (fun n f => n (s a f)) id)
theorem Off.same {F : Addr → Prop} {H H1 : Hp} (g : Same H H1) : Off F H H1 := fun a o h _ => g a o h
theorem Off.tups {F : Addr → Prop} {H H1 : Hp} (x : Off F H H1) : Tups H H1 := fun a xs h => x a _ h (.inr ⟨xs, rfl⟩)
/-! isinstance with (list, tuple) -/
theorem l_isiLT {K : PySem.W.Frag} {H : Hp} {Q : VK} {x : V} {tp : Addr} {t : Value} {b : Bool} (h : H tp = some (.tup [.ty "list", .ty "tuple"])) (ht : TyX K H x t) (hk : PySem.W.kitAny K t [.type "list", .type "tuple"] = some b) (q : Q (.bl b) H) : rIsiT K [x, .ref tp] H Q :=
  ⟨x, tp, _, t, _, b, rfl, h, .cons (L2.ClsV.ty _) (.cons (L2.ClsV.ty _) .nil), ht, hk, q⟩
end J

local macro_rules | `(tactic| tm_at "dec") => `(tactic| first | decide | exact of_decide_eq_true rfl | omega)
local macro_rules | `(tactic| tm_at "hp") => `(tactic| first
  | assumption
  | exact L2.Same.refl _
  | (refine' L2.Same.free (by assumption) ?k1; (case k1 => tm_at "hp"))
  | (refine' J.Fr.at (by assumption) ?k1 ?k2 ?k3; (case k1 => assumption); (case k2 => assumption); (case k3 => tm_at "hp"))
  | (refine' L2.SqT.of ?k1; (case k1 => tm_at "hp"))
  | (refine' L2.SqL.of ?k1; (case k1 => tm_at "hp"))
  | (refine' J.sm_ap (by assumption) ?k1; (case k1 => tm_at "hp"))
  | (refine' J.CA.mono (by assumption) ?k1; (case k1 => tm_at "hp"))
  | (refine' J.WA.mono (by assumption) ?k1; (case k1 => tm_at "hp"))
  | (refine' J.sm_t (by assumption) ?k1; (case k1 => tm_at "hp"))
  | (refine' J.sm_l (by assumption) ?k1; (case k1 => tm_at "hp"))
  | (refine' J.sm_tr (by assumption) ?k1; (case k1 => tm_at "hp")))
local macro_rules | `(tactic| tm_at "r") => `(tactic| first | exact rfl | decide +kernel | exact decide_eq_true (by omega) | exact decide_eq_false (by omega))
local macro_rules | `(tactic| tm_at "ty") => `(tactic| first | exact J.ty_int | exact J.ty_bl | exact J.ty_str | exact J.ty_non | exact J.ty_sqL (by assumption) | exact J.ty_sqT (by assumption) | (refine' J.ty_tup ?k1; (case k1 => tm_at "hp")) | (refine' J.ty_lst ?k1; (case k1 => tm_at "hp")))
local macro_rules | `(tactic| tm_at "j1") => `(tactic| first
  | with_reducible refine J.l_seq ?_
  | with_reducible refine J.l_asg ?_
  | with_reducible refine J.l_par ?_
  | with_reducible refine J.l_two ?_
  | with_reducible refine J.l_op ?_
  | ((with_reducible refine' J.l_var ?k1 ?_); (case k1 => exact rfl))
  | with_reducible refine J.l_c ?_
  | with_reducible refine J.l_name ?_
  | ((with_reducible refine' J.l_ixT ?k1 ?k2 ?_); (case k1 => tm_at "hp"); (case k2 => first | exact rfl | exact J.at0))
  | ((with_reducible refine' J.l_ixL ?k1 ?k2 ?_); (case k1 => tm_at "hp"); (case k2 => first | exact rfl | exact J.at0))
  | with_reducible refine J.l_ifS ?_
  | with_reducible refine J.l_test ?_
  | with_reducible refine J.l_tB ?_
  | with_reducible refine J.l_bl ?_
  | ((with_reducible refine' J.l_eq ?k1 ?_); (case k1 => exact rfl))
  | ((with_reducible refine' J.l_ne ?k1 ?_); (case k1 => exact rfl))
  | ((with_reducible refine' J.i_t ?k1 ?_); (case k1 => tm_at "r"))
  | ((with_reducible refine' J.i_f ?k1 ?_); (case k1 => tm_at "r"))
  | with_reducible refine J.l_ret ?_
  | with_reducible refine J.l_retN ?_
  | with_reducible refine J.l_next ?_
  | with_reducible refine J.l_brk ?_
  | with_reducible refine J.l_cnt ?_
  | with_reducible refine J.l_drop ?_
  | ((with_reducible refine' J.l_aug ?k1 ?_); (case k1 => exact rfl))
  | with_reducible refine J.l_ipI ?_
  | with_reducible refine J.l_iZip ?_
  | with_reducible refine J.l_un ?_
  | with_reducible refine J.l_I0 ?_
  | ((with_reducible refine' J.l_I ?k1 ?_); (case k1 => first | assumption | tm_at "dec" | exact Or.inr (by decide) | exact (by decide) | exact ⟨by decide, by decide⟩ | exact ⟨by omega, by omega⟩ | exact (show (0 : Int) < _ by decide)))
  | with_reducible refine J.l_U ?_
  | with_reducible refine J.l_and ?_
  | with_reducible refine J.l_or ?_
  | with_reducible refine J.l_not ?_
  | with_reducible refine J.l_andV ?_
  | with_reducible refine J.l_orV ?_
  | with_reducible refine J.l_notV ?_
  | with_reducible refine J.l_if ?_
  | with_reducible refine J.l_chain ?_
  | with_reducible refine J.l_nil ?_
  | with_reducible refine J.l_cons ?_
  | with_reducible refine J.l_tup ?_
  | with_reducible refine J.l_lst ?_
  | ((with_reducible refine' J.l_new ?k1 ?_); (case k1 => (tm_at "dec")); intro _ _ _ _ _)
  | with_reducible refine J.l_CB ?_
  | ((with_reducible refine' J.l_swapD ?_); intro _ _ _ _ _)
  | with_reducible refine J.l_dget ?_
  | ((with_reducible refine' J.l_dgetS ?k1 ?_); (case k1 => tm_at "hp"))
  | with_reducible refine J.l_lc ?_
  | with_reducible refine J.l_lc2 ?_
  | with_reducible refine J.l_for ?_
  | with_reducible refine J.l_iTup ?_
  | with_reducible refine J.l_iList ?_
  | with_reducible refine J.l_iRng1 ?_
  | with_reducible refine J.l_iRng2 ?_
  | with_reducible refine J.l_bm ?_
  | ((with_reducible refine' J.l_isi (b := true) (L2.ClsV.ty _) ?k1 (L2.kit_ty ?k2) ?_); (case k1 => tm_at "ty"); (case k2 => decide +kernel))
  | ((with_reducible refine' J.l_isi (b := false) (L2.ClsV.ty _) ?k1 (L2.kit_ty ?k2) ?_); (case k1 => tm_at "ty"); (case k2 => decide +kernel))
  | with_reducible refine J.l_bm0 ?_
  | ((with_reducible refine' J.l_ty ?k1 ?_); (case k1 => tm_at "hp"))
  | with_reducible refine J.l_call ?_
  | with_reducible refine J.l_sl ?_
  | with_reducible refine J.l_noPart ?_
  | with_reducible refine J.l_part ?_
  | with_reducible refine J.l_isInt ?_
  | ((with_reducible refine' J.l_gtup ?k1 ?k2 ?_); (case k1 => tm_at "hp"); (case k2 => exact rfl))
  | with_reducible refine J.l_gnil ?_
  | with_reducible refine J.l_gcons ?_
  | with_reducible refine J.l_gsub ?_
  | ((with_reducible refine' J.l_slT ?k1 ?k2 ?_); (case k1 => tm_at "hp"); (case k2 => tm_at "dec"); intro _ _ _ _ _)
  | ((with_reducible refine' J.l_slL ?k1 ?_); (case k1 => tm_at "hp"); intro _ _ _ _ _)
  | ((with_reducible refine' J.l_cat ?k1 ?k2 ?k3 ?_); (case k1 => tm_at "hp"); (case k2 => tm_at "hp"); (case k3 => (tm_at "dec")); intro _ _ _ _ _)
  | ((with_reducible refine' J.l_in ?k1 ?k2 ?k3 ?_); (case k1 => tm_at "hp"); (case k2 => exact rfl); (case k3 => exact rfl))
  | ((with_reducible refine' J.l_lenT ?k1 ?_); (case k1 => tm_at "hp"))
  | ((with_reducible refine' J.l_lenL ?k1 ?_); (case k1 => tm_at "hp"))
  | with_reducible refine J.l_intB ?_
  | with_reducible refine J.l_intI ?_
  | with_reducible refine J.l_isNone ?_
  | with_reducible refine J.l_notNone ?_
  | ((with_reducible refine' J.l_ixD ?k1 ?_); (case k1 => assumption))
  | ((with_reducible refine' J.l_listL ?k1 ?_); (case k1 => tm_at "hp"); intro _ _ _ _ _)
  | ((with_reducible refine' J.l_listT ?k1 ?_); (case k1 => tm_at "hp"); intro _ _ _ _ _)
  | ((with_reducible refine' J.l_tupleL ?k1 ?_); (case k1 => tm_at "hp"); intro _ _ _ _ _))
local macro_rules | `(tactic| tm_at "j") => `(tactic| repeat tm_at "j1")
local macro_rules | `(tactic| tm_at "lnz1") => `(tactic| first | (rename_i h; obtain ⟨e, _⟩ := h; subst e; exact rfl) | (rename_i h; obtain ⟨_, h⟩ := h; tm_at "lnz1"))
local macro_rules | `(tactic| tm_at "lnz") => `(tactic| (intro vs H Q E h; tm_at "lnz1"))

namespace J
open PySem L2
def t_law_begun (K : PySem.W.Frag) (w : World) : TS :=
  tSeq (tAsg (tC (.int 0)) (gName 1))
  (tSeq (tFor (iList K (tVar 0)) (gName 2) (tAsg (tOp (rI (fun _ j => 0 < j) fun i j => .int (i % j)) (tOp (rI0 fun i j => .int (i + j)) (tOp (rI0 fun i j => .int (i + j)) (tOp (rI CMul fun i j => .int (i * j)) (tVar 1) (tC (.int 48271))) (tOp (rI CMul fun i j => .int (i * j)) (tVar 2) (tC (.int 69621)))) (tC (.int 11))) (tC (.int 2147483647))) (gName 1)))
  (tRet (tLst (tCons (tCB (rListOf K) (tCons (tVar 0) (tNil))) (tCons (tOp (rI CMul fun i j => .int (i * j)) (tVar 1) (tCB (rInt1) (tCons (tOp (rI0 fun i j => .bl (decide (j < i))) (tCB (rLen K) (tCons (tVar 0) (tNil))) (tC (.int 2))) (tNil)))) (tNil))))))

def t_law_take (K : PySem.W.Frag) (w : World) : TS :=
  tSeq (tIfS (tTest (tOp (rEqD K) (tOp (rIxL K) (tVar 0) (tC (.int 0))) (tLst (tNil)))) (tSeq (tAsg (tOp (rI (fun _ j => 0 < j) fun i j => .int (i % j)) (tOp (rI CMul fun i j => .int (i * j)) (tOp (rIxL K) (tVar 0) (tC (.int 1))) (tC (.int 48271))) (tC (.int 2147483647))) (gSub (tVar 0) (tC (.int 1)) rSetL))
  (tRet (tOp (rI (fun _ j => 0 < j) fun i j => .int (i % j)) (tOp (rI CDiv fun i j => .int (i / j)) (tOp (rIxL K) (tVar 0) (tC (.int 1))) (tC (.int 7))) (tVar 1)))) (tNext))
  (tSeq (tAsg (tOp (rIxL K) (tOp (rIxL K) (tVar 0) (tC (.int 0))) (tC (.int 0))) (gName 2))
  (tSeq (tAsg (tOp (rI CDiv fun i j => .int (i / j)) (tVar 2) (tVar 1)) (gSub (tOp (rIxL K) (tVar 0) (tC (.int 0))) (tC (.int 0)) rSetL))
  (tSeq (tIfS (tOr (tTest (tOp (rEq) (tOp (rIxL K) (tOp (rIxL K) (tVar 0) (tC (.int 0))) (tC (.int 0))) (tC (.int 0)))) (tTest (tOp (rEq) (tOp (rIxL K) (tOp (rIxL K) (tVar 0) (tC (.int 0))) (tC (.int 0))) (tUn (rU fun i => .int (-i)) (tC (.int 1)))))) (tDrop (tBM K "list" (rPopAt) (tOp (rIxL K) (tVar 0) (tC (.int 0))) (tCons (tC (.int 0)) (tNil)))) (tNext))
  (tRet (tOp (rI (fun _ j => 0 < j) fun i j => .int (i % j)) (tVar 2) (tVar 1))))))

def t_law_part (K : PySem.W.Frag) (w : World) (sp_law_take : Sp) (sp_law_bare : Sp) : TS :=
  tSeq (tIfS (tTest (tOp (rEq) (tCall sp_law_take [] E0 (tCons (tVar 0) (tCons (tC (.int 5)) (tNil)))) (tC (.int 1)))) (tRet (tTup (tCons (tC (.str "not")) (tCons (tCall sp_law_bare [] E0 (tCons (tVar 0) (tCons (tVar 1) (tCons (tVar 2) (tNil))))) (tNil))))) (tNext))
  (tRet (tCall sp_law_bare [] E0 (tCons (tVar 0) (tCons (tVar 1) (tCons (tVar 2) (tNil))))))

def t_law_bare (K : PySem.W.Frag) (w : World) (sp_law_take : Sp) (sp_law_part : Sp) : TS :=
  tSeq (tIfS (tTest (tOp (rEq) (tVar 1) (tC (.int 1)))) (tRet (tTup (tCons (tC (.str "look")) (tCons (tOp (rIxL K) (tVar 2) (tCall sp_law_take [] E0 (tCons (tVar 0) (tCons (tCB (rLen K) (tCons (tVar 2) (tNil))) (tNil))))) (tNil))))) (tNext))
  (tSeq (tAsg (tOp (rIxL K) (tLst (tCons (tC (.int 1)) (tCons (tOp (rI0 fun i j => .int (i - j)) (tVar 1) (tC (.int 1))) (tCons (tOp (rI0 fun i j => .int (i + j)) (tC (.int 1)) (tCall sp_law_take [] E0 (tCons (tVar 0) (tCons (tOp (rI0 fun i j => .int (i - j)) (tVar 1) (tC (.int 1))) (tNil))))) (tCons (tOp (rI CDiv fun i j => .int (i / j)) (tVar 1) (tC (.int 2))) (tNil)))))) (tCall sp_law_take [] E0 (tCons (tVar 0) (tCons (tC (.int 4)) (tNil))))) (gName 3))
  (tSeq (tAsg (tOp (rIxL K) (tLst (tCons (tC (.str "and")) (tCons (tC (.str "or")) (tNil)))) (tCall sp_law_take [] E0 (tCons (tVar 0) (tCons (tC (.int 2)) (tNil))))) (gName 4))
  (tRet (tTup (tCons (tVar 4) (tCons (tCall sp_law_part [] E0 (tCons (tVar 0) (tCons (tVar 3) (tCons (tVar 2) (tNil))))) (tCons (tCall sp_law_part [] E0 (tCons (tVar 0) (tCons (tOp (rI0 fun i j => .int (i - j)) (tVar 1) (tVar 3)) (tCons (tVar 2) (tNil))))) (tNil))))))))

def t_law_deep (K : PySem.W.Frag) (w : World) (sp_law_deep : Sp) : TS :=
  tRet (tIf (tTest (tOp (rEq) (tOp (rIxT K) (tVar 0) (tC (.int 0))) (tC (.str "look")))) (tC (.int 0)) (tOp (rI0 fun i j => .int (i + j)) (tC (.int 1)) (tCB (rMax K) (tCons (tLc (iTup K (tSl (rSlT K) (tVar 0) (tPart (tC (.int 1))) (tNoPart))) (gName 1) (tYes) (tCall sp_law_deep [] E0 (tCons (tVar 1) (tNil))) [1]) (tNil)))))

def t_law_condition (K : PySem.W.Frag) (w : World) (sp_law_take : Sp) (sp_law_part : Sp) (sp_law_deep : Sp) : TS :=
  tSeq (tAsg (tOp (rIxL K) (tLst (tCons (tLst (tCons (tC (.int 0)) (tCons (tC (.int 1)) (tCons (tC (.int 2)) (tNil))))) (tCons (tLst (tCons (tC (.int 0)) (tCons (tC (.int 1)) (tCons (tC (.int 2)) (tCons (tC (.int 3)) (tCons (tC (.int 4)) (tCons (tC (.int 5)) (tCons (tC (.int 6)) (tCons (tC (.int 7)) (tNil)))))))))) (tCons (tLst (tCons (tC (.int 5)) (tCons (tC (.int 7)) (tNil)))) (tNil))))) (tCall sp_law_take [] E0 (tCons (tVar 0) (tCons (tC (.int 3)) (tNil))))) (gName 2))
  (tSeq (tAsg (tCall sp_law_part [] E0 (tCons (tVar 0) (tCons (tOp (rI0 fun i j => .int (i + j)) (tC (.int 1)) (tCall sp_law_take [] E0 (tCons (tVar 0) (tCons (tVar 1) (tNil))))) (tCons (tVar 2) (tNil))))) (gName 3))
  (tSeq (tWhile (tTest (tOp (rI0 fun i j => .bl (decide (j < i))) (tCall sp_law_deep [] E0 (tCons (tVar 3) (tNil))) (tC (.int 10)))) (tAsg (tOp (rIxT K) (tVar 3) (tC (.int 1))) (gName 3)))
  (tRet (tVar 3))))

def t_law_pairs (K : PySem.W.Frag) (w : World) (sp_law_pairs : Sp) : TS :=
  tSeq (tIfS (tTest (tOp (rEq) (tOp (rIxT K) (tVar 0) (tC (.int 0))) (tC (.str "look")))) (tRet (tC (.int 0))) (tNext))
  (tRet (tOp (rI0 fun i j => .int (i + j)) (tCB (rInt1) (tCons (tOp (rNe) (tOp (rIxT K) (tVar 0) (tC (.int 0))) (tC (.str "not"))) (tNil))) (tCB (rSum K) (tCons (tLc (iTup K (tSl (rSlT K) (tVar 0) (tPart (tC (.int 1))) (tNoPart))) (gName 1) (tYes) (tCall sp_law_pairs [] E0 (tCons (tVar 1) (tNil))) [1]) (tNil)))))

def t_law_exchanged (K : PySem.W.Frag) (w : World) (sp_law_exchanged : Sp) (sp_law_pairs : Sp) : TS :=
  tSeq (tIfS (tTest (tOp (rEq) (tOp (rIxT K) (tVar 0) (tC (.int 0))) (tC (.str "look")))) (tRet (tVar 0)) (tNext))
  (tSeq (tIfS (tTest (tOp (rEq) (tOp (rIxT K) (tVar 0) (tC (.int 0))) (tC (.str "not")))) (tRet (tTup (tCons (tC (.str "not")) (tCons (tCall sp_law_exchanged [] E0 (tCons (tOp (rIxT K) (tVar 0) (tC (.int 1))) (tCons (tVar 1) (tNil)))) (tNil))))) (tNext))
  (tSeq (tAsg (tOp (rI0 fun i j => .int (i + j)) (tC (.int 1)) (tCall sp_law_pairs [] E0 (tCons (tOp (rIxT K) (tVar 0) (tC (.int 1))) (tNil)))) (gName 2))
  (tSeq (tAsg (tCall sp_law_exchanged [] E0 (tCons (tOp (rIxT K) (tVar 0) (tC (.int 1))) (tCons (tSl (rSlL K) (tVar 1) (tPart (tC (.int 1))) (tPart (tVar 2))) (tNil)))) (gName 3))
  (tSeq (tAsg (tCall sp_law_exchanged [] E0 (tCons (tOp (rIxT K) (tVar 0) (tC (.int 2))) (tCons (tSl (rSlL K) (tVar 1) (tPart (tVar 2)) (tNoPart)) (tNil)))) (gName 4))
  (tRet (tIf (tTest (tOp (rEq) (tOp (rIxL K) (tVar 1) (tC (.int 0))) (tC (.int 1)))) (tTup (tCons (tOp (rIxT K) (tVar 0) (tC (.int 0))) (tCons (tVar 4) (tCons (tVar 3) (tNil))))) (tTup (tCons (tOp (rIxT K) (tVar 0) (tC (.int 0))) (tCons (tVar 3) (tCons (tVar 4) (tNil)))))))))))

def t_law_run (K : PySem.W.Frag) (w : World) : TS :=
  tSeq (tAsg (tC (.int 0)) (gName 2))
  (tSeq (tAsg (tLst (tNil)) (gName 3))
  (tSeq (tAsg (tC (.int 0)) (gName 4))
  (tSeq (tWhile (tTest (tOp (rEq) (tCB (rLen K) (tCons (tOp (rIxL K) (tVar 0) (tVar 2)) (tNil))) (tC (.int 4)))) (tSeq (tDrop (tBM K "list" (rAppend) (tVar 3) (tCons (tOp (rIxT K) (tOp (rIxL K) (tVar 0) (tVar 2)) (tC (.int 1))) (tNil))))
  (tSeq (tAsg (tOp (rEq) (tOp (rIxT K) (tVar 1) (tOp (rIxT K) (tOp (rIxL K) (tVar 0) (tVar 2)) (tC (.int 1)))) (tOp (rIxT K) (tOp (rIxL K) (tVar 0) (tVar 2)) (tC (.int 2)))) (gName 5))
  (tSeq (tAsg (tOp (rI0 fun i j => .int (i + j)) (tVar 4) (tCB (rInt1) (tCons (tVar 5) (tNil)))) (gName 4))
  (tAsg (tIf (tB (tVar 5)) (tOp (rIxT K) (tOp (rIxL K) (tVar 0) (tVar 2)) (tC (.int 3))) (tOp (rI0 fun i j => .int (i + j)) (tVar 2) (tC (.int 1)))) (gName 2))))))
  (tRet (tTup (tCons (tOp (rIxT K) (tOp (rIxL K) (tVar 0) (tVar 2)) (tC (.int 1))) (tCons (tVar 3) (tCons (tVar 4) (tNil)))))))))

def t_law_looked (K : PySem.W.Frag) (w : World) (sp_law_looked : Sp) : TS :=
  tRet (tIf (tTest (tOp (rEq) (tOp (rIxT K) (tVar 0) (tC (.int 0))) (tC (.str "look")))) (tC (.int 1)) (tCB (rSum K) (tCons (tLc (iTup K (tSl (rSlT K) (tVar 0) (tPart (tC (.int 1))) (tNoPart))) (gName 1) (tYes) (tCall sp_law_looked [] E0 (tCons (tVar 1) (tNil))) [1]) (tNil))))

def t_law_all_turns (K : PySem.W.Frag) (w : World) : TS :=
  tSeq (tAsg (tLst (tCons (tLst (tNil)) (tNil))) (gName 1))
  (tSeq (tFor (iRng1 (tCons (tVar 0) (tNil))) (gName 2) (tAsg (tOp (rCat) (tLc (iList K (tVar 1)) (gName 3) (tYes) (tOp (rCat) (tVar 3) (tLst (tCons (tC (.int 0)) (tNil)))) [3]) (tLc (iList K (tVar 1)) (gName 3) (tYes) (tOp (rCat) (tVar 3) (tLst (tCons (tC (.int 1)) (tNil)))) [3])) (gName 1)))
  (tRet (tCB (rSortedD K) (tCons (tVar 1) (tNil)))))

def t_law_text (K : PySem.W.Frag) (w : World) (sp_law_text : Sp) : TS :=
  tSeq (tIfS (tTest (tOp (rEq) (tOp (rIxT K) (tVar 0) (tC (.int 0))) (tC (.str "look")))) (tRet (tOp (rIxS) (tC (.str "abcdefgh")) (tOp (rIxT K) (tVar 0) (tC (.int 1))))) (tNext))
  (tSeq (tIfS (tTest (tOp (rEq) (tOp (rIxT K) (tVar 0) (tC (.int 0))) (tC (.str "not")))) (tRet (tOp (rAddStr) (tC (.str "!")) (tCall sp_law_text [] E0 (tCons (tOp (rIxT K) (tVar 0) (tC (.int 1))) (tCons (tC (.int 2)) (tNil)))))) (tNext))
  (tSeq (tAsg (tOp (rIxL K) (tLst (tCons (tTup (tCons (tC (.str "|")) (tCons (tC (.int 0)) (tNil)))) (tCons (tTup (tCons (tC (.str "&")) (tCons (tC (.int 1)) (tNil)))) (tNil)))) (tCB (rInt1) (tCons (tOp (rEq) (tOp (rIxT K) (tVar 0) (tC (.int 0))) (tC (.str "and"))) (tNil)))) (gTup K 2 (gCons (gName 2) (gCons (gName 3) (gNil)))))
  (tSeq (tAsg (tOp (rAddStr) (tOp (rAddStr) (tCall sp_law_text [] E0 (tCons (tOp (rIxT K) (tVar 0) (tC (.int 1))) (tCons (tVar 3) (tNil)))) (tVar 2)) (tCall sp_law_text [] E0 (tCons (tOp (rIxT K) (tVar 0) (tC (.int 2))) (tCons (tOp (rI0 fun i j => .int (i + j)) (tVar 3) (tC (.int 1))) (tNil))))) (gName 4))
  (tRet (tIf (tTest (tOp (rI0 fun i j => .bl (decide (j ≤ i))) (tVar 3) (tVar 1))) (tVar 4) (tOp (rAddStr) (tOp (rAddStr) (tC (.str "(")) (tVar 4)) (tC (.str ")"))))))))

def t_law_brackets (K : PySem.W.Frag) (w : World) : TS :=
  tSeq (tAsg (tLst (tNil)) (gName 1))
  (tSeq (tAsg (tLst (tNil)) (gName 2))
  (tSeq (tFor (iRng1 (tCons (tCB (rLenStr) (tCons (tVar 0) (tNil))) (tNil))) (gName 3) (tSeq (tIfS (tTest (tOp (rEq) (tOp (rIxS) (tVar 0) (tVar 3)) (tC (.str "(")))) (tDrop (tBM K "list" (rAppend) (tVar 2) (tCons (tVar 3) (tNil)))) (tNext))
  (tIfS (tTest (tOp (rEq) (tOp (rIxS) (tVar 0) (tVar 3)) (tC (.str ")")))) (tDrop (tBM K "list" (rAppend) (tVar 1) (tCons (tTup (tCons (tBM0 K "list" rPop (tVar 2)) (tCons (tVar 3) (tNil)))) (tNil)))) (tNext))))
  (tRet (tVar 1))))

def t_turned (K : PySem.W.Frag) (w : World) (sp_check_condition : Sp) (sp_count_pairs : Sp) (sp_are_bits : Sp) (sp_with_turns : Sp) : TS :=
  tSeq (tDrop (tCall sp_check_condition [] E0 (tCons (tVar 0) (tNil))))
  (tSeq (tIfS (tNot (tB (tCall sp_are_bits [] E0 (tCons (tVar 1) (tCons (tCall sp_count_pairs [] E0 (tCons (tVar 0) (tNil))) (tNil)))))) (tNever) (tNext))
  (tRet (tCall sp_with_turns [] E0 (tCons (tVar 0) (tCons (tVar 1) (tNil))))))

def t_check_condition (K : PySem.W.Frag) (w : World) (sp_count_looks : Sp) : TS :=
  tIfS (tTest (tOp (rI0 fun i j => .bl (decide (j < i))) (tCall sp_count_looks [] E0 (tCons (tVar 0) (tCons (tC (.int 0)) (tNil)))) (tC (.int 12)))) (tNever) (tNext)

def t_count_looks (K : PySem.W.Frag) (w : World) (sp_has_form : Sp) (sp_count_looks : Sp) : TS :=
  tSeq (tIfS (tTest (tOp (rI0 fun i j => .bl (decide (j < i))) (tVar 1) (tC (.int 10)))) (tNever) (tNext))
  (tSeq (tIfS (tNot (tB (tCall sp_has_form [] E0 (tCons (tVar 0) (tNil))))) (tNever) (tNext))
  (tSeq (tIfS (tTest (tOp (rEq) (tOp (rIxT K) (tVar 0) (tC (.int 0))) (tC (.str "look")))) (tRet (tC (.int 1))) (tNext))
  (tRet (tCB (rSum K) (tCons (tLc (iTup K (tSl (rSlT K) (tVar 0) (tPart (tC (.int 1))) (tNoPart))) (gName 2) (tYes) (tCall sp_count_looks [] E0 (tCons (tVar 2) (tCons (tOp (rI0 fun i j => .int (i + j)) (tVar 1) (tC (.int 1))) (tNil)))) [2]) (tNil))))))

def t_has_form (K : PySem.W.Frag) (w : World) (sp_is_number_up_to : Sp) : TS :=
  tSeq (tIfS (tOr (tNot (tB (tCB (rIsi K) (tCons (tVar 0) (tCons (tC (.ty "tuple")) (tNil)))))) (tTest (tOp (rEq) (tCB (rLen K) (tCons (tVar 0) (tNil))) (tC (.int 0))))) (tRet (tC (.bl false))) (tNext))
  (tSeq (tAsg (tOp (rIxT K) (tVar 0) (tC (.int 0))) (gName 1))
  (tSeq (tIfS (tTest (tOp (rEq) (tVar 1) (tC (.str "look")))) (tRet (tAndV (tOp (rEq) (tCB (rLen K) (tCons (tVar 0) (tNil))) (tC (.int 2))) (tCall sp_is_number_up_to [] E0 (tCons (tOp (rIxT K) (tVar 0) (tC (.int 1))) (tCons (tOp (rI0 fun i j => .int (i - j)) (tC (.int 8)) (tC (.int 1))) (tNil)))))) (tNext))
  (tSeq (tIfS (tTest (tOp (rEq) (tVar 1) (tC (.str "not")))) (tRet (tOp (rEq) (tCB (rLen K) (tCons (tVar 0) (tNil))) (tC (.int 2)))) (tNext))
  (tRet (tAndV (tOp (rIn K false) (tVar 1) (tTup (tCons (tC (.str "and")) (tCons (tC (.str "or")) (tNil))))) (tOp (rEq) (tCB (rLen K) (tCons (tVar 0) (tNil))) (tC (.int 3))))))))

def t_is_number_up_to (K : PySem.W.Frag) (w : World) : TS :=
  tSeq (tIfS (tOr (tB (tCB (rIsi K) (tCons (tVar 0) (tCons (tC (.ty "bool")) (tNil))))) (tNot (tB (tCB (rIsi K) (tCons (tVar 0) (tCons (tC (.ty "int")) (tNil))))))) (tRet (tC (.bl false))) (tNext))
  (tRet (tChain (rI0 fun i j => .bl (decide (i ≤ j))) (rI0 fun i j => .bl (decide (i ≤ j))) (tC (.int 0)) (tVar 0) (tVar 1)))

def t_are_numbers_up_to_T (K : PySem.W.Frag) (w : World) (sp_is_number_up_to : Sp) : TS :=
  tRet (tAndV (tOp (rEq) (tCB (rLen K) (tCons (tVar 0) (tNil))) (tVar 1)) (tCB (rAll K) (tCons (tLc (iTup K (tVar 0)) (gName 3) (tYes) (tCall sp_is_number_up_to [] E0 (tCons (tVar 3) (tCons (tVar 2) (tNil)))) [3]) (tNil))))

def t_are_numbers_up_to_L (K : PySem.W.Frag) (w : World) (sp_is_number_up_to : Sp) : TS :=
  tRet (tAndV (tOp (rEq) (tCB (rLen K) (tCons (tVar 0) (tNil))) (tVar 1)) (tCB (rAll K) (tCons (tLc (iList K (tVar 0)) (gName 3) (tYes) (tCall sp_is_number_up_to [] E0 (tCons (tVar 3) (tCons (tVar 2) (tNil)))) [3]) (tNil))))

def t_are_bits (K : PySem.W.Frag) (w : World) (sp_are_numbers_up_to : Sp) : TS :=
  tRet (tCall sp_are_numbers_up_to [] E0 (tCons (tVar 0) (tCons (tVar 1) (tCons (tC (.int 1)) (tNil)))))

def t_all_bits_1 (K : PySem.W.Frag) (w : World) : TS :=
  tFor (iRng1 (tCons (tVar 0) (tNil))) (gName 2) (tAsg (tLc2 (iList K (tVar 1)) (gName 3) tYes (iTup K (tTup (tCons (tC (.int 0)) (tCons (tC (.int 1)) (tNil))))) (gName 4) tYes (tOp (rCatA K) (tVar 3) (tTup (tCons (tVar 4) (tNil)))) [3, 4] [4]) (gName 1))
def t_all_bits (K : PySem.W.Frag) (w : World) : TS :=
  tSeq (tAsg (tLst (tCons (tTup (tNil)) (tNil))) (gName 1))
  (tSeq (t_all_bits_1 K w)
  (tRet (tVar 1)))

def t_count_pairs (K : PySem.W.Frag) (w : World) (sp_count_pairs : Sp) : TS :=
  tSeq (tIfS (tTest (tOp (rEq) (tOp (rIxT K) (tVar 0) (tC (.int 0))) (tC (.str "look")))) (tRet (tC (.int 0))) (tNext))
  (tSeq (tIfS (tTest (tOp (rEq) (tOp (rIxT K) (tVar 0) (tC (.int 0))) (tC (.str "not")))) (tRet (tCall sp_count_pairs [] E0 (tCons (tOp (rIxT K) (tVar 0) (tC (.int 1))) (tNil)))) (tNext))
  (tRet (tOp (rI0 fun i j => .int (i + j)) (tOp (rI0 fun i j => .int (i + j)) (tC (.int 1)) (tCall sp_count_pairs [] E0 (tCons (tOp (rIxT K) (tVar 0) (tC (.int 1))) (tNil)))) (tCall sp_count_pairs [] E0 (tCons (tOp (rIxT K) (tVar 0) (tC (.int 2))) (tNil))))))

def t_with_turns (K : PySem.W.Frag) (w : World) (sp_with_turns : Sp) (sp_count_pairs : Sp) : TS :=
  tSeq (tAsg (tOp (rIxT K) (tVar 0) (tC (.int 0))) (gName 2))
  (tSeq (tIfS (tTest (tOp (rEq) (tVar 2) (tC (.str "look")))) (tRet (tTup (tCons (tC (.str "look")) (tCons (tOp (rIxT K) (tVar 0) (tC (.int 1))) (tNil))))) (tNext))
  (tSeq (tIfS (tTest (tOp (rEq) (tVar 2) (tC (.str "not")))) (tRet (tTup (tCons (tC (.str "not")) (tCons (tCall sp_with_turns [] E0 (tCons (tOp (rIxT K) (tVar 0) (tC (.int 1))) (tCons (tVar 1) (tNil)))) (tNil))))) (tNext))
  (tSeq (tAsg (tOp (rI0 fun i j => .int (i + j)) (tC (.int 1)) (tCall sp_count_pairs [] E0 (tCons (tOp (rIxT K) (tVar 0) (tC (.int 1))) (tNil)))) (gName 3))
  (tSeq (tAsg (tCall sp_with_turns [] E0 (tCons (tOp (rIxT K) (tVar 0) (tC (.int 1))) (tCons (tSl (rSlL K) (tVar 1) (tPart (tC (.int 1))) (tPart (tVar 3))) (tNil)))) (gName 4))
  (tSeq (tAsg (tCall sp_with_turns [] E0 (tCons (tOp (rIxT K) (tVar 0) (tC (.int 2))) (tCons (tSl (rSlL K) (tVar 1) (tPart (tVar 3)) (tNoPart)) (tNil)))) (gName 5))
  (tSeq (tIfS (tTest (tOp (rEq) (tOp (rIxL K) (tVar 1) (tC (.int 0))) (tC (.int 1)))) (tRet (tTup (tCons (tVar 2) (tCons (tVar 5) (tCons (tVar 4) (tNil)))))) (tNext))
  (tRet (tTup (tCons (tVar 2) (tCons (tVar 4) (tCons (tVar 5) (tNil))))))))))))

def t_meant (K : PySem.W.Frag) (w : World) (sp_check_condition : Sp) (sp_check_worths : Sp) (sp_outcome : Sp) : TS :=
  tSeq (tDrop (tCall sp_check_condition [] E0 (tCons (tVar 0) (tNil))))
  (tSeq (tDrop (tCall sp_check_worths [] E0 (tCons (tVar 1) (tNil))))
  (tRet (tCall sp_outcome [] E0 (tCons (tVar 0) (tCons (tVar 1) (tNil))))))

def t_check_worths (K : PySem.W.Frag) (w : World) (sp_are_bits : Sp) : TS :=
  tIfS (tNot (tB (tCall sp_are_bits [] E0 (tCons (tVar 0) (tCons (tC (.int 8)) (tNil)))))) (tNever) (tNext)

def t_outcome (K : PySem.W.Frag) (w : World) (a_GOES_ON : Addr) (sp_outcome : Sp) : TS :=
  tSeq (tAsg (tOp (rIxT K) (tVar 0) (tC (.int 0))) (gName 2))
  (tSeq (tIfS (tTest (tOp (rEq) (tVar 2) (tC (.str "look")))) (tSeq (tAsg (tOp (rIxT K) (tVar 0) (tC (.int 1))) (gName 3))
  (tRet (tTup (tCons (tOp (rIxT K) (tVar 1) (tVar 3)) (tCons (tLst (tCons (tVar 3) (tNil))) (tNil)))))) (tNext))
  (tSeq (tAsg (tCall sp_outcome [] E0 (tCons (tOp (rIxT K) (tVar 0) (tC (.int 1))) (tCons (tVar 1) (tNil)))) (gTup K 2 (gCons (gName 4) (gCons (gName 5) (gNil)))))
  (tSeq (tIfS (tTest (tOp (rEq) (tVar 2) (tC (.str "not")))) (tRet (tTup (tCons (tOp (rI0 fun i j => .int (i - j)) (tC (.int 1)) (tVar 4)) (tCons (tVar 5) (tNil))))) (tNext))
  (tSeq (tIfS (tTest (tOp (rNe) (tVar 4) (tOp (rIxD K w) (tC (.ref a_GOES_ON)) (tVar 2)))) (tRet (tTup (tCons (tVar 4) (tCons (tVar 5) (tNil))))) (tNext))
  (tSeq (tAsg (tCall sp_outcome [] E0 (tCons (tOp (rIxT K) (tVar 0) (tC (.int 2))) (tCons (tVar 1) (tNil)))) (gTup K 2 (gCons (gName 6) (gCons (gName 7) (gNil)))))
  (tRet (tTup (tCons (tVar 6) (tCons (tOp (rCat) (tVar 5) (tVar 7)) (tNil))))))))))

def t_coded (K : PySem.W.Frag) (w : World) (sp_check_condition : Sp) (sp_check_first : Sp) (sp_code_of : Sp) : TS :=
  tSeq (tDrop (tCall sp_check_condition [] E0 (tCons (tVar 0) (tNil))))
  (tSeq (tDrop (tCall sp_check_first [] E0 (tCons (tVar 1) (tNil))))
  (tRet (tCall sp_code_of [] E0 (tCons (tVar 0) (tCons (tVar 1) (tNil))))))

def t_run (K : PySem.W.Frag) (w : World) (sp_check_code : Sp) (sp_check_worths : Sp) (sp_outcome_of_rows : Sp) : TS :=
  tSeq (tDrop (tCall sp_check_code [] E0 (tCons (tVar 0) (tNil))))
  (tSeq (tDrop (tCall sp_check_worths [] E0 (tCons (tVar 1) (tNil))))
  (tRet (tCall sp_outcome_of_rows [] E0 (tCons (tVar 0) (tCons (tVar 1) (tNil))))))

def t_check_first (K : PySem.W.Frag) (w : World) (sp_is_number_up_to : Sp) : TS :=
  tIfS (tNot (tB (tCall sp_is_number_up_to [] E0 (tCons (tVar 0) (tCons (tC (.int 1)) (tNil)))))) (tNever) (tNext)

def t_code_of (K : PySem.W.Frag) (w : World) (sp_count_looks : Sp) (sp_rows_of : Sp) : TS :=
  tSeq (tAsg (tCall sp_count_looks [] E0 (tCons (tVar 0) (tCons (tC (.int 0)) (tNil)))) (gName 2))
  (tSeq (tAsg (tLst (tCons (tVar 2) (tCons (tVar 2) (tNil)))) (gName 3))
  (tSeq (tAsg (tOp (rI0 fun i j => .int (i + j)) (tVar 2) (tC (.int 1))) (gSub (tVar 3) (tOp (rI0 fun i j => .int (i - j)) (tC (.int 1)) (tVar 1)) rSetL))
  (tRet (tOp (rCat) (tCall sp_rows_of [] E0 (tCons (tVar 0) (tCons (tC (.int 0)) (tCons (tVar 3) (tNil))))) (tLst (tCons (tTup (tCons (tC (.str "end")) (tCons (tVar 1) (tNil)))) (tCons (tTup (tCons (tC (.str "end")) (tCons (tOp (rI0 fun i j => .int (i - j)) (tC (.int 1)) (tVar 1)) (tNil)))) (tNil))))))))

def t_rows_of (K : PySem.W.Frag) (w : World) (a_GOES_ON : Addr) (sp_look_row : Sp) (sp_rows_of : Sp) (sp_count_looks : Sp) : TS :=
  tSeq (tAsg (tOp (rIxT K) (tVar 0) (tC (.int 0))) (gName 3))
  (tSeq (tIfS (tTest (tOp (rEq) (tVar 3) (tC (.str "look")))) (tRet (tLst (tCons (tCall sp_look_row [] E0 (tCons (tOp (rIxT K) (tVar 0) (tC (.int 1))) (tCons (tVar 1) (tCons (tVar 2) (tNil))))) (tNil)))) (tNext))
  (tSeq (tIfS (tTest (tOp (rEq) (tVar 3) (tC (.str "not")))) (tRet (tCall sp_rows_of [] E0 (tCons (tOp (rIxT K) (tVar 0) (tC (.int 1))) (tCons (tVar 1) (tCons (tLst (tCons (tOp (rIxL K) (tVar 2) (tC (.int 1))) (tCons (tOp (rIxL K) (tVar 2) (tC (.int 0))) (tNil)))) (tNil)))))) (tNext))
  (tSeq (tAsg (tOp (rI0 fun i j => .int (i + j)) (tVar 1) (tCall sp_count_looks [] E0 (tCons (tOp (rIxT K) (tVar 0) (tC (.int 1))) (tCons (tC (.int 0)) (tNil))))) (gName 4))
  (tSeq (tAsg (tCB (rListOf K) (tCons (tVar 2) (tNil))) (gName 5))
  (tSeq (tAsg (tVar 4) (gSub (tVar 5) (tOp (rIxD K w) (tC (.ref a_GOES_ON)) (tVar 3)) rSetL))
  (tRet (tOp (rCat) (tCall sp_rows_of [] E0 (tCons (tOp (rIxT K) (tVar 0) (tC (.int 1))) (tCons (tVar 1) (tCons (tVar 5) (tNil))))) (tCall sp_rows_of [] E0 (tCons (tOp (rIxT K) (tVar 0) (tC (.int 2))) (tCons (tVar 4) (tCons (tVar 2) (tNil))))))))))))

def t_look_row (K : PySem.W.Frag) (w : World) : TS :=
  tSeq (tAsg (tIf (tTest (tOp (rEq) (tOp (rIxL K) (tVar 2) (tC (.int 0))) (tOp (rI0 fun i j => .int (i + j)) (tVar 1) (tC (.int 1))))) (tC (.int 1)) (tC (.int 0))) (gName 3))
  (tRet (tTup (tCons (tC (.str "look")) (tCons (tVar 0) (tCons (tVar 3) (tCons (tOp (rIxL K) (tVar 2) (tVar 3)) (tNil)))))))

def t_check_code_1 (K : PySem.W.Frag) (w : World) (sp_can_be : Sp) : TS :=
  tFor (iRng1 (tCons (tCB (rLen K) (tCons (tVar 0) (tNil))) (tNil))) (gName 1) (tIfS (tOr (tTest (tOp (rEq) (tVar 1) (tC (.int 40)))) (tNot (tB (tCall sp_can_be [] E0 (tCons (tVar 0) (tCons (tVar 1) (tNil))))))) (tNever) (tNext))
def t_check_code (K : PySem.W.Frag) (w : World) (sp_can_be : Sp) : TS :=
  tSeq (tIfS (tTest (tOp (rI0 fun i j => .bl (decide (i < j))) (tCB (rLen K) (tCons (tVar 0) (tNil))) (tC (.int 2)))) (tNever) (tNext))
  (t_check_code_1 K w sp_can_be)

def t_can_be (K : PySem.W.Frag) (w : World) (sp_is_look : Sp) (sp_is_end : Sp) : TS :=
  tSeq (tAsg (tOp (rI0 fun i j => .int (i - j)) (tCB (rLen K) (tCons (tVar 0) (tNil))) (tC (.int 1))) (gName 2))
  (tSeq (tAsg (tOp (rIxL K) (tVar 0) (tVar 1)) (gName 3))
  (tSeq (tIfS (tTest (tOp (rI0 fun i j => .bl (decide (i < j))) (tVar 1) (tOp (rI0 fun i j => .int (i - j)) (tVar 2) (tC (.int 1))))) (tRet (tCall sp_is_look [] E0 (tCons (tVar 3) (tCons (tVar 1) (tCons (tVar 2) (tNil)))))) (tNext))
  (tSeq (tIfS (tTest (tOp (rI0 fun i j => .bl (decide (i < j))) (tVar 1) (tVar 2))) (tRet (tCall sp_is_end [] E0 (tCons (tVar 3) (tNil)))) (tNext))
  (tRet (tAndV (tCall sp_is_end [] E0 (tCons (tVar 3) (tNil))) (tOp (rNe) (tOp (rIxT K) (tVar 3) (tC (.int 1))) (tOp (rIxT K) (tOp (rIxL K) (tVar 0) (tOp (rI0 fun i j => .int (i - j)) (tVar 2) (tC (.int 1)))) (tC (.int 1)))))))))

def t_is_look (K : PySem.W.Frag) (w : World) (sp_is_number_up_to : Sp) : TS :=
  tSeq (tIfS (tOr (tTest (tOp (rNe) (tCB (rLen K) (tCons (tVar 0) (tNil))) (tC (.int 4)))) (tTest (tOp (rNe) (tOp (rIxT K) (tVar 0) (tC (.int 0))) (tC (.str "look"))))) (tRet (tC (.bl false))) (tNext))
  (tSeq (tAsg (tVar 0) (gTup K 4 (gCons (gName 3) (gCons (gName 4) (gCons (gName 5) (gCons (gName 6) (gNil)))))))
  (tSeq (tIfS (tOr (tNot (tB (tCall sp_is_number_up_to [] E0 (tCons (tVar 4) (tCons (tOp (rI0 fun i j => .int (i - j)) (tC (.int 8)) (tC (.int 1))) (tNil)))))) (tNot (tB (tCall sp_is_number_up_to [] E0 (tCons (tVar 5) (tCons (tC (.int 1)) (tNil))))))) (tRet (tC (.bl false))) (tNext))
  (tRet (tAndV (tCall sp_is_number_up_to [] E0 (tCons (tVar 6) (tCons (tVar 2) (tNil)))) (tOp (rI0 fun i j => .bl (decide (j < i))) (tVar 6) (tVar 1))))))

def t_is_end (K : PySem.W.Frag) (w : World) (sp_is_number_up_to : Sp) : TS :=
  tRet (tAndV (tOp (rEq) (tCB (rLen K) (tCons (tVar 0) (tNil))) (tC (.int 2))) (tAndV (tOp (rEq) (tOp (rIxT K) (tVar 0) (tC (.int 0))) (tC (.str "end"))) (tCall sp_is_number_up_to [] E0 (tCons (tOp (rIxT K) (tVar 0) (tC (.int 1))) (tCons (tC (.int 1)) (tNil))))))

def t_outcome_of_rows_1 (K : PySem.W.Frag) (w : World) : TS :=
  tWhile (tTest (tOp (rEq) (tOp (rIxT K) (tOp (rIxL K) (tVar 0) (tVar 2)) (tC (.int 0))) (tC (.str "look")))) (tSeq (tAsg (tOp (rIxL K) (tVar 0) (tVar 2)) (gTup K 4 (gCons (gName 5) (gCons (gName 6) (gCons (gName 7) (gCons (gName 8) (gNil)))))))
  (tSeq (tDrop (tBM K "list" (rAppend) (tVar 3) (tCons (tVar 6) (tNil))))
  (tIfS (tTest (tOp (rEq) (tOp (rIxT K) (tVar 1) (tVar 6)) (tVar 7))) (tSeq (tAsg (tVar 8) (gName 2))
  (tAug 4 (tC (.int 1)) (ipI fun i j => i + j))) (tAug 2 (tC (.int 1)) (ipI fun i j => i + j)))))
def t_outcome_of_rows (K : PySem.W.Frag) (w : World) : TS :=
  tSeq (tAsg (tC (.int 0)) (gName 2))
  (tSeq (tAsg (tLst (tNil)) (gName 3))
  (tSeq (tAsg (tC (.int 0)) (gName 4))
  (tSeq (t_outcome_of_rows_1 K w)
  (tRet (tTup (tCons (tOp (rIxT K) (tOp (rIxL K) (tVar 0) (tVar 2)) (tC (.int 1))) (tCons (tVar 3) (tCons (tVar 4) (tNil)))))))))

def t_looks (K : PySem.W.Frag) (w : World) (sp_check_condition : Sp) (sp_check_chances : Sp) (sp_likely_worths : Sp) (sp_looks_in_all : Sp) : TS :=
  tSeq (tDrop (tCall sp_check_condition [] E0 (tCons (tVar 0) (tNil))))
  (tSeq (tDrop (tCall sp_check_chances [] E0 (tCons (tVar 1) (tNil))))
  (tRet (tCall sp_looks_in_all [] E0 (tCons (tVar 0) (tCons (tCall sp_likely_worths [] E0 (tCons (tVar 1) (tNil))) (tNil))))))

def t_jumps (K : PySem.W.Frag) (w : World) (sp_check_condition : Sp) (sp_check_first : Sp) (sp_check_chances : Sp) (sp_likely_worths : Sp) (sp_jumps_in_all : Sp) : TS :=
  tSeq (tDrop (tCall sp_check_condition [] E0 (tCons (tVar 0) (tNil))))
  (tSeq (tDrop (tCall sp_check_first [] E0 (tCons (tVar 1) (tNil))))
  (tSeq (tDrop (tCall sp_check_chances [] E0 (tCons (tVar 2) (tNil))))
  (tRet (tCall sp_jumps_in_all [] E0 (tCons (tVar 0) (tCons (tVar 1) (tCons (tCall sp_likely_worths [] E0 (tCons (tVar 2) (tNil))) (tNil))))))))

def t_fewest_looks (K : PySem.W.Frag) (w : World) (sp_check_for_fewest : Sp) (sp_likely_worths : Sp) (sp_all_turns : Sp) (sp_with_turns : Sp) (sp_looks_in_all : Sp) : TS :=
  tSeq (tDrop (tCall sp_check_for_fewest [] E0 (tCons (tVar 0) (tCons (tVar 1) (tNil)))))
  (tSeq (tAsg (tCall sp_likely_worths [] E0 (tCons (tVar 1) (tNil))) (gName 2))
  (tRet (tCB (rMinD K) (tCons (tLc (iList K (tCall sp_all_turns [] E0 (tCons (tVar 0) (tNil)))) (gName 3) (tYes) (tTup (tCons (tCall sp_looks_in_all [] E0 (tCons (tCall sp_with_turns [] E0 (tCons (tVar 0) (tCons (tVar 3) (tNil)))) (tCons (tVar 2) (tNil)))) (tCons (tVar 3) (tNil)))) [3]) (tNil)))))

def t_fewest_jumps (K : PySem.W.Frag) (w : World) (sp_check_for_fewest : Sp) (sp_likely_worths : Sp) (sp_all_turns : Sp) (sp_with_turns : Sp) (sp_jumps_in_all : Sp) : TS :=
  tSeq (tDrop (tCall sp_check_for_fewest [] E0 (tCons (tVar 0) (tCons (tVar 1) (tNil)))))
  (tSeq (tAsg (tCall sp_likely_worths [] E0 (tCons (tVar 1) (tNil))) (gName 2))
  (tRet (tCB (rMinD K) (tCons (tLc2 (iList K (tCall sp_all_turns [] E0 (tCons (tVar 0) (tNil)))) (gName 3) tYes (iTup K (tTup (tCons (tC (.int 0)) (tCons (tC (.int 1)) (tNil))))) (gName 4) tYes (tTup (tCons (tCall sp_jumps_in_all [] E0 (tCons (tCall sp_with_turns [] E0 (tCons (tVar 0) (tCons (tVar 3) (tNil)))) (tCons (tVar 4) (tCons (tVar 2) (tNil))))) (tCons (tVar 3) (tCons (tVar 4) (tNil))))) [3, 4] [4]) (tNil)))))

def t_check_chances (K : PySem.W.Frag) (w : World) (sp_are_numbers_up_to : Sp) : TS :=
  tIfS (tNot (tB (tCall sp_are_numbers_up_to [] E0 (tCons (tVar 0) (tCons (tC (.int 8)) (tCons (tC (.int 100)) (tNil))))))) (tNever) (tNext)

def t_check_for_fewest (K : PySem.W.Frag) (w : World) (sp_check_condition : Sp) (sp_check_chances : Sp) (sp_count_pairs : Sp) : TS :=
  tSeq (tDrop (tCall sp_check_condition [] E0 (tCons (tVar 0) (tNil))))
  (tSeq (tDrop (tCall sp_check_chances [] E0 (tCons (tVar 1) (tNil))))
  (tIfS (tTest (tOp (rI0 fun i j => .bl (decide (j < i))) (tCall sp_count_pairs [] E0 (tCons (tVar 0) (tNil))) (tC (.int 6)))) (tNever) (tNext)))

def t_all_turns (K : PySem.W.Frag) (w : World) (sp_count_pairs : Sp) (sp_all_bits : Sp) : TS :=
  tRet (tLc (iList K (tCall sp_all_bits [] E0 (tCons (tCall sp_count_pairs [] E0 (tCons (tVar 0) (tNil))) (tNil)))) (gName 1) (tYes) (tCB (rListOf K) (tCons (tVar 1) (tNil))) [1])

def t_likely_worths (K : PySem.W.Frag) (w : World) (sp_all_bits : Sp) (sp_times_of : Sp) : TS :=
  tRet (tLc (iList K (tCall sp_all_bits [] E0 (tCons (tC (.int 8)) (tNil)))) (gName 1) (tYes) (tTup (tCons (tVar 1) (tCons (tCall sp_times_of [] E0 (tCons (tVar 1) (tCons (tVar 0) (tNil)))) (tNil)))) [1])

def t_times_of_1 (K : PySem.W.Frag) (w : World) : TS :=
  tFor (RZ.iZipA K (tCons (tVar 0) (tCons (tVar 1) (tNil)))) (gTup K 2 (gCons (gName 3) (gCons (gName 4) (gNil)))) (tAug 2 (tIf (tTest (tOp (rEq) (tVar 3) (tC (.int 1)))) (tVar 4) (tOp (rI0 fun i j => .int (i - j)) (tC (.int 100)) (tVar 4))) (rI CMul fun i j => .int (i * j)))
def t_times_of (K : PySem.W.Frag) (w : World) : TS :=
  tSeq (tAsg (tC (.int 1)) (gName 2))
  (tSeq (t_times_of_1 K w)
  (tRet (tVar 2)))

def t_looks_in_all (K : PySem.W.Frag) (w : World) (sp_outcome : Sp) : TS :=
  tRet (tCB (rSum K) (tCons (tLc (iList K (tVar 1)) (gTup K 2 (gCons (gName 2) (gCons (gName 3) (gNil)))) (tYes) (tOp (rI CMul fun i j => .int (i * j)) (tCB (rLen K) (tCons (tOp (rIxT K) (tCall sp_outcome [] E0 (tCons (tVar 0) (tCons (tVar 2) (tNil)))) (tC (.int 1))) (tNil))) (tVar 3)) [2, 3]) (tNil)))

def t_jumps_in_all (K : PySem.W.Frag) (w : World) (sp_code_of : Sp) (sp_outcome_of_rows : Sp) : TS :=
  tSeq (tAsg (tCall sp_code_of [] E0 (tCons (tVar 0) (tCons (tVar 1) (tNil)))) (gName 3))
  (tRet (tCB (rSum K) (tCons (tLc (iList K (tVar 2)) (gTup K 2 (gCons (gName 4) (gCons (gName 5) (gNil)))) (tYes) (tOp (rI CMul fun i j => .int (i * j)) (tOp (rIxT K) (tCall sp_outcome_of_rows [] E0 (tCons (tVar 3) (tCons (tVar 4) (tNil)))) (tC (.int 2))) (tVar 5)) [4, 5]) (tNil))))

def t_parting (K : PySem.W.Frag) (w : World) (sp_check_condition : Sp) (sp_all_bits : Sp) (sp_outcome : Sp) : TS :=
  tSeq (tDrop (tCall sp_check_condition [] E0 (tCons (tVar 0) (tNil))))
  (tSeq (tDrop (tCall sp_check_condition [] E0 (tCons (tVar 1) (tNil))))
  (tSeq (tFor (iList K (tCall sp_all_bits [] E0 (tCons (tC (.int 8)) (tNil)))) (gName 2) (tSeq (tAsg (tCall sp_outcome [] E0 (tCons (tVar 0) (tCons (tVar 2) (tNil)))) (gName 3))
  (tSeq (tAsg (tCall sp_outcome [] E0 (tCons (tVar 1) (tCons (tVar 2) (tNil)))) (gName 4))
  (tIfS (tTest (tOp (rNeD K) (tVar 3) (tVar 4))) (tRet (tTup (tCons (tVar 2) (tCons (tVar 3) (tCons (tVar 4) (tNil)))))) (tNext)))))
  (tRet (tC .non))))

def t_alike (K : PySem.W.Frag) (w : World) (sp_parting : Sp) : TS :=
  tRet (tOp (rIsNone) (tCall sp_parting [] E0 (tCons (tVar 0) (tCons (tVar 1) (tNil)))) (tC .non))

def t_written (K : PySem.W.Frag) (w : World) (a_BINDS : Addr) (sp_check_condition : Sp) (sp_text_of : Sp) : TS :=
  tSeq (tDrop (tCall sp_check_condition [] E0 (tCons (tVar 0) (tNil))))
  (tRet (tCall sp_text_of [] E0 (tCons (tVar 0) (tCons (tOp (rIxD K w) (tC (.ref a_BINDS)) (tC (.str "|"))) (tNil)))))

def t_read (K : PySem.W.Frag) (w : World) (sp_check_signs : Sp) (sp_condition_of : Sp) (sp_check_condition : Sp) : TS :=
  tSeq (tDrop (tCall sp_check_signs [] E0 (tCons (tVar 0) (tNil))))
  (tSeq (tAsg (tCall sp_condition_of [] E0 (tCons (tVar 0) (tNil))) (gName 1))
  (tSeq (tDrop (tCall sp_check_condition [] E0 (tCons (tVar 1) (tNil))))
  (tRet (tVar 1))))

def t_text_of (K : PySem.W.Frag) (w : World) (a_SIGNS : Addr) (a_BINDS : Addr) (sp_text_of : Sp) : TS :=
  tSeq (tAsg (tOp (rIxT K) (tVar 0) (tC (.int 0))) (gName 2))
  (tSeq (tIfS (tTest (tOp (rEq) (tVar 2) (tC (.str "look")))) (tRet (tOp (rIxS) (tC (.str "abcdefgh")) (tOp (rIxT K) (tVar 0) (tC (.int 1))))) (tNext))
  (tSeq (tAsg (tOp (rIxD K w) (tC (.ref a_SIGNS)) (tVar 2)) (gName 3))
  (tSeq (tAsg (tOp (rIxD K w) (tC (.ref a_BINDS)) (tVar 3)) (gName 4))
  (tSeq (tIfS (tTest (tOp (rEq) (tVar 2) (tC (.str "not")))) (tAsg (tOp (rAddStr) (tVar 3) (tCall sp_text_of [] E0 (tCons (tOp (rIxT K) (tVar 0) (tC (.int 1))) (tCons (tVar 4) (tNil))))) (gName 5)) (tAsg (tOp (rAddStr) (tOp (rAddStr) (tCall sp_text_of [] E0 (tCons (tOp (rIxT K) (tVar 0) (tC (.int 1))) (tCons (tVar 4) (tNil)))) (tVar 3)) (tCall sp_text_of [] E0 (tCons (tOp (rIxT K) (tVar 0) (tC (.int 2))) (tCons (tOp (rI0 fun i j => .int (i + j)) (tVar 4) (tC (.int 1))) (tNil))))) (gName 5)))
  (tSeq (tIfS (tTest (tOp (rI0 fun i j => .bl (decide (i < j))) (tVar 4) (tVar 1))) (tRet (tJoin [tC (.str "("), tFmt (tVar 5), tC (.str ")")])) (tNext))
  (tRet (tVar 5)))))))

def t_check_signs_1 (K : PySem.W.Frag) (w : World) (sp_may_stand : Sp) : TS :=
  tFor (iEnumS (tCons (tVar 0) (tNil))) (gTup K 2 (gCons (gName 3) (gCons (gName 4) (gNil)))) (tSeq (tIfS (tNot (tB (tCall sp_may_stand [] E0 (tCons (tVar 4) (tCons (tVar 1) (tCons (tVar 2) (tNil))))))) (tNever) (tNext))
  (tSeq (tIfS (tTest (tOp (rEq) (tVar 4) (tC (.str "(")))) (tAug 2 (tC (.int 1)) (ipI fun i j => i + j)) (tNext))
  (tSeq (tIfS (tTest (tOp (rEq) (tVar 4) (tC (.str ")")))) (tAug 2 (tC (.int 1)) (ipI fun i j => i - j)) (tNext))
  (tAsg (tOp (rInSign) (tVar 4) (tC (.str "!(&|"))) (gName 1)))))
def t_check_signs (K : PySem.W.Frag) (w : World) (sp_may_stand : Sp) : TS :=
  tSeq (tAsg (tC (.bl true)) (gName 1))
  (tSeq (tAsg (tC (.int 0)) (gName 2))
  (tSeq (t_check_signs_1 K w sp_may_stand)
  (tIfS (tOr (tB (tVar 1)) (tTest (tOp (rI0 fun i j => .bl (decide (j < i))) (tVar 2) (tC (.int 0))))) (tNever) (tNext))))

def t_may_stand (K : PySem.W.Frag) (w : World) (a_WORDS : Addr) : TS :=
  tSeq (tIfS (tB (tVar 1)) (tRet (tOp (rInSign) (tVar 0) (tC (.str "abcdefgh!(")))) (tNext))
  (tSeq (tIfS (tTest (tOp (rEq) (tVar 0) (tC (.str ")")))) (tRet (tOp (rI0 fun i j => .bl (decide (j < i))) (tVar 2) (tC (.int 0)))) (tNext))
  (tRet (tOp (rInKD K w) (tVar 0) (tC (.ref a_WORDS)))))

def t_condition_of_1 (K : PySem.W.Frag) (w : World) (a_BINDS : Addr) (a_WORDS : Addr) (sp_join_waiting : Sp) : TS :=
  tFor (iStr (tVar 0)) (gName 3) (tIfS (tTest (tOp (rInSign) (tVar 3) (tC (.str "abcdefgh")))) (tDrop (tBM K "list" (rAppend) (tVar 1) (tCons (tTup (tCons (tC (.str "look")) (tCons (tBM K "str" (rIndexS) (tC (.str "abcdefgh")) (tCons (tVar 3) (tNil))) (tNil)))) (tNil)))) (tIfS (tTest (tOp (rEq) (tVar 3) (tC (.str ")")))) (tSeq (tDrop (tCall sp_join_waiting [] E0 (tCons (tVar 1) (tCons (tVar 2) (tCons (tOp (rIxD K w) (tC (.ref a_BINDS)) (tC (.str "|"))) (tNil))))))
  (tDrop (tBM0 K "list" rPop (tVar 2)))) (tSeq (tIfS (tTest (tOp (rInKD K w) (tVar 3) (tC (.ref a_WORDS)))) (tDrop (tCall sp_join_waiting [] E0 (tCons (tVar 1) (tCons (tVar 2) (tCons (tOp (rIxD K w) (tC (.ref a_BINDS)) (tVar 3)) (tNil)))))) (tNext))
  (tDrop (tBM K "list" (rAppend) (tVar 2) (tCons (tVar 3) (tNil)))))))
def t_condition_of (K : PySem.W.Frag) (w : World) (a_BINDS : Addr) (a_WORDS : Addr) (sp_join_waiting : Sp) : TS :=
  tSeq (tAsg (tLst (tNil)) (gName 1))
  (tSeq (tAsg (tLst (tNil)) (gName 2))
  (tSeq (t_condition_of_1 K w a_BINDS a_WORDS sp_join_waiting)
  (tSeq (tDrop (tCall sp_join_waiting [] E0 (tCons (tVar 1) (tCons (tVar 2) (tCons (tOp (rIxD K w) (tC (.ref a_BINDS)) (tC (.str "|"))) (tNil))))))
  (tRet (tOp (rIxL K) (tVar 1) (tC (.int 0)))))))

def t_join_waiting_1 (K : PySem.W.Frag) (w : World) (a_BINDS : Addr) (a_WORDS : Addr) : TS :=
  tWhile (tAnd (tTest (tOp (rI0 fun i j => .bl (decide (j < i))) (tCB (rLen K) (tCons (tVar 1) (tNil))) (tC (.int 0)))) (tTest (tOp (rI0 fun i j => .bl (decide (j ≤ i))) (tOp (rIxD K w) (tC (.ref a_BINDS)) (tOp (rIxL K) (tVar 1) (tUn (rU fun i => .int (-i)) (tC (.int 1))))) (tVar 2)))) (tSeq (tAsg (tBM0 K "list" rPop (tVar 1)) (gName 3))
  (tSeq (tAsg (tBM0 K "list" rPop (tVar 0)) (gName 4))
  (tIfS (tTest (tOp (rEq) (tVar 3) (tC (.str "!")))) (tDrop (tBM K "list" (rAppend) (tVar 0) (tCons (tTup (tCons (tC (.str "not")) (tCons (tVar 4) (tNil)))) (tNil)))) (tDrop (tBM K "list" (rAppend) (tVar 0) (tCons (tTup (tCons (tOp (rIxD K w) (tC (.ref a_WORDS)) (tVar 3)) (tCons (tBM0 K "list" rPop (tVar 0)) (tCons (tVar 4) (tNil))))) (tNil)))))))
def t_join_waiting (K : PySem.W.Frag) (w : World) (a_BINDS : Addr) (a_WORDS : Addr) : TS :=
  t_join_waiting_1 K w a_BINDS a_WORDS

def t_like_worth (K : PySem.W.Frag) (w : World) (sp_check_condition : Sp) (sp_all_bits : Sp) (sp_outcome : Sp) : TS :=
  tSeq (tDrop (tCall sp_check_condition [] E0 (tCons (tVar 0) (tNil))))
  (tSeq (tDrop (tCall sp_check_condition [] E0 (tCons (tVar 1) (tNil))))
  (tRet (tCB (rAll K) (tCons (tLc (iList K (tCall sp_all_bits [] E0 (tCons (tC (.int 8)) (tNil)))) (gName 2) (tYes) (tOp (rEq) (tOp (rIxT K) (tCall sp_outcome [] E0 (tCons (tVar 0) (tCons (tVar 2) (tNil)))) (tC (.int 0))) (tOp (rIxT K) (tCall sp_outcome [] E0 (tCons (tVar 1) (tCons (tVar 2) (tNil)))) (tC (.int 0)))) [2]) (tNil)))))
def t_law_told (K : PySem.W.Frag) (w : World) (sp_law_pairs : Sp) (sp_turned : Sp) (sp_looks : Sp) (sp_coded : Sp) (sp_run : Sp) (sp_meant : Sp) (sp_written : Sp) (sp_read : Sp) (sp_alike : Sp) (sp_parting : Sp) (sp_jumps : Sp) (sp_fewest_jumps : Sp) (sp_fewest_looks : Sp) : TS :=
  tSeq (tAsg (tVar 0) (gTup K 3 (gCons (gName 1) (gCons (gName 2) (gCons (gName 3) (gNil))))))
  (tSeq (tAsg (tCall sp_turned [] E0 (tCons (tVar 1) (tCons (tOp (rRep) (tLst (tCons (tC (.int 1)) (tNil))) (tCall sp_law_pairs [] E0 (tCons (tVar 1) (tNil)))) (tNil)))) (gName 4))
  (tSeq (tAsg (tLst (tCons (tCall sp_meant [] E0 (tCons (tVar 1) (tCons (tVar 2) (tNil)))) (tCons (tCall sp_coded [] E0 (tCons (tVar 1) (tCons (tC (.int 1)) (tNil)))) (tCons (tCall sp_run [] E0 (tCons (tCall sp_coded [] E0 (tCons (tVar 1) (tCons (tC (.int 0)) (tNil)))) (tCons (tVar 2) (tNil)))) (tCons (tCall sp_looks [] E0 (tCons (tVar 1) (tCons (tVar 3) (tNil)))) (tCons (tVar 4) (tNil))))))) (gName 5))
  (tSeq (tAsg (tOp (rCat) (tVar 5) (tLst (tCons (tCall sp_jumps [] E0 (tCons (tVar 1) (tCons (tC (.int 1)) (tCons (tVar 3) (tNil))))) (tCons (tCall sp_parting [] E0 (tCons (tVar 1) (tCons (tVar 4) (tNil)))) (tCons (tCall sp_alike [] E0 (tCons (tVar 1) (tCons (tVar 4) (tNil)))) (tCons (tCall sp_read [] E0 (tCons (tCall sp_written [] E0 (tCons (tVar 1) (tNil))) (tNil))) (tNil))))))) (gName 5))
  (tRet (tOp (rCat) (tVar 5) (tLst (tCons (tCall sp_fewest_looks [] E0 (tCons (tVar 1) (tCons (tVar 3) (tNil)))) (tCons (tCall sp_fewest_jumps [] E0 (tCons (tVar 1) (tCons (tVar 3) (tNil)))) (tNil)))))))))

def t_law_kept_T (K : PySem.W.Frag) (w : World) (sp_law_kept : Sp) : TS :=
  tSeq (tIfS (tB (tCB (rIsiT K) (tCons (tVar 0) (tCons (tTup (tCons (tC (.ty "list")) (tCons (tC (.ty "tuple")) (tNil)))) (tNil))))) (tSeq (tAsg (tLc (iTup K (tVar 0)) (gName 2) (tYes) (tCall sp_law_kept [] E0 (tCons (tVar 2) (tNil))) [2]) (gName 1))
  (tRet (tIf (tB (tCB (rIsi K) (tCons (tVar 0) (tCons (tC (.ty "tuple")) (tNil))))) (tCB (rTupleOf K) (tCons (tVar 1) (tNil))) (tVar 1)))) (tNext))
  (tRet (tVar 0))

def t_law_kept_L (K : PySem.W.Frag) (w : World) (sp_law_kept : Sp) : TS :=
  tSeq (tIfS (tB (tCB (rIsiT K) (tCons (tVar 0) (tCons (tTup (tCons (tC (.ty "list")) (tCons (tC (.ty "tuple")) (tNil)))) (tNil))))) (tSeq (tAsg (tLc (iList K (tVar 0)) (gName 2) (tYes) (tCall sp_law_kept [] E0 (tCons (tVar 2) (tNil))) [2]) (gName 1))
  (tRet (tIf (tB (tCB (rIsi K) (tCons (tVar 0) (tCons (tC (.ty "tuple")) (tNil))))) (tCB (rTupleOf K) (tCons (tVar 1) (tNil))) (tVar 1)))) (tNext))
  (tRet (tVar 0))

def t_law_kept_A (K : PySem.W.Frag) (w : World) : TS :=
  tSeq (tIfS (tB (tCB (rIsiT K) (tCons (tVar 0) (tCons (tTup (tCons (tC (.ty "list")) (tCons (tC (.ty "tuple")) (tNil)))) (tNil))))) (tNever) (tNext))
  (tRet (tVar 0))

def t_law_spoil_T (K : PySem.W.Frag) (w : World) (sp_law_spoil : Sp) : TS :=
  tSeq (tIfS (tB (tCB (rIsiT K) (tCons (tVar 0) (tCons (tTup (tCons (tC (.ty "list")) (tCons (tC (.ty "tuple")) (tNil)))) (tNil))))) (tFor (iTup K (tVar 0)) (gName 1) (tDrop (tCall sp_law_spoil [] E0 (tCons (tVar 1) (tNil))))) (tNext))
  (tIfS (tB (tCB (rIsi K) (tCons (tVar 0) (tCons (tC (.ty "list")) (tNil))))) (tNever) (tNext))

def t_law_spoil_L (K : PySem.W.Frag) (w : World) (sp_law_spoil : Sp) : TS :=
  tSeq (tIfS (tB (tCB (rIsiT K) (tCons (tVar 0) (tCons (tTup (tCons (tC (.ty "list")) (tCons (tC (.ty "tuple")) (tNil)))) (tNil))))) (tFor (iList K (tVar 0)) (gName 1) (tDrop (tCall sp_law_spoil [] E0 (tCons (tVar 1) (tNil))))) (tNext))
  (tIfS (tB (tCB (rIsi K) (tCons (tVar 0) (tCons (tC (.ty "list")) (tNil))))) (tDrop (tBM K "list" (rAppend) (tVar 0) (tCons (tC (.int 0)) (tNil)))) (tNext))

def t_law_spoil_A (K : PySem.W.Frag) (w : World) : TS :=
  tSeq (tIfS (tB (tCB (rIsiT K) (tCons (tVar 0) (tCons (tTup (tCons (tC (.ty "list")) (tCons (tC (.ty "tuple")) (tNil)))) (tNil))))) (tNever) (tNext))
  (tIfS (tB (tCB (rIsi K) (tCons (tVar 0) (tCons (tC (.ty "list")) (tNil))))) (tNever) (tNext))

def t_law_1 (K : PySem.W.Frag) (w : World) (sp_law_begun : Sp) (sp_law_condition : Sp) (sp_law_take : Sp) (sp_law_told : Sp) (sp_law_kept : Sp) (sp_law_spoil : Sp) : TS :=
  tFor (iRng1 (tCons (tC (.int 2)) (tNil))) (gName 3) (tSeq (tAsg (tCall sp_law_condition [] E0 (tCons (tVar 1) (tCons (tC (.int 5)) (tNil)))) (gName 4))
  (tSeq (tAsg (tCB (rTupleOf K) (tCons (tLc (iRng1 (tCons (tC (.int 8)) (tNil))) (gName 6) (tYes) (tCall sp_law_take [] E0 (tCons (tVar 1) (tCons (tC (.int 2)) (tNil)))) [6]) (tNil))) (gName 5))
  (tDrop (tBM K "list" (rAppend) (tVar 2) (tCons (tTup (tCons (tVar 4) (tCons (tVar 5) (tCons (tCB (rTupleOf K) (tCons (tLc (iRng1 (tCons (tC (.int 8)) (tNil))) (gName 6) (tYes) (tCall sp_law_take [] E0 (tCons (tVar 1) (tCons (tC (.int 101)) (tNil)))) [6]) (tNil))) (tNil))))) (tNil))))))
def t_law_2 (K : PySem.W.Frag) (w : World) (sp_law_begun : Sp) (sp_law_condition : Sp) (sp_law_take : Sp) (sp_law_told : Sp) (sp_law_kept : Sp) (sp_law_spoil : Sp) : TS :=
  tFor (iList K (tLst (tCons (tC (.int 0)) (tCons (tC (.int 1)) (tCons (tC (.int 0)) (tNil)))))) (gName 11) (tSeq (tDrop (tCall sp_law_spoil [] E0 (tCons (tOp (rIxL K) (tVar 7) (tVar 11)) (tNil))))
  (tSeq (tAsg (tCall sp_law_told [] E0 (tCons (tOp (rIxL K) (tVar 2) (tVar 11)) (tNil))) (gSub (tVar 7) (tVar 11) rSetL))
  (tIfS (tTest (tOp (rNeD K) (tOp (rIxL K) (tVar 7) (tVar 11)) (tOp (rIxL K) (tVar 9) (tVar 11)))) (tRet (tC (.bl false))) (tNext))))
def t_law (K : PySem.W.Frag) (w : World) (sp_law_begun : Sp) (sp_law_condition : Sp) (sp_law_take : Sp) (sp_law_told : Sp) (sp_law_kept : Sp) (sp_law_spoil : Sp) : TS :=
  tSeq (tAsg (tCall sp_law_begun [] E0 (tCons (tVar 0) (tNil))) (gName 1))
  (tSeq (tAsg (tLst (tNil)) (gName 2))
  (tSeq (t_law_1 K w sp_law_begun sp_law_condition sp_law_take sp_law_told sp_law_kept sp_law_spoil)
  (tSeq (tAsg (tLc (iList K (tVar 2)) (gName 8) (tYes) (tCall sp_law_told [] E0 (tCons (tVar 8) (tNil))) [8]) (gName 7))
  (tSeq (tAsg (tLc (iList K (tVar 7)) (gName 10) (tYes) (tCall sp_law_kept [] E0 (tCons (tVar 10) (tNil))) [10]) (gName 9))
  (tSeq (t_law_2 K w sp_law_begun sp_law_condition sp_law_take sp_law_told sp_law_kept sp_law_spoil)
  (tRet (tOp (rEqD K) (tCall sp_law_told [] E0 (tCons (tCall sp_law_kept [] E0 (tCons (tOp (rIxL K) (tVar 2) (tC (.int 0))) (tNil))) (tNil))) (tOp (rIxL K) (tVar 9) (tC (.int 0))))))))))

def top (i : Nat) : Stmt := PySem.Challenge.pw_jumpsay_k13_asked_again.main.body.getD i (.Pass ⟨0, 0, 0, 0⟩)
abbrev s_turned : Stmt := top 14
theorem sc_turned : FnScope ["condition", "turns"] ["condition", "turns"] (defScope s_turned) := ⟨rfl, rfl, rfl, by decide +kernel, rfl, by decide +kernel, by decide +kernel⟩

abbrev s_check_condition : Stmt := top 15
theorem sc_check_condition : FnScope ["condition"] ["condition"] (defScope s_check_condition) := ⟨rfl, rfl, rfl, by decide +kernel, rfl, by decide +kernel, by decide +kernel⟩

abbrev s_count_looks : Stmt := top 16
theorem sc_count_looks : FnScope ["condition", "around", "side"] ["condition", "around"] (defScope s_count_looks) := ⟨rfl, rfl, rfl, by decide +kernel, rfl, by decide +kernel, by decide +kernel⟩

abbrev s_has_form : Stmt := top 17
theorem sc_has_form : FnScope ["condition", "word"] ["condition"] (defScope s_has_form) := ⟨rfl, rfl, rfl, by decide +kernel, rfl, by decide +kernel, by decide +kernel⟩

abbrev s_is_number_up_to : Stmt := top 18
theorem sc_is_number_up_to : FnScope ["value", "most"] ["value", "most"] (defScope s_is_number_up_to) := ⟨rfl, rfl, rfl, by decide +kernel, rfl, by decide +kernel, by decide +kernel⟩

abbrev s_are_numbers_up_to : Stmt := top 19
theorem sc_are_numbers_up_to : FnScope ["values", "many", "most", "value"] ["values", "many", "most"] (defScope s_are_numbers_up_to) := ⟨rfl, rfl, rfl, by decide +kernel, rfl, by decide +kernel, by decide +kernel⟩

abbrev s_are_bits : Stmt := top 20
theorem sc_are_bits : FnScope ["values", "many"] ["values", "many"] (defScope s_are_bits) := ⟨rfl, rfl, rfl, by decide +kernel, rfl, by decide +kernel, by decide +kernel⟩

abbrev s_all_bits : Stmt := top 21
theorem sc_all_bits : FnScope ["many", "told", "_", "bits", "bit"] ["many"] (defScope s_all_bits) := ⟨rfl, rfl, rfl, by decide +kernel, rfl, by decide +kernel, by decide +kernel⟩

abbrev s_count_pairs : Stmt := top 22
theorem sc_count_pairs : FnScope ["condition"] ["condition"] (defScope s_count_pairs) := ⟨rfl, rfl, rfl, by decide +kernel, rfl, by decide +kernel, by decide +kernel⟩

abbrev s_with_turns : Stmt := top 23
theorem sc_with_turns : FnScope ["condition", "turns", "word", "middle", "one", "other"] ["condition", "turns"] (defScope s_with_turns) := ⟨rfl, rfl, rfl, by decide +kernel, rfl, by decide +kernel, by decide +kernel⟩

abbrev s_meant : Stmt := top 26
theorem sc_meant : FnScope ["condition", "worths"] ["condition", "worths"] (defScope s_meant) := ⟨rfl, rfl, rfl, by decide +kernel, rfl, by decide +kernel, by decide +kernel⟩

abbrev s_check_worths : Stmt := top 27
theorem sc_check_worths : FnScope ["worths"] ["worths"] (defScope s_check_worths) := ⟨rfl, rfl, rfl, by decide +kernel, rfl, by decide +kernel, by decide +kernel⟩

abbrev s_outcome : Stmt := top 28
theorem sc_outcome : FnScope ["condition", "worths", "word", "thing", "worth", "looks", "second", "more"] ["condition", "worths"] (defScope s_outcome) := ⟨rfl, rfl, rfl, by decide +kernel, rfl, by decide +kernel, by decide +kernel⟩

abbrev s_coded : Stmt := top 31
theorem sc_coded : FnScope ["condition", "first"] ["condition", "first"] (defScope s_coded) := ⟨rfl, rfl, rfl, by decide +kernel, rfl, by decide +kernel, by decide +kernel⟩

abbrev s_run : Stmt := top 32
theorem sc_run : FnScope ["rows", "worths"] ["rows", "worths"] (defScope s_run) := ⟨rfl, rfl, rfl, by decide +kernel, rfl, by decide +kernel, by decide +kernel⟩

abbrev s_check_first : Stmt := top 33
theorem sc_check_first : FnScope ["first"] ["first"] (defScope s_check_first) := ⟨rfl, rfl, rfl, by decide +kernel, rfl, by decide +kernel, by decide +kernel⟩

abbrev s_code_of : Stmt := top 34
theorem sc_code_of : FnScope ["condition", "first", "behind", "dues"] ["condition", "first"] (defScope s_code_of) := ⟨rfl, rfl, rfl, by decide +kernel, rfl, by decide +kernel, by decide +kernel⟩

abbrev s_rows_of : Stmt := top 35
theorem sc_rows_of : FnScope ["condition", "start", "dues", "word", "middle", "first_dues"] ["condition", "start", "dues"] (defScope s_rows_of) := ⟨rfl, rfl, rfl, by decide +kernel, rfl, by decide +kernel, by decide +kernel⟩

abbrev s_look_row : Stmt := top 36
theorem sc_look_row : FnScope ["thing", "place", "dues", "when"] ["thing", "place", "dues"] (defScope s_look_row) := ⟨rfl, rfl, rfl, by decide +kernel, rfl, by decide +kernel, by decide +kernel⟩

abbrev s_check_code : Stmt := top 37
theorem sc_check_code : FnScope ["rows", "place"] ["rows"] (defScope s_check_code) := ⟨rfl, rfl, rfl, by decide +kernel, rfl, by decide +kernel, by decide +kernel⟩

abbrev s_can_be : Stmt := top 38
theorem sc_can_be : FnScope ["rows", "place", "last", "row"] ["rows", "place"] (defScope s_can_be) := ⟨rfl, rfl, rfl, by decide +kernel, rfl, by decide +kernel, by decide +kernel⟩

abbrev s_is_look : Stmt := top 39
theorem sc_is_look : FnScope ["row", "place", "last", "_", "thing", "when", "to"] ["row", "place", "last"] (defScope s_is_look) := ⟨rfl, rfl, rfl, by decide +kernel, rfl, by decide +kernel, by decide +kernel⟩

abbrev s_is_end : Stmt := top 40
theorem sc_is_end : FnScope ["row"] ["row"] (defScope s_is_end) := ⟨rfl, rfl, rfl, by decide +kernel, rfl, by decide +kernel, by decide +kernel⟩

abbrev s_outcome_of_rows : Stmt := top 41
theorem sc_outcome_of_rows : FnScope ["rows", "worths", "at", "looks", "jumps", "_", "thing", "when", "to"] ["rows", "worths"] (defScope s_outcome_of_rows) := ⟨rfl, rfl, rfl, by decide +kernel, rfl, by decide +kernel, by decide +kernel⟩

abbrev s_looks : Stmt := top 45
theorem sc_looks : FnScope ["condition", "chances"] ["condition", "chances"] (defScope s_looks) := ⟨rfl, rfl, rfl, by decide +kernel, rfl, by decide +kernel, by decide +kernel⟩

abbrev s_jumps : Stmt := top 46
theorem sc_jumps : FnScope ["condition", "first", "chances"] ["condition", "first", "chances"] (defScope s_jumps) := ⟨rfl, rfl, rfl, by decide +kernel, rfl, by decide +kernel, by decide +kernel⟩

abbrev s_fewest_looks : Stmt := top 47
theorem sc_fewest_looks : FnScope ["condition", "chances", "likely", "turns"] ["condition", "chances"] (defScope s_fewest_looks) := ⟨rfl, rfl, rfl, by decide +kernel, rfl, by decide +kernel, by decide +kernel⟩

abbrev s_fewest_jumps : Stmt := top 48
theorem sc_fewest_jumps : FnScope ["condition", "chances", "likely", "turns", "first"] ["condition", "chances"] (defScope s_fewest_jumps) := ⟨rfl, rfl, rfl, by decide +kernel, rfl, by decide +kernel, by decide +kernel⟩

abbrev s_check_chances : Stmt := top 49
theorem sc_check_chances : FnScope ["chances"] ["chances"] (defScope s_check_chances) := ⟨rfl, rfl, rfl, by decide +kernel, rfl, by decide +kernel, by decide +kernel⟩

abbrev s_check_for_fewest : Stmt := top 50
theorem sc_check_for_fewest : FnScope ["condition", "chances"] ["condition", "chances"] (defScope s_check_for_fewest) := ⟨rfl, rfl, rfl, by decide +kernel, rfl, by decide +kernel, by decide +kernel⟩

abbrev s_all_turns : Stmt := top 51
theorem sc_all_turns : FnScope ["condition", "bits"] ["condition"] (defScope s_all_turns) := ⟨rfl, rfl, rfl, by decide +kernel, rfl, by decide +kernel, by decide +kernel⟩

abbrev s_likely_worths : Stmt := top 52
theorem sc_likely_worths : FnScope ["chances", "worths"] ["chances"] (defScope s_likely_worths) := ⟨rfl, rfl, rfl, by decide +kernel, rfl, by decide +kernel, by decide +kernel⟩

abbrev s_times_of : Stmt := top 53
theorem sc_times_of : FnScope ["worths", "chances", "times", "worth", "chance"] ["worths", "chances"] (defScope s_times_of) := ⟨rfl, rfl, rfl, by decide +kernel, rfl, by decide +kernel, by decide +kernel⟩

abbrev s_looks_in_all : Stmt := top 54
theorem sc_looks_in_all : FnScope ["condition", "likely", "worths", "times"] ["condition", "likely"] (defScope s_looks_in_all) := ⟨rfl, rfl, rfl, by decide +kernel, rfl, by decide +kernel, by decide +kernel⟩

abbrev s_jumps_in_all : Stmt := top 55
theorem sc_jumps_in_all : FnScope ["condition", "first", "likely", "rows", "worths", "times"] ["condition", "first", "likely"] (defScope s_jumps_in_all) := ⟨rfl, rfl, rfl, by decide +kernel, rfl, by decide +kernel, by decide +kernel⟩

abbrev s_parting : Stmt := top 57
theorem sc_parting : FnScope ["one", "other", "worths", "told_of_one", "told_of_other"] ["one", "other"] (defScope s_parting) := ⟨rfl, rfl, rfl, by decide +kernel, rfl, by decide +kernel, by decide +kernel⟩

abbrev s_alike : Stmt := top 58
theorem sc_alike : FnScope ["one", "other"] ["one", "other"] (defScope s_alike) := ⟨rfl, rfl, rfl, by decide +kernel, rfl, by decide +kernel, by decide +kernel⟩

abbrev s_written : Stmt := top 66
theorem sc_written : FnScope ["condition"] ["condition"] (defScope s_written) := ⟨rfl, rfl, rfl, by decide +kernel, rfl, by decide +kernel, by decide +kernel⟩

abbrev s_read : Stmt := top 67
theorem sc_read : FnScope ["text", "condition"] ["text"] (defScope s_read) := ⟨rfl, rfl, rfl, by decide +kernel, rfl, by decide +kernel, by decide +kernel⟩

abbrev s_text_of : Stmt := top 68
theorem sc_text_of : FnScope ["condition", "least", "word", "sign", "binds", "text"] ["condition", "least"] (defScope s_text_of) := ⟨rfl, rfl, rfl, by decide +kernel, rfl, by decide +kernel, by decide +kernel⟩

abbrev s_check_signs : Stmt := top 69
theorem sc_check_signs : FnScope ["text", "due", "unclosed", "place", "sign"] ["text"] (defScope s_check_signs) := ⟨rfl, rfl, rfl, by decide +kernel, rfl, by decide +kernel, by decide +kernel⟩

abbrev s_may_stand : Stmt := top 70
theorem sc_may_stand : FnScope ["sign", "due", "unclosed"] ["sign", "due", "unclosed"] (defScope s_may_stand) := ⟨rfl, rfl, rfl, by decide +kernel, rfl, by decide +kernel, by decide +kernel⟩

abbrev s_condition_of : Stmt := top 71
theorem sc_condition_of : FnScope ["text", "done", "waiting", "sign"] ["text"] (defScope s_condition_of) := ⟨rfl, rfl, rfl, by decide +kernel, rfl, by decide +kernel, by decide +kernel⟩

abbrev s_join_waiting : Stmt := top 72
theorem sc_join_waiting : FnScope ["done", "waiting", "least", "sign", "last"] ["done", "waiting", "least"] (defScope s_join_waiting) := ⟨rfl, rfl, rfl, by decide +kernel, rfl, by decide +kernel, by decide +kernel⟩

abbrev s_law_begun : Stmt := top 74
theorem sc_law_begun : FnScope ["_law_script", "_law_stirred", "_law_cell"] ["_law_script"] (defScope s_law_begun) := ⟨rfl, rfl, rfl, by decide +kernel, rfl, by decide +kernel, by decide +kernel⟩

abbrev s_law_take : Stmt := top 75
theorem sc_law_take : FnScope ["_law_box", "_law_many", "_law_number"] ["_law_box", "_law_many"] (defScope s_law_take) := ⟨rfl, rfl, rfl, by decide +kernel, rfl, by decide +kernel, by decide +kernel⟩

abbrev s_law_part : Stmt := top 76
theorem sc_law_part : FnScope ["_law_box", "_law_many", "_law_things"] ["_law_box", "_law_many", "_law_things"] (defScope s_law_part) := ⟨rfl, rfl, rfl, by decide +kernel, rfl, by decide +kernel, by decide +kernel⟩

abbrev s_law_bare : Stmt := top 77
theorem sc_law_bare : FnScope ["_law_box", "_law_many", "_law_things", "_law_left", "_law_word"] ["_law_box", "_law_many", "_law_things"] (defScope s_law_bare) := ⟨rfl, rfl, rfl, by decide +kernel, rfl, by decide +kernel, by decide +kernel⟩

abbrev s_law_deep : Stmt := top 78
theorem sc_law_deep : FnScope ["_law_part_here", "_law_one"] ["_law_part_here"] (defScope s_law_deep) := ⟨rfl, rfl, rfl, by decide +kernel, rfl, by decide +kernel, by decide +kernel⟩

abbrev s_law_condition : Stmt := top 79
theorem sc_law_condition : FnScope ["_law_box", "_law_most", "_law_things", "_law_part_here"] ["_law_box", "_law_most"] (defScope s_law_condition) := ⟨rfl, rfl, rfl, by decide +kernel, rfl, by decide +kernel, by decide +kernel⟩

abbrev s_law_pairs : Stmt := top 80
theorem sc_law_pairs : FnScope ["_law_part_here", "_law_one"] ["_law_part_here"] (defScope s_law_pairs) := ⟨rfl, rfl, rfl, by decide +kernel, rfl, by decide +kernel, by decide +kernel⟩

abbrev s_law_told : Stmt := top 82
theorem sc_law_told : FnScope ["_law_case", "_law_part_here", "_law_worths", "_law_chances", "_law_other", "_law_found"] ["_law_case"] (defScope s_law_told) := ⟨rfl, rfl, rfl, by decide +kernel, rfl, by decide +kernel, by decide +kernel⟩

abbrev s_law_kept : Stmt := top 83
theorem sc_law_kept : FnScope ["_law_found", "_law_parts", "_law_one"] ["_law_found"] (defScope s_law_kept) := ⟨rfl, rfl, rfl, by decide +kernel, rfl, by decide +kernel, by decide +kernel⟩

abbrev s_law_spoil : Stmt := top 84
theorem sc_law_spoil : FnScope ["_law_found", "_law_part_here"] ["_law_found"] (defScope s_law_spoil) := ⟨rfl, rfl, rfl, by decide +kernel, rfl, by decide +kernel, by decide +kernel⟩

abbrev s_law : Stmt := top 85
theorem sc_law : FnScope ["_law_script", "_law_box", "_law_cases", "_law_turn", "_law_part_here", "_law_worths", "_law_thing", "_law_every", "_law_case", "_law_kept_here", "_law_one", "_law_k"] ["_law_script"] (defScope s_law) := ⟨rfl, rfl, rfl, by decide +kernel, rfl, by decide +kernel, by decide +kernel⟩

structure Tx (P : Program) (K : PySem.W.Frag) (mg : Str → Option Value) (w : World) where
  f_turned : Addr
  d_turned : FuncData
  F_turned : Fun K "turned" "turned" s_turned f_turned d_turned
  m_turned : mg "turned" = some (.ref f_turned)
  b_turned : Binds K d_turned ["condition", "turns"] []
  f_check_condition : Addr
  d_check_condition : FuncData
  F_check_condition : Fun K "check_condition" "check_condition" s_check_condition f_check_condition d_check_condition
  m_check_condition : mg "check_condition" = some (.ref f_check_condition)
  b_check_condition : Binds K d_check_condition ["condition"] []
  f_count_looks : Addr
  d_count_looks : FuncData
  F_count_looks : Fun K "count_looks" "count_looks" s_count_looks f_count_looks d_count_looks
  m_count_looks : mg "count_looks" = some (.ref f_count_looks)
  b_count_looks : Binds K d_count_looks ["condition", "around"] []
  f_has_form : Addr
  d_has_form : FuncData
  F_has_form : Fun K "has_form" "has_form" s_has_form f_has_form d_has_form
  m_has_form : mg "has_form" = some (.ref f_has_form)
  b_has_form : Binds K d_has_form ["condition"] []
  f_is_number_up_to : Addr
  d_is_number_up_to : FuncData
  F_is_number_up_to : Fun K "is_number_up_to" "is_number_up_to" s_is_number_up_to f_is_number_up_to d_is_number_up_to
  m_is_number_up_to : mg "is_number_up_to" = some (.ref f_is_number_up_to)
  b_is_number_up_to : Binds K d_is_number_up_to ["value", "most"] []
  f_are_numbers_up_to : Addr
  d_are_numbers_up_to : FuncData
  F_are_numbers_up_to : Fun K "are_numbers_up_to" "are_numbers_up_to" s_are_numbers_up_to f_are_numbers_up_to d_are_numbers_up_to
  m_are_numbers_up_to : mg "are_numbers_up_to" = some (.ref f_are_numbers_up_to)
  b_are_numbers_up_to : Binds K d_are_numbers_up_to ["values", "many", "most"] []
  f_are_bits : Addr
  d_are_bits : FuncData
  F_are_bits : Fun K "are_bits" "are_bits" s_are_bits f_are_bits d_are_bits
  m_are_bits : mg "are_bits" = some (.ref f_are_bits)
  b_are_bits : Binds K d_are_bits ["values", "many"] []
  f_all_bits : Addr
  d_all_bits : FuncData
  F_all_bits : Fun K "all_bits" "all_bits" s_all_bits f_all_bits d_all_bits
  m_all_bits : mg "all_bits" = some (.ref f_all_bits)
  b_all_bits : Binds K d_all_bits ["many"] []
  f_count_pairs : Addr
  d_count_pairs : FuncData
  F_count_pairs : Fun K "count_pairs" "count_pairs" s_count_pairs f_count_pairs d_count_pairs
  m_count_pairs : mg "count_pairs" = some (.ref f_count_pairs)
  b_count_pairs : Binds K d_count_pairs ["condition"] []
  f_with_turns : Addr
  d_with_turns : FuncData
  F_with_turns : Fun K "with_turns" "with_turns" s_with_turns f_with_turns d_with_turns
  m_with_turns : mg "with_turns" = some (.ref f_with_turns)
  b_with_turns : Binds K d_with_turns ["condition", "turns"] []
  f_meant : Addr
  d_meant : FuncData
  F_meant : Fun K "meant" "meant" s_meant f_meant d_meant
  m_meant : mg "meant" = some (.ref f_meant)
  b_meant : Binds K d_meant ["condition", "worths"] []
  f_check_worths : Addr
  d_check_worths : FuncData
  F_check_worths : Fun K "check_worths" "check_worths" s_check_worths f_check_worths d_check_worths
  m_check_worths : mg "check_worths" = some (.ref f_check_worths)
  b_check_worths : Binds K d_check_worths ["worths"] []
  f_outcome : Addr
  d_outcome : FuncData
  F_outcome : Fun K "outcome" "outcome" s_outcome f_outcome d_outcome
  m_outcome : mg "outcome" = some (.ref f_outcome)
  b_outcome : Binds K d_outcome ["condition", "worths"] []
  f_coded : Addr
  d_coded : FuncData
  F_coded : Fun K "coded" "coded" s_coded f_coded d_coded
  m_coded : mg "coded" = some (.ref f_coded)
  b_coded : Binds K d_coded ["condition", "first"] []
  f_run : Addr
  d_run : FuncData
  F_run : Fun K "run" "run" s_run f_run d_run
  m_run : mg "run" = some (.ref f_run)
  b_run : Binds K d_run ["rows", "worths"] []
  f_check_first : Addr
  d_check_first : FuncData
  F_check_first : Fun K "check_first" "check_first" s_check_first f_check_first d_check_first
  m_check_first : mg "check_first" = some (.ref f_check_first)
  b_check_first : Binds K d_check_first ["first"] []
  f_code_of : Addr
  d_code_of : FuncData
  F_code_of : Fun K "code_of" "code_of" s_code_of f_code_of d_code_of
  m_code_of : mg "code_of" = some (.ref f_code_of)
  b_code_of : Binds K d_code_of ["condition", "first"] []
  f_rows_of : Addr
  d_rows_of : FuncData
  F_rows_of : Fun K "rows_of" "rows_of" s_rows_of f_rows_of d_rows_of
  m_rows_of : mg "rows_of" = some (.ref f_rows_of)
  b_rows_of : Binds K d_rows_of ["condition", "start", "dues"] []
  f_look_row : Addr
  d_look_row : FuncData
  F_look_row : Fun K "look_row" "look_row" s_look_row f_look_row d_look_row
  m_look_row : mg "look_row" = some (.ref f_look_row)
  b_look_row : Binds K d_look_row ["thing", "place", "dues"] []
  f_check_code : Addr
  d_check_code : FuncData
  F_check_code : Fun K "check_code" "check_code" s_check_code f_check_code d_check_code
  m_check_code : mg "check_code" = some (.ref f_check_code)
  b_check_code : Binds K d_check_code ["rows"] []
  f_can_be : Addr
  d_can_be : FuncData
  F_can_be : Fun K "can_be" "can_be" s_can_be f_can_be d_can_be
  m_can_be : mg "can_be" = some (.ref f_can_be)
  b_can_be : Binds K d_can_be ["rows", "place"] []
  f_is_look : Addr
  d_is_look : FuncData
  F_is_look : Fun K "is_look" "is_look" s_is_look f_is_look d_is_look
  m_is_look : mg "is_look" = some (.ref f_is_look)
  b_is_look : Binds K d_is_look ["row", "place", "last"] []
  f_is_end : Addr
  d_is_end : FuncData
  F_is_end : Fun K "is_end" "is_end" s_is_end f_is_end d_is_end
  m_is_end : mg "is_end" = some (.ref f_is_end)
  b_is_end : Binds K d_is_end ["row"] []
  f_outcome_of_rows : Addr
  d_outcome_of_rows : FuncData
  F_outcome_of_rows : Fun K "outcome_of_rows" "outcome_of_rows" s_outcome_of_rows f_outcome_of_rows d_outcome_of_rows
  m_outcome_of_rows : mg "outcome_of_rows" = some (.ref f_outcome_of_rows)
  b_outcome_of_rows : Binds K d_outcome_of_rows ["rows", "worths"] []
  f_looks : Addr
  d_looks : FuncData
  F_looks : Fun K "looks" "looks" s_looks f_looks d_looks
  m_looks : mg "looks" = some (.ref f_looks)
  b_looks : Binds K d_looks ["condition", "chances"] []
  f_jumps : Addr
  d_jumps : FuncData
  F_jumps : Fun K "jumps" "jumps" s_jumps f_jumps d_jumps
  m_jumps : mg "jumps" = some (.ref f_jumps)
  b_jumps : Binds K d_jumps ["condition", "first", "chances"] []
  f_fewest_looks : Addr
  d_fewest_looks : FuncData
  F_fewest_looks : Fun K "fewest_looks" "fewest_looks" s_fewest_looks f_fewest_looks d_fewest_looks
  m_fewest_looks : mg "fewest_looks" = some (.ref f_fewest_looks)
  b_fewest_looks : Binds K d_fewest_looks ["condition", "chances"] []
  f_fewest_jumps : Addr
  d_fewest_jumps : FuncData
  F_fewest_jumps : Fun K "fewest_jumps" "fewest_jumps" s_fewest_jumps f_fewest_jumps d_fewest_jumps
  m_fewest_jumps : mg "fewest_jumps" = some (.ref f_fewest_jumps)
  b_fewest_jumps : Binds K d_fewest_jumps ["condition", "chances"] []
  f_check_chances : Addr
  d_check_chances : FuncData
  F_check_chances : Fun K "check_chances" "check_chances" s_check_chances f_check_chances d_check_chances
  m_check_chances : mg "check_chances" = some (.ref f_check_chances)
  b_check_chances : Binds K d_check_chances ["chances"] []
  f_check_for_fewest : Addr
  d_check_for_fewest : FuncData
  F_check_for_fewest : Fun K "check_for_fewest" "check_for_fewest" s_check_for_fewest f_check_for_fewest d_check_for_fewest
  m_check_for_fewest : mg "check_for_fewest" = some (.ref f_check_for_fewest)
  b_check_for_fewest : Binds K d_check_for_fewest ["condition", "chances"] []
  f_all_turns : Addr
  d_all_turns : FuncData
  F_all_turns : Fun K "all_turns" "all_turns" s_all_turns f_all_turns d_all_turns
  m_all_turns : mg "all_turns" = some (.ref f_all_turns)
  b_all_turns : Binds K d_all_turns ["condition"] []
  f_likely_worths : Addr
  d_likely_worths : FuncData
  F_likely_worths : Fun K "likely_worths" "likely_worths" s_likely_worths f_likely_worths d_likely_worths
  m_likely_worths : mg "likely_worths" = some (.ref f_likely_worths)
  b_likely_worths : Binds K d_likely_worths ["chances"] []
  f_times_of : Addr
  d_times_of : FuncData
  F_times_of : Fun K "times_of" "times_of" s_times_of f_times_of d_times_of
  m_times_of : mg "times_of" = some (.ref f_times_of)
  b_times_of : Binds K d_times_of ["worths", "chances"] []
  f_looks_in_all : Addr
  d_looks_in_all : FuncData
  F_looks_in_all : Fun K "looks_in_all" "looks_in_all" s_looks_in_all f_looks_in_all d_looks_in_all
  m_looks_in_all : mg "looks_in_all" = some (.ref f_looks_in_all)
  b_looks_in_all : Binds K d_looks_in_all ["condition", "likely"] []
  f_jumps_in_all : Addr
  d_jumps_in_all : FuncData
  F_jumps_in_all : Fun K "jumps_in_all" "jumps_in_all" s_jumps_in_all f_jumps_in_all d_jumps_in_all
  m_jumps_in_all : mg "jumps_in_all" = some (.ref f_jumps_in_all)
  b_jumps_in_all : Binds K d_jumps_in_all ["condition", "first", "likely"] []
  f_parting : Addr
  d_parting : FuncData
  F_parting : Fun K "parting" "parting" s_parting f_parting d_parting
  m_parting : mg "parting" = some (.ref f_parting)
  b_parting : Binds K d_parting ["one", "other"] []
  f_alike : Addr
  d_alike : FuncData
  F_alike : Fun K "alike" "alike" s_alike f_alike d_alike
  m_alike : mg "alike" = some (.ref f_alike)
  b_alike : Binds K d_alike ["one", "other"] []
  f_written : Addr
  d_written : FuncData
  F_written : Fun K "written" "written" s_written f_written d_written
  m_written : mg "written" = some (.ref f_written)
  b_written : Binds K d_written ["condition"] []
  f_read : Addr
  d_read : FuncData
  F_read : Fun K "read" "read" s_read f_read d_read
  m_read : mg "read" = some (.ref f_read)
  b_read : Binds K d_read ["text"] []
  f_text_of : Addr
  d_text_of : FuncData
  F_text_of : Fun K "text_of" "text_of" s_text_of f_text_of d_text_of
  m_text_of : mg "text_of" = some (.ref f_text_of)
  b_text_of : Binds K d_text_of ["condition", "least"] []
  f_check_signs : Addr
  d_check_signs : FuncData
  F_check_signs : Fun K "check_signs" "check_signs" s_check_signs f_check_signs d_check_signs
  m_check_signs : mg "check_signs" = some (.ref f_check_signs)
  b_check_signs : Binds K d_check_signs ["text"] []
  f_may_stand : Addr
  d_may_stand : FuncData
  F_may_stand : Fun K "may_stand" "may_stand" s_may_stand f_may_stand d_may_stand
  m_may_stand : mg "may_stand" = some (.ref f_may_stand)
  b_may_stand : Binds K d_may_stand ["sign", "due", "unclosed"] []
  f_condition_of : Addr
  d_condition_of : FuncData
  F_condition_of : Fun K "condition_of" "condition_of" s_condition_of f_condition_of d_condition_of
  m_condition_of : mg "condition_of" = some (.ref f_condition_of)
  b_condition_of : Binds K d_condition_of ["text"] []
  f_join_waiting : Addr
  d_join_waiting : FuncData
  F_join_waiting : Fun K "join_waiting" "join_waiting" s_join_waiting f_join_waiting d_join_waiting
  m_join_waiting : mg "join_waiting" = some (.ref f_join_waiting)
  b_join_waiting : Binds K d_join_waiting ["done", "waiting", "least"] []
  f_law_begun : Addr
  d_law_begun : FuncData
  F_law_begun : Fun K "_law_begun" "_law_begun" s_law_begun f_law_begun d_law_begun
  m_law_begun : mg "_law_begun" = some (.ref f_law_begun)
  b_law_begun : Binds K d_law_begun ["_law_script"] []
  f_law_take : Addr
  d_law_take : FuncData
  F_law_take : Fun K "_law_take" "_law_take" s_law_take f_law_take d_law_take
  m_law_take : mg "_law_take" = some (.ref f_law_take)
  b_law_take : Binds K d_law_take ["_law_box", "_law_many"] []
  f_law_part : Addr
  d_law_part : FuncData
  F_law_part : Fun K "_law_part" "_law_part" s_law_part f_law_part d_law_part
  m_law_part : mg "_law_part" = some (.ref f_law_part)
  b_law_part : Binds K d_law_part ["_law_box", "_law_many", "_law_things"] []
  f_law_bare : Addr
  d_law_bare : FuncData
  F_law_bare : Fun K "_law_bare" "_law_bare" s_law_bare f_law_bare d_law_bare
  m_law_bare : mg "_law_bare" = some (.ref f_law_bare)
  b_law_bare : Binds K d_law_bare ["_law_box", "_law_many", "_law_things"] []
  f_law_deep : Addr
  d_law_deep : FuncData
  F_law_deep : Fun K "_law_deep" "_law_deep" s_law_deep f_law_deep d_law_deep
  m_law_deep : mg "_law_deep" = some (.ref f_law_deep)
  b_law_deep : Binds K d_law_deep ["_law_part_here"] []
  f_law_condition : Addr
  d_law_condition : FuncData
  F_law_condition : Fun K "_law_condition" "_law_condition" s_law_condition f_law_condition d_law_condition
  m_law_condition : mg "_law_condition" = some (.ref f_law_condition)
  b_law_condition : Binds K d_law_condition ["_law_box", "_law_most"] []
  f_law_pairs : Addr
  d_law_pairs : FuncData
  F_law_pairs : Fun K "_law_pairs" "_law_pairs" s_law_pairs f_law_pairs d_law_pairs
  m_law_pairs : mg "_law_pairs" = some (.ref f_law_pairs)
  b_law_pairs : Binds K d_law_pairs ["_law_part_here"] []
  f_law_told : Addr
  d_law_told : FuncData
  F_law_told : Fun K "_law_told" "_law_told" s_law_told f_law_told d_law_told
  m_law_told : mg "_law_told" = some (.ref f_law_told)
  b_law_told : Binds K d_law_told ["_law_case"] []
  f_law_kept : Addr
  d_law_kept : FuncData
  F_law_kept : Fun K "_law_kept" "_law_kept" s_law_kept f_law_kept d_law_kept
  m_law_kept : mg "_law_kept" = some (.ref f_law_kept)
  b_law_kept : Binds K d_law_kept ["_law_found"] []
  f_law_spoil : Addr
  d_law_spoil : FuncData
  F_law_spoil : Fun K "_law_spoil" "_law_spoil" s_law_spoil f_law_spoil d_law_spoil
  m_law_spoil : mg "_law_spoil" = some (.ref f_law_spoil)
  b_law_spoil : Binds K d_law_spoil ["_law_found"] []
  f_law : Addr
  d_law : FuncData
  F_law : Fun K "law" "law" s_law f_law d_law
  m_law : mg "law" = some (.ref f_law)
  b_law : Binds K d_law ["_law_script"] []
  n_sum : mg "sum" = none
  n_tuple : mg "tuple" = none
  n_isinstance : mg "isinstance" = none
  n_len : mg "len" = none
  n_bool : mg "bool" = none
  n_int : mg "int" = none
  n_all : mg "all" = none
  n_range : mg "range" = none
  n_list : mg "list" = none
  n_min : mg "min" = none
  n_zip : mg "zip" = none
  n_enumerate : mg "enumerate" = none
  n_max : mg "max" = none
  u_MOST_LOOKS : Tok
  c_MOST_LOOKS : mg "MOST_LOOKS" = some (.int 12 u_MOST_LOOKS)
  u_MOST_AROUND : Tok
  c_MOST_AROUND : mg "MOST_AROUND" = some (.int 10 u_MOST_AROUND)
  u_THINGS : Tok
  c_THINGS : mg "THINGS" = some (.int 8 u_THINGS)
  a_GOES_ON : Addr
  c_GOES_ON : mg "GOES_ON" = some (.ref a_GOES_ON)
  k_GOES_ON_0 : KDct K w a_GOES_ON "and" (.int 1)
  k_GOES_ON_1 : KDct K w a_GOES_ON "or" (.int 0)
  u_MOST_ROWS : Tok
  c_MOST_ROWS : mg "MOST_ROWS" = some (.int 40 u_MOST_ROWS)
  u_HUNDRED : Tok
  c_HUNDRED : mg "HUNDRED" = some (.int 100 u_HUNDRED)
  u_MOST_PAIRS : Tok
  c_MOST_PAIRS : mg "MOST_PAIRS" = some (.int 6 u_MOST_PAIRS)
  a_BINDS : Addr
  c_BINDS : mg "BINDS" = some (.ref a_BINDS)
  k_BINDS_0 : KDct K w a_BINDS "!" (.int 3)
  k_BINDS_1 : KDct K w a_BINDS "&" (.int 2)
  k_BINDS_2 : KDct K w a_BINDS "|" (.int 1)
  k_BINDS_3 : KDct K w a_BINDS "(" (.int 0)
  u_LETTERS : Tok
  c_LETTERS : mg "LETTERS" = some (.str "abcdefgh" u_LETTERS)
  a_SIGNS : Addr
  c_SIGNS : mg "SIGNS" = some (.ref a_SIGNS)
  k_SIGNS_0 : KDct K w a_SIGNS "not" (.str "!")
  k_SIGNS_1 : KDct K w a_SIGNS "and" (.str "&")
  k_SIGNS_2 : KDct K w a_SIGNS "or" (.str "|")
  u_BEFORE_ONE : Tok
  c_BEFORE_ONE : mg "BEFORE_ONE" = some (.str "!(&|" u_BEFORE_ONE)
  u_BEGINNINGS : Tok
  c_BEGINNINGS : mg "BEGINNINGS" = some (.str "abcdefgh!(" u_BEGINNINGS)
  a_WORDS : Addr
  c_WORDS : mg "WORDS" = some (.ref a_WORDS)
  k_WORDS_0 : KDct K w a_WORDS "&" (.str "and")
  k_WORDS_1 : KDct K w a_WORDS "|" (.str "or")
  i_WORDS_0 : KHas K w a_WORDS "&" true
  i_WORDS_1 : KHas K w a_WORDS "|" true
  i_WORDS_2 : KHas K w a_WORDS "!" false
  i_WORDS_3 : KHas K w a_WORDS "(" false

/-! comprehensions whose items are trees; _law_kept, _law_spoil -/
def KJt (n : Nat) (H1 : Hp) (D : Addr) (Dd : Nat → PyData → Prop) (i : Nat) (H' : Hp) : Prop := ∃ ys ds, ys.length = i ∧ Line n (upd H1 D (.lst [])) H' ys ds ∧ (∀ (k : Nat) d, ds[k]? = some d → Dd k d) ∧ H' D = some (.lst ys) ∧ Same H1 H'
section
variable {K : PySem.W.Frag} {σ : L2.St} {H : Hp} {Q : VK} {te : TE} {j : Nat} {vs : List Nat} {a : Addr} {xs : List V} {n : Nat} {Dd : Nat → PyData → Prop}
theorem kj_0 {D : Addr} (hD : H D = none) : KJt n H D Dd 0 (upd H D (.lst [])) := ⟨[], [], rfl, Line.nil, by intro k d h; simp at h, upd_same, sm_new hD _⟩
theorem kj_turn {D : Addr} (hD : H D = none) (hl : xs.length ≤ 1000)
    (h : ∀ (i : Nat) x H' (Q' : VK), xs[i]? = some x → Same H H' → (∀ y H'' d, Same H' H'' → Dd i d → Tr H'' n (New H' H'') y d → Q' y H'') → te ((wipe σ vs).set j (some x)) H' Q')
    {i : Nat} {x : V} {H' : Hp} (hx : xs[i]? = some x) (p : KJt n H D Dd i H') :
    te ((wipe σ vs).set j (some x)) H' fun y H4 => ∃ acc, H4 D = some (.lst acc) ∧ acc.length < sizeLine ∧ KJt n H D Dd (i + 1) (upd H4 D (.lst (acc ++ [y]))) := by
  obtain ⟨ys, ds, e0, l, hd, e, g⟩ := p
  have hi := (List.getElem?_eq_some_iff.mp hx).1
  refine h i x H' _ hx g fun y H4 d g4 dd t => ?_
  have e4 := g4 _ _ e
  have hlen := l
  obtain ⟨G, el, _⟩ := hlen
  refine ⟨ys, e4, Nat.lt_of_le_of_lt (show ys.length ≤ 1000 by omega) (by decide), ys ++ [y], ds ++ [d], by rw [List.length_append, e0]; rfl, ?_, fun k d' hk => ?_, upd_same, sm_mut (g.trans g4) hD⟩
  · refine (l.snoc (fun a ha => ?_) g4 t).frame fun a o ho hf => ?_
    · have na : a ≠ D := fun z => by rw [z, e] at ha; cases ha
      rw [upd_ne na]
      exact g.free ha
    · have na : a ≠ D := fun z => by
        subst z
        rcases hf with hf | ⟨zs, rfl⟩
        · rw [upd_same] at hf; cases hf
        · rw [e4] at ho; cases ho
      rw [upd_ne na]
      exact ho
  · rcases snoc_at hk with ⟨hk, _⟩ | ⟨rfl, rfl⟩
    · exact hd k d' hk
    · rw [← el, e0]; exact dd
theorem lcTrT (hw : ∀ x, wipe ((wipe σ vs).set j (some x)) vs = wipe σ vs) (ht : SqT K H a xs) (hl : xs.length ≤ 1000)
    (h : ∀ (i : Nat) x H' (Q' : VK), xs[i]? = some x → Same H H' → (∀ y H'' d, Same H' H'' → Dd i d → Tr H'' n (New H' H'') y d → Q' y H'') → te ((wipe σ vs).set j (some x)) H' Q')
    (q : ∀ D H2, H D = none → KJt n H D Dd xs.length H2 → Q (.ref D) H2) :
    IT K (.ref a) H (LcB (gName j) tYes te vs σ Q) :=
  ⟨a, rfl, ⟨xs, ht⟩, fun D hD => lc_tup (K := K) (a := a) (xs := xs) (KJt n H D Dd) (kj_0 hD) (fun i H' _ ⟨_, _, _, _, _, _, g⟩ => sm_t g ht)
    (fun i x H' hx p => ⟨hw x, kj_turn hD hl h hx p⟩) fun H' p => q D H' hD p⟩
theorem lcTrL (hw : ∀ x, wipe ((wipe σ vs).set j (some x)) vs = wipe σ vs) (ht : SqL K H a xs) (hl : xs.length ≤ 1000)
    (h : ∀ (i : Nat) x H' (Q' : VK), xs[i]? = some x → Same H H' → (∀ y H'' d, Same H' H'' → Dd i d → Tr H'' n (New H' H'') y d → Q' y H'') → te ((wipe σ vs).set j (some x)) H' Q')
    (q : ∀ D H2, H D = none → KJt n H D Dd xs.length H2 → Q (.ref D) H2) :
    IL K (.ref a) H (LcB (gName j) tYes te vs σ Q) :=
  ⟨a, rfl, ⟨xs, ht⟩, fun D hD => lc_list (K := K) (a := a) (xs := xs) (KJt n H D Dd) (kj_0 hD) (fun i H' _ ⟨_, _, _, _, _, _, g⟩ => sm_l g ht)
    (fun i x H' hx p => ⟨hw x, kj_turn hD hl h hx p⟩) fun H' p => q D H' hD p⟩
/-- the list made -/
theorem KJt.list {D : Addr} {H2 : Hp} {m : Nat} (hD : H D = none) (p : KJt n H D Dd m H2) (hm : m ≤ 1000) : ∃ ds ys, ds.length = m ∧ H2 D = some (.lst ys) ∧ (∀ (k : Nat) d, ds[k]? = some d → Dd k d) ∧ Tr H2 (n + 1) (New H H2) (.ref D) (.list ds) ∧ Line n (upd H D (.lst [])) H2 ys ds := by
  obtain ⟨ys, ds, e0, l, hd, e, g⟩ := p
  have l0 := l
  obtain ⟨G, e1, t0, s, ds0⟩ := l
  refine ⟨ds, ys, by omega, e, hd, ?_, l0⟩
  have nD : ∀ {i b}, G i b → b ≠ D := fun {i b} z y => by
    have := (s i b z).1
    rw [y, upd_same] at this; cases this
  refine .inr (.inr ⟨D, ys, ds, G, rfl, rfl, e, ⟨hD, by rw [e]; exact fun z => nomatch z⟩, fun i z => nD z rfl, e1, by omega, t0, fun i b z => ⟨?_, (s i b z).2⟩, ds0⟩)
  have h1 := (s i b z).1
  rw [upd_ne (nD z)] at h1
  exact h1
end
/-! kept -/
def spKept (n : Nat) : Sp := fun vs H Q _ => ∃ v d F, vs = [v] ∧ Tr H n F v d ∧ ∀ v' H', Same H H' → Tr H' n (New H H') v' d → Q v' H'
def spKeptT (n : Nat) : Sp := fun vs H Q _ => ∃ a xs ds F G, vs = [.ref a] ∧ H a = some (.tup xs) ∧ Parts (Tr H n) F G xs ds ∧ ∀ v' H', Same H H' → Tr H' (n + 1) (New H H') v' (.tuple ds) → Q v' H'
def spKeptL (n : Nat) : Sp := fun vs H Q _ => ∃ a xs ds F G, vs = [.ref a] ∧ H a = some (.lst xs) ∧ Parts (Tr H n) F G xs ds ∧ ∀ v' H', Same H H' → Tr H' (n + 1) (New H H') v' (.list ds) → Q v' H'
def spKeptA (n : Nat) : Sp := fun vs H Q _ => ∃ v d, vs = [v] ∧ Atm v d ∧ ∀ H', Same H H' → Q v H'
theorem no_kept {vs : List V} {H : Hp} {Q : VK} {E : XK} : ¬ spKept 0 vs H Q E := fun ⟨_, _, _, _, h, _⟩ => h
theorem kept_or {n : Nat} (vs : List V) (H : Hp) (Q : VK) (E : XK) (h : spKept (n + 1) vs H Q E) : (spKeptT n vs H Q E ∨ spKeptL n vs H Q E) ∨ spKeptA n vs H Q E := by
  obtain ⟨v, d, F, rfl, t, q⟩ := h
  rcases t with t | ⟨a, xs, ds, G, rfl, rfl, e, p⟩ | ⟨a, xs, ds, G, rfl, rfl, e, fa, ng, p⟩
  · exact .inr ⟨v, d, rfl, t, fun H' g => q v H' g (.inl t)⟩
  · exact .inl (.inl ⟨a, xs, ds, F, G, rfl, e, p, q⟩)
  · exact .inl (.inr ⟨a, xs, ds, F, G, rfl, e, p, q⟩)
theorem kit_any2 {K : PySem.W.Frag} {t a b : String} {r s : Bool} (h1 : kitB t a = some r) (h2 : kitB t b = some s) : PySem.W.kitAny K (.type t) [.type a, .type b] = some (r || s) := by
  unfold PySem.W.kitAny
  rw [kit_ty h1]
  cases r
  · show PySem.W.kitAny K (.type t) [.type b] = _
    unfold PySem.W.kitAny
    rw [kit_ty h2]
    cases s <;> rfl
  · rfl
/-! spoil -/
def spSpoil (n : Nat) : Sp := fun vs H Q _ => ∃ v d F, vs = [v] ∧ Tr H n F v d ∧ ∀ H', Off F H H' → Q .non H'
def spSpoilT (n : Nat) : Sp := fun vs H Q _ => ∃ a xs ds F G, vs = [.ref a] ∧ H a = some (.tup xs) ∧ Parts (Tr H n) F G xs ds ∧ ∀ H', Off F H H' → Q .non H'
def spSpoilL (n : Nat) : Sp := fun vs H Q _ => ∃ a xs ds F G, vs = [.ref a] ∧ H a = some (.lst xs) ∧ F a ∧ (∀ i, ¬ G i a) ∧ Parts (Tr H n) F G xs ds ∧ ∀ H', Off F H H' → Q .non H'
def spSpoilA (n : Nat) : Sp := fun vs H Q _ => ∃ v d, vs = [v] ∧ Atm v d ∧ ∀ H', Same H H' → Q .non H'
theorem no_spoil {vs : List V} {H : Hp} {Q : VK} {E : XK} : ¬ spSpoil 0 vs H Q E := fun ⟨_, _, _, _, h, _⟩ => h
theorem spoil_or {n : Nat} (vs : List V) (H : Hp) (Q : VK) (E : XK) (h : spSpoil (n + 1) vs H Q E) : (spSpoilT n vs H Q E ∨ spSpoilL n vs H Q E) ∨ spSpoilA n vs H Q E := by
  obtain ⟨v, d, F, rfl, t, q⟩ := h
  rcases t with t | ⟨a, xs, ds, G, rfl, rfl, e, p⟩ | ⟨a, xs, ds, G, rfl, rfl, e, fa, ng, p⟩
  · exact .inr ⟨v, d, rfl, t, fun H' g => q H' (Off.same g)⟩
  · exact .inl (.inl ⟨a, xs, ds, F, G, rfl, e, p, q⟩)
  · exact .inl (.inr ⟨a, xs, ds, F, G, rfl, e, fa, ng, p, q⟩)
section
variable {K : PySem.W.Frag} {w : World}
theorem pure_kept_T {n : Nat} (vs : List V) (H : Hp) (Q : VK) (E : XK) (h : spKeptT n vs H Q E) :
    t_law_kept_T K w (spKept n) (Ends.mk (fun _ H' => Q .non H') Q (fun _ _ => False) (fun _ _ => False)) (start ["_law_found", "_law_parts", "_law_one"] vs) H := by
  obtain ⟨a, xs, ds, F, G, rfl, e, p, q⟩ := h
  unfold t_law_kept_T
  tm_at "j"
  rename_i tp H1 n1 g1 e1
  refine l_isiLT e1 (ty_tup (g1 _ _ e)) (b := true) (kit_any2 (r := false) (s := true) (by decide +kernel) (by decide +kernel)) ?_
  tm_at "j"
  refine lcTrT (n := n) (Dd := fun i d => ds[i]? = some d) (fun _ => rfl) (SqT.of (g1 _ _ e)) p.2.1 (fun i x H' Q' hx g k => ?_) fun D H2 nD kj => ?_
  · have hi : i < ds.length := by rw [← p.1]; exact (List.getElem?_eq_some_iff.mp hx).1
    tm_at "j"
    refine ⟨x, ds[i], G i, rfl, ((p.2.2.1 i x _ hx (List.getElem?_eq_getElem hi)).mono g1).mono g, fun y H'' g2 t => ?_⟩
    exact k y H'' _ g2 (List.getElem?_eq_getElem hi) t
  · obtain ⟨ds', ys, el, ed, hd, t, ln⟩ := kj.list nD p.2.1
    have ed' : ds' = ds := by
      refine List.ext_getElem? fun i => ?_
      by_cases hi : i < ds'.length
      · rw [hd i _ (List.getElem?_eq_getElem hi), List.getElem?_eq_getElem hi]
      · rw [List.getElem?_eq_none (by omega), List.getElem?_eq_none (by rw [← p.1]; omega)]
    subst ed'
    have g2 : Same H1 H2 := by
      obtain ⟨_, _, _, _, _, _, g⟩ := kj
      exact g
    clear kj
    tm_at "j"
    rename_i r H3 n3 g3 e3
    refine q _ _ ((g1.trans g2).trans g3) ?_
    have nf : ∀ b, H1 b = none → H b = none := fun b hb => g1.free hb
    have hy : ys.length ≤ 1000 := by
      have l0 := p.2.1
      obtain ⟨_, eq, _⟩ := ln
      omega
    refine ((ln.same g3).tup hy e3).sub fun b z => ⟨?_, z.2⟩
    have h1 := z.1
    have nb : b ≠ D := fun y => by rw [y, upd_same] at h1; cases h1
    rw [upd_ne nb] at h1
    exact g1.free h1
theorem pure_kept_L {n : Nat} (vs : List V) (H : Hp) (Q : VK) (E : XK) (h : spKeptL n vs H Q E) :
    t_law_kept_L K w (spKept n) (Ends.mk (fun _ H' => Q .non H') Q (fun _ _ => False) (fun _ _ => False)) (start ["_law_found", "_law_parts", "_law_one"] vs) H := by
  obtain ⟨a, xs, ds, F, G, rfl, e, p, q⟩ := h
  unfold t_law_kept_L
  tm_at "j"
  rename_i tp H1 n1 g1 e1
  refine l_isiLT e1 (ty_lst (g1 _ _ e)) (b := true) (kit_any2 (r := true) (s := false) (by decide +kernel) (by decide +kernel)) ?_
  tm_at "j"
  refine lcTrL (n := n) (Dd := fun i d => ds[i]? = some d) (fun _ => rfl) (SqL.of (g1 _ _ e)) p.2.1 (fun i x H' Q' hx g k => ?_) fun D H2 nD kj => ?_
  · have hi : i < ds.length := by rw [← p.1]; exact (List.getElem?_eq_some_iff.mp hx).1
    tm_at "j"
    refine ⟨x, ds[i], G i, rfl, ((p.2.2.1 i x _ hx (List.getElem?_eq_getElem hi)).mono g1).mono g, fun y H'' g2 t => ?_⟩
    exact k y H'' _ g2 (List.getElem?_eq_getElem hi) t
  · obtain ⟨ds', ys, el, ed, hd, t, ln⟩ := kj.list nD p.2.1
    have ed' : ds' = ds := by
      refine List.ext_getElem? fun i => ?_
      by_cases hi : i < ds'.length
      · rw [hd i _ (List.getElem?_eq_getElem hi), List.getElem?_eq_getElem hi]
      · rw [List.getElem?_eq_none (by omega), List.getElem?_eq_none (by rw [← p.1]; omega)]
    subst ed'
    have g2 : Same H1 H2 := by
      obtain ⟨_, _, _, _, _, _, g⟩ := kj
      exact g
    clear kj
    have ea := (g1.trans g2) _ _ e
    tm_at "j"
    refine q _ _ (g1.trans g2) ?_
    exact t.sub fun b z => ⟨g1.free z.1, z.2⟩
theorem atm_ty {H : Hp} {v : V} {d : PyData} (h : Atm v d) : ∃ t, TyX K H v (.type t) ∧ PySem.W.kitAny K (.type t) [.type "list", .type "tuple"] = some false ∧ PySem.W.kitOne K (.type t) (.type "list") = some false ∧ t ≠ "x" := by
  rcases h with ⟨rfl, rfl⟩ | ⟨b, rfl, rfl⟩ | ⟨i, rfl, rfl⟩ | ⟨x, rfl, rfl, sx⟩
  · exact ⟨_, ty_non, kit_any2 (r := false) (s := false) (by decide +kernel) (by decide +kernel), kit_ty (by decide +kernel), by decide⟩
  · exact ⟨_, ty_bl, kit_any2 (r := false) (s := false) (by decide +kernel) (by decide +kernel), kit_ty (by decide +kernel), by decide⟩
  · exact ⟨_, ty_int, kit_any2 (r := false) (s := false) (by decide +kernel) (by decide +kernel), kit_ty (by decide +kernel), by decide⟩
  · exact ⟨_, ty_str, kit_any2 (r := false) (s := false) (by decide +kernel) (by decide +kernel), kit_ty (by decide +kernel), by decide⟩
theorem pure_kept_A {n : Nat} (vs : List V) (H : Hp) (Q : VK) (E : XK) (h : spKeptA n vs H Q E) :
    t_law_kept_A K w (Ends.mk (fun _ H' => Q .non H') Q (fun _ _ => False) (fun _ _ => False)) (start ["_law_found", "_law_parts", "_law_one"] vs) H := by
  obtain ⟨v, d, rfl, t, q⟩ := h
  unfold t_law_kept_A
  tm_at "j"
  rename_i tp H1 n1 g1 e1
  obtain ⟨ty, h1, h2, h3, _⟩ := atm_ty (K := K) (H := H1) t
  refine l_isiLT e1 h1 h2 ?_
  tm_at "j"
  exact q _ g1
theorem pure_spoil_A {n : Nat} (vs : List V) (H : Hp) (Q : VK) (E : XK) (h : spSpoilA n vs H Q E) :
    t_law_spoil_A K w (Ends.mk (fun _ H' => Q .non H') Q (fun _ _ => False) (fun _ _ => False)) (start ["_law_found", "_law_part_here"] vs) H := by
  obtain ⟨v, d, rfl, t, q⟩ := h
  unfold t_law_spoil_A
  tm_at "j"
  rename_i tp H1 n1 g1 e1
  obtain ⟨ty, h1, h2, h3, _⟩ := atm_ty (K := K) (H := H1) t
  refine l_isiLT e1 h1 h2 ?_
  tm_at "j"
  refine l_isi (L2.ClsV.ty _) h1 h3 ?_
  tm_at "j"
  exact q _ g1
theorem off_turn {n : Nat} {H1 H' : Hp} {F : Addr → Prop} {G : Nat → Addr → Prop} {xs : List V} {ds : List PyData} {i : Nat} {x : V} {e : PyData} (p : Parts (Tr H1 n) F G xs ds) (hx : xs[i]? = some x) (he : ds[i]? = some e) (f : Off (fun a => ∃ j, j < i ∧ G j a) H1 H') : Tr H' n (G i) x e :=
  (p.2.2.1 i x e hx he).off f fun a z ⟨j, hj, y⟩ => p.2.2.2.2 i j a (by omega) z y
theorem pure_spoil_T {n : Nat} (vs : List V) (H : Hp) (Q : VK) (E : XK) (h : spSpoilT n vs H Q E) :
    t_law_spoil_T K w (spSpoil n) (Ends.mk (fun _ H' => Q .non H') Q (fun _ _ => False) (fun _ _ => False)) (start ["_law_found", "_law_part_here"] vs) H := by
  obtain ⟨a, xs, ds, F, G, rfl, e, p, q⟩ := h
  unfold t_law_spoil_T
  tm_at "j"
  rename_i tp H1 n1 g1 e1
  refine l_isiLT e1 (ty_tup (g1 _ _ e)) (b := true) (kit_any2 (r := false) (s := true) (by decide +kernel) (by decide +kernel)) ?_
  have p1 : Parts (Tr H1 n) F G xs ds := ⟨p.1, p.2.1, fun i x e hx he => (p.2.2.1 i x e hx he).mono g1, p.2.2.2⟩
  tm_at "j"
  refine forT (xs := xs) (fun i σ' H' => ∃ o, σ' = [some (.ref a), o] ∧ Off (fun b => ∃ j, j < i ∧ G j b) H1 H') ⟨_, rfl, Off.refl _⟩ (SqT.of (g1 _ _ e)) ?_ ?_ ?_
  · rintro i σ' H' hi ⟨o, _, f⟩
    exact SqT.of (f.tups _ _ (g1 _ _ e))
  · rintro i x σ' H' hx ⟨o, rfl, f⟩
    have hi : i < ds.length := by rw [← p.1]; exact (List.getElem?_eq_some_iff.mp hx).1
    tm_at "j"
    refine ⟨x, ds[i], G i, rfl, off_turn p1 hx (List.getElem?_eq_getElem hi) f, fun H2 f2 => ?_⟩
    tm_at "j"
    exact ⟨_, rfl, (f.sub fun b ⟨j, hj, z⟩ => ⟨j, by omega, z⟩).trans (f2.sub fun b z => ⟨i, by omega, z⟩)⟩
  · rintro σ' H' ⟨o, rfl, f⟩
    have ea := f.tups _ _ (g1 _ _ e)
    tm_at "j"
    exact q _ ((Off.same g1).trans (f.sub fun b ⟨j, _, z⟩ => p.2.2.2.1 j b z))
theorem pure_spoil_L {n : Nat} (vs : List V) (H : Hp) (Q : VK) (E : XK) (h : spSpoilL n vs H Q E) :
    t_law_spoil_L K w (spSpoil n) (Ends.mk (fun _ H' => Q .non H') Q (fun _ _ => False) (fun _ _ => False)) (start ["_law_found", "_law_part_here"] vs) H := by
  obtain ⟨a, xs, ds, F, G, rfl, e, fa, ng, p, q⟩ := h
  unfold t_law_spoil_L
  tm_at "j"
  rename_i tp H1 n1 g1 e1
  refine l_isiLT e1 (ty_lst (g1 _ _ e)) (b := true) (kit_any2 (r := true) (s := false) (by decide +kernel) (by decide +kernel)) ?_
  have p1 : Parts (Tr H1 n) F G xs ds := ⟨p.1, p.2.1, fun i x e hx he => (p.2.2.1 i x e hx he).mono g1, p.2.2.2⟩
  have st : ∀ {i H'}, Off (fun b => ∃ j, j < i ∧ G j b) H1 H' → H' a = some (.lst xs) := fun {i H'} f => f _ _ (g1 _ _ e) (.inl fun ⟨j, _, z⟩ => ng j z)
  tm_at "j"
  refine forL (xs := xs) (fun i σ' H' => ∃ o, σ' = [some (.ref a), o] ∧ Off (fun b => ∃ j, j < i ∧ G j b) H1 H') ⟨_, rfl, Off.refl _⟩ (SqL.of (g1 _ _ e)) ?_ ?_ ?_
  · rintro i σ' H' hi ⟨o, _, f⟩
    exact SqL.of (st f)
  · rintro i x σ' H' hx ⟨o, rfl, f⟩
    have hi : i < ds.length := by rw [← p.1]; exact (List.getElem?_eq_some_iff.mp hx).1
    tm_at "j"
    refine ⟨x, ds[i], G i, rfl, off_turn p1 hx (List.getElem?_eq_getElem hi) f, fun H2 f2 => ?_⟩
    tm_at "j"
    exact ⟨_, rfl, (f.sub fun b ⟨j, hj, z⟩ => ⟨j, by omega, z⟩).trans (f2.sub fun b z => ⟨i, by omega, z⟩)⟩
  · rintro σ' H' ⟨o, rfl, f⟩
    have ea := st f
    tm_at "j"
    refine l_append' ea (by have := p.2.1; omega) fun H2 b2 e2 => ?_
    tm_at "j"
    have f1 : Off F H H' := (Off.same g1).trans (f.sub fun b ⟨j, _, z⟩ => p.2.2.2.1 j b z)
    refine q _ (f1.trans fun b o ho hz => b2 b o (fun y => ?_) ho)
    subst y
    rcases hz with hz | ⟨zs, rfl⟩
    · exact hz fa
    · rw [ea] at ho; cases ho
end

/-! what the program's defs promise, of good conditions, codes, worths, chances -/
def spLaw (K : PySem.W.Frag) : Sp := fun vs H Q _ => ∃ (a : Addr) (ns : List Int), vs = [.ref a] ∧ SqL K H a (ns.map V.int) ∧ ns.length ≤ 63 ∧ ∀ H', Q (.bl true) H'
def spCoded : Sp := fun vs H Q _ => ∃ v c, ∃ f : Bool, vs = [v, vb f] ∧ CA H v c ∧ c.ok ∧ c.deep ≤ 10 ∧ c.looks ≤ 12 ∧ ∀ v' H', Same H H' → RN H H' v' (codeM c f) → Q v' H'
def spRunP (K : PySem.W.Frag) : Sp := fun vs H Q _ => ∃ p u, ∃ rows : List Row, ∃ ws : List Bool, vs = [.ref p, u] ∧ RA K H p rows ∧ GoodCode rows ∧ WA H u ws ∧ ∀ v' H', Same H H' → RTold H H' v' (runC rows ws) → Q v' H'
def spMeant : Sp := fun vs H Q _ => ∃ v u c ws, vs = [v, u] ∧ CA H v c ∧ c.ok ∧ c.deep ≤ 10 ∧ c.looks ≤ 12 ∧ WA H u ws ∧ ∀ v' H', Same H H' → Told H H' v' (ev ws c) → Q v' H'
def spTurned (K : PySem.W.Frag) : Sp := fun vs H Q _ => ∃ v c p, ∃ ts : List Bool, vs = [v, .ref p] ∧ CA H v c ∧ c.ok ∧ c.deep ≤ 10 ∧ c.looks ≤ 12 ∧ SqL K H p (ts.map vb) ∧ ts.length = c.pairs ∧ ∀ v' H', Same H H' → CA H' v' (exch c ts) → Q v' H'
def spLooksP : Sp := fun vs H Q _ => ∃ v u c ch, vs = [v, u] ∧ CA H v c ∧ c.ok ∧ c.deep ≤ 10 ∧ c.looks ≤ 12 ∧ ChA H u ch ∧ ∀ H', Same H H' → Q (.int (looksM ch c : Int)) H'
def spJumpsP : Sp := fun vs H Q _ => ∃ v u c ch, ∃ f : Bool, vs = [v, vb f, u] ∧ CA H v c ∧ c.ok ∧ c.deep ≤ 10 ∧ c.looks ≤ 12 ∧ ChA H u ch ∧ ∀ H', Same H H' → Q (.int (jumpsM ch f c : Int)) H'
def spParting : Sp := fun vs H Q _ => ∃ v u c d, vs = [v, u] ∧ CA H v c ∧ CA H u d ∧ Good c ∧ Good d ∧ ∀ v' H', Same H H' → PTold H H' v' (partM c d 256) c d → Q v' H'
def spAlikeP : Sp := fun vs H Q _ => ∃ v u c d, vs = [v, u] ∧ CA H v c ∧ CA H u d ∧ Good c ∧ Good d ∧ ∀ H', Same H H' → Q (.bl (partM c d 256).isNone) H'
def spLike : Sp := fun vs H Q _ => ∃ v u c d, vs = [v, u] ∧ CA H v c ∧ CA H u d ∧ Good c ∧ Good d ∧ ∀ H', Same H H' → Q (.bl (sameM c d 256)) H'
def spFL : Sp := fun vs H Q _ => ∃ v u c ch, vs = [v, u] ∧ CA H v c ∧ c.ok ∧ c.deep ≤ 10 ∧ c.looks ≤ 12 ∧ c.pairs ≤ 6 ∧ ChA H u ch ∧ ∀ v' H', Same H H' → FL H H' v' ch c → Q v' H'
def spFJ : Sp := fun vs H Q _ => ∃ v u c ch, vs = [v, u] ∧ CA H v c ∧ c.ok ∧ c.deep ≤ 10 ∧ c.looks ≤ 12 ∧ c.pairs ≤ 6 ∧ ChA H u ch ∧ ∀ v' H', Same H H' → FJ H H' v' ch c → Q v' H'

def spOut (n : Nat) : Sp := fun vs H Q _ => ∃ v u c ws, vs = [v, u] ∧ CA H v c ∧ c.deep < n ∧ n ≤ 12 ∧ c.ok ∧ WA H u ws ∧ ∀ v' H', Same H H' → Told H H' v' (ev ws c) → Q v' H'
theorem ev_small {ws : List Bool} {c : Cond} (h : c.deep < 12) : (ev ws c).2.length ≤ 4096 := by
  have h1 := ev_len ws c
  have h2 := looks_deep c
  have h3 := Nat.pow_le_pow_right (n := 2) (by decide) (show c.deep ≤ 12 by omega)
  omega
theorem Told.back {H H1 H2 : Hp} {v : V} {x : Bool × List Nat} (g : Same H H1) (h : Told H1 H2 v x) : Told H H2 v x := by
  obtain ⟨p, l, rfl, h0, hp, hq⟩ := h
  exact ⟨p, l, rfl, g.free h0, hp, hq⟩

/-! is_number_up_to -/
def spNum : Sp := fun vs H Q _ => ∃ i m : Int, vs = [.int i, .int m] ∧ ∀ H', Same H H' → Q (.bl (decide (0 ≤ i) && decide (i ≤ m))) H'
theorem pure_num {K : PySem.W.Frag} {w : World} (vs : List V) (H : Hp) (Q : VK) (E : XK) (h : spNum vs H Q E) :
    t_is_number_up_to K w (Ends.mk (fun _ H' => Q .non H') Q (fun _ _ => False) (fun _ _ => False)) (start ["value", "most"] vs) H := by
  obtain ⟨i, m, rfl, q⟩ := h
  unfold t_is_number_up_to
  tm_at "j"
  refine i_b (fun e => ?_) (fun e => ?_)
  · tm_at "j"
    have := q _ (Same.refl _)
    rw [e] at this
    exact this
  · tm_at "j"
    have := q _ (Same.refl _)
    rw [e] at this
    exact this
/-! has_form -/
def spForm : Sp := fun vs H Q _ => ∃ v c, vs = [v] ∧ CA H v c ∧ c.ok ∧ ∀ H', Same H H' → Q (.bl true) H'
theorem inV_wd (a : Bool) : inV (.str (wd a)) [.str "and", .str "or"] = true := by cases a <;> decide +kernel
theorem pure_form {K : PySem.W.Frag} {w : World} (vs : List V) (H : Hp) (Q : VK) (E : XK) (h : spForm vs H Q E) :
    t_has_form K w spNum (Ends.mk (fun _ H' => Q .non H') Q (fun _ _ => False) (fun _ _ => False)) (start ["condition", "word"] vs) H := by
  obtain ⟨v, c, rfl, hc, ho, q⟩ := h
  unfold t_has_form
  cases hc with
  | look e =>
    rename_i i
    tm_at "j"
    refine ⟨_, _, rfl, fun H1 g1 => ?_⟩
    have h8 : i < 8 := ho
    have e1 : (decide ((0 : Int) ≤ (i : Int)) && decide ((i : Int) ≤ 8 - 1)) = true := by
      rw [decide_eq_true (by omega), decide_eq_true (by omega)]; rfl
    rw [e1]
    exact q _ (by tm_at "hp")
  | not e hc =>
    tm_at "j"
    exact q _ (by tm_at "hp")
  | bin e h1 h2 =>
    rename_i a v1 v2 c d
    have e1 := inV_wd a
    tm_at "j"
    cases a <;> (
      tm_at "j"
      exact q _ (by tm_at "hp"))
def spCount (n : Nat) : Sp := fun vs H Q _ => ∃ v c, ∃ ar : Nat, vs = [v, .int (ar : Int)] ∧ CA H v c ∧ c.ok ∧ ar + c.deep ≤ 10 ∧ c.deep < n ∧ ∀ H', Same H H' → Q (.int (c.looks : Int)) H'
theorem pure_count {K : PySem.W.Frag} {w : World} {n : Nat} (vs : List V) (H : Hp) (Q : VK) (E : XK) (h : spCount (n + 1) vs H Q E) :
    t_count_looks K w spForm (spCount n) (Ends.mk (fun _ H' => Q .non H') Q (fun _ _ => False) (fun _ _ => False)) (start ["condition", "around", "side"] vs) H := by
  obtain ⟨v, c, ar, rfl, hc, ho, hd, hn, q⟩ := h
  unfold t_count_looks
  tm_at "j"
  refine ⟨_, _, rfl, hc, ho, fun H1 g1 => ?_⟩
  tm_at "j"
  cases hc with
  | look e =>
    tm_at "j"
    exact q _ (by tm_at "hp")
  | not e hc =>
    rename_i v1 c1
    have hd1 : ar + (c1.deep + 1) ≤ 10 := hd
    have hn1 : c1.deep + 1 < n + 1 := hn
    tm_at "j"
    refine lcT (xs := [v1]) (ys := [.int (c1.looks : Int)]) (fun _ => rfl) (by tm_at "hp") (by tm_at "dec") ⟨rfl, ?_⟩ ?_
    · intro i x y H' Q' hx hy g k
      rcases i with _ | i
      · obtain rfl : v1 = x := Option.some.inj hx
        obtain rfl := Option.some.inj hy
        tm_at "j"
        exact ⟨v1, c1, ar + 1, rfl, by tm_at "hp", ho, by omega, by omega, k⟩
      · cases hx
    · intro D H2 hD g e2
      refine l_sum (ns := [(c1.looks : Int)]) (by tm_at "hp") ?_
      rw [show [(c1.looks : Int)].sum = (c1.looks : Int) by simp]
      exact q _ (by tm_at "hp")
  | bin e h1 h2 =>
    rename_i a v1 v2 c1 c2
    have hd1 : ar + (max c1.deep c2.deep + 1) ≤ 10 := hd
    have hn1 : max c1.deep c2.deep + 1 < n + 1 := hn
    cases a <;> (
      tm_at "j"
      refine lcT (xs := [v1, v2]) (ys := [.int (c1.looks : Int), .int (c2.looks : Int)]) (fun _ => rfl) (by tm_at "hp") (by tm_at "dec") ⟨rfl, ?_⟩ ?_
      · intro i x y H' Q' hx hy g k
        rcases i with _ | _ | i
        · obtain rfl : v1 = x := Option.some.inj hx
          obtain rfl := Option.some.inj hy
          tm_at "j"
          exact ⟨v1, c1, ar + 1, rfl, by tm_at "hp", ho.1, by omega, by omega, k⟩
        · obtain rfl : v2 = x := Option.some.inj hx
          obtain rfl := Option.some.inj hy
          tm_at "j"
          exact ⟨v2, c2, ar + 1, rfl, by tm_at "hp", ho.2, by omega, by omega, k⟩
        · cases hx
      · intro D H2 hD g e2
        refine l_sum (ns := [(c1.looks : Int), (c2.looks : Int)]) (by tm_at "hp") ?_
        have e3 : [(c1.looks : Int), (c2.looks : Int)].sum = (((c1.looks + c2.looks : Nat)) : Int) := by simp
        rw [e3]
        exact q _ (by tm_at "hp"))
/-! check_condition -/
def spCheck : Sp := fun vs H Q _ => ∃ v c, vs = [v] ∧ CA H v c ∧ c.ok ∧ c.deep ≤ 10 ∧ c.looks ≤ 12 ∧ ∀ H', Same H H' → Q .non H'
theorem pure_check {K : PySem.W.Frag} {w : World} (vs : List V) (H : Hp) (Q : VK) (E : XK) (h : spCheck vs H Q E) :
    t_check_condition K w (spCount 11) (Ends.mk (fun _ H' => Q .non H') Q (fun _ _ => False) (fun _ _ => False)) (start ["condition"] vs) H := by
  obtain ⟨v, c, rfl, hc, ho, hd, hl, q⟩ := h
  unfold t_check_condition
  tm_at "j"
  refine ⟨v, c, 0, rfl, hc, ho, by omega, by omega, fun H1 g1 => ?_⟩
  tm_at "j"
  exact q _ (by tm_at "hp")

/-! are_numbers_up_to, are_bits: of a tuple -/
def spNumsT (K : PySem.W.Frag) : Sp := fun vs H Q _ => ∃ a, ∃ ns : List Int, ∃ n : Nat, ∃ m : Int, vs = [.ref a, .int (n : Int), .int m] ∧ SqT K H a (ns.map V.int) ∧ ns.length ≤ 100000 ∧ ∀ H', Same H H' → Q (.bl (decide (ns.length = n) && ns.all fun i => decide (0 ≤ i) && decide (i ≤ m))) H'
theorem pure_nums_T {K : PySem.W.Frag} {w : World} (vs : List V) (H : Hp) (Q : VK) (E : XK) (h : spNumsT K vs H Q E) :
    t_are_numbers_up_to_T K w spNum (Ends.mk (fun _ H' => Q .non H') Q (fun _ _ => False) (fun _ _ => False)) (start ["values", "many", "most", "value"] vs) H := by
  obtain ⟨a, ns, n, m, rfl, ha, h1, q⟩ := h
  unfold t_are_numbers_up_to_T
  tm_at "j"
  refine i_b (fun e => ?_) (fun e => ?_)
  · have hl : ns.length = n := by
      have := V.int.inj (of_decide_eq_true e)
      rw [List.length_map] at this
      omega
    rw [decide_eq_true hl, Bool.true_and] at q
    tm_at "j"
    refine lcT (xs := ns.map V.int) (ys := ns.map fun i => V.bl (decide (0 ≤ i) && decide (i ≤ m))) (fun _ => rfl) (by tm_at "hp") (by rw [List.length_map]; exact h1) ⟨by rw [List.length_map, List.length_map], ?_⟩ ?_
    · intro i x y H' Q' hx hy g k
      rw [List.getElem?_map] at hx hy
      cases hb : ns[i]? with
      | none => rw [hb] at hx; cases hx
      | some b =>
        rw [hb] at hx hy
        obtain rfl : V.int b = x := Option.some.inj hx
        obtain rfl : V.bl (decide (0 ≤ b) && decide (b ≤ m)) = y := Option.some.inj hy
        tm_at "j"
        exact ⟨b, m, rfl, k⟩
    · intro D H2 hD g e2
      refine l_all (bs := ns.map fun i => decide (0 ≤ i) && decide (i ≤ m)) (by rw [List.map_map]; exact SqL.of e2) ?_
      rw [List.all_map]
      exact q _ (by tm_at "hp")
  · have hl : ¬ ns.length = n := fun z => by
      refine of_decide_eq_false e (congrArg V.int ?_)
      rw [List.length_map]
      omega
    rw [decide_eq_false hl, Bool.false_and] at q
    exact q _ (by tm_at "hp")
def spBitsT (K : PySem.W.Frag) : Sp := fun vs H Q _ => ∃ a, ∃ ns : List Int, ∃ n : Nat, vs = [.ref a, .int (n : Int)] ∧ SqT K H a (ns.map V.int) ∧ ns.length ≤ 100000 ∧ ∀ H', Same H H' → Q (.bl (decide (ns.length = n) && ns.all fun i => decide (0 ≤ i) && decide (i ≤ 1))) H'
theorem pure_bits_T {K : PySem.W.Frag} {w : World} (vs : List V) (H : Hp) (Q : VK) (E : XK) (h : spBitsT K vs H Q E) :
    t_are_bits K w (spNumsT K) (Ends.mk (fun _ H' => Q .non H') Q (fun _ _ => False) (fun _ _ => False)) (start ["values", "many"] vs) H := by
  obtain ⟨a, ns, n, rfl, ha, h1, q⟩ := h
  unfold t_are_bits
  tm_at "j"
  exact ⟨a, ns, n, 1, rfl, ha, h1, q⟩
/-! are_numbers_up_to, are_bits: of a list -/
def spNumsL (K : PySem.W.Frag) : Sp := fun vs H Q _ => ∃ a, ∃ ns : List Int, ∃ n : Nat, ∃ m : Int, vs = [.ref a, .int (n : Int), .int m] ∧ SqL K H a (ns.map V.int) ∧ ns.length ≤ 100000 ∧ ∀ H', Same H H' → Q (.bl (decide (ns.length = n) && ns.all fun i => decide (0 ≤ i) && decide (i ≤ m))) H'
theorem pure_nums_L {K : PySem.W.Frag} {w : World} (vs : List V) (H : Hp) (Q : VK) (E : XK) (h : spNumsL K vs H Q E) :
    t_are_numbers_up_to_L K w spNum (Ends.mk (fun _ H' => Q .non H') Q (fun _ _ => False) (fun _ _ => False)) (start ["values", "many", "most", "value"] vs) H := by
  obtain ⟨a, ns, n, m, rfl, ha, h1, q⟩ := h
  unfold t_are_numbers_up_to_L
  tm_at "j"
  refine i_b (fun e => ?_) (fun e => ?_)
  · have hl : ns.length = n := by
      have := V.int.inj (of_decide_eq_true e)
      rw [List.length_map] at this
      omega
    rw [decide_eq_true hl, Bool.true_and] at q
    tm_at "j"
    refine lcL (xs := ns.map V.int) (ys := ns.map fun i => V.bl (decide (0 ≤ i) && decide (i ≤ m))) (fun _ => rfl) (by tm_at "hp") (by rw [List.length_map]; exact h1) ⟨by rw [List.length_map, List.length_map], ?_⟩ ?_
    · intro i x y H' Q' hx hy g k
      rw [List.getElem?_map] at hx hy
      cases hb : ns[i]? with
      | none => rw [hb] at hx; cases hx
      | some b =>
        rw [hb] at hx hy
        obtain rfl : V.int b = x := Option.some.inj hx
        obtain rfl : V.bl (decide (0 ≤ b) && decide (b ≤ m)) = y := Option.some.inj hy
        tm_at "j"
        exact ⟨b, m, rfl, k⟩
    · intro D H2 hD g e2
      refine l_all (bs := ns.map fun i => decide (0 ≤ i) && decide (i ≤ m)) (by rw [List.map_map]; exact SqL.of e2) ?_
      rw [List.all_map]
      exact q _ (by tm_at "hp")
  · have hl : ¬ ns.length = n := fun z => by
      refine of_decide_eq_false e (congrArg V.int ?_)
      rw [List.length_map]
      omega
    rw [decide_eq_false hl, Bool.false_and] at q
    exact q _ (by tm_at "hp")
def spBitsL (K : PySem.W.Frag) : Sp := fun vs H Q _ => ∃ a, ∃ ns : List Int, ∃ n : Nat, vs = [.ref a, .int (n : Int)] ∧ SqL K H a (ns.map V.int) ∧ ns.length ≤ 100000 ∧ ∀ H', Same H H' → Q (.bl (decide (ns.length = n) && ns.all fun i => decide (0 ≤ i) && decide (i ≤ 1))) H'
theorem pure_bits_L {K : PySem.W.Frag} {w : World} (vs : List V) (H : Hp) (Q : VK) (E : XK) (h : spBitsL K vs H Q E) :
    t_are_bits K w (spNumsL K) (Ends.mk (fun _ H' => Q .non H') Q (fun _ _ => False) (fun _ _ => False)) (start ["values", "many"] vs) H := by
  obtain ⟨a, ns, n, rfl, ha, h1, q⟩ := h
  unfold t_are_bits
  tm_at "j"
  exact ⟨a, ns, n, 1, rfl, ha, h1, q⟩
/-! check_worths, check_chances, check_first -/
theorem vb_ints (ws : List Bool) : ws.map vb = (ws.map bi).map V.int := by rw [List.map_map]; rfl
theorem vn_ints (ns : List Nat) : ns.map vn = (ns.map fun (k : Nat) => (k : Int)).map V.int := by rw [List.map_map]; rfl
theorem bits_good (ws : List Bool) (n : Nat) (h : ws.length = n) : (decide ((ws.map bi).length = n) && (ws.map bi).all fun i => decide (0 ≤ i) && decide (i ≤ 1)) = true := by
  rw [List.length_map, decide_eq_true h, Bool.true_and, List.all_map, List.all_eq_true]
  intro b _
  cases b <;> decide
def spWorths : Sp := fun vs H Q _ => ∃ v ws, vs = [v] ∧ WA H v ws ∧ ∀ H', Same H H' → Q .non H'
theorem pure_worths {K : PySem.W.Frag} {w : World} (vs : List V) (H : Hp) (Q : VK) (E : XK) (h : spWorths vs H Q E) :
    t_check_worths K w (spBitsT K) (Ends.mk (fun _ H' => Q .non H') Q (fun _ _ => False) (fun _ _ => False)) (start ["worths"] vs) H := by
  obtain ⟨v, ws, rfl, ⟨a, rfl, e, l⟩, q⟩ := h
  unfold t_check_worths
  tm_at "j"
  rw [vb_ints] at e
  refine ⟨a, ws.map bi, 8, rfl, SqT.of e, by rw [List.length_map]; omega, fun H1 g1 => ?_⟩
  rw [bits_good ws 8 l]
  tm_at "j"
  exact q _ (by tm_at "hp")
def spChances : Sp := fun vs H Q _ => ∃ v ch, vs = [v] ∧ ChA H v ch ∧ ∀ H', Same H H' → Q .non H'
theorem chances_good (ch : List Nat) (h : ch.length = 8) (hc : ∀ x ∈ ch, x ≤ 100) : (decide ((ch.map fun (k : Nat) => (k : Int)).length = 8) && (ch.map fun (k : Nat) => (k : Int)).all fun i => decide (0 ≤ i) && decide (i ≤ 100)) = true := by
  rw [List.length_map, decide_eq_true h, Bool.true_and, List.all_map, List.all_eq_true]
  intro k hk
  have := hc k hk
  show (decide ((0 : Int) ≤ (k : Int)) && decide ((k : Int) ≤ 100)) = true
  rw [decide_eq_true (by omega), decide_eq_true (by omega)]; rfl
theorem pure_chances {K : PySem.W.Frag} {w : World} (vs : List V) (H : Hp) (Q : VK) (E : XK) (h : spChances vs H Q E) :
    t_check_chances K w (spNumsT K) (Ends.mk (fun _ H' => Q .non H') Q (fun _ _ => False) (fun _ _ => False)) (start ["chances"] vs) H := by
  obtain ⟨v, ch, rfl, ⟨a, rfl, e, l, hc⟩, q⟩ := h
  unfold t_check_chances
  tm_at "j"
  rw [vn_ints] at e
  refine ⟨a, ch.map fun (k : Nat) => (k : Int), 8, 100, rfl, SqT.of e, by rw [List.length_map]; omega, fun H1 g1 => ?_⟩
  rw [chances_good ch l hc]
  tm_at "j"
  exact q _ (by tm_at "hp")
def spFirst : Sp := fun vs H Q _ => ∃ f : Bool, vs = [vb f] ∧ ∀ H', Same H H' → Q .non H'
theorem pure_first {K : PySem.W.Frag} {w : World} (vs : List V) (H : Hp) (Q : VK) (E : XK) (h : spFirst vs H Q E) :
    t_check_first K w spNum (Ends.mk (fun _ H' => Q .non H') Q (fun _ _ => False) (fun _ _ => False)) (start ["first"] vs) H := by
  obtain ⟨f, rfl, q⟩ := h
  unfold t_check_first
  tm_at "j"
  refine ⟨bi f, 1, rfl, fun H1 g1 => ?_⟩
  rw [show (decide (0 ≤ bi f) && decide (bi f ≤ 1)) = true by cases f <;> decide]
  tm_at "j"
  exact q _ (by tm_at "hp")
/-! meant -/
theorem pure_meant {K : PySem.W.Frag} {w : World} (vs : List V) (H : Hp) (Q : VK) (E : XK) (h : spMeant vs H Q E) :
    t_meant K w spCheck spWorths (spOut 11) (Ends.mk (fun _ H' => Q .non H') Q (fun _ _ => False) (fun _ _ => False)) (start ["condition", "worths"] vs) H := by
  obtain ⟨v, u, c, ws, rfl, hc, ho, hd, hk, hw, q⟩ := h
  unfold t_meant
  tm_at "j"
  refine ⟨v, c, rfl, hc, ho, hd, hk, fun H1 g1 => ?_⟩
  tm_at "j"
  refine ⟨u, ws, rfl, hw.mono g1, fun H2 g2 => ?_⟩
  tm_at "j"
  refine ⟨v, u, c, ws, rfl, (hc.mono g1).mono g2, by omega, by decide, ho, (hw.mono g1).mono g2, fun v' H3 g3 ht => ?_⟩
  exact q _ _ ((g1.trans g2).trans g3) (ht.back (g1.trans g2))

/-! all_bits -/
def spAllBits : Sp := fun vs H Q _ => ∃ n : Nat, vs = [.int (n : Int)] ∧ n ≤ 12 ∧ ∀ l ys H', Same H H' → H l = none → H' l = some (.lst ys) → BT H' ys (bitsM n) → Q (.ref l) H'
theorem bits_at {n i : Nat} {b : List Bool} (x : Bool) (h : (bitsM n)[i]? = some b) : (bitsM (n + 1))[2 * i + x.toNat]? = some (b ++ [x]) := by
  have := flat_at (fun b : List Bool => b ++ [false]) (fun b : List Bool => b ++ [true]) (bitsM n) i
  unfold bitsM
  cases x
  · rw [Bool.toNat_false, Nat.add_zero, this.1, h]; rfl
  · rw [Bool.toNat_true, this.2, h]; rfl
theorem pure_allbits {K : PySem.W.Frag} {w : World} (vs : List V) (H : Hp) (Q : VK) (E : XK) (h : spAllBits vs H Q E) :
    t_all_bits K w (Ends.mk (fun _ H' => Q .non H') Q (fun _ _ => False) (fun _ _ => False)) (start ["many", "told", "_", "bits", "bit"] vs) H := by
  obtain ⟨n, rfl, hn, q⟩ := h
  unfold t_all_bits
  tm_at "j"
  rename_i p1 H1 n1 g1 e1 l2 H2 n2 g2 e2
  unfold t_all_bits_1
  tm_at "j"
  refine forR (n := n) (by omega) (fun i σ' H' => ∃ l ys o2, σ' = [some (.int (n : Int)), some (.ref l), o2, none, none] ∧ Same H H' ∧ H l = none ∧ H' l = some (.lst ys) ∧ BT H' ys (bitsM i)) ⟨l2, _, _, rfl, g1.trans g2, g1.free n2, e2, rfl, ?_⟩ ?_ ?_
  · intro i y hy
    cases i with
    | zero =>
      obtain rfl := Option.some.inj hy
      exact ⟨[], rfl, p1, rfl, g2 _ _ e1⟩
    | succ i => cases hy
  · rintro i σ' H' hi ⟨l, ys, o2, rfl, g, nl, el, bt⟩
    have hlen : ys.length = 2 ^ i := by rw [bt.1, bitsM_len]
    have hp : 2 ^ i ≤ 2 ^ 12 := Nat.pow_le_pow_right (by decide) (by omega)
    tm_at "j"
    refine lc2_rel (fun m y H' => ∃ b, (bitsM (i + 1))[m]? = some b ∧ BTA H' y b) (fun m y H H' tp ⟨b, h1, h2⟩ => ⟨b, h1, h2.tups tp⟩) (SqL.of el) (by omega) ?_ ?_ ?_ ?_
    · exact fun _ => rfl
    · exact fun _ _ => rfl
    · intro k x b H3 Q3 hx g3 kk
      obtain ⟨b0, hb0, a0, rfl, ea0⟩ := (bt.mono g3).get hx
      tm_at "j"
      rename_i p4 H4 n4 g4 e4
      have hb12 : b0.length = i := bitsM_mem i b0 (List.mem_of_getElem? hb0)
      refine l_catA (g4 _ _ ea0) e4 (by rw [List.length_map]; omega) fun l5 H5 g5 e5 => ?_
      refine kk _ _ (g4.trans g5) ⟨b0 ++ [b], bits_at b hb0, l5, rfl, ?_⟩
      rw [List.map_append]
      exact e5
    · intro D zs H3 nD g3 eD hzs hE
      tm_at "j"
      refine ⟨D, zs, _, rfl, g.trans g3, g.free nD, eD, ?_, hE⟩
      rw [hzs, bitsM_len, hlen, Nat.pow_succ, Nat.mul_comm]
  · rintro σ' H' ⟨l, ys, o2, rfl, g, nl, el, bt⟩
    tm_at "j"
    exact q _ _ _ g nl el bt
theorem bits_wa {H : Hp} {ys : List V} {i : Nat} {y : V} (h : BT H ys (bitsM 8)) (e : ys[i]? = some y) : i < 256 ∧ WA H y (wts i) := by
  obtain ⟨b, hb, a, rfl, ea⟩ := h.get e
  rw [bits8] at hb
  rw [List.getElem?_map] at hb
  have hi : i < 256 := by
    have := (List.getElem?_eq_some_iff.mp e).1
    rw [h.1, bitsM_len] at this
    exact this
  rw [List.getElem?_range hi] at hb
  obtain rfl := Option.some.inj hb
  exact ⟨hi, a, rfl, ea, rfl⟩

/-! look_row, rows_of, code_of, coded -/
theorem at2 {a b : V} {f : Bool} : atI [a, b] (bi f) = some (if f then b else a) := by cases f <;> rfl
/-- one of the dues is the next row behind the part, the other one further down -/
def Due2 (e y no : Nat) : Prop := (y = e ∧ e < no) ∨ (no = e ∧ e < y)
theorem due2_lt {e m y no : Nat} (h : Due2 e y no) (hm : m < e) : m < y ∧ m < no := by
  rcases h with ⟨h1, h2⟩ | ⟨h1, h2⟩ <;> omega
def spLookRow : Sp := fun vs H Q _ => ∃ t k y no : Nat, ∃ d, vs = [vn t, .int (k : Int), .ref d] ∧ H d = some (.lst [vn no, vn y]) ∧ Due2 (k + 1) y no ∧
  ∀ v' H', Same H H' → TD H' v' (rowD (if y = k + 1 then .look t false no else .look t true y)) → Q v' H'
theorem pure_lookrow {K : PySem.W.Frag} {w : World} (vs : List V) (H : Hp) (Q : VK) (E : XK) (h : spLookRow vs H Q E) :
    t_look_row K w (Ends.mk (fun _ H' => Q .non H') Q (fun _ _ => False) (fun _ _ => False)) (start ["thing", "place", "dues", "when"] vs) H := by
  obtain ⟨t, k, y, no, d, rfl, ed, hd, q⟩ := h
  unfold t_look_row
  tm_at "j"
  rw [vnn]
  rcases hd with ⟨rfl, h2⟩ | ⟨rfl, h2⟩
  · rw [if_pos rfl] at q
    refine i_f (decide_eq_false (by omega)) ?_
    tm_at "j"
    rename_i p2 H2 n2 g2 e2
    exact q _ _ g2 (row_look_mk (w := false) e2)
  · rw [if_neg (by omega)] at q
    refine i_t (decide_eq_true rfl) ?_
    tm_at "j"
    rename_i p2 H2 n2 g2 e2
    exact q _ _ g2 (row_look_mk (w := true) e2)
def spRowsOf (n : Nat) : Sp := fun vs H Q _ => ∃ v c, ∃ s y no : Nat, ∃ d, vs = [v, .int (s : Int), .ref d] ∧ CA H v c ∧ c.ok ∧ c.deep < n ∧ n ≤ 11 ∧ c.looks ≤ 2000 ∧ H d = some (.lst [vn no, vn y]) ∧ Due2 (s + c.looks) y no ∧
  ∀ v' H', Same H H' → RN H H' v' (rowsM s (dueM c s y no)) → Q v' H'
theorem pure_rowsof {K : PySem.W.Frag} {w : World} {aG : Addr} (k1 : KDct K w aG "and" (.int 1)) (k0 : KDct K w aG "or" (.int 0)) {n : Nat} (vs : List V) (H : Hp) (Q : VK) (E : XK) (h : spRowsOf (n + 1) vs H Q E) :
    t_rows_of K w aG spLookRow (spRowsOf n) (spCount 11) (Ends.mk (fun _ H' => Q .non H') Q (fun _ _ => False) (fun _ _ => False)) (start ["condition", "start", "dues", "word", "middle", "first_dues"] vs) H := by
  obtain ⟨v, c, s, y, no, d, rfl, hc, ho, hn, n11, hk, ed, hd, q⟩ := h
  unfold t_rows_of
  cases hc with
  | look e =>
    rename_i i
    tm_at "j"
    refine ⟨i, s, y, no, d, rfl, ed, hd, fun v1 H1 g1 t1 => ?_⟩
    tm_at "j"
    rename_i p2 H2 n2 g2 e2
    exact q _ _ (g1.trans g2) ⟨p2, _, rfl, g1.free n2, e2, .cons (t1.mono g2) .nil⟩
  | not e hc =>
    rename_i v1 c1
    have hn1 : c1.deep + 1 < n + 1 := hn
    tm_at "j"
    rename_i p2 H2 n2 g2 e2
    refine ⟨v1, c1, s, no, y, p2, rfl, hc.mono g2, ho, by omega, by omega, hk, e2, hd.symm, fun v' H' g h => q v' H' (g2.trans g) (h.back g2)⟩
  | bin e h1 h2 =>
    rename_i a v1 v2 c1 c2
    have hn1 : max c1.deep c2.deep + 1 < n + 1 := hn
    have hk1 : c1.looks + c2.looks ≤ 2000 := hk
    have hd : Due2 (s + (c1.looks + c2.looks)) y no := hd
    have hl1 : 1 ≤ c1.looks := by have := pairs_looks c1; omega
    have hl2 : 1 ≤ c2.looks := by have := pairs_looks c2; omega
    have hdd : Due2 (s + c1.looks + c2.looks) y no := by rw [Nat.add_assoc]; exact hd
    unfold dueM at q
    rw [rowsM_app] at q
    have hw : decide (V.str (wd a) = V.str "not") = false := by cases a <;> decide +kernel
    have hlk : decide (V.str (wd a) = V.str "look") = false := by cases a <;> decide +kernel
    tm_at "j"
    rw [hlk]
    tm_at "j"
    rw [hw]
    tm_at "j"
    refine ⟨v1, c1, 0, rfl, h1, ho.1, by omega, by omega, fun H1 g1 => ?_⟩
    refine l_I0 ?_
    rw [show V.int ((s : Int) + (c1.looks : Int)) = V.int ((s + c1.looks : Nat) : Int) from congrArg V.int (by omega)]
    have ed1 := g1 _ _ ed
    tm_at "j"
    rename_i p2 H2 n2 g2 e2
    have nd : d ≠ p2 := ne_of_none ed1 n2
    cases a
    · tm_at "j"
      refine l_setL' (K := K) e2 rfl fun H3 g3 e3 => ?_
      have tp := g3.tups e2
      have g13 : Same H1 H3 := sm_but g2 g3 n2
      rw [if_neg Bool.false_ne_true, dueM_len] at q
      tm_at "j"
      refine ⟨v1, c1, s, y, s + c1.looks, p2, rfl, (h1.mono g1).mono g13, ho.1, by omega, by omega, by omega, e3, Or.inr ⟨rfl, (due2_lt hd (show s + c1.looks < s + (c1.looks + c2.looks) by omega)).1⟩, fun v4 H4 g4 r4 => ?_⟩
      obtain ⟨l4, us4, rfl, n4, e4, t4⟩ := r4
      tm_at "j"
      refine ⟨v2, c2, s + c1.looks, y, no, d, rfl, ((h2.mono g1).mono g13).mono g4, ho.2, by omega, by omega, by omega, g4 _ _ (g13 _ _ ed1), hdd, fun v5 H5 g5 r5 => ?_⟩
      obtain ⟨l5, us5, rfl, n5, e5, t5⟩ := r5
      have z4 : us4.length = c1.looks := by rw [t4.len, List.length_map, rowsM_len, dueM_len]
      have z5 : us5.length = c2.looks := by rw [t5.len, List.length_map, rowsM_len, dueM_len]
      refine l_cat (g5 _ _ e4) e5 (by omega) fun p6 H6 n6 g6 e6 => ?_
      refine q _ _ ((((g1.trans g13).trans g4).trans g5).trans g6) ⟨p6, _, rfl, g1.free (g13.free (g4.free (g5.free n6))), e6, ?_⟩
      rw [List.map_append]
      exact ((t4.mono g5).mono g6).append (t5.mono g6)
    · tm_at "j"
      refine l_setL' (K := K) e2 rfl fun H3 g3 e3 => ?_
      have tp := g3.tups e2
      have g13 : Same H1 H3 := sm_but g2 g3 n2
      rw [if_pos rfl, dueM_len] at q
      tm_at "j"
      refine ⟨v1, c1, s, s + c1.looks, no, p2, rfl, (h1.mono g1).mono g13, ho.1, by omega, by omega, by omega, e3, Or.inl ⟨rfl, (due2_lt hd (show s + c1.looks < s + (c1.looks + c2.looks) by omega)).2⟩, fun v4 H4 g4 r4 => ?_⟩
      obtain ⟨l4, us4, rfl, n4, e4, t4⟩ := r4
      tm_at "j"
      refine ⟨v2, c2, s + c1.looks, y, no, d, rfl, ((h2.mono g1).mono g13).mono g4, ho.2, by omega, by omega, by omega, g4 _ _ (g13 _ _ ed1), hdd, fun v5 H5 g5 r5 => ?_⟩
      obtain ⟨l5, us5, rfl, n5, e5, t5⟩ := r5
      have z4 : us4.length = c1.looks := by rw [t4.len, List.length_map, rowsM_len, dueM_len]
      have z5 : us5.length = c2.looks := by rw [t5.len, List.length_map, rowsM_len, dueM_len]
      refine l_cat (g5 _ _ e4) e5 (by omega) fun p6 H6 n6 g6 e6 => ?_
      refine q _ _ ((((g1.trans g13).trans g4).trans g5).trans g6) ⟨p6, _, rfl, g1.free (g13.free (g4.free (g5.free n6))), e6, ?_⟩
      rw [List.map_append]
      exact ((t4.mono g5).mono g6).append (t5.mono g6)
def spCodeOf : Sp := fun vs H Q _ => ∃ v c, ∃ f : Bool, vs = [v, vb f] ∧ CA H v c ∧ c.ok ∧ c.deep ≤ 10 ∧ ∀ v' H', Same H H' → RN H H' v' (codeM c f) → Q v' H'
theorem code_tail {K : PySem.W.Frag} {w : World} {H H' : Hp} {v : V} {c : Cond} {f : Bool} {d : Addr} {Q : VK} {nx bk ct : St → Hp → Prop} (hk : c.looks ≤ 2000) (ho : c.ok) (hd : c.deep ≤ 10) (hc : CA H' v c) (gs : Same H H') (ed : H' d = some (.lst [vn (if f then c.looks + 1 else c.looks), vn (if f then c.looks else c.looks + 1)])) (q : ∀ v' H', Same H H' → RN H H' v' (codeM c f) → Q v' H') :
    tRet (tOp (rCat) (tCall (spRowsOf 11) [] E0 (tCons (tVar 0) (tCons (tC (.int 0)) (tCons (tVar 3) (tNil))))) (tLst (tCons (tTup (tCons (tC (.str "end")) (tCons (tVar 1) (tNil)))) (tCons (tTup (tCons (tC (.str "end")) (tCons (tOp (rI0 fun i j => .int (i - j)) (tC (.int 1)) (tVar 1)) (tNil)))) (tNil)))))
      (Ends.mk nx Q bk ct) [some v, some (vb f), some (.int (c.looks : Int)), some (.ref d)] H' := by
  tm_at "j"
  refine ⟨v, c, 0, if f then c.looks else c.looks + 1, if f then c.looks + 1 else c.looks, d, rfl, hc, ho, by omega, by omega, hk, ed, ?_, fun v1 H1 g1 r1 => ?_⟩
  · rw [Nat.zero_add]
    cases f
    · exact Or.inr ⟨rfl, Nat.lt_succ_self _⟩
    · exact Or.inl ⟨rfl, Nat.lt_succ_self _⟩
  obtain ⟨l1, us, rfl, n1, e1, t1⟩ := r1
  have z1 : us.length = c.looks := by rw [t1.len, List.length_map, rowsM_len, dueM_len]
  tm_at "j"
  rw [show vb f = V.int (bi f) from rfl]
  tm_at "j"
  rename_i p5 H5 np5 g5 e5 p6 H6 np6 g6 e6 p7 H7 np7 g7 e7
  refine l_cat (by tm_at "hp") (by tm_at "hp") (by rw [z1]; show c.looks + 2 ≤ 100000; omega) fun p8 H8 np8 g8 e8 => ?_
  have g58 := ((g5.trans g6).trans g7).trans g8
  refine q _ _ ((gs.trans g1).trans g58) ⟨p8, _, rfl, gs.free (g1.free (g5.free (g6.free (g7.free np8)))), e8, ?_⟩
  unfold codeM
  rw [List.map_append]
  refine (t1.mono g58).append (.cons (row_fin_mk (g8 _ _ (g7 _ _ (g6 _ _ e5)))) (.cons (row_fin_mk ?_) .nil))
  have e6' := g8 _ _ (g7 _ _ e6)
  rw [show V.int (1 - bi f) = vb (!f) from congrArg V.int (bi_not f)] at e6'
  exact e6'
theorem pure_codeof {K : PySem.W.Frag} {w : World} (vs : List V) (H : Hp) (Q : VK) (E : XK) (h : spCodeOf vs H Q E) :
    t_code_of K w (spCount 11) (spRowsOf 11) (Ends.mk (fun _ H' => Q .non H') Q (fun _ _ => False) (fun _ _ => False)) (start ["condition", "first", "behind", "dues"] vs) H := by
  obtain ⟨v, c, f, rfl, hc, ho, hd, q⟩ := h
  have hk : c.looks ≤ 2000 := by
    have h1 := looks_deep c
    have h2 := Nat.pow_le_pow_right (n := 2) (by decide) hd
    omega
  unfold t_code_of
  tm_at "j"
  refine ⟨v, c, 0, rfl, hc, ho, by omega, by omega, fun H1 g1 => ?_⟩
  tm_at "j"
  rename_i p2 H2 n2 g2 e2
  have el : V.int ((c.looks : Int) + 1) = vn (c.looks + 1) := congrArg V.int (by omega)
  cases f
  · tm_at "j"
    rw [show vb false = V.int 0 from rfl]
    tm_at "j"
    refine l_setL' (K := K) e2 rfl fun H3 g3 e3 => ?_
    rw [el] at e3
    have g13 : Same H1 H3 := sm_but g2 g3 n2
    exact code_tail (K := K) (w := w) (f := false) hk ho hd ((hc.mono g1).mono g13) (g1.trans g13) e3 q
  · tm_at "j"
    rw [show vb true = V.int 1 from rfl]
    tm_at "j"
    refine l_setL' (K := K) e2 rfl fun H3 g3 e3 => ?_
    rw [el] at e3
    have g13 : Same H1 H3 := sm_but g2 g3 n2
    exact code_tail (K := K) (w := w) (f := true) hk ho hd ((hc.mono g1).mono g13) (g1.trans g13) e3 q
theorem pure_coded {K : PySem.W.Frag} {w : World} (vs : List V) (H : Hp) (Q : VK) (E : XK) (h : spCoded vs H Q E) :
    t_coded K w spCheck spFirst spCodeOf (Ends.mk (fun _ H' => Q .non H') Q (fun _ _ => False) (fun _ _ => False)) (start ["condition", "first"] vs) H := by
  obtain ⟨v, c, f, rfl, hc, ho, hd, hk, q⟩ := h
  unfold t_coded
  tm_at "j"
  refine ⟨v, c, rfl, hc, ho, hd, hk, fun H1 g1 => ?_⟩
  tm_at "j"
  refine ⟨f, rfl, fun H2 g2 => ?_⟩
  tm_at "j"
  exact ⟨v, c, f, rfl, (hc.mono g1).mono g2, ho, hd, fun v' H' g r => q v' H' ((g1.trans g2).trans g) (r.back (g1.trans g2))⟩

/-! _law_run -/
def spRun (K : PySem.W.Frag) : Sp := fun vs H Q _ => ∃ p u, ∃ rows : List Row, ∃ ws : List Bool, vs = [.ref p, u] ∧ RA K H p rows ∧ okRows rows ∧ WA H u ws ∧ ∀ v' H', Same H H' → RTold H H' v' (runC rows ws) → Q v' H'
theorem len4 {n : Nat} : decide (V.int (n : Int) = V.int 4) = decide (n = 4) := by
  by_cases h : n = 4
  · rw [h]; rfl
  · rw [decide_eq_false h, decide_eq_false]
    intro e
    exact h (by have := V.int.inj e; omega)
theorem pure_run {K : PySem.W.Frag} {w : World} (vs : List V) (H : Hp) (Q : VK) (E : XK) (h : spRun K vs H Q E) :
    t_law_run K w (Ends.mk (fun _ H' => Q .non H') Q (fun _ _ => False) (fun _ _ => False)) (start ["_law_rows", "_law_worths_here", "_law_at", "_law_seen", "_law_leaps", "_law_goes"] vs) H := by
  obtain ⟨p, u, rows, ws, rfl, hr, ok, hw, q⟩ := h
  unfold t_law_run
  tm_at "j"
  rename_i l H1 nl g1 e1
  have ok0 := ok
  obtain ⟨l2, l1000, okr⟩ := ok0
  refine l_whileN (fun m σ' H' => ∃ (i : Nat) (sn : List Nat) (lp : Nat) (o : Option V), σ' = [some (.ref p), some u, some (.int (i : Int)), some (.ref l), some (.int (lp : Int)), o] ∧ i < rows.length ∧ m = rows.length - i ∧ Same H H' ∧ H' l = some (.lst (sn.map vn)) ∧ sn.length ≤ i ∧
    runC rows ws = ((runM rows ws (rows.length - i) i).1, sn ++ (runM rows ws (rows.length - i) i).2.1, lp + (runM rows ws (rows.length - i) i).2.2)) rows.length ⟨0, [], 0, none, rfl, by omega, rfl, g1, e1, Nat.le_refl _, by show runC rows ws = (_, _, 0 + _); rw [Nat.zero_add]; rfl⟩ ?_
  rintro m σ' H' ⟨i, sn, lp, o, rfl, hi, rfl, g, el, hs, inv⟩
  have hri : rows[i]? = some (rows[i]'hi) := List.getElem?_eq_getElem hi
  obtain ⟨rs, v, hl, hat, hv⟩ := (hr.mono g).get hri
  obtain ⟨ua, rfl, hu, hu8⟩ := hw.mono g
  tm_at "j"
  refine l_ixL hl hat ?_
  cases er : rows[i]'hi with
  | fin b =>
    rw [er] at hv hri
    obtain ⟨a, rfl, ha⟩ := row_fin hv
    tm_at "j"
    refine wb (fun e => absurd (show false = true from e) (by decide)) (fun _ => ?_)
    tm_at "j"
    refine l_ixL hl hat ?_
    tm_at "j"
    rename_i p2 H2 np2 g2 e2
    rw [inv, runM_fin hri] at q
    exact q _ _ (g.trans g2) (rtold_mk e2 (by show H2 l = some (.lst ((sn ++ []).map vn)); rw [List.append_nil]; exact g2 _ _ el) nl)
  | look t w to =>
    rw [er] at hv hri
    obtain ⟨t8, h5, h6, h7⟩ := okr i _ hri
    obtain ⟨a, rfl, ha⟩ := row_look hv
    tm_at "j"
    refine wb (fun _ => ?_) (fun e => absurd (show true = false from e) (by decide))
    tm_at "j"
    refine l_ixL hl hat ?_
    tm_at "j"
    have hlen : (sn.map vn).length = sn.length := List.length_map _
    refine l_append' el (by omega) fun H2 g2 e2 => ?_
    have gs2 : Same H H2 := sm_but g g2 nl
    have e2' : H2 l = some (.lst ((sn ++ [t]).map vn)) := by rw [List.map_append]; exact e2
    obtain ⟨rs2, v2, hl2, hat2, hv2⟩ := (hr.mono gs2).get hri
    obtain ⟨a2, rfl, ha2⟩ := row_look hv2
    obtain ⟨ua2, eu, hu2, hu28⟩ := hw.mono gs2
    obtain rfl : ua = ua2 := V.ref.inj eu
    tm_at "j"
    refine l_ixL hl2 hat2 ?_
    tm_at "j"
    refine l_ixT (by tm_at "hp") (at_map (d := false) (show t < ws.length by omega)) ?_
    tm_at "j"
    refine l_ixL hl2 hat2 ?_
    tm_at "j"
    rw [vbb]
    tm_at "j"
    have look := runM_look (ws := ws) ok hri
    rw [look] at inv
    refine i_b (fun eg => ?_) (fun eg => ?_)
    · rw [eg] at inv
      tm_at "j"
      refine l_ixL hl2 hat2 ?_
      tm_at "j"
      refine ⟨rows.length - to, by omega, to, sn ++ [t], lp + 1, some (.bl (ws.getD t false == w)), ?_, h7, rfl, gs2, e2', by rw [List.length_append]; show sn.length + 1 ≤ to; omega, ?_⟩
      · rw [eg]; rfl
      · rw [inv, List.append_assoc, Nat.add_assoc]; rfl
    · rw [eg] at inv
      tm_at "j"
      refine ⟨rows.length - (i + 1), by omega, i + 1, sn ++ [t], lp, some (.bl (ws.getD t false == w)), ?_, by omega, rfl, gs2, e2', by rw [List.length_append]; show sn.length + 1 ≤ i + 1; omega, ?_⟩
      · rw [eg]
        show _ = [some (V.ref p), _, some (V.int ((i + 1 : Nat) : Int)), _, _, _]
        rw [show ((i + 1 : Nat) : Int) = (i : Int) + 1 by omega, show (lp : Int) = (lp : Int) + 0 by omega]; rfl
      · simp only [Bool.false_eq_true, if_false, Nat.zero_add] at inv
        rw [inv, List.append_assoc]; rfl

/-! outcome_of_rows -/
theorem wend : decide (V.str "end" = V.str "look") = false := by decide +kernel
theorem pure_orows {K : PySem.W.Frag} {w : World} (vs : List V) (H : Hp) (Q : VK) (E : XK) (h : spRun K vs H Q E) :
    t_outcome_of_rows K w (Ends.mk (fun _ H' => Q .non H') Q (fun _ _ => False) (fun _ _ => False)) (start ["rows", "worths", "at", "looks", "jumps", "_", "thing", "when", "to"] vs) H := by
  obtain ⟨p, u, rows, ws, rfl, hr, ok, hw, q⟩ := h
  unfold t_outcome_of_rows
  tm_at "j"
  rename_i l H1 nl g1 e1
  unfold t_outcome_of_rows_1
  have ok0 := ok
  obtain ⟨l2, l1000, okr⟩ := ok0
  refine l_whileN (fun m σ' H' => ∃ (i : Nat) (sn : List Nat) (lp : Nat) (o5 o6 o7 o8 : Option V), σ' = [some (.ref p), some u, some (.int (i : Int)), some (.ref l), some (.int (lp : Int)), o5, o6, o7, o8] ∧ i < rows.length ∧ m = rows.length - i ∧ Same H H' ∧ H' l = some (.lst (sn.map vn)) ∧ sn.length ≤ i ∧
    runC rows ws = ((runM rows ws (rows.length - i) i).1, sn ++ (runM rows ws (rows.length - i) i).2.1, lp + (runM rows ws (rows.length - i) i).2.2)) rows.length ⟨0, [], 0, none, none, none, none, rfl, by omega, rfl, g1, e1, Nat.le_refl _, by show runC rows ws = (_, _, 0 + _); rw [Nat.zero_add]; rfl⟩ ?_
  rintro m σ' H' ⟨i, sn, lp, o5, o6, o7, o8, rfl, hi, rfl, g, el, hs, inv⟩
  have hri : rows[i]? = some (rows[i]'hi) := List.getElem?_eq_getElem hi
  obtain ⟨rs, v, hl, hat, hv⟩ := (hr.mono g).get hri
  obtain ⟨ua, rfl, hu, hu8⟩ := hw.mono g
  tm_at "j"
  refine l_ixL hl hat ?_
  cases er : rows[i]'hi with
  | fin b =>
    rw [er] at hv hri
    obtain ⟨a, rfl, ha⟩ := row_fin hv
    tm_at "j"
    rw [wend]
    refine wb (fun e => absurd e (by decide)) (fun _ => ?_)
    tm_at "j"
    refine l_ixL hl hat ?_
    tm_at "j"
    rename_i p2 H2 np2 g2 e2
    rw [inv, runM_fin hri] at q
    exact q _ _ (g.trans g2) (rtold_mk e2 (by show H2 l = some (.lst ((sn ++ []).map vn)); rw [List.append_nil]; exact g2 _ _ el) nl)
  | look t w to =>
    rw [er] at hv hri
    obtain ⟨t8, h5, h6, h7⟩ := okr i _ hri
    obtain ⟨a, rfl, ha⟩ := row_look hv
    tm_at "j"
    refine wb (fun _ => ?_) (fun e => absurd e (by decide +kernel))
    tm_at "j"
    refine l_ixL hl hat ?_
    tm_at "j"
    have hlen : (sn.map vn).length = sn.length := List.length_map _
    refine l_append' el (by omega) fun H2 g2 e2 => ?_
    have gs2 : Same H H2 := sm_but g g2 nl
    have e2' : H2 l = some (.lst ((sn ++ [t]).map vn)) := by rw [List.map_append]; exact e2
    obtain ⟨ua2, eu, hu2, hu28⟩ := hw.mono gs2
    obtain rfl : ua = ua2 := V.ref.inj eu
    tm_at "j"
    refine l_ixT (by tm_at "hp") (at_map (d := false) (show t < ws.length by omega)) ?_
    tm_at "j"
    rw [vbb]
    have look := runM_look (ws := ws) ok hri
    rw [look] at inv
    refine i_b (fun eg => ?_) (fun eg => ?_)
    · rw [eg] at inv
      tm_at "j"
      refine ⟨rows.length - to, by omega, to, sn ++ [t], lp + 1, _, _, _, _, rfl, h7, rfl, gs2, e2', by rw [List.length_append]; show sn.length + 1 ≤ to; omega, ?_⟩
      rw [inv, List.append_assoc, Nat.add_assoc]; rfl
    · rw [eg] at inv
      tm_at "j"
      refine ⟨rows.length - (i + 1), by omega, i + 1, sn ++ [t], lp, _, _, _, _, rfl, by omega, rfl, gs2, e2', by rw [List.length_append]; show sn.length + 1 ≤ i + 1; omega, ?_⟩
      simp only [Bool.false_eq_true, if_false, Nat.zero_add] at inv
      rw [inv, List.append_assoc]; rfl
/-! is_look, is_end, can_be, check_code, run: of good codes -/
def spIsLook : Sp := fun vs H Q _ => ∃ v, ∃ t to i last : Nat, ∃ wv : Bool, vs = [v, .int (i : Int), .int (last : Int)] ∧ TD H v (rowD (.look t wv to)) ∧ t < 8 ∧ i < to ∧ to ≤ last ∧ ∀ H', Same H H' → Q (.bl true) H'
theorem pure_islook {K : PySem.W.Frag} {w : World} (vs : List V) (H : Hp) (Q : VK) (E : XK) (h : spIsLook vs H Q E) :
    t_is_look K w spNum (Ends.mk (fun _ H' => Q .non H') Q (fun _ _ => False) (fun _ _ => False)) (start ["row", "place", "last", "_", "thing", "when", "to"] vs) H := by
  obtain ⟨v, t, to, i, last, wv, rfl, tv, h8, h1, h2, q⟩ := h
  obtain ⟨a, rfl, ha⟩ := row_look tv
  unfold t_is_look
  tm_at "j"
  refine ⟨(t : Int), 7, rfl, fun H1 g1 => ?_⟩
  rw [show (decide ((0 : Int) ≤ (t : Int)) && decide ((t : Int) ≤ 7)) = true by rw [decide_eq_true (by omega), decide_eq_true (by omega)]; rfl]
  tm_at "j"
  refine ⟨bi wv, 1, rfl, fun H2 g2 => ?_⟩
  rw [show (decide (0 ≤ bi wv) && decide (bi wv ≤ 1)) = true by cases wv <;> decide]
  tm_at "j"
  refine ⟨(to : Int), (last : Int), rfl, fun H3 g3 => ?_⟩
  rw [show (decide ((0 : Int) ≤ (to : Int)) && decide ((to : Int) ≤ (last : Int))) = true by rw [decide_eq_true (by omega), decide_eq_true (by omega)]; rfl]
  tm_at "j"
  rw [show vn to = V.int (to : Int) from rfl]
  tm_at "j"
  have := q _ ((g1.trans g2).trans g3)
  rw [decide_eq_true (show (i : Int) < (to : Int) by omega)]
  exact this
def spIsEnd : Sp := fun vs H Q _ => ∃ v, ∃ b : Bool, vs = [v] ∧ TD H v (rowD (.fin b)) ∧ ∀ H', Same H H' → Q (.bl true) H'
theorem pure_isend {K : PySem.W.Frag} {w : World} (vs : List V) (H : Hp) (Q : VK) (E : XK) (h : spIsEnd vs H Q E) :
    t_is_end K w spNum (Ends.mk (fun _ H' => Q .non H') Q (fun _ _ => False) (fun _ _ => False)) (start ["row"] vs) H := by
  obtain ⟨v, b, rfl, tv, q⟩ := h
  obtain ⟨a, rfl, ha⟩ := row_fin tv
  unfold t_is_end
  tm_at "j"
  refine ⟨bi b, 1, rfl, fun H1 g1 => ?_⟩
  rw [show (decide (0 ≤ bi b) && decide (bi b ≤ 1)) = true by cases b <;> decide]
  exact q _ (by tm_at "hp")
def spCanBe (K : PySem.W.Frag) : Sp := fun vs H Q _ => ∃ p, ∃ rows : List Row, ∃ i : Nat, vs = [.ref p, .int (i : Int)] ∧ RA K H p rows ∧ GoodCode rows ∧ i < rows.length ∧ ∀ H', Same H H' → Q (.bl true) H'
theorem pure_canbe {K : PySem.W.Frag} {w : World} (vs : List V) (H : Hp) (Q : VK) (E : XK) (h : spCanBe K vs H Q E) :
    t_can_be K w spIsLook spIsEnd (Ends.mk (fun _ H' => Q .non H') Q (fun _ _ => False) (fun _ _ => False)) (start ["rows", "place", "last", "row"] vs) H := by
  obtain ⟨p, rows, i, rfl, hr, ⟨ls, f, rfl, hl, hls⟩, hi, q⟩ := h
  have hlen : (ls ++ [Row.fin f, Row.fin (!f)]).length = ls.length + 2 := by rw [List.length_append]; rfl
  rw [hlen] at hi
  obtain ⟨rs, h1, h2⟩ := id hr
  have hrs : rs.length = ls.length + 2 := by rw [h2.len, List.length_map, hlen]
  have e0 : (ls ++ [Row.fin f, Row.fin (!f)])[ls.length]? = some (.fin f) := by rw [List.getElem?_append_right (Nat.le_refl _), Nat.sub_self]; rfl
  have e1 : (ls ++ [Row.fin f, Row.fin (!f)])[ls.length + 1]? = some (.fin (!f)) := by rw [List.getElem?_append_right (by omega), Nat.add_sub_cancel_left]; rfl
  unfold t_can_be
  tm_at "j"
  rw [hrs, show V.int (((ls.length + 2 : Nat) : Int) - 1) = V.int ((ls.length + 1 : Nat) : Int) from congrArg V.int (by omega)]
  by_cases hlt : i < ls.length
  · have ei : (ls ++ [Row.fin f, Row.fin (!f)])[i]? = some (ls[i]'hlt) := by rw [List.getElem?_append_left hlt, List.getElem?_eq_getElem hlt]
    obtain ⟨t, wv, to, er, t8, hto, hto2⟩ := hls i _ (List.getElem?_eq_getElem hlt)
    rw [er] at ei
    obtain ⟨rs2, v, hq, hat, tv⟩ := hr.get ei
    refine l_ixL hq hat ?_
    tm_at "j"
    exact ⟨v, t, to, i, ls.length + 1, wv, rfl, tv, t8, hto, by omega, q⟩
  · obtain ⟨rs2, v0, hq0, hat0, tv0⟩ := hr.get e0
    by_cases heq : i = ls.length
    · subst heq
      refine l_ixL hq0 hat0 ?_
      tm_at "j"
      exact ⟨v0, f, rfl, tv0, q⟩
    · obtain rfl : i = ls.length + 1 := by omega
      obtain ⟨rs3, v1, hq1, hat1, tv1⟩ := hr.get e1
      refine l_ixL hq1 hat1 ?_
      tm_at "j"
      refine ⟨v1, !f, rfl, tv1, fun H1 g1 => ?_⟩
      obtain ⟨a1, rfl, ha1⟩ := row_fin (tv1.mono g1)
      obtain ⟨a0, rfl, ha0⟩ := row_fin (tv0.mono g1)
      tm_at "j"
      rw [show V.int (((ls.length + 1 : Nat) : Int) - 1) = V.int ((ls.length : Nat) : Int) from congrArg V.int (by omega)]
      refine l_ixL (sm_l g1 hq0) hat0 ?_
      tm_at "j"
      rw [vbb]
      have := q _ g1
      rw [show (!((!f) == f)) = true by cases f <;> rfl]
      exact this
def spCheckCode (K : PySem.W.Frag) : Sp := fun vs H Q _ => ∃ p, ∃ rows : List Row, vs = [.ref p] ∧ RA K H p rows ∧ GoodCode rows ∧ ∀ H', Same H H' → Q .non H'
theorem pure_ccode {K : PySem.W.Frag} {w : World} (vs : List V) (H : Hp) (Q : VK) (E : XK) (h : spCheckCode K vs H Q E) :
    t_check_code K w (spCanBe K) (Ends.mk (fun _ H' => Q .non H') Q (fun _ _ => False) (fun _ _ => False)) (start ["rows", "place"] vs) H := by
  obtain ⟨p, rows, rfl, hr, gc, q⟩ := h
  have hlen : 2 ≤ rows.length ∧ rows.length ≤ 40 := by
    obtain ⟨ls, f, rfl, hl, _⟩ := gc
    rw [List.length_append]
    show 2 ≤ ls.length + 2 ∧ ls.length + 2 ≤ 40
    omega
  obtain ⟨rs, h1, h2⟩ := id hr
  have hrs : rs.length = rows.length := by rw [h2.len, List.length_map]
  unfold t_check_code
  tm_at "j"
  unfold t_check_code_1
  tm_at "j"
  refine forR (n := rs.length) (by omega) (fun i σ' H' => ∃ o, σ' = [some (.ref p), o] ∧ Same H H') ⟨_, rfl, Same.refl _⟩ ?_ ?_
  · rintro i σ' H' hi ⟨o, rfl, g⟩
    rw [Int.zero_add]
    tm_at "j"
    refine i_f (decide_eq_false fun e => ?_) ?_
    · have e1 : (i : Int) = 40 := V.int.inj e
      omega
    tm_at "j"
    refine ⟨p, rows, i, rfl, hr.mono g, gc, by omega, fun H2 g2 => ?_⟩
    tm_at "j"
    exact ⟨_, rfl, g.trans g2⟩
  · rintro σ' H' ⟨o, rfl, g⟩
    exact q _ g
theorem pure_runp {K : PySem.W.Frag} {w : World} (vs : List V) (H : Hp) (Q : VK) (E : XK) (h : spRunP K vs H Q E) :
    t_run K w (spCheckCode K) spWorths (spRun K) (Ends.mk (fun _ H' => Q .non H') Q (fun _ _ => False) (fun _ _ => False)) (start ["rows", "worths"] vs) H := by
  obtain ⟨p, u, rows, ws, rfl, hr, gc, hw, q⟩ := h
  unfold t_run
  tm_at "j"
  refine ⟨p, rows, rfl, hr, gc, fun H1 g1 => ?_⟩
  tm_at "j"
  refine ⟨u, ws, rfl, hw.mono g1, fun H2 g2 => ?_⟩
  tm_at "j"
  have g02 := g1.trans g2
  exact ⟨p, u, rows, ws, rfl, hr.mono g02, gc.ok, (hw.mono g1).mono g2, fun v' H' g r => q v' H' (g02.trans g) (r.back g02)⟩

/-! times_of, likely_worths, looks_in_all, jumps_in_all, looks, jumps -/
def spTimesOf : Sp := fun vs H Q _ => ∃ v u ws ch, vs = [v, u] ∧ WA H v ws ∧ ChA H u ch ∧ ∀ H', Same H H' → Q (.int (tmsN ch ws 8 : Int)) H'
theorem pure_timesof {K : PySem.W.Frag} {w : World} (vs : List V) (H : Hp) (Q : VK) (E : XK) (h : spTimesOf vs H Q E) :
    t_times_of K w (Ends.mk (fun _ H' => Q .non H') Q (fun _ _ => False) (fun _ _ => False)) (start ["worths", "chances", "times", "worth", "chance"] vs) H := by
  obtain ⟨v, u, ws, ch, rfl, ⟨a1, rfl, h1, l1⟩, ⟨a2, rfl, h2, l2, c2⟩, q⟩ := h
  unfold t_times_of
  tm_at "j"
  unfold t_times_of_1
  tm_at "j"
  refine forZ (xs := ws.map vb) (ys := ch.map vn) (by rw [List.length_map, List.length_map, l1, l2]) (SqT.of h1) (SqT.of h2) (fun i σ' H' => ∃ o3 o4, σ' = [some (.ref a1), some (.ref a2), some (vn (tmsN ch ws i)), o3, o4] ∧ Same H H') ⟨_, _, rfl, Same.refl _⟩ (fun i σ' H' ⟨_, _, _, g⟩ => g) ?_ ?_
  · rintro i x y T σ' H' H'' hx hy ⟨o3, o4, rfl, g⟩ g2 eT
    have hi : i < 8 := by
      have := (List.getElem?_eq_some_iff.mp hx).1
      rw [List.length_map, l1] at this
      exact this
    have hx' : (ws.map vb)[i]? = some (vb (ws.getD i false)) := by
      rw [List.getElem?_map, List.getD_eq_getElem?_getD, List.getElem?_eq_getElem (show i < ws.length by omega)]; rfl
    have hy' : (ch.map vn)[i]? = some (vn (ch.getD i 0)) := by
      rw [List.getElem?_map, List.getD_eq_getElem?_getD, List.getElem?_eq_getElem (show i < ch.length by omega)]; rfl
    rw [hx'] at hx
    rw [hy'] at hy
    obtain rfl := Option.some.inj hx
    obtain rfl := Option.some.inj hy
    have hc : ch.getD i 0 ≤ 100 := by
      rw [List.getD_eq_getElem?_getD]
      cases e : ch[i]? with
      | none => exact Nat.zero_le _
      | some x => exact c2 x (List.mem_of_getElem? e)
    have hle := tmsN_le ch ws c2 i
    have hle2 : (100 : Nat) ^ i ≤ 100 ^ 8 := Nat.pow_le_pow_right (by decide) (by omega)
    have cm : ∀ k : Int, CMul (tmsN ch ws i : Int) k := fun k => Or.inl ⟨by have : (-(2 ^ 64) : Int) < 0 := by decide
                                                                            omega, by have : (100 : Nat) ^ 8 < 2 ^ 64 := by decide
                                                                                      omega⟩
    tm_at "j"
    rw [vb1]
    rw [show vn (tmsN ch ws i) = V.int (tmsN ch ws i : Int) from rfl]
    refine i_b (fun e => ?_) (fun e => ?_)
    · tm_at "j"
      rw [show vn (ch.getD i 0) = V.int (ch.getD i 0 : Int) from rfl]
      refine l_I (cm _) ?_
      have ev : V.int ((tmsN ch ws i : Int) * (ch.getD i 0 : Int)) = vn (tmsN ch ws (i + 1)) := congrArg V.int (by
        show _ = ((tmsN ch ws i * (if ws.getD i false then ch.getD i 0 else 100 - ch.getD i 0) : Nat) : Int)
        rw [e, if_pos rfl, Int.natCast_mul])
      rw [ev]
      exact ⟨some (vb (ws.getD i false)), some (vn (ch.getD i 0)), rfl, g.trans g2⟩
    · tm_at "j"
      rw [show vn (ch.getD i 0) = V.int (ch.getD i 0 : Int) from rfl]
      tm_at "j"
      refine l_I (cm _) ?_
      have ev : V.int ((tmsN ch ws i : Int) * ((100 : Int) - (ch.getD i 0 : Int))) = vn (tmsN ch ws (i + 1)) := congrArg V.int (by
        show _ = ((tmsN ch ws i * (if ws.getD i false then ch.getD i 0 else 100 - ch.getD i 0) : Nat) : Int)
        rw [e, if_neg Bool.false_ne_true, Int.natCast_mul, show ((100 - ch.getD i 0 : Nat) : Int) = (100 : Int) - (ch.getD i 0 : Int) by omega])
      rw [ev]
      exact ⟨some (vb (ws.getD i false)), some (vn (ch.getD i 0)), rfl, g.trans g2⟩
  · rintro σ' H' ⟨o3, o4, rfl, g⟩
    tm_at "j"
    rw [List.length_map, l1]
    exact q _ g
/-- all worths with their times -/
def LkA (ch : List Nat) (H : Hp) (ys : List V) : Prop := ys.length = 256 ∧ ∀ (i : Nat) (y : V), ys[i]? = some y → ∃ p u, y = .ref p ∧ H p = some (.tup [u, .int (tmsN ch (wts i) 8 : Int)]) ∧ WA H u (wts i)
theorem LkA.mono {ch : List Nat} {H H' : Hp} {ys : List V} (g : Same H H') (h : LkA ch H ys) : LkA ch H' ys := ⟨h.1, fun i y e => by
  obtain ⟨p, u, e1, e2, e3⟩ := h.2 i y e
  exact ⟨p, u, e1, g _ _ e2, e3.mono g⟩⟩
def spLikely : Sp := fun vs H Q _ => ∃ v ch, vs = [v] ∧ ChA H v ch ∧ ∀ l ys H', Same H H' → H l = none → H' l = some (.lst ys) → LkA ch H' ys → Q (.ref l) H'
theorem lcL_rel {K : PySem.W.Frag} {σ : St} {H : Hp} {Q : VK} {te : TE} {j : Nat} {vs : List Nat} {a : Addr} {xs : List V} (R : Nat → V → Hp → Prop) (mono : ∀ i y H H', Tups H H' → R i y H → R i y H') (hw : ∀ x, wipe ((wipe σ vs).set j (some x)) vs = wipe σ vs) (ht : SqL K H a xs) (hl : xs.length ≤ 100000)
    (h : ∀ (i : Nat) (x : V) H' (Q' : VK), xs[i]? = some x → Same H H' → (∀ y H'', Same H' H'' → R i y H'' → Q' y H'') → te ((wipe σ vs).set j (some x)) H' Q')
    (q : ∀ D ys H2, H D = none → Same H H2 → H2 D = some (.lst ys) → ys.length = xs.length → (∀ i y, ys[i]? = some y → R i y H2) → Q (.ref D) H2) : IL K (.ref a) H (LcB (gName j) tYes te vs σ Q) :=
  ⟨a, rfl, ⟨xs, ht⟩, fun D hD => by
    refine lc_list (K := K) (a := a) (xs := xs) (fun i H' => ∃ ys, Same H H' ∧ H' D = some (.lst ys) ∧ ys.length = i ∧ i ≤ xs.length ∧ ∀ k y, ys[k]? = some y → R k y H') ⟨[], sm_new hD _, upd_same, rfl, Nat.zero_le _, fun k y e => by cases e⟩ (fun i H' _ ⟨_, g, _⟩ => sm_l g ht) (fun i x H' hx p => ⟨hw x, ?_⟩) fun H' ⟨ys, g, e, n, _, r⟩ => q D ys H' hD g e n r
    obtain ⟨ys, g, e, n, n2, r⟩ := p
    have hi := (List.getElem?_eq_some_iff.mp hx).1
    refine h i x H' _ hx g fun y H'' g2 ry => ?_
    have tp : Tups H'' (upd H'' D (.lst (ys ++ [y]))) := but_upd.tups (g2 _ _ e)
    refine ⟨ys, g2 _ _ e, Nat.lt_of_lt_of_le (show ys.length < 100001 by omega) (by decide), ys ++ [y], sm_mut (g.trans g2) hD, upd_same, by rw [List.length_append, n]; rfl, hi, fun k z hz => mono _ _ _ _ tp ?_⟩
    by_cases hk : k < ys.length
    · rw [List.getElem?_append_left hk] at hz
      exact mono _ _ _ _ (Same.tups g2) (r k z hz)
    · rw [List.getElem?_append_right (by omega)] at hz
      have hk2 : k - ys.length = 0 := by
        have := (List.getElem?_eq_some_iff.mp hz).1
        have : ([y] : List V).length = 1 := rfl
        omega
      rw [hk2] at hz
      obtain rfl := Option.some.inj hz
      have : k = i := by omega
      rw [this]
      exact ry⟩
theorem pure_likely {K : PySem.W.Frag} {w : World} (vs : List V) (H : Hp) (Q : VK) (E : XK) (h : spLikely vs H Q E) :
    t_likely_worths K w spAllBits spTimesOf (Ends.mk (fun _ H' => Q .non H') Q (fun _ _ => False) (fun _ _ => False)) (start ["chances", "worths"] vs) H := by
  obtain ⟨v, ch, rfl, hch, q⟩ := h
  unfold t_likely_worths
  tm_at "j"
  refine ⟨8, rfl, by decide, fun l ys H1 g1 nl el bt => ?_⟩
  have hys : ys.length = 256 := by rw [bt.1, bitsM_len]
  refine lcL_rel (fun i y H' => ∃ p u, y = .ref p ∧ H' p = some (.tup [u, .int (tmsN ch (wts i) 8 : Int)]) ∧ WA H' u (wts i)) (fun i y H H' tp ⟨p, u, h1, h2, h3⟩ => ⟨p, u, h1, tp _ _ h2, h3.tups tp⟩) (fun _ => rfl) (SqL.of el) (by omega) ?_ ?_
  · intro i x H' Q' hx g kk
    obtain ⟨hi, hw⟩ := bits_wa bt hx
    have hw := hw.mono g
    tm_at "j"
    refine ⟨x, v, wts i, ch, rfl, hw, (hch.mono g1).mono g, fun H2 g2 => ?_⟩
    tm_at "j"
    rename_i p3 H3 n3 g3 e3
    exact kk _ _ (g2.trans g3) ⟨p3, x, rfl, e3, (hw.mono g2).mono g3⟩
  · intro D zs H2 nD g2 eD hz hR
    exact q D zs H2 (g1.trans g2) (g1.free nD) eD ⟨by omega, hR⟩
theorem sum_all (f : Nat → Nat) : ∀ n, ((List.range n).map fun k => ((f k : Nat) : Int)).sum = ((sumN n f : Nat) : Int)
  | 0 => rfl
  | n + 1 => by
    rw [List.range_succ, List.map_append, List.sum_append, sum_all f n]
    show ((sumN n f : Nat) : Int) + ((f n : Int) + 0) = ((sumN n f + f n : Nat) : Int)
    omega
def spLooksAll (K : PySem.W.Frag) : Sp := fun vs H Q _ => ∃ v l c ys ch, vs = [v, .ref l] ∧ CA H v c ∧ c.ok ∧ c.deep ≤ 10 ∧ SqL K H l ys ∧ LkA ch H ys ∧ ∀ H', Same H H' → Q (.int (looksM ch c : Int)) H'
theorem pure_looksall {K : PySem.W.Frag} {w : World} (vs : List V) (H : Hp) (Q : VK) (E : XK) (h : spLooksAll K vs H Q E) :
    t_looks_in_all K w (spOut 11) (Ends.mk (fun _ H' => Q .non H') Q (fun _ _ => False) (fun _ _ => False)) (start ["condition", "likely", "worths", "times"] vs) H := by
  obtain ⟨v, l, c, ys, ch, rfl, hc, ho, hd, hl, hk, q⟩ := h
  unfold t_looks_in_all
  tm_at "j"
  refine lcL2 (n := 256) (xs := ys) (ys := (List.range 256).map fun k => V.int ((tmsN ch (wts k) 8 * (ev (wts k) c).2.length : Nat) : Int)) hk.1 (by rw [List.length_map, List.length_range]) (fun _ _ => rfl) hl (by decide) (fun i y e => ?_) ?_ ?_
  · obtain ⟨p, u, rfl, h1, _⟩ := hk.2 i y e
    exact ⟨p, _, _, rfl, h1⟩
  · intro i x y z t H' Q' hx ht hz g kk
    have hi : i < 256 := by have := (List.getElem?_eq_some_iff.mp hx).1; have := hk.1; omega
    obtain ⟨p, u, ep, h1, hw⟩ := hk.2 i _ hx
    obtain rfl := V.ref.inj ep
    rw [ht] at h1
    have h1 := Option.some.inj h1
    injection h1 with h1
    injection h1 with h1 h1'
    injection h1' with h1' _
    subst h1 h1'
    rw [List.getElem?_map, List.getElem?_range hi] at hz
    obtain rfl := Option.some.inj hz
    tm_at "j"
    refine ⟨v, x, c, wts i, rfl, hc.mono g, by omega, by decide, ho, hw.mono g, fun v4 H4 g4 t4 => ?_⟩
    obtain ⟨p4, l4, rfl, n4, e4, e4'⟩ := t4
    have hs := ev_small (ws := wts i) (c := c) (by omega)
    tm_at "j"
    rw [List.length_map]
    refine l_I (Or.inl ⟨by have : (-(2 ^ 64) : Int) < 0 := by decide
                           omega, by have : (4096 : Int) < 2 ^ 64 := by decide
                                     omega⟩) ?_
    have : Q' (V.int ((tmsN ch (wts i) 8 * (ev (wts i) c).2.length : Nat) : Int)) H4 := kk _ g4
    rw [show V.int ((tmsN ch (wts i) 8 * (ev (wts i) c).2.length : Nat) : Int) = V.int (((ev (wts i) c).2.length : Int) * (tmsN ch (wts i) 8 : Int)) from congrArg V.int (by rw [Int.natCast_mul, Int.mul_comm])] at this
    exact this
  · intro D H2 nD g2 eD
    refine l_sum (ns := (List.range 256).map fun k => ((tmsN ch (wts k) 8 * (ev (wts k) c).2.length : Nat) : Int)) (by rw [List.map_map]; exact SqL.of eD) ?_
    rw [sum_all fun k => tmsN ch (wts k) 8 * (ev (wts k) c).2.length]
    exact q _ g2
def spJumpsAll (K : PySem.W.Frag) : Sp := fun vs H Q _ => ∃ v l c ys ch, ∃ f : Bool, vs = [v, vb f, .ref l] ∧ CA H v c ∧ c.ok ∧ c.deep ≤ 10 ∧ c.looks ≤ 12 ∧ SqL K H l ys ∧ LkA ch H ys ∧ ∀ H', Same H H' → Q (.int (jumpsM ch f c : Int)) H'
theorem jumps_small {c : Cond} {f : Bool} {ws : List Bool} (ho : c.ok) (hk : c.looks ≤ 12) : (runC (codeM c f) ws).2.2 ≤ 12 := by
  obtain ⟨j, hj, e⟩ := run_code c f ws ho (by omega)
  rw [e]
  show j ≤ 12
  have := ev_len ws c
  omega
theorem pure_jumpsall {K : PySem.W.Frag} {w : World} (vs : List V) (H : Hp) (Q : VK) (E : XK) (h : spJumpsAll K vs H Q E) :
    t_jumps_in_all K w spCodeOf (spRun K) (Ends.mk (fun _ H' => Q .non H') Q (fun _ _ => False) (fun _ _ => False)) (start ["condition", "first", "likely", "rows", "worths", "times"] vs) H := by
  obtain ⟨v, l, c, ys, ch, f, rfl, hc, ho, hd, hk12, hl, hk, q⟩ := h
  unfold t_jumps_in_all
  tm_at "j"
  refine ⟨v, c, f, rfl, hc, ho, hd, fun v1 H1 g1 r1 => ?_⟩
  obtain ⟨lr, rfl, nr, hr⟩ := r1.ra (K := K)
  have hl1 := sm_l g1 hl
  have hk1 := hk.mono g1
  tm_at "j"
  refine lcL2 (n := 256) (xs := ys) (ys := (List.range 256).map fun k => V.int ((tmsN ch (wts k) 8 * (runC (codeM c f) (wts k)).2.2 : Nat) : Int)) hk.1 (by rw [List.length_map, List.length_range]) (fun _ _ => rfl) hl1 (by decide) (fun i y e => ?_) ?_ ?_
  · obtain ⟨p, u, rfl, h1, _⟩ := hk1.2 i y e
    exact ⟨p, _, _, rfl, h1⟩
  · intro i x y z t H' Q' hx ht hz g kk
    have hi : i < 256 := by have := (List.getElem?_eq_some_iff.mp hx).1; have := hk.1; omega
    obtain ⟨p, u, ep, h1, hw⟩ := hk1.2 i _ hx
    obtain rfl := V.ref.inj ep
    rw [ht] at h1
    have h1 := Option.some.inj h1
    injection h1 with h1
    injection h1 with h1 h1'
    injection h1' with h1' _
    subst h1 h1'
    rw [List.getElem?_map, List.getElem?_range hi] at hz
    obtain rfl := Option.some.inj hz
    tm_at "j"
    refine ⟨lr, x, codeM c f, wts i, rfl, hr.mono g, codeM_ok c f ho (by omega), hw.mono g, fun v4 H4 g4 t4 => ?_⟩
    obtain ⟨p4, l4, rfl, n4, e4, e4'⟩ := t4
    have hs := jumps_small (f := f) (ws := wts i) ho hk12
    tm_at "j"
    rw [show vn (runC (codeM c f) (wts i)).2.2 = V.int ((runC (codeM c f) (wts i)).2.2 : Int) from rfl]
    refine l_I (Or.inl ⟨by have : (-(2 ^ 64) : Int) < 0 := by decide
                           omega, by have : (4096 : Int) < 2 ^ 64 := by decide
                                     omega⟩) ?_
    have : Q' (V.int ((tmsN ch (wts i) 8 * (runC (codeM c f) (wts i)).2.2 : Nat) : Int)) H4 := kk _ g4
    rw [show V.int ((tmsN ch (wts i) 8 * (runC (codeM c f) (wts i)).2.2 : Nat) : Int) = V.int (((runC (codeM c f) (wts i)).2.2 : Int) * (tmsN ch (wts i) 8 : Int)) from congrArg V.int (by rw [Int.natCast_mul, Int.mul_comm])] at this
    exact this
  · intro D H2 nD g2 eD
    refine l_sum (ns := (List.range 256).map fun k => ((tmsN ch (wts k) 8 * (runC (codeM c f) (wts k)).2.2 : Nat) : Int)) (by rw [List.map_map]; exact SqL.of eD) ?_
    rw [sum_all fun k => tmsN ch (wts k) 8 * (runC (codeM c f) (wts k)).2.2]
    exact q _ (g1.trans g2)
theorem pure_looksp {K : PySem.W.Frag} {w : World} (vs : List V) (H : Hp) (Q : VK) (E : XK) (h : spLooksP vs H Q E) :
    t_looks K w spCheck spChances spLikely (spLooksAll K) (Ends.mk (fun _ H' => Q .non H') Q (fun _ _ => False) (fun _ _ => False)) (start ["condition", "chances"] vs) H := by
  obtain ⟨v, u, c, ch, rfl, hc, ho, hd, hk, hch, q⟩ := h
  unfold t_looks
  tm_at "j"
  refine ⟨v, c, rfl, hc, ho, hd, hk, fun H1 g1 => ?_⟩
  tm_at "j"
  refine ⟨u, ch, rfl, hch.mono g1, fun H2 g2 => ?_⟩
  tm_at "j"
  refine ⟨u, ch, rfl, (hch.mono g1).mono g2, fun l ys H3 g3 nl el lk => ?_⟩
  have g03 := (g1.trans g2).trans g3
  tm_at "j"
  exact ⟨v, l, c, ys, ch, rfl, hc.mono g03, ho, hd, SqL.of el, lk, fun H' g => q H' (g03.trans g)⟩
theorem pure_jumpsp {K : PySem.W.Frag} {w : World} (vs : List V) (H : Hp) (Q : VK) (E : XK) (h : spJumpsP vs H Q E) :
    t_jumps K w spCheck spFirst spChances spLikely (spJumpsAll K) (Ends.mk (fun _ H' => Q .non H') Q (fun _ _ => False) (fun _ _ => False)) (start ["condition", "first", "chances"] vs) H := by
  obtain ⟨v, u, c, ch, f, rfl, hc, ho, hd, hk, hch, q⟩ := h
  unfold t_jumps
  tm_at "j"
  refine ⟨v, c, rfl, hc, ho, hd, hk, fun H1 g1 => ?_⟩
  tm_at "j"
  refine ⟨f, rfl, fun H2 g2 => ?_⟩
  tm_at "j"
  refine ⟨u, ch, rfl, (hch.mono g1).mono g2, fun H3 g3 => ?_⟩
  tm_at "j"
  refine ⟨u, ch, rfl, ((hch.mono g1).mono g2).mono g3, fun l ys H4 g4 nl el lk => ?_⟩
  have g04 := ((g1.trans g2).trans g3).trans g4
  tm_at "j"
  exact ⟨v, l, c, ys, ch, f, rfl, hc.mono g04, ho, hd, hk, SqL.of el, lk, fun H' g => q H' (g04.trans g)⟩

/-! _law_pairs, _law_looked, _law_exchanged -/
def spPairs (n : Nat) : Sp := fun vs H Q _ => ∃ v c, vs = [v] ∧ CA H v c ∧ c.deep < n ∧ ∀ H', Same H H' → Q (.int (c.pairs : Int)) H'
theorem pure_pairs {K : PySem.W.Frag} {w : World} {n : Nat} (vs : List V) (H : Hp) (Q : VK) (E : XK) (h : spPairs (n + 1) vs H Q E) :
    t_law_pairs K w (spPairs n) (Ends.mk (fun _ H' => Q .non H') Q (fun _ _ => False) (fun _ _ => False)) (start ["_law_part_here", "_law_one"] vs) H := by
  obtain ⟨v, c, rfl, hc, hn, q⟩ := h
  unfold t_law_pairs
  cases hc with
  | look e =>
    tm_at "j"
    exact q _ (Same.refl _)
  | not e hc =>
    rename_i v1 c1
    have hn1 : c1.deep + 1 < n + 1 := hn
    tm_at "j"
    refine lcT (xs := [v1]) (ys := [.int (c1.pairs : Int)]) (fun _ => rfl) (by tm_at "hp") (by tm_at "dec") ⟨rfl, ?_⟩ ?_
    · intro i x y H' Q' hx hy g k
      rcases i with _ | i
      · obtain rfl : v1 = x := Option.some.inj hx
        obtain rfl := Option.some.inj hy
        tm_at "j"
        exact ⟨v1, c1, rfl, by tm_at "hp", by omega, k⟩
      · cases hx
    · intro D H2 hD g e2
      tm_at "j"
      refine l_sum (ns := [(c1.pairs : Int)]) (by tm_at "hp") ?_
      tm_at "j"
      have e3 : (if (!decide (V.str "not" = V.str "not")) = true then (1 : Int) else 0) + [(c1.pairs : Int)].sum = ((c1.not.pairs : Nat) : Int) := by
        rw [decide_eq_true rfl]; simp [Cond.pairs]
      rw [e3]
      exact q _ (by tm_at "hp")
  | bin e h1 h2 =>
    rename_i a v1 v2 c1 c2
    have hn1 : max c1.deep c2.deep + 1 < n + 1 := hn
    have hw : decide (V.str (wd a) = V.str "not") = false := by cases a <;> decide +kernel
    have hl : decide (V.str (wd a) = V.str "look") = false := by cases a <;> decide +kernel
    tm_at "j"
    rw [hl]
    tm_at "j"
    rw [hw]
    tm_at "j"
    refine lcT (xs := [v1, v2]) (ys := [.int (c1.pairs : Int), .int (c2.pairs : Int)]) (fun _ => rfl) (by tm_at "hp") (by tm_at "dec") ⟨rfl, ?_⟩ ?_
    · intro i x y H' Q' hx hy g k
      rcases i with _ | _ | i
      · obtain rfl : v1 = x := Option.some.inj hx
        obtain rfl := Option.some.inj hy
        tm_at "j"
        exact ⟨v1, c1, rfl, by tm_at "hp", by omega, k⟩
      · obtain rfl : v2 = x := Option.some.inj hx
        obtain rfl := Option.some.inj hy
        tm_at "j"
        exact ⟨v2, c2, rfl, by tm_at "hp", by omega, k⟩
      · cases hx
    · intro D H2 hD g e2
      tm_at "j"
      refine l_sum (ns := [(c1.pairs : Int), (c2.pairs : Int)]) (by tm_at "hp") ?_
      tm_at "j"
      have e3 : (if (!false) = true then (1 : Int) else 0) + [(c1.pairs : Int), (c2.pairs : Int)].sum = (((Cond.bin a c1 c2).pairs : Nat) : Int) := by
        simp [Cond.pairs]; omega
      rw [e3]
      exact q _ (by tm_at "hp")
def spLooked (n : Nat) : Sp := fun vs H Q _ => ∃ v c, vs = [v] ∧ CA H v c ∧ c.deep < n ∧ ∀ H', Same H H' → Q (.int (c.looks : Int)) H'
theorem pure_looked {K : PySem.W.Frag} {w : World} {n : Nat} (vs : List V) (H : Hp) (Q : VK) (E : XK) (h : spLooked (n + 1) vs H Q E) :
    t_law_looked K w (spLooked n) (Ends.mk (fun _ H' => Q .non H') Q (fun _ _ => False) (fun _ _ => False)) (start ["_law_part_here", "_law_one"] vs) H := by
  obtain ⟨v, c, rfl, hc, hn, q⟩ := h
  unfold t_law_looked
  cases hc with
  | look e =>
    tm_at "j"
    exact q _ (Same.refl _)
  | not e hc =>
    rename_i v1 c1
    have hn1 : c1.deep + 1 < n + 1 := hn
    tm_at "j"
    refine lcT (xs := [v1]) (ys := [.int (c1.looks : Int)]) (fun _ => rfl) (by tm_at "hp") (by tm_at "dec") ⟨rfl, ?_⟩ ?_
    · intro i x y H' Q' hx hy g k
      rcases i with _ | i
      · obtain rfl : v1 = x := Option.some.inj hx
        obtain rfl := Option.some.inj hy
        tm_at "j"
        exact ⟨v1, c1, rfl, by tm_at "hp", by omega, k⟩
      · cases hx
    · intro D H2 hD g e2
      tm_at "j"
      refine l_sum (ns := [(c1.looks : Int)]) (by tm_at "hp") ?_
      rw [show [(c1.looks : Int)].sum = ((c1.not.looks : Nat) : Int) by simp [Cond.looks]]
      exact q _ (by tm_at "hp")
  | bin e h1 h2 =>
    rename_i a v1 v2 c1 c2
    have hn1 : max c1.deep c2.deep + 1 < n + 1 := hn
    have hl : decide (V.str (wd a) = V.str "look") = false := by cases a <;> decide +kernel
    tm_at "j"
    rw [hl]
    tm_at "j"
    refine lcT (xs := [v1, v2]) (ys := [.int (c1.looks : Int), .int (c2.looks : Int)]) (fun _ => rfl) (by tm_at "hp") (by tm_at "dec") ⟨rfl, ?_⟩ ?_
    · intro i x y H' Q' hx hy g k
      rcases i with _ | _ | i
      · obtain rfl : v1 = x := Option.some.inj hx
        obtain rfl := Option.some.inj hy
        tm_at "j"
        exact ⟨v1, c1, rfl, by tm_at "hp", by omega, k⟩
      · obtain rfl : v2 = x := Option.some.inj hx
        obtain rfl := Option.some.inj hy
        tm_at "j"
        exact ⟨v2, c2, rfl, by tm_at "hp", by omega, k⟩
      · cases hx
    · intro D H2 hD g e2
      tm_at "j"
      refine l_sum (ns := [(c1.looks : Int), (c2.looks : Int)]) (by tm_at "hp") ?_
      rw [show [(c1.looks : Int), (c2.looks : Int)].sum = (((Cond.bin a c1 c2).looks : Nat) : Int) by simp [Cond.looks]]
      exact q _ (by tm_at "hp")
/-- a condition with sides exchanged -/
def spExch (K : PySem.W.Frag) (n : Nat) : Sp := fun vs H Q _ => ∃ v c p, ∃ ts : List Bool, vs = [v, .ref p] ∧ CA H v c ∧ SqL K H p (ts.map vb) ∧ ts.length = c.pairs ∧ ts.length ≤ 1000 ∧ c.deep < n ∧ n ≤ 20 ∧ ∀ v' H', Same H H' → CA H' v' (exch c ts) → Q v' H'
theorem turn_at {ts : List Bool} (h : 0 < ts.length) : atI (ts.map vb) 0 = some (vb (ts.getD 0 false)) := by
  cases ts with
  | nil => exact absurd h (Nat.lt_irrefl 0)
  | cons b r => exact at0
theorem pure_exch {K : PySem.W.Frag} {w : World} {n : Nat} (vs : List V) (H : Hp) (Q : VK) (E : XK) (h : spExch K (n + 1) vs H Q E) :
    t_law_exchanged K w (spExch K n) (spPairs 30) (Ends.mk (fun _ H' => Q .non H') Q (fun _ _ => False) (fun _ _ => False)) (start ["_law_part_here", "_law_turns", "_law_here", "_law_one", "_law_other"] vs) H := by
  obtain ⟨v, c, p, ts, rfl, hc, hp, hl, h1000, hn, n20, q⟩ := h
  unfold t_law_exchanged
  cases hc with
  | look e =>
    tm_at "j"
    exact q _ _ (Same.refl _) (.look e)
  | not e hc =>
    rename_i v1 c1
    have hn1 : c1.deep + 1 < n + 1 := hn
    tm_at "j"
    refine ⟨v1, c1, p, ts, rfl, hc, hp, hl, h1000, by omega, by omega, fun v' H1 g1 hc1 => ?_⟩
    tm_at "j"
    rename_i p2 H2 n2 g2 e2
    exact q _ _ (g1.trans g2) (.not e2 (hc1.mono g2))
  | bin e h1 h2 =>
    rename_i a v1 v2 c1 c2
    have hn1 : max c1.deep c2.deep + 1 < n + 1 := hn
    have hw : decide (V.str (wd a) = V.str "not") = false := by cases a <;> decide +kernel
    have hk : decide (V.str (wd a) = V.str "look") = false := by cases a <;> decide +kernel
    have hl2 : ts.length = 1 + c1.pairs + c2.pairs := hl
    tm_at "j"
    rw [hk]
    tm_at "j"
    rw [hw]
    tm_at "j"
    refine ⟨v1, c1, rfl, h1, by omega, fun H1 g1 => ?_⟩
    tm_at "j"
    have eh : (1 : Int) + (c1.pairs : Int) = ((1 + c1.pairs : Nat) : Int) := by omega
    rw [eh]
    have hlm : (ts.map vb).length = ts.length := List.length_map _
    have hp1 := sm_l g1 hp
    tm_at "j"
    rename_i p2 H2 np2 g2 e2
    have e2' : H2 p2 = some (.lst (((ts.drop 1).take c1.pairs).map vb)) := by
      have e0 : cutV (ts.map vb) (some (1 : Int)) (some ((1 + c1.pairs : Nat) : Int)) = ((ts.drop 1).take c1.pairs).map vb := by
        rw [show (1 : Int) = ((1 : Nat) : Int) from rfl, cut_lohi (by omega) (by omega), Nat.add_sub_cancel_left, List.map_take, List.map_drop]
      rw [← e0]
      exact e2
    refine ⟨v1, c1, p2, _, rfl, by tm_at "hp", SqL.of e2', by rw [List.length_take, List.length_drop]; omega, by rw [List.length_take, List.length_drop]; omega, by omega, by omega, fun v3 H3 g3 hc3 => ?_⟩
    have hp3 := sm_l g3 (sm_l g2 hp1)
    tm_at "j"
    rename_i p4 H4 np4 g4 e4
    have e4' : H4 p4 = some (.lst ((ts.drop (1 + c1.pairs)).map vb)) := by
      have e0 : cutV (ts.map vb) (some ((1 + c1.pairs : Nat) : Int)) none = (ts.drop (1 + c1.pairs)).map vb := by
        rw [cut_lo (by omega), List.map_drop]
      rw [← e0]
      exact e4
    refine ⟨v2, c2, p4, _, rfl, by tm_at "hp", SqL.of e4', by rw [List.length_drop]; omega, by rw [List.length_drop]; omega, by omega, by omega, fun v5 H5 g5 hc5 => ?_⟩
    have hp5 := sm_l g5 (sm_l g4 hp3)
    have hc35 := (hc3.mono g4).mono g5
    tm_at "j"
    refine l_ixL hp5 (turn_at (by omega)) ?_
    tm_at "j"
    rw [vb1]
    have g05 := (((g1.trans g2).trans g3).trans g4).trans g5
    unfold exch at q
    refine i_b (fun et => ?_) (fun et => ?_)
    · rw [et] at q
      tm_at "j"
      rename_i p6 H6 np6 g6 e6
      exact q _ _ (g05.trans g6) (.bin e6 (hc5.mono g6) (hc35.mono g6))
    · rw [et] at q
      tm_at "j"
      rename_i p6 H6 np6 g6 e6
      exact q _ _ (g05.trans g6) (.bin e6 (hc35.mono g6) (hc5.mono g6))

/-! count_pairs, with_turns, turned -/
theorem pure_cpairs {K : PySem.W.Frag} {w : World} {n : Nat} (vs : List V) (H : Hp) (Q : VK) (E : XK) (h : spPairs (n + 1) vs H Q E) :
    t_count_pairs K w (spPairs n) (Ends.mk (fun _ H' => Q .non H') Q (fun _ _ => False) (fun _ _ => False)) (start ["condition"] vs) H := by
  obtain ⟨v, c, rfl, hc, hn, q⟩ := h
  unfold t_count_pairs
  cases hc with
  | look e =>
    tm_at "j"
    exact q _ (Same.refl _)
  | not e hc =>
    rename_i v1 c1
    have hn1 : c1.deep + 1 < n + 1 := hn
    tm_at "j"
    exact ⟨v1, c1, rfl, hc, by omega, q⟩
  | bin e h1 h2 =>
    rename_i a v1 v2 c1 c2
    have hn1 : max c1.deep c2.deep + 1 < n + 1 := hn
    have hw : decide (V.str (wd a) = V.str "not") = false := by cases a <;> decide +kernel
    have hk : decide (V.str (wd a) = V.str "look") = false := by cases a <;> decide +kernel
    tm_at "j"
    rw [hk]
    tm_at "j"
    rw [hw]
    tm_at "j"
    refine ⟨v1, c1, rfl, h1, by omega, fun H1 g1 => ?_⟩
    tm_at "j"
    refine ⟨v2, c2, rfl, by tm_at "hp", by omega, fun H2 g2 => ?_⟩
    tm_at "j"
    have := q _ (g1.trans g2)
    rw [show ((Cond.bin a c1 c2).pairs : Int) = 1 + (c1.pairs : Int) + (c2.pairs : Int) by show ((1 + c1.pairs + c2.pairs : Nat) : Int) = _; omega] at this
    exact this
theorem pure_wturns {K : PySem.W.Frag} {w : World} {n : Nat} (vs : List V) (H : Hp) (Q : VK) (E : XK) (h : spExch K (n + 1) vs H Q E) :
    t_with_turns K w (spExch K n) (spPairs 30) (Ends.mk (fun _ H' => Q .non H') Q (fun _ _ => False) (fun _ _ => False)) (start ["condition", "turns", "word", "middle", "one", "other"] vs) H := by
  obtain ⟨v, c, p, ts, rfl, hc, hp, hl, h1000, hn, n20, q⟩ := h
  unfold t_with_turns
  cases hc with
  | look e =>
    tm_at "j"
    rename_i p2 H2 n2 g2 e2
    exact q _ _ g2 (.look e2)
  | not e hc =>
    rename_i v1 c1
    have hn1 : c1.deep + 1 < n + 1 := hn
    tm_at "j"
    refine ⟨v1, c1, p, ts, rfl, hc, hp, hl, h1000, by omega, by omega, fun v' H1 g1 hc1 => ?_⟩
    tm_at "j"
    rename_i p2 H2 n2 g2 e2
    exact q _ _ (g1.trans g2) (.not e2 (hc1.mono g2))
  | bin e h1 h2 =>
    rename_i a v1 v2 c1 c2
    have hn1 : max c1.deep c2.deep + 1 < n + 1 := hn
    have hw : decide (V.str (wd a) = V.str "not") = false := by cases a <;> decide +kernel
    have hk : decide (V.str (wd a) = V.str "look") = false := by cases a <;> decide +kernel
    have hl2 : ts.length = 1 + c1.pairs + c2.pairs := hl
    tm_at "j"
    rw [hk]
    tm_at "j"
    rw [hw]
    tm_at "j"
    refine ⟨v1, c1, rfl, h1, by omega, fun H1 g1 => ?_⟩
    tm_at "j"
    have eh : (1 : Int) + (c1.pairs : Int) = ((1 + c1.pairs : Nat) : Int) := by omega
    rw [eh]
    have hlm : (ts.map vb).length = ts.length := List.length_map _
    have hp1 := sm_l g1 hp
    tm_at "j"
    rename_i p2 H2 np2 g2 e2
    have e2' : H2 p2 = some (.lst (((ts.drop 1).take c1.pairs).map vb)) := by
      have e0 : cutV (ts.map vb) (some (1 : Int)) (some ((1 + c1.pairs : Nat) : Int)) = ((ts.drop 1).take c1.pairs).map vb := by
        rw [show (1 : Int) = ((1 : Nat) : Int) from rfl, cut_lohi (by omega) (by omega), Nat.add_sub_cancel_left, List.map_take, List.map_drop]
      rw [← e0]
      exact e2
    refine ⟨v1, c1, p2, _, rfl, by tm_at "hp", SqL.of e2', by rw [List.length_take, List.length_drop]; omega, by rw [List.length_take, List.length_drop]; omega, by omega, by omega, fun v3 H3 g3 hc3 => ?_⟩
    have hp3 := sm_l g3 (sm_l g2 hp1)
    tm_at "j"
    rename_i p4 H4 np4 g4 e4
    have e4' : H4 p4 = some (.lst ((ts.drop (1 + c1.pairs)).map vb)) := by
      have e0 : cutV (ts.map vb) (some ((1 + c1.pairs : Nat) : Int)) none = (ts.drop (1 + c1.pairs)).map vb := by
        rw [cut_lo (by omega), List.map_drop]
      rw [← e0]
      exact e4
    refine ⟨v2, c2, p4, _, rfl, by tm_at "hp", SqL.of e4', by rw [List.length_drop]; omega, by rw [List.length_drop]; omega, by omega, by omega, fun v5 H5 g5 hc5 => ?_⟩
    have hp5 := sm_l g5 (sm_l g4 hp3)
    have hc35 := (hc3.mono g4).mono g5
    tm_at "j"
    refine l_ixL hp5 (turn_at (by omega)) ?_
    tm_at "j"
    rw [vb1]
    have g05 := (((g1.trans g2).trans g3).trans g4).trans g5
    unfold exch at q
    refine i_b (fun et => ?_) (fun et => ?_)
    · rw [et] at q
      tm_at "j"
      rename_i p6 H6 np6 g6 e6
      exact q _ _ (g05.trans g6) (.bin e6 (hc5.mono g6) (hc35.mono g6))
    · rw [et] at q
      tm_at "j"
      rename_i p6 H6 np6 g6 e6
      exact q _ _ (g05.trans g6) (.bin e6 (hc35.mono g6) (hc5.mono g6))
theorem pure_turned {K : PySem.W.Frag} {w : World} (vs : List V) (H : Hp) (Q : VK) (E : XK) (h : spTurned K vs H Q E) :
    t_turned K w spCheck (spPairs 30) (spBitsL K) (spExch K 20) (Ends.mk (fun _ H' => Q .non H') Q (fun _ _ => False) (fun _ _ => False)) (start ["condition", "turns"] vs) H := by
  obtain ⟨v, c, p, ts, rfl, hc, ho, hd, hk, hp, hl, q⟩ := h
  have h12 := pairs_looks c
  unfold t_turned
  tm_at "j"
  refine ⟨v, c, rfl, hc, ho, hd, hk, fun H1 g1 => ?_⟩
  tm_at "j"
  refine ⟨v, c, rfl, hc.mono g1, by omega, fun H2 g2 => ?_⟩
  tm_at "j"
  have hp2 := sm_l g2 (sm_l g1 hp)
  have hp2' := hp2
  rw [vb_ints] at hp2'
  refine ⟨p, ts.map bi, c.pairs, rfl, hp2', by rw [List.length_map]; omega, fun H3 g3 => ?_⟩
  rw [bits_good ts c.pairs hl]
  tm_at "j"
  exact ⟨v, c, p, ts, rfl, ((hc.mono g1).mono g2).mono g3, sm_l g3 hp2, hl, by omega, by omega, by decide, fun v' H' g h => q v' H' (((g1.trans g2).trans g3).trans g) h⟩

/-! check_for_fewest, all_turns, fewest_looks, fewest_jumps -/
def spCFew : Sp := fun vs H Q _ => ∃ v u c ch, vs = [v, u] ∧ CA H v c ∧ c.ok ∧ c.deep ≤ 10 ∧ c.looks ≤ 12 ∧ c.pairs ≤ 6 ∧ ChA H u ch ∧ ∀ H', Same H H' → Q .non H'
theorem pure_cfew {K : PySem.W.Frag} {w : World} (vs : List V) (H : Hp) (Q : VK) (E : XK) (h : spCFew vs H Q E) :
    t_check_for_fewest K w spCheck spChances (spPairs 30) (Ends.mk (fun _ H' => Q .non H') Q (fun _ _ => False) (fun _ _ => False)) (start ["condition", "chances"] vs) H := by
  obtain ⟨v, u, c, ch, rfl, hc, ho, hd, hk, h6, hch, q⟩ := h
  unfold t_check_for_fewest
  tm_at "j"
  refine ⟨v, c, rfl, hc, ho, hd, hk, fun H1 g1 => ?_⟩
  tm_at "j"
  refine ⟨u, ch, rfl, hch.mono g1, fun H2 g2 => ?_⟩
  tm_at "j"
  refine ⟨v, c, rfl, (hc.mono g1).mono g2, by omega, fun H3 g3 => ?_⟩
  tm_at "j"
  exact q _ (by tm_at "hp")
/-- lists of turns, new -/
def LTs (H H' : Hp) (zs : List V) (bs : List (List Bool)) : Prop := zs.length = bs.length ∧ ∀ (i : Nat) (z : V), zs[i]? = some z → ∃ b t, bs[i]? = some b ∧ z = .ref t ∧ H t = none ∧ H' t = some (.lst (b.map vb))
def spAllTurns : Sp := fun vs H Q _ => ∃ v c, vs = [v] ∧ CA H v c ∧ c.deep < 30 ∧ c.pairs ≤ 12 ∧ ∀ l zs H', Same H H' → H l = none → H' l = some (.lst zs) → LTs H H' zs (bitsM c.pairs) → Q (.ref l) H'
theorem pure_allturns {K : PySem.W.Frag} {w : World} (vs : List V) (H : Hp) (Q : VK) (E : XK) (h : spAllTurns vs H Q E) :
    t_all_turns K w (spPairs 30) spAllBits (Ends.mk (fun _ H' => Q .non H') Q (fun _ _ => False) (fun _ _ => False)) (start ["condition", "bits"] vs) H := by
  obtain ⟨v, c, rfl, hc, hd, h12, q⟩ := h
  unfold t_all_turns
  tm_at "j"
  refine ⟨v, c, rfl, hc, hd, fun H1 g1 => ?_⟩
  tm_at "j"
  refine ⟨c.pairs, rfl, h12, fun l ys H2 g2 nl el bt => ?_⟩
  have hys : ys.length = 2 ^ c.pairs := by rw [bt.1, bitsM_len]
  have hp2 : 2 ^ c.pairs ≤ 2 ^ 12 := Nat.pow_le_pow_right (by decide) h12
  have g02 := g1.trans g2
  refine lcL_invD (fun D i zs H' => Same H2 H' ∧ zs.length = i ∧ ∀ (k : Nat) (z : V), zs[k]? = some z → ∃ b t, (bitsM c.pairs)[k]? = some b ∧ z = .ref t ∧ t ≠ D ∧ H2 t = none ∧ H' t = some (.lst (b.map vb))) (fun _ => rfl) (SqL.of el) (by omega) (fun _ _ _ _ jj => jj.1) (fun D H' _ g => ⟨g, rfl, fun k z e => by cases e⟩) ?_ (fun _ _ _ _ jj => jj.2.1) ?_ ?_
  · rintro i zs D H' o nD ⟨s1, s2, s3⟩
    refine ⟨sm_mut s1 nD, s2, fun k z e => ?_⟩
    obtain ⟨b, t, e1, e2, e3, e4, e5⟩ := s3 k z e
    exact ⟨b, t, e1, e2, e3, e4, by rw [upd_ne e3]; exact e5⟩
  · rintro i x D zs H' Q' hx nD ⟨s1, s2, s3⟩ eD kk
    obtain ⟨b, hb, a, rfl, ha⟩ := (bt.mono s1).get hx
    tm_at "j"
    rename_i t H3 nt g3 et
    refine kk _ _ ⟨s1.trans g3, by rw [List.length_append, s2]; rfl, fun k z e => ?_⟩ (g3 _ _ eD)
    by_cases hk : k < zs.length
    · rw [List.getElem?_append_left hk] at e
      obtain ⟨b', t', e1, e2, e3, e4, e5⟩ := s3 k z e
      exact ⟨b', t', e1, e2, e3, e4, g3 _ _ e5⟩
    · rw [List.getElem?_append_right (by omega)] at e
      have hk2 : k - zs.length = 0 := by
        have := (List.getElem?_eq_some_iff.mp e).1
        have : ([V.ref t] : List V).length = 1 := rfl
        omega
      rw [hk2] at e
      obtain rfl := Option.some.inj e
      have : k = i := by omega
      rw [this]
      exact ⟨b, t, hb, rfl, (ne_of_none eD nt).symm, s1.free nt, et⟩
  · rintro D zs H3 nD ⟨s1, s2, s3⟩ eD
    refine q D zs H3 (g02.trans s1) (g02.free nD) eD ⟨by rw [s2, bt.1], fun k z e => ?_⟩
    obtain ⟨b, t, e1, e2, e3, e4, e5⟩ := s3 k z e
    exact ⟨b, t, e1, e2, g02.free e4, e5⟩
/-! least of alike data -/
theorem dpAll_of {K : PySem.W.Frag} {H : Hp} : ∀ {zs : List V} {ds : List PyData}, zs.length = ds.length → (∀ (i : Nat) (z : V) (d : PyData), zs[i]? = some z → ds[i]? = some d → Dp K H z d) → DpAll K H zs ds
  | [], [], _, _ => .nil
  | [], _ :: _, h, _ => by cases h
  | _ :: _, [], h, _ => by cases h
  | z :: zs, d :: ds, h, p => .cons (p 0 z d rfl rfl) (dpAll_of (Nat.succ.inj h) fun i z d e1 e2 => p (i + 1) z d e1 e2)
theorem alike_L (xs : List KL) : PySem.W.AlikeAll (xs.map eL) := by
  refine ⟨fun x hx y hy => ?_, fun x hx => ?_⟩
  · obtain ⟨a, _, rfl⟩ := List.mem_map.mp hx
    obtain ⟨b, _, rfl⟩ := List.mem_map.mp hy
    show PySem.W.alike (.tuple [.int (a.1 : Int), .list (bd a.2)]) (.tuple [.int (b.1 : Int), .list (bd b.2)]) = true
    simp [PySem.W.alike, PySem.W.alikeAll, alike_bd]
  · obtain ⟨a, _, rfl⟩ := List.mem_map.mp hx
    intro e; cases e
theorem alike_J (xs : List KJ) : PySem.W.AlikeAll (xs.map eJ) := by
  refine ⟨fun x hx y hy => ?_, fun x hx => ?_⟩
  · obtain ⟨a, _, rfl⟩ := List.mem_map.mp hx
    obtain ⟨b, _, rfl⟩ := List.mem_map.mp hy
    show PySem.W.alike (.tuple [.int (a.1 : Int), .list (bd a.2.1), .int (bi a.2.2)]) (.tuple [.int (b.1 : Int), .list (bd b.2.1), .int (bi b.2.2)]) = true
    simp [PySem.W.alike, PySem.W.alikeAll, alike_bd]
  · obtain ⟨a, _, rfl⟩ := List.mem_map.mp hx
    intro e; cases e
theorem dep_bd : ∀ ts : List Bool, PyData.depthAll (bd ts) = 0
  | [] => rfl
  | b :: r => by
    show max 0 (PyData.depthAll (bd r)) = 0
    rw [dep_bd r]; rfl
theorem dep_L : ∀ xs : List KL, PyData.depthAll (xs.map eL) ≤ 2
  | [] => Nat.zero_le _
  | x :: r => by
    show max (max 0 (max (PyData.depthAll (bd x.2) + 1) 0) + 1) (PyData.depthAll (r.map eL)) ≤ 2
    have := dep_L r
    rw [dep_bd]
    omega
theorem dep_J : ∀ xs : List KJ, PyData.depthAll (xs.map eJ) ≤ 2
  | [] => Nat.zero_le _
  | x :: r => by
    show max (max 0 (max (PyData.depthAll (bd x.2.1) + 1) (max 0 0)) + 1) (PyData.depthAll (r.map eJ)) ≤ 2
    have := dep_J r
    rw [dep_bd]
    omega
theorem dp_bd {K : PySem.W.Frag} {H : Hp} : ∀ ts : List Bool, DpAll K H (ts.map vb) (bd ts)
  | [] => .nil
  | b :: r => .cons (.int _) (dp_bd r)
/-- min of a list of (number, turns) -/
theorem l_minL {K : PySem.W.Frag} {H : Hp} {Q : VK} {D : Addr} {zs : List V} (ks : List KL) (hD : SqL K H D zs) (hn : zs.length = ks.length) (h0 : 0 < ks.length) (hz : ∀ (i : Nat) (z : V) (k : KL), zs[i]? = some z → ks[i]? = some k → ∃ p t, z = .ref p ∧ H p = some (.tup [.int (k.1 : Int), .ref t]) ∧ H t = some (.lst (k.2.map vb)))
    (q : ∀ (i : Nat) (v : V) (k : KL), zs[i]? = some v → ks[i]? = some k → (∀ y ∈ ks, ltL y k = false) → Q v H) : rMinD K [.ref D] H Q := by
  cases ks with
  | nil => exact absurd h0 (Nat.lt_irrefl 0)
  | cons x r =>
    refine ⟨D, zs, eL x, r.map eL, rfl, hD, ?_, alike_L (x :: r), Nat.le_trans (dep_L (x :: r)) (by decide), fun i v hv he => ?_⟩
    · refine dpAll_of (by rw [hn, List.length_cons, List.length_cons, List.length_map]) fun i z d e1 e2 => ?_
      rw [← List.map_cons, List.getElem?_map] at e2
      cases ek : (x :: r)[i]? with
      | none => rw [ek] at e2; cases e2
      | some k =>
        rw [ek] at e2
        obtain rfl := Option.some.inj e2
        obtain ⟨p, t, rfl, h1, h2⟩ := hz i z k e1 ek
        exact .tup (SqT.of h1) (.cons (.int _) (.cons (.lst (SqL.of h2) (dp_bd _)) .nil))
    · have hi : i < (x :: r).length := by rw [← hn]; exact (List.getElem?_eq_some_iff.mp hv).1
      have ek : (x :: r)[i]? = some ((x :: r)[i]'hi) := List.getElem?_eq_getElem hi
      rw [fold_map eL ltL dlt_L, ← List.map_cons, List.getD_eq_getElem?_getD, List.getElem?_map, ek] at he
      have he : eL ((x :: r)[i]'hi) = eL (r.foldl (fun a y => if ltL y a then y else a) x) := he
      refine q i v _ hv ek fun y hy => ?_
      rw [← dlt_L, he, dlt_L]
      exact (fold_least trL asymL r x).2 y hy
theorem l_minJ {K : PySem.W.Frag} {H : Hp} {Q : VK} {D : Addr} {zs : List V} (ks : List KJ) (hD : SqL K H D zs) (hn : zs.length = ks.length) (h0 : 0 < ks.length) (hz : ∀ (i : Nat) (z : V) (k : KJ), zs[i]? = some z → ks[i]? = some k → ∃ p t, z = .ref p ∧ H p = some (.tup [.int (k.1 : Int), .ref t, vb k.2.2]) ∧ H t = some (.lst (k.2.1.map vb)))
    (q : ∀ (i : Nat) (v : V) (k : KJ), zs[i]? = some v → ks[i]? = some k → (∀ y ∈ ks, ltJ y k = false) → Q v H) : rMinD K [.ref D] H Q := by
  cases ks with
  | nil => exact absurd h0 (Nat.lt_irrefl 0)
  | cons x r =>
    refine ⟨D, zs, eJ x, r.map eJ, rfl, hD, ?_, alike_J (x :: r), Nat.le_trans (dep_J (x :: r)) (by decide), fun i v hv he => ?_⟩
    · refine dpAll_of (by rw [hn, List.length_cons, List.length_cons, List.length_map]) fun i z d e1 e2 => ?_
      rw [← List.map_cons, List.getElem?_map] at e2
      cases ek : (x :: r)[i]? with
      | none => rw [ek] at e2; cases e2
      | some k =>
        rw [ek] at e2
        obtain rfl := Option.some.inj e2
        obtain ⟨p, t, rfl, h1, h2⟩ := hz i z k e1 ek
        exact .tup (SqT.of h1) (.cons (.int _) (.cons (.lst (SqL.of h2) (dp_bd _)) (.cons (.int _) .nil)))
    · have hi : i < (x :: r).length := by rw [← hn]; exact (List.getElem?_eq_some_iff.mp hv).1
      have ek : (x :: r)[i]? = some ((x :: r)[i]'hi) := List.getElem?_eq_getElem hi
      rw [fold_map eJ ltJ dlt_J, ← List.map_cons, List.getD_eq_getElem?_getD, List.getElem?_map, ek] at he
      have he : eJ ((x :: r)[i]'hi) = eJ (r.foldl (fun a y => if ltJ y a then y else a) x) := he
      refine q i v _ hv ek fun y hy => ?_
      rw [← dlt_J, he, dlt_J]
      exact (fold_least trJ asymJ r x).2 y hy
def keysL (ch : List Nat) (c : Cond) : List KL := (bitsM c.pairs).map fun b => (looksM ch (exch c b), b)
def keysJ (ch : List Nat) (c : Cond) : List KJ := (bitsM c.pairs).flatMap fun b => [(jumpsM ch false (exch c b), b, false), (jumpsM ch true (exch c b), b, true)]
theorem best_L {ch : List Nat} {c : Cond} {b : List Bool} (hb : b.length = c.pairs) (h : ∀ y ∈ keysL ch c, ltL y (looksM ch (exch c b), b) = false) : BestL ch c b := by
  refine ⟨hb, fun us hu => ?_⟩
  have hm : us ∈ bitsM c.pairs := by rw [← hu]; exact bitsM_all us
  have := ltL_no.mp (h (looksM ch (exch c us), us) (List.mem_map.mpr ⟨us, hm, rfl⟩))
  rcases this with h1 | ⟨h1, h2⟩
  · exact .inl h1
  · exact .inr ⟨h1, lexS_B b us (by rw [hb, hu]) h2⟩
theorem best_J {ch : List Nat} {c : Cond} {b : List Bool} {f : Bool} (hb : b.length = c.pairs) (h : ∀ y ∈ keysJ ch c, ltJ y (jumpsM ch f (exch c b), b, f) = false) : BestJ ch c b f := by
  refine ⟨hb, fun us g hu => ?_⟩
  have hm : us ∈ bitsM c.pairs := by rw [← hu]; exact bitsM_all us
  have hk : (jumpsM ch g (exch c us), us, g) ∈ keysJ ch c := by
    refine List.mem_flatMap.mpr ⟨us, hm, ?_⟩
    cases g
    · exact List.mem_cons_self
    · exact List.mem_cons_of_mem _ (List.mem_singleton.mpr rfl)
  have := ltJ_no.mp (h _ hk)
  rcases this with h1 | ⟨h1, h2, h3⟩
  · exact .inl h1
  · refine .inr ⟨h1, ?_⟩
    by_cases e : b = us
    · refine .inr ⟨e, fun hf => ?_⟩
      rcases h3 e.symm with k | k
      · exact k
      · have k : f = false := k
        rw [hf] at k; cases k
    · exact .inl ⟨e, lexS_B b us (by rw [hb, hu]) h2⟩
theorem pure_fl {K : PySem.W.Frag} {w : World} (vs : List V) (H : Hp) (Q : VK) (E : XK) (h : spFL vs H Q E) :
    t_fewest_looks K w spCFew spLikely spAllTurns (spExch K 20) (spLooksAll K) (Ends.mk (fun _ H' => Q .non H') Q (fun _ _ => False) (fun _ _ => False)) (start ["condition", "chances", "likely", "turns"] vs) H := by
  obtain ⟨v, u, c, ch, rfl, hc, ho, hd, hk, h6, hch, q⟩ := h
  unfold t_fewest_looks
  tm_at "j"
  refine ⟨v, u, c, ch, rfl, hc, ho, hd, hk, h6, hch, fun H1 g1 => ?_⟩
  tm_at "j"
  refine ⟨u, ch, rfl, hch.mono g1, fun ll lys H2 g2 nll ell lk => ?_⟩
  tm_at "j"
  refine ⟨v, c, rfl, (hc.mono g1).mono g2, by omega, by omega, fun lt tys H3 g3 nlt elt hT => ?_⟩
  have g03 := (g1.trans g2).trans g3
  have hty : tys.length = 2 ^ c.pairs := by rw [hT.1, bitsM_len]
  have hp2 : 2 ^ c.pairs ≤ 2 ^ 6 := Nat.pow_le_pow_right (by decide) h6
  refine lcL_rel (fun i y H' => ∃ p b t, (bitsM c.pairs)[i]? = some b ∧ tys[i]? = some (.ref t) ∧ y = .ref p ∧ H' p = some (.tup [.int (looksM ch (exch c b) : Int), .ref t])) (fun i y H H' tp ⟨p, b, t, h1, h2, h3, h4⟩ => ⟨p, b, t, h1, h2, h3, tp _ _ h4⟩) (fun _ => rfl) (SqL.of elt) (by omega) ?_ ?_
  · intro i x H' Q' hx g kk
    obtain ⟨b, t, hb, rfl, nt, et⟩ := hT.2 i x hx
    have hbl : b.length = c.pairs := bitsM_mem _ b (List.mem_of_getElem? hb)
    have g0 := g03.trans g
    tm_at "j"
    refine ⟨v, c, t, b, rfl, hc.mono g0, SqL.of (g _ _ et), hbl, by omega, by omega, by decide, fun v4 H4 g4 hc4 => ?_⟩
    tm_at "j"
    refine ⟨v4, ll, exch c b, lys, ch, rfl, hc4, exch_ok c b ho, by rw [exch_deep]; exact hd, SqL.of (g4 _ _ (g _ _ (g3 _ _ ell))), ((lk.mono g3).mono g).mono g4, fun H5 g5 => ?_⟩
    tm_at "j"
    rename_i p6 H6 n6 g6 e6
    exact kk _ _ ((g4.trans g5).trans g6) ⟨p6, b, t, hb, hx, rfl, e6⟩
  · intro D zs H4 nD g4 eD hzs hR
    refine l_minL (keysL ch c) (SqL.of eD) (by unfold keysL; rw [hzs, List.length_map, bitsM_len, hty]) (by unfold keysL; rw [List.length_map, bitsM_len]; exact Nat.pow_pos (by decide)) ?_ ?_
    · intro i z k e1 e2
      obtain ⟨p, b, t, h1, h2, rfl, h4⟩ := hR i z e1
      unfold keysL at e2
      rw [List.getElem?_map, h1] at e2
      obtain rfl := Option.some.inj e2
      obtain ⟨b', t', hb', et', _, el'⟩ := hT.2 i _ h2
      rw [h1] at hb'
      obtain rfl := Option.some.inj hb'
      obtain rfl := V.ref.inj et'
      exact ⟨p, t, rfl, h4, g4 _ _ el'⟩
    · intro i y k e1 e2 least
      obtain ⟨p, b, t, h1, h2, rfl, h4⟩ := hR i y e1
      have e2' := e2
      unfold keysL at e2'
      rw [List.getElem?_map, h1] at e2'
      obtain rfl := Option.some.inj e2'
      obtain ⟨b', t', hb', et', nt', el'⟩ := hT.2 i _ h2
      rw [h1] at hb'
      obtain rfl := Option.some.inj hb'
      obtain rfl := V.ref.inj et'
      exact q _ _ (g03.trans g4) ⟨p, t, b, rfl, (g1.trans g2).free nt', h4, g4 _ _ el', best_L (bitsM_mem _ b (List.mem_of_getElem? h1)) least⟩
theorem pure_fj {K : PySem.W.Frag} {w : World} (vs : List V) (H : Hp) (Q : VK) (E : XK) (h : spFJ vs H Q E) :
    t_fewest_jumps K w spCFew spLikely spAllTurns (spExch K 20) (spJumpsAll K) (Ends.mk (fun _ H' => Q .non H') Q (fun _ _ => False) (fun _ _ => False)) (start ["condition", "chances", "likely", "turns", "first"] vs) H := by
  obtain ⟨v, u, c, ch, rfl, hc, ho, hd, hk, h6, hch, q⟩ := h
  unfold t_fewest_jumps
  tm_at "j"
  refine ⟨v, u, c, ch, rfl, hc, ho, hd, hk, h6, hch, fun H1 g1 => ?_⟩
  tm_at "j"
  refine ⟨u, ch, rfl, hch.mono g1, fun ll lys H2 g2 nll ell lk => ?_⟩
  tm_at "j"
  refine ⟨v, c, rfl, (hc.mono g1).mono g2, by omega, by omega, fun lt tys H3 g3 nlt elt hT => ?_⟩
  have g03 := (g1.trans g2).trans g3
  have hty : tys.length = 2 ^ c.pairs := by rw [hT.1, bitsM_len]
  have hp2 : 2 ^ c.pairs ≤ 2 ^ 6 := Nat.pow_le_pow_right (by decide) h6
  have kat : ∀ (i : Nat) (b : List Bool) (f : Bool), (bitsM c.pairs)[i]? = some b → (keysJ ch c)[2 * i + f.toNat]? = some (jumpsM ch f (exch c b), b, f) := by
    intro i b f hb
    have := flat_at (fun b : List Bool => ((jumpsM ch false (exch c b), b, false) : KJ)) (fun b : List Bool => ((jumpsM ch true (exch c b), b, true) : KJ)) (bitsM c.pairs) i
    unfold keysJ
    cases f
    · rw [Bool.toNat_false, Nat.add_zero, this.1, hb]; rfl
    · rw [Bool.toNat_true, this.2, hb]; rfl
  refine lc2_rel (fun m y H' => ∃ i p b t f, m = 2 * i + f.toNat ∧ (bitsM c.pairs)[i]? = some b ∧ tys[i]? = some (.ref t) ∧ y = .ref p ∧ H' p = some (.tup [.int (jumpsM ch f (exch c b) : Int), .ref t, vb f])) (fun m y H H' tp ⟨i, p, b, t, f, h0, h1, h2, h3, h4⟩ => ⟨i, p, b, t, f, h0, h1, h2, h3, tp _ _ h4⟩) (SqL.of elt) (by omega) ?_ ?_ ?_ ?_
  · exact fun _ => rfl
  · exact fun _ _ => rfl
  · intro i x f H' Q' hx g kk
    obtain ⟨b, t, hb, rfl, nt, et⟩ := hT.2 i x hx
    have hbl : b.length = c.pairs := bitsM_mem _ b (List.mem_of_getElem? hb)
    have g0 := g03.trans g
    tm_at "j"
    refine ⟨v, c, t, b, rfl, hc.mono g0, SqL.of (g _ _ et), hbl, by omega, by omega, by decide, fun v4 H4 g4 hc4 => ?_⟩
    tm_at "j"
    refine ⟨v4, ll, exch c b, lys, ch, f, rfl, hc4, exch_ok c b ho, by rw [exch_deep]; exact hd, by rw [exch_looks]; exact hk, SqL.of (g4 _ _ (g _ _ (g3 _ _ ell))), ((lk.mono g3).mono g).mono g4, fun H5 g5 => ?_⟩
    tm_at "j"
    rename_i p6 H6 n6 g6 e6
    exact kk _ _ ((g4.trans g5).trans g6) ⟨i, p6, b, t, f, rfl, hb, hx, rfl, e6⟩
  · intro D zs H4 nD g4 eD hzs hR
    have hkl : (keysJ ch c).length = 2 * 2 ^ c.pairs := by
      unfold keysJ
      rw [flat_len, bitsM_len]
    tm_at "j"
    refine l_minJ (keysJ ch c) (SqL.of eD) (by rw [hzs, hkl, hty]) (by rw [hkl]; have : 0 < 2 ^ c.pairs := Nat.pow_pos (by decide); omega) ?_ ?_
    · intro m z k e1 e2
      obtain ⟨i, p, b, t, f, h0, h1, h2, rfl, h4⟩ := hR m z e1
      subst h0
      rw [kat i b f h1] at e2
      obtain rfl := Option.some.inj e2
      obtain ⟨b', t', hb', et', _, el'⟩ := hT.2 i _ h2
      rw [h1] at hb'
      obtain rfl := Option.some.inj hb'
      obtain rfl := V.ref.inj et'
      exact ⟨p, t, rfl, h4, g4 _ _ el'⟩
    · intro m y k e1 e2 least
      obtain ⟨i, p, b, t, f, h0, h1, h2, rfl, h4⟩ := hR m y e1
      subst h0
      rw [kat i b f h1] at e2
      obtain rfl := Option.some.inj e2
      obtain ⟨b', t', hb', et', nt', el'⟩ := hT.2 i _ h2
      rw [h1] at hb'
      obtain rfl := Option.some.inj hb'
      obtain rfl := V.ref.inj et'
      exact q _ _ (g03.trans g4) ⟨p, t, b, f, rfl, (g1.trans g2).free nt', h4, g4 _ _ el', best_J (bitsM_mem _ b (List.mem_of_getElem? h1)) least⟩

/-! parting, alike, like_worth -/
theorem told_fwd {H H1 H2 : Hp} {v : V} {x : Bool × List Nat} (g : Same H1 H2) (h : Told H H1 v x) : Told H H2 v x := by
  obtain ⟨p, l, rfl, h0, hp, hq⟩ := h
  exact ⟨p, l, rfl, h0, g _ _ hp, g _ _ hq⟩
theorem part_stays {c d : Cond} {n m : Nat} (h : partM c d n = some m) : ∀ k, partM c d (n + k) = some m
  | 0 => h
  | k + 1 => by
    show partM c d (n + k + 1) = some m
    unfold partM
    rw [part_stays h k]
theorem part_found {c d : Cond} {n : Nat} (h : partM c d n = none) (u : unlike c d n = true) : partM c d (n + 1) = some n := by
  unfold partM
  rw [h, u]; rfl
theorem part_on {c d : Cond} {n : Nat} (h : partM c d n = none) (u : unlike c d n = false) : partM c d (n + 1) = none := by
  unfold partM
  rw [h, u]; rfl
theorem pure_parting {K : PySem.W.Frag} {w : World} (vs : List V) (H : Hp) (Q : VK) (E : XK) (h : spParting vs H Q E) :
    t_parting K w spCheck spAllBits (spOut 11) (Ends.mk (fun _ H' => Q .non H') Q (fun _ _ => False) (fun _ _ => False)) (start ["one", "other", "worths", "told_of_one", "told_of_other"] vs) H := by
  obtain ⟨v, u, c, d, rfl, hc, hd, ⟨ho1, hd1, hk1⟩, ⟨ho2, hd2, hk2⟩, q⟩ := h
  unfold t_parting
  tm_at "j"
  refine ⟨v, c, rfl, hc, ho1, hd1, hk1, fun H1 g1 => ?_⟩
  tm_at "j"
  refine ⟨u, d, rfl, hd.mono g1, ho2, hd2, hk2, fun H2 g2 => ?_⟩
  tm_at "j"
  refine ⟨8, rfl, by decide, fun l ys H3 g3 nl el bt => ?_⟩
  have g03 := (g1.trans g2).trans g3
  have hys : ys.length = 256 := by rw [bt.1, bitsM_len]
  refine forL (xs := ys) (fun i σ' H' => ∃ o2 o3 o4, σ' = [some v, some u, o2, o3, o4] ∧ Same H3 H' ∧ partM c d i = none) ⟨_, _, _, rfl, Same.refl _, rfl⟩ (SqL.of el) ?_ ?_ ?_
  · rintro i σ' H' hi ⟨_, _, _, _, g, _⟩
    exact SqL.of (g _ _ el)
  · rintro i x σ' H' hx ⟨o2, o3, o4, rfl, g, hp⟩
    obtain ⟨hi, hw⟩ := bits_wa bt hx
    have hw := hw.mono g
    have g0 := g03.trans g
    tm_at "j"
    refine ⟨v, x, c, wts i, rfl, hc.mono g0, by omega, by decide, ho1, hw, fun v4 H4 g4 t4 => ?_⟩
    tm_at "j"
    refine ⟨u, x, d, wts i, rfl, (hd.mono g0).mono g4, by omega, by decide, ho2, hw.mono g4, fun v5 H5 g5 t5 => ?_⟩
    tm_at "j"
    refine l_neD (Dp.mono g5 (dp_told t4)) (dp_told t5) (shaped_told _) (shaped_told _) ?_
    rw [eqv_told]
    refine l_bl ?_
    refine i_b (fun e => ?_) (fun e => ?_)
    · tm_at "j"
      rename_i p6 H6 n6 g6 e6
      have hf := part_stays (part_found hp (show unlike c d i = true from e)) (256 - (i + 1))
      rw [show i + 1 + (256 - (i + 1)) = 256 by omega] at hf
      rw [hf] at q
      have g46 := (g4.trans g5).trans g6
      exact q _ _ (g0.trans g46) ⟨p6, x, v4, v5, rfl, e6, hw.mono g46, told_fwd (g5.trans g6) (t4.back g0), told_fwd g6 (t5.back (g0.trans g4))⟩
    · tm_at "j"
      exact ⟨_, _, _, rfl, g.trans (g4.trans g5), part_on hp (show unlike c d i = false from e)⟩
  · rintro σ' H' ⟨o2, o3, o4, rfl, g, hp⟩
    tm_at "j"
    rw [hys] at hp
    rw [hp] at q
    exact q _ _ (g03.trans g) rfl
theorem pure_palike {K : PySem.W.Frag} {w : World} (vs : List V) (H : Hp) (Q : VK) (E : XK) (h : spAlikeP vs H Q E) :
    t_alike K w spParting (Ends.mk (fun _ H' => Q .non H') Q (fun _ _ => False) (fun _ _ => False)) (start ["one", "other"] vs) H := by
  obtain ⟨v, u, c, d, rfl, hc, hd, gc, gd, q⟩ := h
  unfold t_alike
  tm_at "j"
  refine ⟨v, u, c, d, rfl, hc, hd, gc, gd, fun v1 H1 g1 p1 => ?_⟩
  have hq := q _ g1
  cases hp : partM c d 256 with
  | none =>
    rw [hp] at p1 hq
    obtain rfl : v1 = .non := p1
    tm_at "j"
    exact hq
  | some m =>
    rw [hp] at p1 hq
    obtain ⟨p, _, _, _, rfl, _⟩ := p1
    tm_at "j"
    exact hq
theorem same_all (c d : Cond) : ∀ n, ((List.range n).map fun k => ((ev (wts k) c).1 == (ev (wts k) d).1)).all id = sameM c d n
  | 0 => rfl
  | n + 1 => by
    rw [List.range_succ, List.map_append, List.all_append, same_all c d n]
    show (sameM c d n && (((ev (wts n) c).1 == (ev (wts n) d).1) && true)) = (sameM c d n && ((ev (wts n) c).1 == (ev (wts n) d).1))
    rw [Bool.and_true]
theorem pure_like {K : PySem.W.Frag} {w : World} (vs : List V) (H : Hp) (Q : VK) (E : XK) (h : spLike vs H Q E) :
    t_like_worth K w spCheck spAllBits (spOut 11) (Ends.mk (fun _ H' => Q .non H') Q (fun _ _ => False) (fun _ _ => False)) (start ["one", "other", "worths"] vs) H := by
  obtain ⟨v, u, c, d, rfl, hc, hd, ⟨ho1, hd1, hk1⟩, ⟨ho2, hd2, hk2⟩, q⟩ := h
  unfold t_like_worth
  tm_at "j"
  refine ⟨v, c, rfl, hc, ho1, hd1, hk1, fun H1 g1 => ?_⟩
  tm_at "j"
  refine ⟨u, d, rfl, hd.mono g1, ho2, hd2, hk2, fun H2 g2 => ?_⟩
  tm_at "j"
  refine ⟨8, rfl, by decide, fun l ys H3 g3 nl el bt => ?_⟩
  have g03 := (g1.trans g2).trans g3
  have hys : ys.length = 256 := by rw [bt.1, bitsM_len]
  refine lcL (xs := ys) (ys := (List.range 256).map fun k => V.bl ((ev (wts k) c).1 == (ev (wts k) d).1)) (fun _ => rfl) (SqL.of el) (by omega) ⟨by rw [List.length_map, List.length_range, hys], ?_⟩ ?_
  · intro i x y H' Q' hx hy g kk
    obtain ⟨hi, hw⟩ := bits_wa bt hx
    have hw := hw.mono g
    rw [List.getElem?_map, List.getElem?_range hi] at hy
    obtain rfl := Option.some.inj hy
    have g0 := g03.trans g
    tm_at "j"
    refine ⟨v, x, c, wts i, rfl, hc.mono g0, by omega, by decide, ho1, hw, fun v4 H4 g4 t4 => ?_⟩
    obtain ⟨p4, l4, rfl, n4, e4, e4'⟩ := t4
    tm_at "j"
    refine ⟨u, x, d, wts i, rfl, (hd.mono g0).mono g4, by omega, by decide, ho2, hw.mono g4, fun v5 H5 g5 t5 => ?_⟩
    obtain ⟨p5, l5, rfl, n5, e5, e5'⟩ := t5
    tm_at "j"
    rw [vbb]
    exact kk _ (g4.trans g5)
  · intro D H4 nD g4 eD
    refine l_all (bs := (List.range 256).map fun k => ((ev (wts k) c).1 == (ev (wts k) d).1)) (by rw [List.map_map]; exact SqL.of eD) ?_
    rw [same_all]
    exact q _ (g03.trans g4)

/-- a draw: some number of m -/
def spTake : Sp := fun vs H Q _ => ∃ b l ns s, ∃ m : Int, vs = [.ref b, .int m] ∧ Bx H b l ns s ∧ 0 < m ∧ m < 1000000 ∧ ∀ (r : Int) ns' s' H', Fr b l H H' → Bx H' b l ns' s' → 0 ≤ r → r < m → Q (.int r) H'
theorem pure_take {K : PySem.W.Frag} {w : World} (vs : List V) (H : Hp) (Q : VK) (E : XK) (h : spTake vs H Q E) :
    t_law_take K w (Ends.mk (fun _ H' => Q .non H') Q (fun _ _ => False) (fun _ _ => False)) (start ["_law_box", "_law_many", "_law_number"] vs) H := by
  obtain ⟨b, l, ns, s, m, rfl, x, m0, m1, q⟩ := h
  have hb := x.hb
  have hl := x.hl
  have s0 := x.s0
  have s1 := x.s1
  have n63 := x.n63
  unfold t_law_take
  tm_at "j"
  rename_i p H1 np g1 e1
  have x1 := x.same g1
  refine l_eqD (.lst (by tm_at "hp") (dp_ints ns)) (.lst (by tm_at "hp") .nil) (shaped_ints ns) rfl ?_
  cases ns with
  | nil =>
    rw [show PyData.eqv (.list (([] : List Int).map PyData.int)) (.list []) = true from rfl]
    tm_at "j"
    refine l_setL' (K := K) x1.hb rfl fun H2 g2 e2 => ?_
    tm_at "j"
    refine q _ _ _ _ ((Fr.of g1).trans (Fr.b g2)) ⟨x.ne, e2, g2 _ _ x.ne.symm x1.hl, ?_, ?_, by decide⟩ ?_ ?_
    · exact Int.emod_nonneg _ (by decide)
    · exact Int.emod_lt_of_pos _ (by decide)
    · exact Int.emod_nonneg _ (by omega)
    · exact Int.emod_lt_of_pos _ m0
  | cons n r =>
    rw [show PyData.eqv (.list ((n :: r).map PyData.int)) (.list []) = false from rfl]
    have hl1 : H1 l = some (.lst (.int n :: r.map V.int)) := x1.hl
    have hb1 := x1.hb
    have f0 : 0 ≤ n % m := Int.emod_nonneg _ (by omega)
    have f1 : n % m < m := Int.emod_lt_of_pos _ m0
    tm_at "j"
    refine l_setL' (K := K) hl1 (ix0 (by simp)) fun H2 g2 e2 => ?_
    have hb2 : H2 b = some (.lst [.ref l, .int s]) := g2 _ _ x.ne hb1
    have e2' : H2 l = some (.lst (.int (n / m) :: r.map V.int)) := e2
    have fr2 : Fr b l H H2 := (Fr.of g1).trans (Fr.l g2)
    tm_at "j"
    refine i_b (fun e => ?_) (fun e => ?_)
    · tm_at "j"
      refine l_pop0' e2' fun H3 g3 e3 => ?_
      tm_at "j"
      refine q _ r s _ (fr2.trans (Fr.l g3)) ⟨x.ne, g3 _ _ x.ne hb2, e3, s0, s1, ?_⟩ f0 f1
      have : (n :: r).length = r.length + 1 := rfl
      omega
    · tm_at "j"
      refine i_b (fun e => ?_) (fun e => ?_)
      · tm_at "j"
        refine l_pop0' e2' fun H3 g3 e3 => ?_
        tm_at "j"
        refine q _ r s _ (fr2.trans (Fr.l g3)) ⟨x.ne, g3 _ _ x.ne hb2, e3, s0, s1, ?_⟩ f0 f1
        have : (n :: r).length = r.length + 1 := rfl
        omega
      · tm_at "j"
        exact q _ (n / m :: r) s _ fr2 ⟨x.ne, hb2, e2', s0, s1, n63⟩ f0 f1

/-! _law_text -/
def S (l : List Nat) : Str := ⟨l.toArray⟩
theorem S_app (a b : List Nat) : S a ++ S b = S (a ++ b) := by
  show Str.mk (a.toArray ++ b.toArray) = Str.mk (a ++ b).toArray
  rw [List.append_toArray]
theorem S_len (a : List Nat) : (S a).length = a.length := rfl
def rk (a : Bool) : Nat := if a then 1 else 0
def sg (a : Bool) : Nat := if a then 38 else 124
def textL : Cond → Nat → List Nat
  | .look i, _ => [97 + i]
  | .not c, _ => 33 :: textL c 2
  | .bin a l r, least => if least ≤ rk a then textL l (rk a) ++ [sg a] ++ textL r (rk a + 1) else 40 :: (textL l (rk a) ++ [sg a] ++ textL r (rk a + 1)) ++ [41]
theorem text_len : ∀ (c : Cond) (n : Nat), (textL c n).length + 3 ≤ 8 * 2 ^ c.deep
  | .look _, _ => by show 1 + 3 ≤ 8 * 1; decide
  | .not c, n => by
    show (textL c 2).length + 1 + 3 ≤ 8 * 2 ^ (c.deep + 1)
    have := text_len c 2
    rw [Nat.pow_succ]
    omega
  | .bin a l r, n => by
    have h1 := text_len l (rk a)
    have h2 := text_len r (rk a + 1)
    have p1 := Nat.pow_le_pow_right (n := 2) (by decide) (Nat.le_max_left l.deep r.deep)
    have p2 := Nat.pow_le_pow_right (n := 2) (by decide) (Nat.le_max_right l.deep r.deep)
    show (textL (.bin a l r) n).length + 3 ≤ 8 * 2 ^ (max l.deep r.deep + 1)
    rw [Nat.pow_succ]
    unfold textL
    split
    · simp only [List.length_append, List.length_cons, List.length_nil]
      omega
    · simp only [List.length_append, List.length_cons, List.length_nil]
      omega
theorem text_small {c : Cond} {n : Nat} (h : c.deep < 13) : (textL c n).length ≤ 32768 := by
  have h1 := text_len c n
  have h2 : 2 ^ c.deep ≤ 2 ^ 12 := Nat.pow_le_pow_right (by decide) (by omega)
  have : (2 : Nat) ^ 12 = 4096 := by decide
  omega
def spText (n : Nat) : Sp := fun vs H Q _ => ∃ v c, ∃ m : Nat, vs = [v, .int (m : Int)] ∧ CA H v c ∧ c.ok ∧ c.deep < n ∧ n ≤ 13 ∧ ∀ H', Same H H' → Q (.str (S (textL c m))) H'
theorem l_addS {a b : List Nat} {H : Hp} {Q : VK} (h : a.length + b.length ≤ 100000) (q : Q (.str (S (a ++ b))) H) : rAddStr (.str (S a)) (.str (S b)) H Q := ⟨S a, S b, rfl, rfl, Nat.le_trans h (by decide), by rw [S_app]; exact q⟩
theorem letter {i : Nat} (h : i < 8) : atI ("abcdefgh" : Str).cps.toList (i : Int) = some (97 + i) := by
  obtain rfl | rfl | rfl | rfl | rfl | rfl | rfl | rfl : i = 0 ∨ i = 1 ∨ i = 2 ∨ i = 3 ∨ i = 4 ∨ i = 5 ∨ i = 6 ∨ i = 7 := by omega
  all_goals decide +kernel
theorem sign_at {H : Hp} {p1 p2 : Addr} (a : Bool) (e1 : H p1 = some (.tup [.str "|", .int 0])) (e2 : H p2 = some (.tup [.str "&", .int 1])) : ∃ p, atI [V.ref p1, V.ref p2] (if a = true then 1 else 0) = some (.ref p) ∧ H p = some (.tup [.str (S [sg a]), .int (rk a : Int)]) := by
  cases a
  · exact ⟨p1, rfl, by rw [e1, show ("|" : Str) = S [sg false] by decide +kernel]; rfl⟩
  · exact ⟨p2, rfl, by rw [e2, show ("&" : Str) = S [sg true] by decide +kernel]; rfl⟩
theorem pure_text {K : PySem.W.Frag} {w : World} {n : Nat} (vs : List V) (H : Hp) (Q : VK) (E : XK) (h : spText (n + 1) vs H Q E) :
    t_law_text K w (spText n) (Ends.mk (fun _ H' => Q .non H') Q (fun _ _ => False) (fun _ _ => False)) (start ["_law_part_here", "_law_least", "_law_sign", "_law_rank", "_law_text_here"] vs) H := by
  obtain ⟨v, c, m, rfl, hc, ho, hn, n13, q⟩ := h
  unfold t_law_text
  cases hc with
  | look e =>
    rename_i i
    have hi : i < 8 := ho
    tm_at "j"
    refine ⟨("abcdefgh" : Str), (i : Int), 97 + i, rfl, rfl, by decide +kernel, letter hi, ?_⟩
    tm_at "j"
    exact q _ (Same.refl _)
  | not e hc =>
    rename_i v1 c1
    have hn1 : c1.deep + 1 < n + 1 := hn
    tm_at "j"
    refine ⟨v1, c1, 2, rfl, hc, ho, by omega, by omega, fun H1 g1 => ?_⟩
    tm_at "j"
    have := text_small (c := c1) (n := 2) (by omega)
    rw [show ("!" : Str) = S [33] by decide +kernel]
    refine l_addS (by show 1 + _ ≤ _; omega) ?_
    tm_at "j"
    exact q _ g1
  | bin e h1 h2 =>
    rename_i a v1 v2 c1 c2
    have hn1 : max c1.deep c2.deep + 1 < n + 1 := hn
    have hw : decide (V.str (wd a) = V.str "not") = false := by cases a <;> decide +kernel
    have hl : decide (V.str (wd a) = V.str "look") = false := by cases a <;> decide +kernel
    have ha : decide (V.str (wd a) = V.str "and") = a := by cases a <;> decide +kernel
    tm_at "j"
    rw [hl]
    tm_at "j"
    rw [hw]
    tm_at "j"
    rw [ha]
    tm_at "j"
    rename_i p1 H1 n1 g1 e1 p2 H2 n2 g2 e2 p3 H3 n3 g3 e3
    obtain ⟨p, hat, ep⟩ := sign_at a (g3 _ _ (g2 _ _ e1)) (g3 _ _ e2)
    have g03 := (g1.trans g2).trans g3
    refine l_ixL (SqL.of e3) hat ?_
    tm_at "j"
    refine ⟨v1, c1, rk a, rfl, h1.mono g03, ho.1, by omega, by omega, fun H4 g4 => ?_⟩
    tm_at "j"
    have l1 := text_small (c := c1) (n := rk a) (by omega)
    have l2 := text_small (c := c2) (n := rk a + 1) (by omega)
    refine l_addS (by show _ + 1 ≤ _; omega) ?_
    tm_at "j"
    refine ⟨v2, c2, rk a + 1, rfl, (h2.mono g03).mono g4, ho.2, by omega, by omega, fun H5 g5 => ?_⟩
    tm_at "j"
    refine l_addS (by rw [List.length_append]; show _ + 1 + _ ≤ _; omega) ?_
    tm_at "j"
    have hlen : (textL c1 (rk a) ++ [sg a] ++ textL c2 (rk a + 1)).length = (textL c1 (rk a)).length + 1 + (textL c2 (rk a + 1)).length := by rw [List.length_append, List.length_append]; rfl
    have hd : decide ((m : Int) ≤ (rk a : Int)) = decide (m ≤ rk a) := by
      by_cases h : m ≤ rk a
      · rw [decide_eq_true h, decide_eq_true (by omega)]
      · rw [decide_eq_false h, decide_eq_false (by omega)]
    rw [hd]
    have g05 := (g03.trans g4).trans g5
    have q5 := q _ g05
    unfold textL at q5
    by_cases h : m ≤ rk a
    · rw [if_pos h] at q5
      rw [decide_eq_true h]
      tm_at "j"
      exact q5
    · rw [if_neg h] at q5
      rw [decide_eq_false h]
      tm_at "j"
      rw [show ("(" : Str) = S [40] by decide +kernel, show (")" : Str) = S [41] by decide +kernel]
      refine l_addS (by show 1 + _ ≤ _; omega) ?_
      tm_at "j"
      refine l_addS (by show (textL c1 (rk a) ++ [sg a] ++ textL c2 (rk a + 1)).length + 1 + 1 ≤ _; omega) ?_
      tm_at "j"
      exact q5

/-! _law_brackets -/
def brk : Nat → List Nat → List Nat → Option (List (Nat × Nat))
  | _, _, [] => some []
  | p, st, x :: r => if x = 40 then brk (p + 1) (p :: st) r else if x = 41 then (match st with
    | [] => none
    | b :: st' => (brk (p + 1) st' r).map ((b, p) :: ·)) else brk (p + 1) st r
def prD (x : Nat × Nat) : PyData := .tuple [.int (x.1 : Int), .int (x.2 : Int)]
theorem sign_is {x y : Nat} : decide (V.str (S [x]) = V.str (S [y])) = decide (x = y) := by
  by_cases h : x = y
  · subst h
    rw [decide_eq_true rfl, decide_eq_true rfl]
  · rw [decide_eq_false h, decide_eq_false fun e => h ?_]
    have e1 : S [x] = S [y] := V.str.inj e
    have e2 : #[x] = #[y] := congrArg Str.cps e1
    have e3 : [x] = [y] := congrArg Array.toList e2
    exact List.head_eq_of_cons_eq e3
theorem l_ixS {l : List Nat} {i x : Nat} {H : Hp} {Q : VK} (hl : l.length ≤ 100000) (hx : l[i]? = some x) (q : Q (.str (S [x])) H) : rIxS (.str (S l)) (.int (i : Int)) H Q := by
  refine ⟨S l, (i : Int), x, rfl, rfl, Nat.le_trans hl (by decide), ?_, q⟩
  have hi := (List.getElem?_eq_some_iff.mp hx).1
  show (ixN l.length (i : Int)).bind (fun j => l[j]?) = some x
  rw [ixNat hi]
  exact hx
theorem l_popL {H : Hp} {p : Addr} {xs : List V} {x : V} {Q : VK} (h : H p = some (.lst (xs ++ [x]))) (q : ∀ H', But p H H' → H' p = some (.lst xs) → Q x H') : rPop (.ref p) [] H Q := by
  refine ⟨p, xs ++ [x], x, rfl, rfl, h, ?_, q _ but_upd ?_⟩
  · rw [List.length_append]
    show (xs ++ [x])[xs.length + 1 - 1]? = some x
    rw [Nat.add_sub_cancel, List.getElem?_append_right (Nat.le_refl _), Nat.sub_self]
    rfl
  · rw [upd_same, List.dropLast_concat]
def spBrk : Sp := fun vs H Q _ => ∃ l : List Nat, ∃ fs, vs = [.str (S l)] ∧ l.length ≤ 50000 ∧ brk 0 [] l = some fs ∧ ∀ p ys H', Same H H' → H p = none → H' p = some (.lst ys) → TDA H' ys (fs.map prD) → Q (.ref p) H'
theorem pure_brk {K : PySem.W.Frag} {w : World} (vs : List V) (H : Hp) (Q : VK) (E : XK) (h : spBrk vs H Q E) :
    t_law_brackets K w (Ends.mk (fun _ H' => Q .non H') Q (fun _ _ => False) (fun _ _ => False)) (start ["_law_text_here", "_law_found", "_law_waiting", "_law_place"] vs) H := by
  obtain ⟨l, fs, rfl, hl, hb, q⟩ := h
  unfold t_law_brackets
  tm_at "j"
  rename_i f H1 n1 g1 e1 wt H2 n2 g2 e2
  have fw : f ≠ wt := ne_of_none e1 n2
  have nf : H f = none := n1
  have nw : H wt = none := g1.free n2
  refine ⟨S l, rfl, Nat.le_trans hl (by decide), ?_⟩
  tm_at "j"
  rw [show (S l).length = l.length from rfl]
  refine forR (n := l.length) (by omega) (fun i σ' H' => ∃ o3 st ys ds rest, σ' = [some (.str (S l)), some (.ref f), some (.ref wt), o3] ∧ Same H H' ∧ H' f = some (.lst ys) ∧ TDA H' ys (ds.map prD) ∧ H' wt = some (.lst ((List.reverse st).map vn)) ∧ st.length ≤ i ∧ ys.length ≤ i ∧ brk i st (l.drop i) = some rest ∧ fs = ds ++ rest) ⟨_, [], [], [], fs, rfl, g1.trans g2, g2 _ _ e1, .nil, e2, Nat.le_refl _, Nat.le_refl _, hb, rfl⟩ ?_ ?_
  · rintro i σ' H' hi ⟨o3, st, ys, ds, rest, rfl, g, ef, td, ew, h1, h2, h3, rfl⟩
    rw [Int.zero_add]
    have hx : l[i]? = some (l[i]'hi) := List.getElem?_eq_getElem hi
    generalize hxx : l[i]'hi = x at hx
    rw [List.drop_eq_getElem_cons hi, hxx] at h3
    tm_at "j"
    refine l_ixS (by omega) hx ?_
    tm_at "j"
    rw [show ("(" : Str) = S [40] by decide +kernel, sign_is]
    by_cases hx1 : x = 40
    · subst hx1
      rw [decide_eq_true rfl]
      tm_at "j"
      refine l_append' ew (by rw [List.length_map, List.length_reverse]; omega) fun H3 b3 e3 => ?_
      have ef3 := b3 _ _ fw ef
      have td3 := td.tups (b3.tups ew)
      tm_at "j"
      refine l_ixS (by omega) hx ?_
      tm_at "j"
      refine ⟨_, i :: st, ys, ds, rest, rfl, sm_but g b3 nw, ef3, td3, ?_, by show st.length + 1 ≤ _; omega, by omega, h3, rfl⟩
      rw [e3, List.reverse_cons, List.map_append]
      rfl
    · rw [decide_eq_false hx1]
      tm_at "j"
      refine l_ixS (by omega) hx ?_
      tm_at "j"
      rw [show (")" : Str) = S [41] by decide +kernel, sign_is]
      unfold brk at h3
      rw [if_neg hx1] at h3
      by_cases hx2 : x = 41
      · subst hx2
        rw [if_pos rfl] at h3
        rw [decide_eq_true rfl]
        match st, h3 with
        | bg :: st, h3 =>
          obtain ⟨rest', h4, rfl⟩ := Option.map_eq_some_iff.mp h3
          rw [List.reverse_cons, List.map_append] at ew
          have ew : H' wt = some (.lst (st.reverse.map vn ++ [vn bg])) := ew
          tm_at "j"
          refine l_popL ew fun H3 b3 e3 => ?_
          have ef3 := b3 _ _ fw ef
          have td3 := td.tups (b3.tups ew)
          have g3 := sm_but g b3 nw
          tm_at "j"
          rename_i p4 H4 n4 g4 e4
          have ef4 := g4 _ _ ef3
          refine l_append' ef4 (by omega) fun H5 b5 e5 => ?_
          have tp5 := b5.tups ef4
          have h1' : st.length + 1 ≤ i := h1
          tm_at "j"
          refine ⟨_, st, ys ++ [.ref p4], ds ++ [(bg, i)], rest', rfl, sm_but (g3.trans g4) b5 nf, e5, ?_, b5 _ _ fw.symm (g4 _ _ e3), by omega, by rw [List.length_append]; show ys.length + 1 ≤ _; omega, h4, by rw [List.append_assoc]; rfl⟩
          rw [List.map_append]
          exact ((td3.mono g4).tups tp5).append (.cons (.tup (tp5 _ _ e4) (.cons (.int _) (.cons (.int _) .nil))) .nil)
      · rw [if_neg hx2] at h3
        rw [decide_eq_false hx2]
        tm_at "j"
        exact ⟨_, st, ys, ds, rest, rfl, g, ef, td, ew, by omega, by omega, h3, rfl⟩
  · rintro σ' H' ⟨o3, st, ys, ds, rest, rfl, g, ef, td, ew, h1, h2, h3, rfl⟩
    rw [List.drop_length] at h3
    obtain rfl : [] = rest := Option.some.inj h3
    rw [List.append_nil] at q
    tm_at "j"
    exact q _ _ _ g nf ef td

/-! signs that wait, what they join -/
inductive Op where
  | no
  | bi (a : Bool)
  | par
  deriving DecidableEq
def Op.code : Op → Nat
  | .no => 33
  | .bi a => sg a
  | .par => 40
def Op.bnd : Op → Nat
  | .no => 3
  | .bi a => rk a + 1
  | .par => 0
def redM : Op → List Cond → Option (List Cond)
  | .no, c :: d => some (.not c :: d)
  | .bi a, r :: l :: d => some (.bin a l r :: d)
  | _, _ => none
def joinM (least : Nat) : List Cond → List Op → Option (List Cond × List Op)
  | d, [] => some (d, [])
  | d, o :: ws => if least ≤ o.bnd then (redM o d).bind fun d' => joinM least d' ws else some (d, o :: ws)
theorem s33 : ("!" : Str) = S [33] := by decide +kernel
theorem s38 : ("&" : Str) = S [38] := by decide +kernel
theorem s124 : ("|" : Str) = S [124] := by decide +kernel
theorem s40 : ("(" : Str) = S [40] := by decide +kernel
theorem s41 : (")" : Str) = S [41] := by decide +kernel
structure TxF (K : PySem.W.Frag) (w : World) (aS aW aB : Addr) : Prop where
  sn : KDct K w aS "not" (.str "!")
  sa : KDct K w aS "and" (.str "&")
  so : KDct K w aS "or" (.str "|")
  bn : KDct K w aB "!" (.int 3)
  ba : KDct K w aB "&" (.int 2)
  bo : KDct K w aB "|" (.int 1)
  bp : KDct K w aB "(" (.int 0)
  wa : KDct K w aW "&" (.str "and")
  wo : KDct K w aW "|" (.str "or")
structure TxI (K : PySem.W.Frag) (w : World) (aW : Addr) : Prop where
  ia : KHas K w aW "&" true
  io : KHas K w aW "|" true
  im : KHas K w aW "!" false
  ip : KHas K w aW "(" false
section
variable {K : PySem.W.Frag} {w : World} {aS aW aB : Addr}
theorem f_signs (sa : KDct K w aS "and" (.str "&")) (so : KDct K w aS "or" (.str "|")) (a : Bool) : KDct K w aS (wd a) (.str (S [sg a])) := by
  cases a
  · rw [show S [sg false] = ("|" : Str) from s124.symm]; exact so
  · rw [show S [sg true] = ("&" : Str) from s38.symm]; exact sa
theorem f_words (wa : KDct K w aW "&" (.str "and")) (wo : KDct K w aW "|" (.str "or")) (a : Bool) : KDct K w aW (S [sg a]) (.str (wd a)) := by
  cases a
  · rw [show S [sg false] = ("|" : Str) from s124.symm]; exact wo
  · rw [show S [sg true] = ("&" : Str) from s38.symm]; exact wa
theorem f_binds (bn : KDct K w aB "!" (.int 3)) (ba : KDct K w aB "&" (.int 2)) (bo : KDct K w aB "|" (.int 1)) (bp : KDct K w aB "(" (.int 0)) (o : Op) : KDct K w aB (S [o.code]) (.int (o.bnd : Int)) := by
  match o with
  | .no => rw [show S [Op.no.code] = ("!" : Str) from s33.symm]; exact bn
  | .par => rw [show S [Op.par.code] = ("(" : Str) from s40.symm]; exact bp
  | .bi true => rw [show S [(Op.bi true).code] = ("&" : Str) from s38.symm]; exact ba
  | .bi false => rw [show S [(Op.bi false).code] = ("|" : Str) from s124.symm]; exact bo
end
/-- conditions at values, one for each -/
inductive CAL (H : Hp) : List V → List Cond → Prop
  | nil : CAL H [] []
  | cons {v : V} {c : Cond} {us : List V} {ds : List Cond} : CA H v c → CAL H us ds → CAL H (v :: us) (c :: ds)
theorem CAL.tups {H H' : Hp} (g : Tups H H') : ∀ {us : List V} {ds : List Cond}, CAL H us ds → CAL H' us ds
  | _, _, .nil => .nil
  | _, _, .cons a t => .cons (a.tups g) (CAL.tups g t)
def sv (o : Op) : V := .str (S [o.code])
theorem at_m1 {xs : List V} {x : V} : atI (xs ++ [x]) (-1) = some x := by
  unfold atI ixN
  rw [if_neg (by decide), if_pos (by rw [List.length_append]; show -((xs.length + 1 : Nat) : Int) ≤ -1; omega)]
  show (xs ++ [x])[((-1 : Int) + ((xs ++ [x]).length : Nat)).toNat]? = some x
  rw [List.length_append, show ((-1 : Int) + ((xs.length + [x].length : Nat) : Int)).toNat = xs.length by show ((-1 : Int) + ((xs.length + 1 : Nat) : Int)).toNat = xs.length; omega, List.getElem?_append_right (Nat.le_refl _), Nat.sub_self]
  rfl
def spJoin (n : Nat) : Sp := fun vs H Q _ => ∃ dn wt : Addr, ∃ least : Nat, ∃ us ds ops ds' ops', vs = [.ref dn, .ref wt, .int (least : Int)] ∧ dn ≠ wt ∧ H dn = some (.lst us.reverse) ∧ CAL H us ds ∧ us.length ≤ n ∧ H wt = some (.lst (ops.map sv).reverse) ∧ ops.length ≤ n ∧ joinM least ds ops = some (ds', ops') ∧
  ∀ us' H', Fr dn wt H H' → H' dn = some (.lst us'.reverse) → CAL H' us' ds' → us'.length ≤ us.length → H' wt = some (.lst (ops'.map sv).reverse) → ops'.length ≤ ops.length → Q .non H'
theorem fr_tups {dn wt : Addr} {H H' : Hp} {xs ys : List V} (hd : H dn = some (.lst xs)) (hw : H wt = some (.lst ys)) (f : Fr dn wt H H') : Tups H H' := fun a zs e => f a _ (ne_of e hd (by intro z; cases z)) (ne_of e hw (by intro z; cases z)) e
theorem sv_no (o : Op) : decide (V.str (S [o.code]) = V.str "!") = decide (o = .no) := by
  rw [s33, sign_is]
  match o with
  | .no => rfl
  | .par => rfl
  | .bi true => rfl
  | .bi false => rfl
theorem red_inv {o : Op} {ds e : List Cond} (h : redM o ds = some e) : (o = .no ∧ ∃ c d, ds = c :: d ∧ e = .not c :: d) ∨ ∃ a r l d, o = .bi a ∧ ds = r :: l :: d ∧ e = .bin a l r :: d := by
  match o, ds, h with
  | .no, c :: d, h => exact .inl ⟨rfl, c, d, rfl, (Option.some.inj h).symm⟩
  | .bi a, r :: l :: d, h => exact .inr ⟨a, r, l, d, rfl, rfl, (Option.some.inj h).symm⟩
  | .no, [], h => cases h
  | .bi _, [], h => cases h
  | .bi _, [_], h => cases h
  | .par, _, h => cases h
theorem pure_join {K : PySem.W.Frag} {w : World} {aB aW : Addr} (hb : ∀ o : Op, KDct K w aB (S [o.code]) (.int (o.bnd : Int))) (hwd : ∀ a, KDct K w aW (S [sg a]) (.str (wd a))) (vs : List V) (H : Hp) (Q : VK) (E : XK) (h : spJoin 60000 vs H Q E) :
    t_join_waiting K w aB aW (Ends.mk (fun _ H' => Q .non H') Q (fun _ _ => False) (fun _ _ => False)) (start ["done", "waiting", "least", "sign", "last"] vs) H := by
  obtain ⟨dn, wt, least, us, ds, ops, ds', ops', rfl, nd, ed, cd, lu, ew, lo, hj, q⟩ := h
  unfold t_join_waiting t_join_waiting_1
  refine l_whileN (fun m σ' H' => ∃ us1 ds1 ops1 o3 o4, σ' = [some (.ref dn), some (.ref wt), some (.int (least : Int)), o3, o4] ∧ m = ops1.length ∧ Fr dn wt H H' ∧ H' dn = some (.lst us1.reverse) ∧ CAL H' us1 ds1 ∧ us1.length ≤ us.length ∧ H' wt = some (.lst (ops1.map sv).reverse) ∧ ops1.length ≤ ops.length ∧ joinM least ds1 ops1 = some (ds', ops')) ops.length ⟨us, ds, ops, _, _, rfl, rfl, Fr.refl _, ed, cd, Nat.le_refl _, ew, Nat.le_refl _, hj⟩ ?_
  rintro m σ' H' ⟨us1, ds1, ops1, o3, o4, rfl, rfl, f, ed1, cd1, lu1, ew1, lo1, hj1⟩
  tm_at "j"
  rw [List.length_reverse, List.length_map]
  match ops1, ew1, lo1, hj1 with
  | [], ew1, lo1, hj1 =>
    obtain ⟨rfl, rfl⟩ := Prod.mk.inj (Option.some.inj hj1)
    tm_at "j"
    refine wb (fun e => absurd e (by decide)) (fun _ => ?_)
    exact q us1 H' f ed1 cd1 lu1 ew1 lo1
  | o :: ws, ew1, lo1, hj1 =>
    have ew1' : H' wt = some (.lst ((ws.map sv).reverse ++ [sv o])) := by rw [ew1, List.map_cons, List.reverse_cons]
    refine i_t (decide_eq_true (by rw [List.length_cons]; omega)) ?_
    have hbo := hb o
    tm_at "j"
    refine l_ixL (SqL.of ew1') at_m1 ?_
    show rIxD _ _ _ (V.str (S [o.code])) _ _
    tm_at "j"
    unfold joinM at hj1
    by_cases hle : least ≤ o.bnd
    · rw [if_pos hle] at hj1
      rw [decide_eq_true (show (least : Int) ≤ (o.bnd : Int) by omega)]
      refine wb (fun _ => ?_) (fun e => absurd e (by decide))
      tm_at "j"
      refine l_popL ew1' fun H2 b2 e2 => ?_
      have ed2 := b2 _ _ nd ed1
      have cd2 := cd1.tups (b2.tups ew1')
      have f2 := f.trans (Fr.l b2)
      have lo2 : ws.length + 1 ≤ ops.length := lo1
      obtain ⟨ds2, hr, hj1⟩ := Option.bind_eq_some_iff.mp hj1
      rcases red_inv hr with ⟨rfl, c, d, rfl, rfl⟩ | ⟨a, r, l, d, rfl, rfl, rfl⟩
      · cases cd2 with
        | cons hc hu =>
        rename_i v us2
        have ed2' : H2 dn = some (.lst (us2.reverse ++ [v])) := by rw [ed2, List.reverse_cons]
        have lu2 : us2.length + 1 ≤ us.length := lu1
        tm_at "j"
        refine l_popL ed2' fun H3 b3 e3 => ?_
        have tp3 := b3.tups ed2'
        have e23 := b3 _ _ nd.symm e2
        tm_at "j"
        rename_i p4 H4 n4 g4 e4
        have e34 := g4 _ _ e3
        refine l_append' e34 (by rw [List.length_reverse]; omega) fun H5 b5 e5 => ?_
        have tp5 := b5.tups e34
        refine ⟨ws.length, Nat.lt_succ_self _, .ref p4 :: us2, .not c :: d, ws, _, _, rfl, rfl, ((f2.trans (Fr.b b3)).trans (Fr.of g4)).trans (Fr.b b5), by rw [e5, List.reverse_cons], .cons (.not (tp5 _ _ e4) (((hc.tups tp3).mono g4).tups tp5)) (((hu.tups tp3).tups (Same.tups g4)).tups tp5), lu1, b5 _ _ nd.symm (g4 _ _ e23), by omega, hj1⟩
      · cases cd2 with
        | cons hc hu =>
        rename_i v us3
        cases hu with
        | cons hc2 hu =>
        rename_i v2 us2
        have ed2' : H2 dn = some (.lst ((v2 :: us2).reverse ++ [v])) := by rw [ed2, List.reverse_cons]
        have lu2 : us2.length + 1 + 1 ≤ us.length := lu1
        have hwa := hwd a
        tm_at "j"
        refine l_popL ed2' fun H3 b3 e3 => ?_
        have tp3 := b3.tups ed2'
        have e23 := b3 _ _ nd.symm e2
        tm_at "j"
        rw [show sv (Op.bi a) = V.str (S [(Op.bi a).code]) from rfl, sv_no, decide_eq_false (show ¬ Op.bi a = .no from fun z => by cases z)]
        tm_at "j"
        rw [show S [(Op.bi a).code] = S [sg a] from rfl]
        tm_at "j"
        have e3' : H3 dn = some (.lst (us2.reverse ++ [v2])) := by rw [e3, List.reverse_cons]
        refine l_popL e3' fun H4 b4 e4 => ?_
        have tp4 := b4.tups e3'
        tm_at "j"
        rename_i p5 H5 n5 g5 e5
        have e45 := g5 _ _ e4
        refine l_append' e45 (by rw [List.length_reverse]; omega) fun H6 b6 e6 => ?_
        have tp6 := b6.tups e45
        have tpa : Tups H2 H6 := ((tp3.trans tp4).trans (Same.tups g5)).trans tp6
        refine ⟨ws.length, Nat.lt_succ_self _, .ref p5 :: us2, .bin a l r :: d, ws, _, _, rfl, rfl, (((f2.trans (Fr.b b3)).trans (Fr.b b4)).trans (Fr.of g5)).trans (Fr.b b6), by rw [e6, List.reverse_cons], .cons (.bin (tp6 _ _ e5) (hc2.tups tpa) (hc.tups tpa)) (hu.tups tpa), by show us2.length + 1 ≤ _; omega, b6 _ _ nd.symm (g5 _ _ (b4 _ _ nd.symm e23)), by omega, hj1⟩
    · rw [if_neg hle] at hj1
      rw [decide_eq_false (show ¬ (least : Int) ≤ (o.bnd : Int) by omega)]
      obtain ⟨rfl, rfl⟩ := Prod.mk.inj (Option.some.inj hj1)
      refine wb (fun e => absurd e (by decide)) (fun _ => ?_)
      exact q us1 H' f ed1 cd1 lu1 ew1 lo1

/-! text_of, written -/
theorem l_join3 {σ : St} {H : Hp} {Q : VK} {t : List Nat} {i : Nat} (e : σ[i]? = some (some (.str (S t)))) (hl : t.length ≤ 90000) (q : Q (.str (S (40 :: t ++ [41]))) H) : tJoin [tC (.str "("), tFmt (tVar i), tC (.str ")")] σ H Q := by
  have sl : ∀ m : Nat, m ≤ 100000 → m ≤ sizeLine := fun m h => Nat.le_trans h (by decide)
  have e0 : Str.empty ++ ("(" : Str) = S [40] := by decide +kernel
  have e1 : S [40] ++ S t = S (40 :: t) := S_app [40] t
  have e2 : S (40 :: t) ++ (")" : Str) = S (40 :: t ++ [41]) := by rw [s41]; exact S_app _ _
  refine ⟨("(" : Str), rfl, by rw [e0]; exact sl _ (by decide), ?_⟩
  rw [e0]
  refine ⟨.str (S t), e, .inl ⟨S t, rfl, sl _ (by show t.length ≤ _; omega), S t, rfl, by rw [e1]; exact sl _ (by show t.length + 1 ≤ _; omega), ?_⟩⟩
  rw [e1]
  refine ⟨(")" : Str), rfl, by rw [e2]; exact sl _ (by show (40 :: t ++ [41]).length ≤ _; rw [List.length_append]; show t.length + 1 + 1 ≤ _; omega), ?_⟩
  rw [e2]
  exact q
def spTextOf (n : Nat) : Sp := fun vs H Q _ => ∃ v c, ∃ k : Nat, vs = [v, .int ((k + 1 : Nat) : Int)] ∧ CA H v c ∧ c.ok ∧ c.deep < n ∧ n ≤ 13 ∧ k ≤ 2 ∧ ∀ H', Same H H' → Q (.str (S (textL c k))) H'
theorem pure_textof {K : PySem.W.Frag} {w : World} {aS aB : Addr} (sn : KDct K w aS "not" (.str "!")) (sa : KDct K w aS "and" (.str "&")) (so : KDct K w aS "or" (.str "|")) (bn : KDct K w aB "!" (.int 3)) (ba : KDct K w aB "&" (.int 2)) (bo : KDct K w aB "|" (.int 1)) (bp : KDct K w aB "(" (.int 0)) {n : Nat} (vs : List V) (H : Hp) (Q : VK) (E : XK) (h : spTextOf (n + 1) vs H Q E) :
    t_text_of K w aS aB (spTextOf n) (Ends.mk (fun _ H' => Q .non H') Q (fun _ _ => False) (fun _ _ => False)) (start ["condition", "least", "word", "sign", "binds", "text"] vs) H := by
  obtain ⟨v, c, k, rfl, hc, ho, hn, n13, k2, q⟩ := h
  unfold t_text_of
  cases hc with
  | look e =>
    rename_i i
    have hi : i < 8 := ho
    tm_at "j"
    refine ⟨("abcdefgh" : Str), (i : Int), 97 + i, rfl, rfl, by decide +kernel, letter hi, ?_⟩
    exact q _ (Same.refl _)
  | not e hc =>
    rename_i v1 c1
    have hn1 : c1.deep + 1 < n + 1 := hn
    tm_at "j"
    refine ⟨v1, c1, 2, rfl, hc, ho, by omega, by omega, by decide, fun H1 g1 => ?_⟩
    have := text_small (c := c1) (n := 2) (by omega)
    rw [s33]
    refine l_addS (a := [33]) (by show 1 + (textL c1 2).length ≤ 100000; omega) ?_
    tm_at "j"
    exact q _ g1
  | bin e h1 h2 =>
    rename_i a v1 v2 c1 c2
    have hn1 : max c1.deep c2.deep + 1 < n + 1 := hn
    have hw : decide (V.str (wd a) = V.str "not") = false := by cases a <;> decide +kernel
    have hl : decide (V.str (wd a) = V.str "look") = false := by cases a <;> decide +kernel
    have hs := f_signs sa so a
    have hb : KDct K w aB (S [sg a]) (.int ((rk a + 1 : Nat) : Int)) := f_binds bn ba bo bp (.bi a)
    tm_at "j"
    rw [hl]
    tm_at "j"
    rw [hw]
    tm_at "j"
    refine ⟨v1, c1, rk a, rfl, h1, ho.1, by omega, by omega, by cases a <;> decide, fun H1 g1 => ?_⟩
    have l1 := text_small (c := c1) (n := rk a) (by omega)
    have l2 := text_small (c := c2) (n := rk a + 1) (by omega)
    tm_at "j"
    refine l_addS (a := textL c1 (rk a)) (b := [sg a]) (by show (textL c1 (rk a)).length + 1 ≤ 100000; omega) ?_
    tm_at "j"
    refine ⟨v2, c2, rk a + 1, rfl, h2.mono g1, ho.2, by omega, by omega, by cases a <;> decide, fun H2 g2 => ?_⟩
    refine l_addS (a := textL c1 (rk a) ++ [sg a]) (b := textL c2 (rk a + 1)) (by rw [List.length_append]; show (textL c1 (rk a)).length + 1 + (textL c2 (rk a + 1)).length ≤ 100000; omega) ?_
    tm_at "j"
    have hlen : (textL c1 (rk a) ++ [sg a] ++ textL c2 (rk a + 1)).length = (textL c1 (rk a)).length + 1 + (textL c2 (rk a + 1)).length := by rw [List.length_append, List.length_append]; rfl
    have q5 := q _ (g1.trans g2)
    unfold textL at q5
    by_cases h : k ≤ rk a
    · rw [if_pos h] at q5
      refine i_f (decide_eq_false (by omega)) ?_
      tm_at "j"
      exact q5
    · rw [if_neg h] at q5
      refine i_t (decide_eq_true (by omega)) ?_
      refine l_ret ?_
      exact l_join3 (i := 5) rfl (by omega) q5
def spWritten : Sp := fun vs H Q _ => ∃ v c, vs = [v] ∧ CA H v c ∧ c.ok ∧ c.deep ≤ 10 ∧ c.looks ≤ 12 ∧ ∀ H', Same H H' → Q (.str (S (textL c 0))) H'
theorem pure_written {K : PySem.W.Frag} {w : World} {aB : Addr} (bo : KDct K w aB "|" (.int 1)) (vs : List V) (H : Hp) (Q : VK) (E : XK) (h : spWritten vs H Q E) :
    t_written K w aB spCheck (spTextOf 11) (Ends.mk (fun _ H' => Q .non H') Q (fun _ _ => False) (fun _ _ => False)) (start ["condition"] vs) H := by
  obtain ⟨v, c, rfl, hc, ho, hd, hk, q⟩ := h
  unfold t_written
  tm_at "j"
  refine ⟨v, c, rfl, hc, ho, hd, hk, fun H1 g1 => ?_⟩
  tm_at "j"
  exact ⟨v, c, 0, rfl, hc.mono g1, ho, by omega, by decide, by decide, fun H2 g2 => q _ (g1.trans g2)⟩
/-! may_stand, check_signs -/
def begs : List Nat := [97, 98, 99, 100, 101, 102, 103, 104, 33, 40]
def ahead : List Nat := [33, 40, 38, 124]
def stand (due : Bool) (k x : Nat) : Bool := if due then decide (x ∈ begs) else if x = 41 then decide (0 < k) else decide (x = 38 ∨ x = 124)
def depth (k x : Nat) : Nat := if x = 40 then k + 1 else if x = 41 then k - 1 else k
def chkM : Bool → Nat → List Nat → Bool
  | due, k, [] => !due && decide (k = 0)
  | due, k, x :: r => stand due k x && chkM (decide (x ∈ ahead)) (depth k x) r
theorem l_inSign {z : Str} {l : List Nat} {x : Nat} {H : Hp} {Q : VK} (hz : z.cps.toList = l) (q : Q (.bl (decide (x ∈ l))) H) : rInSign (.str (S [x])) (.str z) H Q := ⟨x, z, rfl, rfl, by rw [hz]; exact q⟩
def spStand : Sp := fun vs H Q _ => ∃ x k : Nat, ∃ due : Bool, vs = [.str (S [x]), .bl due, .int (k : Int)] ∧ stand due k x = true ∧ ∀ H', Same H H' → Q (.bl true) H'
theorem l_inKD {K : PySem.W.Frag} {w : World} {z : Str} {p : Addr} {b : Bool} {H : Hp} {Q : VK} (h : KHas K w p z b) (q : Q (.bl b) H) : rInKD K w (.str z) (.ref p) H Q := ⟨z, p, b, rfl, rfl, h, q⟩
theorem pure_stand {K : PySem.W.Frag} {w : World} {aW : Addr} (ia : KHas K w aW "&" true) (io : KHas K w aW "|" true) (vs : List V) (H : Hp) (Q : VK) (E : XK) (h : spStand vs H Q E) :
    t_may_stand K w aW (Ends.mk (fun _ H' => Q .non H') Q (fun _ _ => False) (fun _ _ => False)) (start ["sign", "due", "unclosed"] vs) H := by
  obtain ⟨x, k, due, rfl, hs, q⟩ := h
  unfold t_may_stand
  cases due
  · tm_at "j"
    rw [s41, sign_is]
    unfold stand at hs
    rw [if_neg Bool.false_ne_true] at hs
    by_cases h41 : x = 41
    · rw [if_pos h41] at hs
      rw [decide_eq_true h41]
      tm_at "j"
      have := q _ (Same.refl _)
      rw [decide_eq_true (show (0 : Int) < (k : Int) by have := of_decide_eq_true hs; omega)]
      exact this
    · rw [if_neg h41] at hs
      rw [decide_eq_false h41]
      tm_at "j"
      rcases of_decide_eq_true hs with rfl | rfl
      · exact l_inKD (by rw [← s38]; exact ia) (q _ (Same.refl _))
      · exact l_inKD (by rw [← s124]; exact io) (q _ (Same.refl _))
  · tm_at "j"
    refine l_inSign (l := begs) (by decide +kernel) ?_
    have hs' : decide (x ∈ begs) = true := hs
    rw [hs']
    exact q _ (Same.refl _)
section
variable {K : PySem.W.Frag} {w : World} {σ : St} {H : Hp} {Q : VK} {nx bk ct : St → Hp → Prop} {rt : VK}
def IES (vs : List V) (H : Hp) (R : It → Hp → Prop) : Prop := ∃ x, vs = [.str x] ∧ R (ItES x) H
def IS (v : V) (H : Hp) (R : It → Hp → Prop) : Prop := ∃ x, v = .str x ∧ R (Its x) H
theorem l_iES {ta : TA} {R : It → Hp → Prop} (h : ta σ H fun vs H1 => IES vs H1 R) : iEnumS ta σ H R := h
theorem l_iS {te : TE} {R : It → Hp → Prop} (h : te σ H fun v H1 => IS v H1 R) : iStr te σ H R := h
theorem forES {l : List Nat} {g : TG} {tb : TS} (Pv : Nat → St → Hp → Prop) (h0 : Pv 0 σ H)
    (hs : ∀ (i c : Nat) (T : Addr) σ' H' H'', l[i]? = some c → Pv i σ' H' → Same H' H'' → H'' T = some (.tup [.int (i : Int), .str (S [c])]) → g (.ref T) σ' H'' fun σ2 H2 => tb (Ends.mk (Pv (i + 1)) rt nx (Pv (i + 1))) σ2 H2)
    (hd : ∀ σ' H', Pv l.length σ' H' → nx σ' H') : IES [.str (S l)] H (ForB g tb (Ends.mk nx rt bk ct) σ) := by
  refine ⟨S l, rfl, fun i m σ' H' => m = l.length - i ∧ i ≤ l.length ∧ Pv i σ' H', ⟨l.length, rfl, Nat.zero_le _, h0⟩, ?_⟩
  rintro i m σ' H' ⟨rfl, hi, p⟩
  by_cases hlt : i < l.length
  · refine .inr ⟨hlt, Pv (i + 1), fun σ' H' p' => ⟨l.length - (i + 1), by omega, rfl, hlt, p'⟩, fun v H'' y => ?_⟩
    obtain ⟨T, c, rfl, hT, rfl, hc⟩ := y
    exact hs i c T σ' H' _ (by rw [← hc]; show l[i]? = l.toArray[i]?; rw [List.getElem?_toArray]) p (sm_new hT _) upd_same
  · obtain rfl : i = l.length := by omega
    exact .inl ⟨Nat.le_refl _, hd _ _ p⟩
theorem forS {l : List Nat} {g : TG} {tb : TS} (Pv : Nat → St → Hp → Prop) (h0 : Pv 0 σ H)
    (hs : ∀ (i c : Nat) σ' H', l[i]? = some c → Pv i σ' H' → g (.str (S [c])) σ' H' fun σ2 H2 => tb (Ends.mk (Pv (i + 1)) rt nx (Pv (i + 1))) σ2 H2)
    (hd : ∀ σ' H', Pv l.length σ' H' → nx σ' H') : IS (.str (S l)) H (ForB g tb (Ends.mk nx rt bk ct) σ) := by
  refine ⟨S l, rfl, fun i m σ' H' => m = l.length - i ∧ i ≤ l.length ∧ Pv i σ' H', ⟨l.length, rfl, Nat.zero_le _, h0⟩, ?_⟩
  rintro i m σ' H' ⟨rfl, hi, p⟩
  by_cases hlt : i < l.length
  · refine .inr ⟨hlt, Pv (i + 1), fun σ' H' p' => ⟨l.length - (i + 1), by omega, rfl, hlt, p'⟩, fun v H'' y => ?_⟩
    obtain ⟨rfl, c, hc, rfl⟩ := y
    exact hs i c σ' _ (by rw [← hc]; show l[i]? = l.toArray[i]?; rw [List.getElem?_toArray]) p
  · obtain rfl : i = l.length := by omega
    exact .inl ⟨Nat.le_refl _, hd _ _ p⟩
end
def spSigns : Sp := fun vs H Q _ => ∃ l : List Nat, vs = [.str (S l)] ∧ chkM true 0 l = true ∧ ∀ H', Same H H' → Q .non H'
theorem pure_signs {K : PySem.W.Frag} {w : World} (vs : List V) (H : Hp) (Q : VK) (E : XK) (h : spSigns vs H Q E) :
    t_check_signs K w spStand (Ends.mk (fun _ H' => Q .non H') Q (fun _ _ => False) (fun _ _ => False)) (start ["text", "due", "unclosed", "place", "sign"] vs) H := by
  obtain ⟨l, rfl, hc, q⟩ := h
  unfold t_check_signs
  tm_at "j"
  unfold t_check_signs_1
  refine l_for (l_iES ?_)
  tm_at "j"
  refine forES (fun i σ' H' => ∃ due k o3 o4, σ' = [some (.str (S l)), some (.bl due), some (.int ((k : Nat) : Int)), o3, o4] ∧ Same H H' ∧ chkM due k (l.drop i) = true) ⟨true, 0, _, _, rfl, Same.refl _, hc⟩ ?_ ?_
  · rintro i c T σ' H' H'' hx ⟨due, k, o3, o4, rfl, g, hk⟩ g2 eT
    have hi := (List.getElem?_eq_some_iff.mp hx).1
    have hx' : l[i]'hi = c := by
      rw [List.getElem?_eq_getElem hi] at hx
      exact Option.some.inj hx
    rw [List.drop_eq_getElem_cons hi, hx'] at hk
    unfold chkM at hk
    obtain ⟨hs, hk⟩ := Bool.and_eq_true_iff.mp hk
    tm_at "j"
    refine ⟨c, k, due, rfl, hs, fun H3 g3 => ?_⟩
    tm_at "j"
    rw [s40, sign_is]
    have g03 := (g.trans g2).trans g3
    by_cases h40 : c = 40
    · subst h40
      rw [decide_eq_true rfl]
      tm_at "j"
      refine l_inSign (l := ahead) (by decide +kernel) ?_
      tm_at "j"
      exact ⟨_, k + 1, _, _, rfl, g03, hk⟩
    · rw [decide_eq_false h40]
      tm_at "j"
      rw [s41, sign_is]
      by_cases h41 : c = 41
      · subst h41
        rw [decide_eq_true rfl]
        have hk0 : 0 < k := by
          cases due
          · exact of_decide_eq_true hs
          · exact absurd (show decide (41 ∈ begs) = true from hs) (by decide)
        tm_at "j"
        refine l_inSign (l := ahead) (by decide +kernel) ?_
        tm_at "j"
        rw [show ((k : Int) - 1) = ((k - 1 : Nat) : Int) by omega]
        exact ⟨_, k - 1, _, _, rfl, g03, hk⟩
      · rw [decide_eq_false h41]
        tm_at "j"
        refine l_inSign (l := ahead) (by decide +kernel) ?_
        tm_at "j"
        refine ⟨_, k, _, _, rfl, g03, ?_⟩
        have : depth k c = k := by unfold depth; rw [if_neg h40, if_neg h41]
        rw [this] at hk
        exact hk
  · rintro σ' H' ⟨due, k, o3, o4, rfl, g, hk⟩
    rw [List.drop_length] at hk
    unfold chkM at hk
    obtain ⟨h1, h2⟩ := Bool.and_eq_true_iff.mp hk
    have h2 := of_decide_eq_true h2
    subst h2
    cases due
    · tm_at "j"
      exact q _ g
    · cases h1
/-! condition_of, read -/
def opOf (x : Nat) : Op := if x = 33 then .no else if x = 38 then .bi true else if x = 124 then .bi false else .par
def stepM (x : Nat) (s : List Cond × List Op) : Option (List Cond × List Op) :=
  if 97 ≤ x ∧ x < 105 then some (.look (x - 97) :: s.1, s.2)
  else if x = 41 then (joinM 1 s.1 s.2).bind fun s' => match s'.2 with
    | _ :: w => some (s'.1, w)
    | [] => none
  else if x = 38 ∨ x = 124 then (joinM (opOf x).bnd s.1 s.2).map fun s' => (s'.1, opOf x :: s'.2)
  else if x = 33 ∨ x = 40 then some (s.1, opOf x :: s.2) else none
def readM : List Nat → List Cond × List Op → Option (List Cond × List Op)
  | [], s => some s
  | x :: r, s => (stepM x s).bind (readM r)
def readL (l : List Nat) : Option (List Cond × List Op) := (readM l ([], [])).bind fun s => joinM 1 s.1 s.2
def spCondOf : Sp := fun vs H Q _ => ∃ l : List Nat, ∃ c, vs = [.str (S l)] ∧ l.length ≤ 50000 ∧ readL l = some ([c], []) ∧ ∀ v H', Same H H' → CA H' v c → Q v H'
theorem lets : ("abcdefgh" : Str).cps.toList = [97, 98, 99, 100, 101, 102, 103, 104] := by decide +kernel
theorem letter_ix {x : Nat} (h : 97 ≤ x ∧ x < 105) : PySem.Txt.index0 ("abcdefgh" : Str) (S [x]) = some (x - 97) := by
  obtain rfl | rfl | rfl | rfl | rfl | rfl | rfl | rfl : x = 97 ∨ x = 98 ∨ x = 99 ∨ x = 100 ∨ x = 101 ∨ x = 102 ∨ x = 103 ∨ x = 104 := by omega
  all_goals decide +kernel
theorem mem_let {x : Nat} : decide (x ∈ [97, 98, 99, 100, 101, 102, 103, 104]) = decide (97 ≤ x ∧ x < 105) := by
  by_cases h : 97 ≤ x ∧ x < 105
  · rw [decide_eq_true h]
    obtain rfl | rfl | rfl | rfl | rfl | rfl | rfl | rfl : x = 97 ∨ x = 98 ∨ x = 99 ∨ x = 100 ∨ x = 101 ∨ x = 102 ∨ x = 103 ∨ x = 104 := by omega
    all_goals decide
  · rw [decide_eq_false h]
    refine decide_eq_false fun hm => h ?_
    simp only [List.mem_cons, List.mem_nil_iff, or_false] at hm
    omega
theorem opOf_code {x : Nat} (h : x = 33 ∨ x = 38 ∨ x = 124 ∨ x = 40) : (opOf x).code = x := by
  rcases h with rfl | rfl | rfl | rfl <;> rfl
theorem pure_condof {K : PySem.W.Frag} {w : World} {aB aW : Addr} (hb : ∀ o : Op, KDct K w aB (S [o.code]) (.int (o.bnd : Int))) (ia : KHas K w aW "&" true) (io : KHas K w aW "|" true) (im : KHas K w aW "!" false) (ip : KHas K w aW "(" false) (vs : List V) (H : Hp) (Q : VK) (E : XK) (h : spCondOf vs H Q E) :
    t_condition_of K w aB aW (spJoin 60000) (Ends.mk (fun _ H' => Q .non H') Q (fun _ _ => False) (fun _ _ => False)) (start ["text", "done", "waiting", "sign"] vs) H := by
  obtain ⟨l, c, rfl, hl, hr, q⟩ := h
  have b1 : KDct K w aB "|" (.int 1) := by rw [s124]; exact hb (.bi false)
  unfold t_condition_of
  tm_at "j"
  rename_i dn H1 n1 g1 e1 wt H2 n2 g2 e2
  have nd : dn ≠ wt := ne_of_none e1 n2
  have nw : H wt = none := g1.free n2
  obtain ⟨s1, hr1, hr2⟩ := Option.bind_eq_some_iff.mp hr
  unfold t_condition_of_1
  refine l_for (l_iS ?_)
  tm_at "j"
  refine forS (fun i σ' H' => ∃ o3 us ds ops, σ' = [some (.str (S l)), some (.ref dn), some (.ref wt), o3] ∧ Same H H' ∧ H' dn = some (.lst us.reverse) ∧ CAL H' us ds ∧ us.length ≤ i ∧ H' wt = some (.lst (ops.map sv).reverse) ∧ ops.length ≤ i ∧ readM (l.drop i) (ds, ops) = some s1) ⟨_, [], [], [], rfl, g1.trans g2, g2 _ _ e1, .nil, Nat.le_refl _, e2, Nat.le_refl _, hr1⟩ ?_ ?_
  · rintro i x σ' H' hx ⟨o3, us, ds, ops, rfl, g, ed, cd, lu, ew, lo, hr⟩
    have hi := (List.getElem?_eq_some_iff.mp hx).1
    have hx' : l[i]'hi = x := by
      rw [List.getElem?_eq_getElem hi] at hx
      exact Option.some.inj hx
    rw [List.drop_eq_getElem_cons hi, hx'] at hr
    unfold readM at hr
    obtain ⟨s2, hst, hr⟩ := Option.bind_eq_some_iff.mp hr
    unfold stepM at hst
    tm_at "j"
    refine l_inSign lets ?_
    rw [mem_let]
    by_cases hlet : 97 ≤ x ∧ x < 105
    · rw [if_pos hlet] at hst
      obtain rfl := Option.some.inj hst
      rw [decide_eq_true hlet]
      tm_at "j"
      refine ⟨rfl, ?_⟩
      tm_at "j"
      refine ⟨("abcdefgh" : Str), S [x], x - 97, rfl, rfl, letter_ix hlet, ?_⟩
      tm_at "j"
      rename_i p3 H3 n3 g3 e3
      have ed3 := g3 _ _ ed
      refine l_append' ed3 (by rw [List.length_reverse]; omega) fun H4 b4 e4 => ?_
      have tp4 := b4.tups ed3
      refine ⟨_, .ref p3 :: us, _, ops, rfl, sm_but (g.trans g3) b4 n1, by rw [e4, List.reverse_cons], .cons (.look (tp4 _ _ e3)) ((cd.tups (Same.tups g3)).tups tp4), by show us.length + 1 ≤ _; omega, b4 _ _ nd.symm (g3 _ _ ew), by omega, hr⟩
    · rw [if_neg hlet] at hst
      rw [decide_eq_false hlet]
      tm_at "j"
      rw [s41, sign_is]
      by_cases h41 : x = 41
      · rw [if_pos h41] at hst
        rw [decide_eq_true h41]
        obtain ⟨⟨d', w'⟩, hj, hst⟩ := Option.bind_eq_some_iff.mp hst
        tm_at "j"
        refine ⟨dn, wt, 1, us, ds, ops, d', w', rfl, nd, ed, cd, by omega, ew, by omega, hj, fun us' H3 f3 ed3 cd3 lu3 ew3 lo3 => ?_⟩
        match w', hst, ew3, lo3 with
        | o :: w'', hst, ew3, lo3 =>
          obtain rfl := Option.some.inj hst
          have ew3' : H3 wt = some (.lst ((w''.map sv).reverse ++ [sv o])) := by rw [ew3, List.map_cons, List.reverse_cons]
          have lo3' : w''.length + 1 ≤ ops.length := lo3
          tm_at "j"
          refine l_popL ew3' fun H4 b4 e4 => ?_
          have tp4 := b4.tups ew3'
          have gs : Same H H4 := fun a o e => b4 _ _ (ne_of_none e nw) (f3 a o (ne_of_none e n1) (ne_of_none e nw) (g _ _ e))
          exact ⟨_, us', _, w'', rfl, gs, b4 _ _ nd ed3, cd3.tups tp4, by omega, e4, by omega, hr⟩
      · rw [if_neg h41] at hst
        rw [decide_eq_false h41]
        tm_at "j"
        by_cases hop : x = 38 ∨ x = 124
        · rw [if_pos hop] at hst
          obtain ⟨⟨d', w'⟩, hj, rfl⟩ := Option.map_eq_some_iff.mp hst
          have hcode : (opOf x).code = x := opOf_code (by omega)
          have hbx : KDct K w aB (S [x]) (.int ((opOf x).bnd : Int)) := by
            have := hb (opOf x)
            rw [hcode] at this
            exact this
          refine l_inKD (b := true) (by rcases hop with rfl | rfl; (rw [← s38]; exact ia); (rw [← s124]; exact io)) ?_
          tm_at "j"
          refine ⟨dn, wt, (opOf x).bnd, us, ds, ops, d', w', rfl, nd, ed, cd, by omega, ew, by omega, hj, fun us' H3 f3 ed3 cd3 lu3 ew3 lo3 => ?_⟩
          tm_at "j"
          refine l_append' ew3 (by rw [List.length_reverse, List.length_map]; omega) fun H4 b4 e4 => ?_
          have tp4 := b4.tups ew3
          have gs : Same H H4 := fun a o e => b4 _ _ (ne_of_none e nw) (f3 a o (ne_of_none e n1) (ne_of_none e nw) (g _ _ e))
          refine ⟨_, us', _, opOf x :: w', rfl, gs, b4 _ _ nd ed3, cd3.tups tp4, by omega, ?_, by show w'.length + 1 ≤ _; omega, hr⟩
          rw [e4, List.map_cons, List.reverse_cons]
          show _ = some (HO.lst ((w'.map sv).reverse ++ [V.str (S [(opOf x).code])]))
          rw [hcode]
        · rw [if_neg hop] at hst
          by_cases h3 : x = 33 ∨ x = 40
          · rw [if_pos h3] at hst
            obtain rfl := Option.some.inj hst
            have hcode : (opOf x).code = x := opOf_code (by omega)
            refine l_inKD (b := false) (by rcases h3 with rfl | rfl; (rw [← s33]; exact im); (rw [← s40]; exact ip)) ?_
            tm_at "j"
            refine l_append' ew (by rw [List.length_reverse, List.length_map]; omega) fun H4 b4 e4 => ?_
            have tp4 := b4.tups ew
            refine ⟨_, us, _, opOf x :: ops, rfl, sm_but g b4 nw, b4 _ _ nd ed, cd.tups tp4, by omega, ?_, by show ops.length + 1 ≤ _; omega, hr⟩
            rw [e4, List.map_cons, List.reverse_cons]
            show _ = some (HO.lst ((ops.map sv).reverse ++ [V.str (S [(opOf x).code])]))
            rw [hcode]
          · rw [if_neg h3] at hst
            cases hst
  · rintro σ' H' ⟨o3, us, ds, ops, rfl, g, ed, cd, lu, ew, lo, hr⟩
    rw [List.drop_length] at hr
    obtain rfl := Option.some.inj hr
    tm_at "j"
    refine ⟨dn, wt, 1, us, ds, ops, [c], [], rfl, nd, ed, cd, by omega, ew, by omega, hr2, fun us' H3 f3 ed3 cd3 lu3 ew3 lo3 => ?_⟩
    cases cd3 with
    | cons hc hu =>
      cases hu
      tm_at "j"
      have gs : Same H H3 := fun a o e => f3 a o (ne_of_none e n1) (ne_of_none e nw) (g _ _ e)
      exact q _ _ gs hc
def spRead : Sp := fun vs H Q _ => ∃ l : List Nat, ∃ c, vs = [.str (S l)] ∧ l.length ≤ 50000 ∧ chkM true 0 l = true ∧ readL l = some ([c], []) ∧ c.ok ∧ c.deep ≤ 10 ∧ c.looks ≤ 12 ∧ ∀ v H', Same H H' → CA H' v c → Q v H'
theorem pure_read {K : PySem.W.Frag} {w : World} (vs : List V) (H : Hp) (Q : VK) (E : XK) (h : spRead vs H Q E) :
    t_read K w spSigns spCondOf spCheck (Ends.mk (fun _ H' => Q .non H') Q (fun _ _ => False) (fun _ _ => False)) (start ["text", "condition"] vs) H := by
  obtain ⟨l, c, rfl, hl, hch, hr, ho, hd, hk, q⟩ := h
  unfold t_read
  tm_at "j"
  refine ⟨l, rfl, hch, fun H1 g1 => ?_⟩
  tm_at "j"
  refine ⟨l, c, rfl, hl, hr, fun v H2 g2 hc => ?_⟩
  tm_at "j"
  refine ⟨v, c, rfl, hc, ho, hd, hk, fun H3 g3 => ?_⟩
  tm_at "j"
  exact q _ _ ((g1.trans g2).trans g3) (hc.mono g3)

/-! which texts write which condition -/
inductive RT' : List Nat → Cond → Nat → Prop
  | look {i m : Nat} : i < 8 → RT' [97 + i] (.look i) m
  | not {t : List Nat} {c : Cond} {m : Nat} : RT' t c 2 → RT' (33 :: t) (.not c) m
  | bin {t u : List Nat} {a : Bool} {l r : Cond} {m : Nat} : RT' t l (rk a) → RT' u r (rk a + 1) → m ≤ rk a → RT' (t ++ sg a :: u) (.bin a l r) m
  | brk {t : List Nat} {c : Cond} {m : Nat} : RT' t c 0 → RT' (40 :: (t ++ [41])) c m
theorem rk_le (a : Bool) : rk a ≤ 1 := by cases a <;> decide
theorem rt_text : ∀ (c : Cond) (m : Nat), c.ok → RT' (textL c m) c m
  | .look i, m, h => .look h
  | .not c, m, h => .not (rt_text c 2 h)
  | .bin a l r, m, h => by
    unfold textL
    have hl := rt_text l (rk a) h.1
    have hr := rt_text r (rk a + 1) h.2
    by_cases hm : m ≤ rk a
    · rw [if_pos hm, List.append_assoc]
      exact .bin hl hr hm
    · rw [if_neg hm]
      have := RT'.brk (m := m) (RT'.bin (a := a) (m := 0) hl hr (Nat.zero_le _))
      rw [List.append_assoc (textL l (rk a)) [sg a] (textL r (rk a + 1))]
      exact this
/-- each sign may stand -/
theorem rt_chk {t : List Nat} {c : Cond} {m : Nat} (h : RT' t c m) : ∀ (k : Nat) (r : List Nat), chkM true k (t ++ r) = chkM false k r := by
  induction h with
  | look h =>
    rename_i i m
    intro k r
    show (stand true k (97 + i) && chkM (decide (97 + i ∈ ahead)) (depth k (97 + i)) r) = _
    obtain rfl | rfl | rfl | rfl | rfl | rfl | rfl | rfl : i = 0 ∨ i = 1 ∨ i = 2 ∨ i = 3 ∨ i = 4 ∨ i = 5 ∨ i = 6 ∨ i = 7 := by omega
    all_goals rfl
  | not h ih =>
    intro k r
    show (stand true k 33 && chkM (decide (33 ∈ ahead)) (depth k 33) _) = _
    exact ih k r
  | bin h1 h2 hm i1 i2 =>
    rename_i t u a l r' m
    intro k r
    rw [List.append_assoc, i1]
    show (stand false k (sg a) && chkM (decide (sg a ∈ ahead)) (depth k (sg a)) (u ++ r)) = _
    cases a
    · exact i2 k r
    · exact i2 k r
  | brk h ih =>
    rename_i t c m
    intro k r
    show (stand true k 40 && chkM (decide (40 ∈ ahead)) (depth k 40) (t ++ [41] ++ r)) = _
    rw [List.append_assoc]
    show chkM true (k + 1) (t ++ ([41] ++ r)) = _
    rw [ih]
    show (stand false (k + 1) 41 && chkM (decide (41 ∈ ahead)) (depth (k + 1) 41) r) = _
    have e1 : stand false (k + 1) 41 = true := decide_eq_true (Nat.succ_pos k)
    rw [e1]
    rfl
theorem rt_good {t : List Nat} {c : Cond} (h : RT' t c 0) : chkM true 0 t = true := by
  have := rt_chk h 0 []
  rw [List.append_nil] at this
  rw [this]; rfl
/-- what waits is joined -/
def redAll : List Op → List Cond → Option (List Cond)
  | [], d => some d
  | o :: ws, d => (redM o d).bind (redAll ws)
theorem redAll_app : ∀ (a b : List Op) (d : List Cond), redAll (a ++ b) d = (redAll a d).bind (redAll b)
  | [], _, _ => rfl
  | o :: a, b, d => by
    show (redM o d).bind (redAll (a ++ b)) = ((redM o d).bind (redAll a)).bind (redAll b)
    rw [Option.bind_assoc]
    congr 1
    funext e
    exact redAll_app a b e
theorem join_all {least : Nat} : ∀ (ops : List Op) (d e : List Cond) (w : List Op), (∀ o ∈ ops, least ≤ o.bnd) → redAll ops d = some e → joinM least d (ops ++ w) = joinM least e w
  | [], d, e, w, _, h => by rw [Option.some.inj h]; rfl
  | o :: ops, d, e, w, hb, h => by
    obtain ⟨d', h1, h2⟩ := Option.bind_eq_some_iff.mp h
    show (if least ≤ o.bnd then (redM o d).bind fun d' => joinM least d' (ops ++ w) else some (d, o :: (ops ++ w))) = _
    rw [if_pos (hb o List.mem_cons_self), h1]
    exact join_all ops d' e w (fun x hx => hb x (List.mem_cons_of_mem _ hx)) h2
theorem join_stop {least : Nat} {d : List Cond} {w : List Op} (h : ∀ o w', w = o :: w' → o.bnd < least) : joinM least d w = some (d, w) := by
  cases w with
  | nil => rfl
  | cons o w' =>
    show (if least ≤ o.bnd then _ else some (d, o :: w')) = _
    rw [if_neg (by have := h o w' rfl; omega)]
theorem read_app : ∀ (t u : List Nat) (s : List Cond × List Op), readM (t ++ u) s = (readM t s).bind (readM u)
  | [], _, _ => rfl
  | x :: t, u, s => by
    show (stepM x s).bind (readM (t ++ u)) = ((stepM x s).bind (readM t)).bind (readM u)
    rw [Option.bind_assoc]
    congr 1
    funext e
    exact read_app t u e
theorem step_op (a : Bool) (d : List Cond) (w : List Op) : stepM (sg a) (d, w) = (joinM (rk a + 1) d w).map fun s' => (s'.1, Op.bi a :: s'.2) := by cases a <;> rfl
theorem rt_read {t : List Nat} {c : Cond} {m : Nat} (h : RT' t c m) : m ≤ 2 → ∀ (d : List Cond) (w : List Op), (m = 2 ∨ ∀ o w', w = o :: w' → o.bnd < m + 1) → ∃ d' ops, readM t (d, w) = some (d', ops ++ w) ∧ (∀ o ∈ ops, m + 1 ≤ o.bnd) ∧ redAll ops d' = some (c :: d) := by
  induction h with
  | look h =>
    rename_i i m
    intro _ d w _
    refine ⟨.look i :: d, [], ?_, (fun o ho => absurd ho List.not_mem_nil), rfl⟩
    show (stepM (97 + i) (d, w)).bind (readM []) = _
    unfold stepM
    rw [if_pos ⟨by omega, by omega⟩]
    show some (Cond.look (97 + i - 97) :: d, w) = _
    rw [Nat.add_sub_cancel_left]; rfl
  | not h ih =>
    rename_i t c m
    intro hm d w _
    obtain ⟨d', ops, h1, h2, h3⟩ := ih (Nat.le_refl _) d (.no :: w) (.inl rfl)
    refine ⟨d', ops ++ [.no], ?_, fun o ho => ?_, ?_⟩
    · show readM t (d, .no :: w) = _
      rw [h1, List.append_assoc]; rfl
    · rcases List.mem_append.mp ho with ho | ho
      · have := h2 o ho; omega
      · rw [List.mem_singleton.mp ho]; show m + 1 ≤ 3; omega
    · rw [redAll_app, h3]; rfl
  | bin h1 h2 hm i1 i2 =>
    rename_i t u a l r m
    intro hm2 d w hw
    have ha := rk_le a
    have hw' : ∀ o w', w = o :: w' → o.bnd < rk a + 1 := by
      rcases hw with hw | hw
      · omega
      · intro o w' e
        have := hw o w' e
        omega
    obtain ⟨d1, ops1, e1, b1, r1⟩ := i1 (by omega) d w (.inr hw')
    obtain ⟨d2, ops2, e2, b2, r2⟩ := i2 (by omega) (l :: d) (.bi a :: w) (.inr fun o w' e => by
      obtain ⟨rfl, _⟩ := List.cons.inj e
      show rk a + 1 < rk a + 1 + 1
      omega)
    refine ⟨d2, ops2 ++ [.bi a], ?_, fun o ho => ?_, ?_⟩
    · rw [read_app, e1]
      show (stepM (sg a) (d1, ops1 ++ w)).bind (readM u) = _
      rw [step_op, join_all ops1 d1 (l :: d) w (fun o ho => b1 o ho) r1, join_stop hw']
      show readM u (l :: d, .bi a :: w) = _
      rw [e2, List.append_assoc]; rfl
    · rcases List.mem_append.mp ho with ho | ho
      · have := b2 o ho; omega
      · rw [List.mem_singleton.mp ho]; show m + 1 ≤ rk a + 1; omega
    · rw [redAll_app, r2]; rfl
  | brk h ih =>
    rename_i t c m
    intro _ d w _
    obtain ⟨d', ops, h1, h2, h3⟩ := ih (by decide) d (.par :: w) (.inr fun o w' e => by
      obtain ⟨rfl, _⟩ := List.cons.inj e
      show 0 < 0 + 1
      decide)
    refine ⟨c :: d, [], ?_, (fun o ho => absurd ho List.not_mem_nil), rfl⟩
    show readM (t ++ [41]) (d, .par :: w) = _
    rw [read_app, h1]
    show (stepM 41 (d', ops ++ .par :: w)).bind (readM []) = _
    have e : stepM 41 (d', ops ++ .par :: w) = (joinM 1 d' (ops ++ .par :: w)).bind fun s' => match s'.2 with
      | _ :: w => some (s'.1, w)
      | [] => none := rfl
    rw [e, join_all ops d' (c :: d) (.par :: w) (fun o ho => h2 o ho) h3, join_stop fun o w' e => by
      obtain ⟨rfl, _⟩ := List.cons.inj e
      show 0 < 1
      decide]
    rfl
theorem rt_readL {t : List Nat} {c : Cond} (h : RT' t c 0) : readL t = some ([c], []) := by
  obtain ⟨d', ops, h1, h2, h3⟩ := rt_read h (by decide) [] [] (.inr fun o w' e => by cases e)
  unfold readL
  rw [h1]
  show joinM 1 d' (ops ++ []) = _
  rw [join_all ops d' [c] [] (fun o ho => h2 o ho) h3]
  rfl

theorem wd_at {r : Int} (h0 : 0 ≤ r) (h1 : r < 2) : ∃ a, atI [V.str "and", V.str "or"] r = some (.str (wd a)) := by
  obtain rfl | rfl : r = 0 ∨ r = 1 := by omega
  · exact ⟨true, rfl⟩
  · exact ⟨false, rfl⟩
theorem left_at {r u : Int} {m : Nat} (hm : 2 ≤ m) (u0 : 0 ≤ u) (u1 : u < (m : Int) - 1) (h0 : 0 ≤ r) (h1 : r < 4) : ∃ k : Nat, atI [V.int 1, V.int ((m : Int) - 1), V.int (1 + u), V.int ((m : Int) / 2)] r = some (.int (k : Int)) ∧ 1 ≤ k ∧ k + 1 ≤ m := by
  obtain rfl | rfl | rfl | rfl : r = 0 ∨ r = 1 ∨ r = 2 ∨ r = 3 := by omega
  · exact ⟨1, rfl, by omega, by omega⟩
  · refine ⟨m - 1, ?_, by omega, by omega⟩
    rw [show ((m - 1 : Nat) : Int) = (m : Int) - 1 by omega]; rfl
  · refine ⟨(1 + u).toNat, ?_, by omega, by omega⟩
    rw [show (((1 + u).toNat : Nat) : Int) = 1 + u by omega]; rfl
  · refine ⟨m / 2, ?_, by omega, by omega⟩
    rw [show ((m / 2 : Nat) : Int) = (m : Int) / 2 by omega]; rfl
def spPB (x n : Nat) : Sp := fun vs H Q _ => ∃ b l ns s, ∃ m : Nat, ∃ t, ∃ ts : List Nat, vs = [.ref b, .int (m : Int), .ref t] ∧ Bx H b l ns s ∧ 1 ≤ m ∧ m ≤ n ∧ n ≤ 20 ∧ t ≠ b ∧ t ≠ l ∧ H t = some (.lst (ts.map vn)) ∧ 0 < ts.length ∧ ts.length ≤ 8 ∧ (∀ i ∈ ts, i < 8) ∧
  ∀ v c ns' s' H', Fr b l H H' → Bx H' b l ns' s' → CA H' v c → c.ok → c.looks = m → c.deep + x ≤ 2 * m → Q v H'
theorem pure_part {K : PySem.W.Frag} {w : World} {n : Nat} (vs : List V) (H : Hp) (Q : VK) (E : XK) (h : spPB 1 n vs H Q E) :
    t_law_part K w spTake (spPB 2 n) (Ends.mk (fun _ H' => Q .non H') Q (fun _ _ => False) (fun _ _ => False)) (start ["_law_box", "_law_many", "_law_things"] vs) H := by
  obtain ⟨b, l, ns, s, m, t, ts, rfl, x, m1, mn, n20, tb, tl, ht, t0, t8, ti, q⟩ := h
  unfold t_law_part
  tm_at "j"
  refine ⟨b, l, ns, s, 5, rfl, x, by decide, by decide, fun r ns1 s1 H1 f1 x1 r0 r1 => ?_⟩
  tm_at "j"
  have ht1 : H1 t = some (.lst (ts.map vn)) := f1.at tb tl ht
  refine i_b (fun e => ?_) (fun e => ?_)
  · tm_at "j"
    refine ⟨b, l, ns1, s1, m, t, ts, rfl, x1, m1, mn, n20, tb, tl, ht1, t0, t8, ti, fun v c ns2 s2 H2 f2 x2 hc ho hk hd => ?_⟩
    tm_at "j"
    rename_i p H3 np g3 e3
    exact q _ (.not c) ns2 s2 _ ((f1.trans f2).trans (Fr.of g3)) (x2.same g3) (.not e3 (hc.mono g3)) ho hk (by show c.deep + 1 + 1 ≤ 2 * m; omega)
  · tm_at "j"
    refine ⟨b, l, ns1, s1, m, t, ts, rfl, x1, m1, mn, n20, tb, tl, ht1, t0, t8, ti, fun v c ns2 s2 H2 f2 x2 hc ho hk hd => ?_⟩
    tm_at "j"
    exact q _ c ns2 s2 _ (f1.trans f2) x2 hc ho hk (by omega)
theorem pure_bare {K : PySem.W.Frag} {w : World} {n : Nat} (vs : List V) (H : Hp) (Q : VK) (E : XK) (h : spPB 2 (n + 1) vs H Q E) :
    t_law_bare K w spTake (spPB 1 n) (Ends.mk (fun _ H' => Q .non H') Q (fun _ _ => False) (fun _ _ => False)) (start ["_law_box", "_law_many", "_law_things", "_law_left", "_law_word"] vs) H := by
  obtain ⟨b, l, ns, s, m, t, ts, rfl, x, m1, mn, n20, tb, tl, ht, t0, t8, ti, q⟩ := h
  unfold t_law_bare
  tm_at "j"
  refine i_b (fun e => ?_) (fun e => ?_)
  · have em : (m : Int) = 1 := V.int.inj (of_decide_eq_true e)
    have em1 : m = 1 := by omega
    tm_at "j"
    have hlen : (ts.map vn).length = ts.length := List.length_map _
    refine ⟨b, l, ns, s, _, rfl, x, by omega, by omega, fun r ns1 s1 H1 f1 x1 r0 r1 => ?_⟩
    rw [hlen] at r1
    have ht1 : H1 t = some (.lst (ts.map vn)) := f1.at tb tl ht
    obtain ⟨k, rfl⟩ : ∃ k : Nat, r = (k : Int) := ⟨r.toNat, by omega⟩
    have hk : k < ts.length := by omega
    refine l_ixL (by tm_at "hp") (at_map (d := 0) hk) ?_
    tm_at "j"
    rename_i p H2 np g2 e2
    refine q _ (.look (ts.getD k 0)) ns1 s1 _ (f1.trans (Fr.of g2)) (x1.same g2) (.look e2) ?_ (by rw [em1]; rfl) (by rw [em1]; exact Nat.le_refl _)
    show ts.getD k 0 < 8
    refine ti _ ?_
    rw [List.getD_eq_getElem?_getD, List.getElem?_eq_getElem hk]
    exact List.getElem_mem hk
  · have em : ¬ (m : Int) = 1 := fun z => by
      have := of_decide_eq_false e
      exact this (congrArg V.int z)
    tm_at "j"
    refine ⟨b, l, ns, s, _, rfl, x, by omega, by omega, fun u ns1 s1 H1 f1 x1 u0 u1 => ?_⟩
    tm_at "j"
    rename_i p2 H2 np2 g2 e2
    have x2 := x1.same g2
    refine ⟨b, l, ns1, s1, 4, rfl, x2, by decide, by decide, fun r ns3 s3 H3 f3 x3 r0 r1 => ?_⟩
    have e3 := f3.at (ne_of_none x1.hb np2).symm (ne_of_none x1.hl np2).symm e2
    obtain ⟨k, hk, k1, k2⟩ := left_at (r := r) (u := u) (m := m) (by omega) u0 (by omega) r0 r1
    refine l_ixL (by tm_at "hp") hk ?_
    tm_at "j"
    rename_i p4 H4 np4 g4 e4
    have x4 := x3.same g4
    refine ⟨b, l, ns3, s3, 2, rfl, x4, by decide, by decide, fun r2 ns5 s5 H5 f5 x5 r20 r21 => ?_⟩
    have e5 := f5.at (ne_of_none x3.hb np4).symm (ne_of_none x3.hl np4).symm e4
    obtain ⟨a, ha⟩ := wd_at r20 r21
    refine l_ixL (by tm_at "hp") ha ?_
    tm_at "j"
    have f05 : Fr b l H H5 := (((f1.trans (Fr.of g2)).trans f3).trans (Fr.of g4)).trans f5
    refine ⟨b, l, ns5, s5, k, t, ts, rfl, x5, k1, by omega, by omega, tb, tl, f05.at tb tl ht, t0, t8, ti, fun v1 c1 ns6 s6 H6 f6 x6 hc1 ho1 hk1 hd1 => ?_⟩
    tm_at "j"
    refine ⟨b, l, ns6, s6, m - k, t, ts, ?_, x6, by omega, by omega, by omega, tb, tl, (f05.trans f6).at tb tl ht, t0, t8, ti, fun v2 c2 ns7 s7 H7 f7 x7 hc2 ho2 hk2 hd2 => ?_⟩
    · rw [show ((m - k : Nat) : Int) = (m : Int) - (k : Int) by omega]
    tm_at "j"
    rename_i p8 H8 np8 g8 e8
    have hc1' : CA H8 v1 c1 := (hc1.tups (x6.tups f7)).mono g8
    refine q _ (.bin a c1 c2) ns7 s7 _ (((f05.trans f6).trans f7).trans (Fr.of g8)) (x7.same g8) (.bin e8 hc1' (hc2.mono g8)) ⟨ho1, ho2⟩ ?_ ?_
    · show c1.looks + c2.looks = m
      omega
    · show max c1.deep c2.deep + 1 + 2 ≤ 2 * m
      omega

def spDeep (n : Nat) : Sp := fun vs H Q _ => ∃ v c, vs = [v] ∧ CA H v c ∧ c.deep < n ∧ n ≤ 60 ∧ ∀ H', Same H H' → Q (.int (c.deep : Int)) H'
theorem pure_deep {K : PySem.W.Frag} {w : World} {n : Nat} (vs : List V) (H : Hp) (Q : VK) (E : XK) (h : spDeep (n + 1) vs H Q E) :
    t_law_deep K w (spDeep n) (Ends.mk (fun _ H' => Q .non H') Q (fun _ _ => False) (fun _ _ => False)) (start ["_law_part_here", "_law_one"] vs) H := by
  obtain ⟨v, c, rfl, hc, hn, n60, q⟩ := h
  unfold t_law_deep
  cases hc with
  | look e =>
    tm_at "j"
    exact q _ (Same.refl _)
  | not e hc =>
    rename_i v1 c1
    have hn1 : c1.deep + 1 < n + 1 := hn
    tm_at "j"
    refine lcT (xs := [v1]) (ys := [.int (c1.deep : Int)]) (fun _ => rfl) (by tm_at "hp") (by tm_at "dec") ⟨rfl, ?_⟩ ?_
    · intro i x y H' Q' hx hy g k
      rcases i with _ | i
      · obtain rfl : v1 = x := Option.some.inj hx
        obtain rfl := Option.some.inj hy
        tm_at "j"
        exact ⟨v1, c1, rfl, by tm_at "hp", by omega, by omega, k⟩
      · cases hx
    · intro D H2 hD g e2
      tm_at "j"
      refine l_max (ns := [(c1.deep : Int)]) (by tm_at "hp") (by tm_at "dec") ?_
      intro mx hm hle
      obtain rfl : mx = (c1.deep : Int) := by simpa using hm
      tm_at "j"
      rw [show (1 : Int) + (c1.deep : Int) = (((c1.not).deep : Nat) : Int) by show (1 : Int) + _ = ((c1.deep + 1 : Nat) : Int); omega]
      exact q _ (by tm_at "hp")
  | bin e h1 h2 =>
    rename_i a v1 v2 c1 c2
    have hn1 : max c1.deep c2.deep + 1 < n + 1 := hn
    cases a <;> (
      tm_at "j"
      refine lcT (xs := [v1, v2]) (ys := [.int (c1.deep : Int), .int (c2.deep : Int)]) (fun _ => rfl) (by tm_at "hp") (by tm_at "dec") ⟨rfl, ?_⟩ ?_
      · intro i x y H' Q' hx hy g k
        rcases i with _ | _ | i
        · obtain rfl : v1 = x := Option.some.inj hx
          obtain rfl := Option.some.inj hy
          tm_at "j"
          exact ⟨v1, c1, rfl, by tm_at "hp", by omega, by omega, k⟩
        · obtain rfl : v2 = x := Option.some.inj hx
          obtain rfl := Option.some.inj hy
          tm_at "j"
          exact ⟨v2, c2, rfl, by tm_at "hp", by omega, by omega, k⟩
        · cases hx
      · intro D H2 hD g e2
        tm_at "j"
        refine l_max (ns := [(c1.deep : Int), (c2.deep : Int)]) (by tm_at "hp") (by tm_at "dec") ?_
        intro mx hm hle
        have l1 := hle c1.deep (by simp)
        have l2 := hle c2.deep (by simp)
        have em : mx = ((max c1.deep c2.deep : Nat) : Int) := by
          rcases List.mem_cons.mp hm with e0 | hm
          · omega
          · have := List.mem_singleton.mp hm
            omega
        subst em
        tm_at "j"
        have e3 : (1 : Int) + ((max c1.deep c2.deep : Nat) : Int) = ((max c1.deep c2.deep + 1 : Nat) : Int) := by omega
        rw [e3]
        exact q _ (by tm_at "hp"))
/-! _law_condition -/
/-- a condition of at most mx looks -/
def spCond : Sp := fun vs H Q _ => ∃ b l ns s, ∃ mx : Nat, vs = [.ref b, .int (mx : Int)] ∧ Bx H b l ns s ∧ 1 ≤ mx ∧ mx ≤ 20 ∧
  ∀ v c ns' s' H', Fr b l H H' → Bx H' b l ns' s' → CA H' v c → c.ok → c.looks ≤ mx → c.deep ≤ 10 → Q v H'
theorem things_at {t1 t2 t3 : Addr} {H : Hp} {r : Int} (h1 : H t1 = some (.lst [.int 0, .int 1, .int 2])) (h2 : H t2 = some (.lst [.int 0, .int 1, .int 2, .int 3, .int 4, .int 5, .int 6, .int 7])) (h3 : H t3 = some (.lst [.int 5, .int 7])) (r0 : 0 ≤ r) (r1 : r < 3) :
    ∃ t, ∃ ts : List Nat, atI [V.ref t1, V.ref t2, V.ref t3] r = some (.ref t) ∧ H t = some (.lst (ts.map vn)) ∧ 0 < ts.length ∧ ts.length ≤ 8 ∧ ∀ i ∈ ts, i < 8 := by
  obtain rfl | rfl | rfl : r = 0 ∨ r = 1 ∨ r = 2 := by omega
  · exact ⟨t1, [0, 1, 2], rfl, h1, by decide, by decide, by decide⟩
  · exact ⟨t2, [0, 1, 2, 3, 4, 5, 6, 7], rfl, h2, by decide, by decide, by decide⟩
  · exact ⟨t3, [5, 7], rfl, h3, by decide, by decide, by decide⟩
/-- the value in a condition's first place, one step down -/
theorem down {H : Hp} {v : V} {c : Cond} (h : CA H v c) (hd : 0 < c.deep) : ∃ p xs v1 c1, v = .ref p ∧ H p = some (.tup xs) ∧ atI xs 1 = some v1 ∧ CA H v1 c1 ∧ c1.deep < c.deep ∧ c1.looks ≤ c.looks ∧ (c.ok → c1.ok) := by
  cases h with
  | look e => exact absurd hd (Nat.lt_irrefl 0)
  | not e hc => exact ⟨_, _, _, _, rfl, e, rfl, hc, Nat.lt_succ_self _, Nat.le_refl _, id⟩
  | bin e h1 h2 => exact ⟨_, _, _, _, rfl, e, rfl, h1, Nat.lt_succ_of_le (Nat.le_max_left _ _), Nat.le_add_right _ _, fun h => h.1⟩
theorem pure_condition {K : PySem.W.Frag} {w : World} (vs : List V) (H : Hp) (Q : VK) (E : XK) (h : spCond vs H Q E) :
    t_law_condition K w spTake (spPB 1 20) (spDeep 60) (Ends.mk (fun _ H' => Q .non H') Q (fun _ _ => False) (fun _ _ => False)) (start ["_law_box", "_law_most", "_law_things", "_law_part_here"] vs) H := by
  obtain ⟨b, l, ns, s, mx, rfl, x, m1, m20, q⟩ := h
  unfold t_law_condition
  tm_at "j"
  rename_i p1 H1 n1 g1 e1 p2 H2 n2 g2 e2 p3 H3 n3 g3 e3 p4 H4 n4 g4 e4
  have x1 := x.same g1
  have x2 := x1.same g2
  have x3 := x2.same g3
  have x4 := x3.same g4
  refine ⟨b, l, ns, s, 3, rfl, x4, by decide, by decide, fun r ns5 s5 H5 f5 x5 r0 r1 => ?_⟩
  have e15 := f5.at (ne_of_none x.hb n1).symm (ne_of_none x.hl n1).symm (g4 _ _ (g3 _ _ (g2 _ _ e1)))
  have e25 := f5.at (ne_of_none x1.hb n2).symm (ne_of_none x1.hl n2).symm (g4 _ _ (g3 _ _ e2))
  have e35 := f5.at (ne_of_none x2.hb n3).symm (ne_of_none x2.hl n3).symm (g4 _ _ e3)
  have e45 := f5.at (ne_of_none x3.hb n4).symm (ne_of_none x3.hl n4).symm e4
  obtain ⟨t, ts, hat, ht, t0, t8, ti⟩ := things_at e15 e25 e35 r0 r1
  have tb : t ≠ b := by
    intro z
    subst z
    rw [x5.hb] at ht
    match ts, ht with
    | [], h => cases h
    | _ :: _, h => cases h
  have tl : t ≠ l := by
    intro z
    rcases (show t = p1 ∨ t = p2 ∨ t = p3 from by
      obtain rfl | rfl | rfl : r = 0 ∨ r = 1 ∨ r = 2 := by omega
      · exact Or.inl (V.ref.inj (Option.some.inj hat)).symm
      · exact Or.inr (Or.inl (V.ref.inj (Option.some.inj hat)).symm)
      · exact Or.inr (Or.inr (V.ref.inj (Option.some.inj hat)).symm)) with y | y | y
    · exact ne_of_none x.hl n1 (z.symm.trans y)
    · exact ne_of_none x1.hl n2 (z.symm.trans y)
    · exact ne_of_none x2.hl n3 (z.symm.trans y)
  have f05 : Fr b l H H5 := (Fr.of (((g1.trans g2).trans g3).trans g4)).trans f5
  refine l_ixL (by tm_at "hp") hat ?_
  tm_at "j"
  refine ⟨b, l, ns5, s5, _, rfl, x5, by omega, by omega, fun r2 ns6 s6 H6 f6 x6 r20 r21 => ?_⟩
  tm_at "j"
  refine ⟨b, l, ns6, s6, (1 + r2).toNat, t, ts, ?_, x6, by omega, by omega, by decide, tb, tl, f6.at tb tl ht, t0, t8, ti, fun v c ns7 s7 H7 f7 x7 hc ho hk hd => ?_⟩
  · rw [show (((1 + r2).toNat : Nat) : Int) = 1 + r2 by omega]
  have f07 := (f05.trans f6).trans f7
  tm_at "j"
  refine l_whileN (fun m σ' H' => ∃ v c, Same H7 H' ∧ σ' = [some (.ref b), some (.int (mx : Int)), some (.ref t), some v] ∧ CA H' v c ∧ c.ok ∧ c.looks ≤ mx ∧ c.deep ≤ 40 ∧ c.deep = m) c.deep ⟨v, c, Same.refl _, rfl, hc, ho, by omega, by omega, rfl⟩ ?_
  rintro m σ' H' ⟨v, c, g7, rfl, hc, ho, hk, hd, rfl⟩
  tm_at "j"
  refine ⟨v, c, rfl, hc, by omega, by decide, fun H8 g8 => ?_⟩
  tm_at "j"
  refine wb (fun e => ?_) (fun e => ?_)
  · have h10 := of_decide_eq_true e
    obtain ⟨p, xs, v1, c1, rfl, ep, ev1, hc1, hd1, hk1, ho1⟩ := down hc (by omega)
    tm_at "j"
    refine l_ixT (by tm_at "hp") ev1 ?_
    tm_at "j"
    exact ⟨c1.deep, hd1, v1, c1, by tm_at "hp", rfl, by tm_at "hp", ho1 ho, by omega, by omega, rfl⟩
  · have h10 := of_decide_eq_false e
    tm_at "j"
    have g78 := g7.trans g8
    exact q _ c ns7 s7 _ (f07.trans (Fr.of g78)) (x7.same g78) (hc.mono g8) ho hk (by omega)

/-! _law_begun -/
def spBegun (K : PySem.W.Frag) : Sp := fun vs H Q _ => ∃ a ns, vs = [.ref a] ∧ SqL K H a (ns.map V.int) ∧ ns.length ≤ 63 ∧ ∀ b l s H', Same H H' → Bx H' b l ns s → H b = none → H l = none → Q (.ref b) H'
theorem pure_begun {K : PySem.W.Frag} {w : World} (vs : List V) (H : Hp) (Q : VK) (E : XK) (h : spBegun K vs H Q E) :
    t_law_begun K w (Ends.mk (fun _ H' => Q .non H') Q (fun _ _ => False) (fun _ _ => False)) (start ["_law_script", "_law_stirred", "_law_cell"] vs) H := by
  obtain ⟨a, ns, rfl, ha, n63, q⟩ := h
  unfold t_law_begun
  tm_at "j"
  refine forL (fun i σ' H' => H' = H ∧ ∃ s o, σ' = [some (.ref a), some (.int s), o] ∧ 0 ≤ s ∧ s < 2147483647) ⟨rfl, 0, none, rfl, by decide, by decide⟩ ha ?_ ?_ ?_
  · rintro i σ' H' hi ⟨rfl, _⟩
    exact ha
  · rintro i x σ' H' hx ⟨rfl, s, o, rfl, s0, s1⟩
    rw [List.getElem?_map] at hx
    cases hn : ns[i]? with
    | none => rw [hn] at hx; cases hx
    | some n =>
      rw [hn] at hx
      obtain rfl : V.int n = x := Option.some.inj hx
      tm_at "j"
      exact ⟨rfl, _, _, rfl, Int.emod_nonneg _ (by decide), Int.emod_lt_of_pos _ (by decide)⟩
  · rintro σ' H' ⟨rfl, s, o, rfl, s0, s1⟩
    tm_at "j"
    have hk : (-(2 ^ 64) < (if decide (2 < (((ns.map V.int).length : Nat) : Int)) = true then (1 : Int) else 0)) ∧ (if decide (2 < (((ns.map V.int).length : Nat) : Int)) = true then (1 : Int) else 0) < 2 ^ 64 ∧ 0 ≤ s * (if decide (2 < (((ns.map V.int).length : Nat) : Int)) = true then (1 : Int) else 0) ∧ s * (if decide (2 < (((ns.map V.int).length : Nat) : Int)) = true then (1 : Int) else 0) < 2147483647 := by
      split
      · exact ⟨by decide, by decide, by omega, by omega⟩
      · exact ⟨by decide, by decide, by omega, by omega⟩
    refine l_I (Or.inr ⟨hk.1, hk.2.1⟩) ?_
    tm_at "j"
    rename_i l H1 n1 g1 e1 b H2 n2 g2 e2
    exact q b l _ _ (g1.trans g2) ⟨fun z => ne_of_none e1 n2 z.symm, e2, g2 _ _ e1, hk.2.2.1, hk.2.2.2, n63⟩ (g1.free n2) n1

/-! _law_all_turns -/
theorem turns_half {K : PySem.W.Frag} (f : Bool) {H : Hp} {Q : VK} {l : Addr} {bs : List (V × List Bool)} {o0 o2 : Option V} (hl : H l = some (.lst (bs.map Prod.fst))) (hb : ∀ x ∈ bs, ∃ t, x.1 = .ref t ∧ H t = some (.lst (x.2.map vb))) (hn : bs.length ≤ 1000) (hlen : ∀ x ∈ bs, x.2.length ≤ 100)
    (q : ∀ (D : Addr) (cs : List (V × List Bool)) (H' : Hp), Same H H' → H D = none → H' D = some (.lst (cs.map Prod.fst)) → cs.map Prod.snd = bs.map (fun x => x.2 ++ [f]) → (∀ x ∈ cs, ∃ t, x.1 = .ref t ∧ H t = none ∧ H' t = some (.lst (x.2.map vb))) → Q (.ref D) H') :
    IL K (.ref l) H (LcB (gName 3) tYes (tOp (rCat) (tVar 3) (tLst (tCons (tC (vb f)) (tNil)))) [3] [o0, some (.ref l), o2, none] Q) := by
  refine lcL_invD (xs := bs.map Prod.fst) (fun D i zs H' => Same H H' ∧ zs.length = i ∧ ∀ (k : Nat) (z : V), zs[k]? = some z → ∃ x t, bs[k]? = some x ∧ z = .ref t ∧ t ≠ D ∧ H t = none ∧ H' t = some (.lst ((x.2 ++ [f]).map vb))) (fun _ => rfl) (SqL.of hl) (by rw [List.length_map]; omega) (fun _ _ _ _ jj => jj.1) (fun D H' _ g => ⟨g, rfl, fun k z e => by cases e⟩) ?_ (fun _ _ _ _ jj => jj.2.1) ?_ ?_
  · rintro i zs D H' o nD ⟨s1, s2, s3⟩
    refine ⟨sm_mut s1 nD, s2, fun k z e => ?_⟩
    obtain ⟨b, t, e1, e2, e3, e4, e5⟩ := s3 k z e
    exact ⟨b, t, e1, e2, e3, e4, by rw [upd_ne e3]; exact e5⟩
  · rintro i v D zs H' Q' hv nD ⟨s1, s2, s3⟩ eD kk
    rw [List.getElem?_map] at hv
    cases hx : bs[i]? with
    | none => rw [hx] at hv; cases hv
    | some x =>
      rw [hx] at hv
      obtain rfl : x.1 = v := Option.some.inj hv
      have hm := List.mem_of_getElem? hx
      obtain ⟨t, ex, et⟩ := hb x hm
      have hl2 := hlen x hm
      rw [ex]
      tm_at "j"
      rename_i p3 H3 n3 g3 e3
      refine l_cat (g3 _ _ (s1 _ _ et)) e3 (by rw [List.length_map]; show _ + 1 ≤ _; omega) fun u H4 n4 g4 e4 => ?_
      have g34 := g3.trans g4
      refine kk _ _ ⟨s1.trans g34, by rw [List.length_append, s2]; rfl, fun k z e => ?_⟩ (g34 _ _ eD)
      by_cases hk : k < zs.length
      · rw [List.getElem?_append_left hk] at e
        obtain ⟨b', t', e1, e2, e3, e4, e5⟩ := s3 k z e
        exact ⟨b', t', e1, e2, e3, e4, g34 _ _ e5⟩
      · rw [List.getElem?_append_right (by omega)] at e
        have hk2 : k - zs.length = 0 := by
          have := (List.getElem?_eq_some_iff.mp e).1
          have : ([V.ref u] : List V).length = 1 := rfl
          omega
        rw [hk2] at e
        obtain rfl := Option.some.inj e
        have : k = i := by omega
        rw [this]
        refine ⟨x, u, hx, rfl, (ne_of_none (g3 _ _ eD) n4).symm, s1.free (g3.free n4), ?_⟩
        rw [List.map_append]
        exact e4
  · rintro D zs H3 nD ⟨s1, s2, s3⟩ eD
    rw [List.length_map] at s2
    refine q D (List.zipWith (fun y (x : V × List Bool) => (y, x.2 ++ [f])) zs bs) H3 s1 nD ?_ ?_ fun x hx => ?_
    · rw [eD]
      congr 2
      refine List.ext_getElem? fun k => ?_
      rw [List.getElem?_map, List.getElem?_zipWith]
      cases e1 : zs[k]? with
      | none => rfl
      | some y =>
        obtain ⟨x, t, ex, _⟩ := s3 k y e1
        rw [ex]; rfl
    · refine List.ext_getElem? fun k => ?_
      rw [List.getElem?_map, List.getElem?_zipWith, List.getElem?_map]
      cases e1 : zs[k]? with
      | none =>
        have : bs[k]? = none := by
          rw [List.getElem?_eq_none_iff] at e1 ⊢
          omega
        rw [this]; rfl
      | some y =>
        obtain ⟨x, t, ex, _⟩ := s3 k y e1
        rw [ex]; rfl
    · obtain ⟨k, hk⟩ := List.mem_iff_getElem?.mp hx
      rw [List.getElem?_zipWith] at hk
      cases e1 : zs[k]? with
      | none => rw [e1] at hk; cases hk
      | some y =>
        obtain ⟨x', t, ex, ey, _, e4, e5⟩ := s3 k y e1
        rw [e1, ex] at hk
        obtain rfl := Option.some.inj hk
        exact ⟨t, ey, e4, e5⟩
/-- all turns, their lists new -/
def TsA (H H' : Hp) (n : Nat) (bs : List (V × List Bool)) : Prop := (∀ b, b ∈ bs.map Prod.snd ↔ b.length = n) ∧ (∀ x ∈ bs, ∃ t, x.1 = .ref t ∧ H t = none ∧ H' t = some (.lst (x.2.map vb))) ∧ bs.length = 2 ^ n
theorem all_snoc {l : List (List Bool)} {n : Nat} (h : ∀ b, b ∈ l ↔ b.length = n) (b : List Bool) : b ∈ l.map (fun x => x ++ [false]) ++ l.map (fun x => x ++ [true]) ↔ b.length = n + 1 := by
  rw [List.mem_append, List.mem_map, List.mem_map]
  constructor
  · rintro (⟨x, hx, rfl⟩ | ⟨x, hx, rfl⟩)
    · rw [List.length_append, (h x).mp hx]; rfl
    · rw [List.length_append, (h x).mp hx]; rfl
  · intro hb
    have hne : b ≠ [] := by intro e; subst e; cases hb
    have hd : b.dropLast ++ [b.getLast hne] = b := List.dropLast_concat_getLast hne
    have hm : b.dropLast ∈ l := (h _).mpr (by rw [List.length_dropLast, hb]; rfl)
    cases hg : b.getLast hne
    · rw [hg] at hd; exact .inl ⟨_, hm, hd⟩
    · rw [hg] at hd; exact .inr ⟨_, hm, hd⟩
def spTurnsL : Sp := fun vs H Q _ => ∃ n : Nat, vs = [.int (n : Int)] ∧ n ≤ 6 ∧ ∀ l bs H', Same H H' → H l = none → H' l = some (.lst (bs.map Prod.fst)) → TsA H H' n bs → Q (.ref l) H'
theorem pure_turnsL {K : PySem.W.Frag} {w : World} (vs : List V) (H : Hp) (Q : VK) (E : XK) (h : spTurnsL vs H Q E) :
    t_law_all_turns K w (Ends.mk (fun _ H' => Q .non H') Q (fun _ _ => False) (fun _ _ => False)) (start ["_law_many", "_law_found", "_law_turn", "_law_turns"] vs) H := by
  obtain ⟨n, rfl, h6, q⟩ := h
  unfold t_law_all_turns
  tm_at "j"
  rename_i p1 H1 n1 g1 e1 l2 H2 n2 g2 e2
  refine forR (n := n) (by omega) (fun i σ' H' => ∃ l bs o2, σ' = [some (.int (n : Int)), some (.ref l), o2, none] ∧ Same H H' ∧ H l = none ∧ H' l = some (.lst (bs.map Prod.fst)) ∧ TsA H H' i bs) ⟨l2, [(.ref p1, [])], _, rfl, g1.trans g2, g1.free n2, e2, ?_, ?_, rfl⟩ ?_ ?_
  · intro b
    show b ∈ [[]] ↔ b.length = 0
    rw [List.mem_singleton, List.length_eq_zero_iff]
  · intro x hx
    obtain rfl := List.mem_singleton.mp hx
    exact ⟨p1, rfl, n1, g2 _ _ e1⟩
  · rintro i σ' H' hi ⟨l, bs, o2, rfl, g, nl, el, ta, tb, tn⟩
    have hp : 2 ^ i ≤ 2 ^ 6 := Nat.pow_le_pow_right (by decide) (by omega)
    have hl100 : ∀ x ∈ bs, x.2.length ≤ 100 := fun x hx => by
      have := (ta x.2).mp (List.mem_map.mpr ⟨x, hx, rfl⟩)
      omega
    have hlst : ∀ {H'' : Hp}, Same H' H'' → ∀ x ∈ bs, ∃ t, x.1 = .ref t ∧ H'' t = some (.lst (x.2.map vb)) := fun gg x hx => by
      obtain ⟨t, e1, _, e2⟩ := tb x hx
      exact ⟨t, e1, gg _ _ e2⟩
    tm_at "j"
    refine turns_half false el (hlst (Same.refl _)) (by omega) hl100 fun D1 c1 H3 g3 n3 e3 s3 r3 => ?_
    tm_at "j"
    refine turns_half true (g3 _ _ el) (hlst g3) (by omega) hl100 fun D2 c2 H4 g4 n4 e4 s4 r4 => ?_
    have z1 : c1.length = 2 ^ i := by
      have := congrArg List.length s3
      rw [List.length_map, List.length_map] at this
      omega
    have z2 : c2.length = 2 ^ i := by
      have := congrArg List.length s4
      rw [List.length_map, List.length_map] at this
      omega
    refine l_cat (g4 _ _ e3) e4 (by rw [List.length_map, List.length_map]; omega) fun D5 H5 n5 g5 e5 => ?_
    rw [← List.map_append] at e5
    tm_at "j"
    refine ⟨D5, c1 ++ c2, _, rfl, ((g.trans g3).trans g4).trans g5, g.free (g3.free (g4.free n5)), e5, ?_, ?_, by rw [List.length_append, z1, z2, Nat.pow_succ]; omega⟩
    · intro b
      rw [List.map_append, s3, s4]
      have := all_snoc ta b
      rw [List.map_map, List.map_map] at this
      exact this
    · intro x hx
      rcases List.mem_append.mp hx with hx | hx
      · obtain ⟨t, h1, h2, h3⟩ := r3 x hx
        exact ⟨t, h1, g.free h2, g5 _ _ (g4 _ _ h3)⟩
      · obtain ⟨t, h1, h2, h3⟩ := r4 x hx
        exact ⟨t, h1, g.free (g3.free h2), g5 _ _ h3⟩
  · rintro σ' H' ⟨l, bs, o2, rfl, g, nl, el, ta, tb, tn⟩
    have hp : 2 ^ n ≤ 2 ^ 6 := Nat.pow_le_pow_right (by decide) (by omega)
    tm_at "j"
    refine ⟨l, bs, rfl, SqL.of el, fun x hx => ?_, by omega, fun cs p pm np => ?_⟩
    · obtain ⟨t, e1, _, e2⟩ := tb x hx
      rw [e1]
      exact .lst (SqL.of e2) (dp_bds x.2)
    · have gp := sm_new np (.lst (cs.map Prod.fst))
      refine q p cs _ (g.trans gp) (g.free np) upd_same ⟨fun b => ?_, fun x hx => ?_, by rw [pm.length_eq]; exact tn⟩
      · rw [(pm.map Prod.snd).mem_iff]
        exact ta b
      · obtain ⟨t, e1, e2, e3⟩ := tb x (pm.mem_iff.mp hx)
        exact ⟨t, e1, e2, gp _ _ e3⟩

/-! k13: asked again -/
theorem lexB_anti : ∀ a b : List Bool, lexB a b = true → lexB b a = true → a = b
  | [], [], _, _ => rfl
  | [], _ :: _, _, h => by cases h
  | _ :: _, [], h, _ => by cases h
  | a :: r, b :: s, h1, h2 => by
    unfold lexB at h1 h2
    by_cases e : a = b
    · subst e
      rw [if_pos rfl] at h1 h2
      rw [lexB_anti r s h1 h2]
    · rw [if_neg e] at h1
      rw [if_neg fun z => e z.symm] at h2
      rw [h1, h2] at e
      exact absurd rfl e
theorem BestL.uniq {ch : List Nat} {c : Cond} {ts us : List Bool} (h1 : BestL ch c ts) (h2 : BestL ch c us) : ts = us := by
  rcases h1.2 us h2.1 with a | ⟨a1, a2⟩ <;> rcases h2.2 ts h1.1 with b | ⟨b1, b2⟩
  · omega
  · omega
  · omega
  · exact lexB_anti _ _ a2 b2
theorem BestJ.uniq {ch : List Nat} {c : Cond} {ts us : List Bool} {f g : Bool} (h1 : BestJ ch c ts f) (h2 : BestJ ch c us g) : ts = us ∧ f = g := by
  rcases h1.2 us g h2.1 with a | ⟨a1, a2⟩ <;> rcases h2.2 ts f h1.1 with b | ⟨b1, b2⟩
  · omega
  · omega
  · omega
  · have e : ts = us := by
      rcases a2 with ⟨a3, a4⟩ | ⟨a3, _⟩
      · rcases b2 with ⟨_, b4⟩ | ⟨b3, _⟩
        · exact lexB_anti _ _ a4 b4
        · exact b3.symm
      · exact a3
    refine ⟨e, ?_⟩
    rcases a2 with ⟨a3, _⟩ | ⟨_, a4⟩
    · exact absurd e a3
    · rcases b2 with ⟨b3, _⟩ | ⟨_, b4⟩
      · exact absurd e.symm b3
      · cases f <;> cases g <;> first | rfl | (exact absurd (a4 rfl) (by decide)) | (exact absurd (b4 rfl) (by decide))

section
theorem Tr.one {H : Hp} {n : Nat} {F : Addr → Prop} {p : Addr} {xs : List V} {ds : List PyData} (k : Nat) (e : H p = some (.tup xs)) (l : xs.length = ds.length) (hl : xs.length ≤ 1000)
    (hk : ∀ x d, xs[k]? = some x → ds[k]? = some d → Tr H n F x d) (ho : ∀ (i : Nat) x d, i ≠ k → xs[i]? = some x → ds[i]? = some d → Tr H n (fun _ => False) x d) : Tr H (n + 1) F (.ref p) (.tuple ds) := by
  refine .inr (.inl ⟨p, xs, ds, fun i a => i = k ∧ F a, rfl, rfl, e, l, hl, fun i x d hx hd => ?_, fun i a z => z.2, fun i j a hij z y => hij (z.1.trans y.1.symm)⟩)
  by_cases hi : i = k
  · subst hi
    exact (hk x d hx hd).sub fun a z => ⟨rfl, z⟩
  · exact (ho i x d hi hx hd).sub fun a z => z.elim
theorem Tr.mapL {α : Type} {H : Hp} {F : Addr → Prop} {p : Addr} (l : List α) (f : α → V) (g : α → PyData) (h : ∀ a, Atm (f a) (g a)) (e : H p = some (.lst (l.map f))) (hf : F p) (hl : l.length ≤ 1000) : Tr H 2 F (.ref p) (.list (l.map g)) := by
  refine Tr.flatL e hf (by rw [List.length_map]; exact hl) (by rw [List.length_map, List.length_map]) fun i x d hx hd => ?_
  rw [List.getElem?_map] at hx hd
  cases ea : l[i]? with
  | none => rw [ea] at hx; cases hx
  | some a =>
    rw [ea] at hx hd
    obtain rfl := Option.some.inj hx
    obtain rfl := Option.some.inj hd
    exact .inl (h a)
theorem atm_vn (k : Nat) : Atm (vn k) (.int (k : Int)) := .inr (.inr (.inl ⟨_, rfl, rfl⟩))
theorem atm_vb (b : Bool) : Atm (vb b) (.int (bi b)) := .inr (.inr (.inl ⟨_, rfl, rfl⟩))
theorem tr_int {H : Hp} {n : Nat} {F : Addr → Prop} {i : Int} : Tr H (n + 1) F (.int i) (.int i) := .inl (.inr (.inr (.inl ⟨_, rfl, rfl⟩)))
theorem tr_bl {H : Hp} {n : Nat} {F : Addr → Prop} {i : Bool} : Tr H (n + 1) F (.bl i) (.bool i) := .inl (.inr (.inl ⟨_, rfl, rfl⟩))
theorem new_of {H H' : Hp} {p : Addr} {o : HO} (h : H p = none) (e : H' p = some o) : New H H' p := ⟨h, by rw [e]; exact fun z => nomatch z⟩
theorem told_tr {H H' : Hp} {v : V} {x : Bool × List Nat} (h : Told H H' v x) (hl : x.2.length ≤ 1000) : Tr H' 3 (New H H') v (dTold x) := by
  obtain ⟨p, l, rfl, h0, h1, h2⟩ := h
  refine Tr.one 1 h1 rfl (show 2 ≤ 1000 by decide) (fun x' d hx hd => ?_) fun i x' d hi hx hd => ?_
  · obtain rfl : V.ref l = x' := Option.some.inj hx
    obtain rfl := Option.some.inj hd
    exact Tr.mapL _ _ _ atm_vn h2 (new_of h0 h2) hl
  · rcases i with _ | _ | i
    · obtain rfl : vb x.1 = x' := Option.some.inj hx
      obtain rfl := Option.some.inj hd
      exact .inl (atm_vb _)
    · exact absurd rfl hi
    · cases hx
theorem rtold_tr {H H' : Hp} {v : V} {x : Bool × List Nat × Nat} (h : RTold H H' v x) (hl : x.2.1.length ≤ 1000) : Tr H' 3 (New H H') v (rTold x) := by
  obtain ⟨p, l, rfl, h0, h1, h2⟩ := h
  refine Tr.one 1 h1 rfl (show 3 ≤ 1000 by decide) (fun x' d hx hd => ?_) fun i x' d hi hx hd => ?_
  · obtain rfl : V.ref l = x' := Option.some.inj hx
    obtain rfl := Option.some.inj hd
    exact Tr.mapL _ _ _ atm_vn h2 (new_of h0 h2) hl
  · rcases i with _ | _ | _ | i
    · obtain rfl : vb x.1 = x' := Option.some.inj hx
      obtain rfl := Option.some.inj hd
      exact .inl (atm_vb _)
    · exact absurd rfl hi
    · obtain rfl : vn x.2.2 = x' := Option.some.inj hx
      obtain rfl := Option.some.inj hd
      exact tr_int
    · cases hx
def flD (ch : List Nat) (c : Cond) (ts : List Bool) : PyData := .tuple [.int (looksM ch (exch c ts) : Int), .list (ts.map fun b => .int (bi b))]
def fjD (ch : List Nat) (c : Cond) (ts : List Bool) (f : Bool) : PyData := .tuple [.int (jumpsM ch f (exch c ts) : Int), .list (ts.map fun b => .int (bi b)), .int (bi f)]
theorem fl_tr {H H' : Hp} {v : V} {ch : List Nat} {c : Cond} (h : FL H H' v ch c) (hl : c.pairs ≤ 1000) : ∃ ts, BestL ch c ts ∧ Tr H' 3 (New H H') v (flD ch c ts) := by
  obtain ⟨p, l, ts, rfl, h0, h1, h2, hb⟩ := h
  refine ⟨ts, hb, Tr.one 1 h1 rfl (show 2 ≤ 1000 by decide) (fun x' d hx hd => ?_) fun i x' d hi hx hd => ?_⟩
  · obtain rfl : V.ref l = x' := Option.some.inj hx
    obtain rfl := Option.some.inj hd
    exact Tr.mapL _ _ _ atm_vb h2 (new_of h0 h2) (by rw [hb.1]; exact hl)
  · rcases i with _ | _ | i
    · obtain rfl := Option.some.inj hx
      obtain rfl := Option.some.inj hd
      exact tr_int
    · exact absurd rfl hi
    · cases hx
theorem fj_tr {H H' : Hp} {v : V} {ch : List Nat} {c : Cond} (h : FJ H H' v ch c) (hl : c.pairs ≤ 1000) : ∃ ts f, BestJ ch c ts f ∧ Tr H' 3 (New H H') v (fjD ch c ts f) := by
  obtain ⟨p, l, ts, f, rfl, h0, h1, h2, hb⟩ := h
  refine ⟨ts, f, hb, Tr.one 1 h1 rfl (show 3 ≤ 1000 by decide) (fun x' d hx hd => ?_) fun i x' d hi hx hd => ?_⟩
  · obtain rfl : V.ref l = x' := Option.some.inj hx
    obtain rfl := Option.some.inj hd
    exact Tr.mapL _ _ _ atm_vb h2 (new_of h0 h2) (by rw [hb.1]; exact hl)
  · rcases i with _ | _ | _ | i
    · obtain rfl := Option.some.inj hx
      obtain rfl := Option.some.inj hd
      exact tr_int
    · exact absurd rfl hi
    · obtain rfl : vb f = x' := Option.some.inj hx
      obtain rfl := Option.some.inj hd
      exact .inl (atm_vb _)
    · cases hx
theorem okT_row : ∀ r : Row, okT 2 (rowD r)
  | .look t w to => ⟨by show 4 ≤ 1000; decide, fun x hx => by
      rcases List.mem_cons.mp hx with rfl | hx
      · show PyData.strOk "look" = true; decide +kernel
      · rcases List.mem_cons.mp hx with rfl | hx
        · exact trivial
        · rcases List.mem_cons.mp hx with rfl | hx
          · exact trivial
          · obtain rfl := List.mem_singleton.mp hx
            exact trivial⟩
  | .fin b => ⟨by show 2 ≤ 1000; decide, fun x hx => by
      rcases List.mem_cons.mp hx with rfl | hx
      · show PyData.strOk "end" = true; decide +kernel
      · obtain rfl := List.mem_singleton.mp hx
        exact trivial⟩
theorem rn_tr {H H' : Hp} {v : V} {rows : List Row} (h : RN H H' v rows) (hl : rows.length ≤ 1000) : Tr H' 3 (New H H') v (.list (rows.map rowD)) := by
  obtain ⟨l, vs, rfl, h0, h1, t⟩ := h
  have el := t.len
  rw [List.length_map] at el
  refine Tr.flatL h1 (new_of h0 h1) (by omega) t.len fun i x d hx hd => ?_
  obtain ⟨d', hd', td⟩ := t.getV hx
  rw [hd] at hd'
  obtain rfl := Option.some.inj hd'
  rw [List.getElem?_map] at hd
  cases er : rows[i]? with
  | none => rw [er] at hd; cases hd
  | some r =>
    rw [er] at hd
    obtain rfl := Option.some.inj hd
    exact td.tr (okT_row r)
theorem ca_tr {H : Hp} {v : V} {c : Cond} (h : CA H v c) (hd : c.deep ≤ 10) : Tr H 12 (fun _ => False) v (cdata c) := h.td.tr ((okT_cond c).le (by omega))
theorem okT_ints {α : Type} (l : List α) (g : α → Int) (hl : l.length ≤ 1000) : okT 2 (.tuple (l.map fun a => .int (g a))) := ⟨by rw [List.length_map]; exact hl, fun x hx => by
  obtain ⟨a, _, rfl⟩ := List.mem_map.mp hx
  exact trivial⟩
theorem tda_map {H : Hp} {α : Type} (f : α → V) (g : α → PyData) (h : ∀ a, TD H (f a) (g a)) : ∀ l : List α, TDA H (l.map f) (l.map g)
  | [] => .nil
  | a :: l => .cons (h a) (tda_map f g h l)
theorem wa_td {H : Hp} {v : V} {ws : List Bool} (h : WA H v ws) : TD H v (wdata ws) := by
  obtain ⟨a, rfl, e, _⟩ := h
  exact .tup e (tda_map _ _ (fun b => .int _) ws)
def chD (ch : List Nat) : PyData := .tuple (ch.map fun (k : Nat) => PyData.int (k : Int))
theorem ch_td {H : Hp} {v : V} {ch : List Nat} (h : ChA H v ch) : TD H v (chD ch) := by
  obtain ⟨a, rfl, e, _⟩ := h
  exact .tup e (tda_map _ _ (fun b => .int _) ch)
theorem tda_inv {H : Hp} {α : Type} (f : α → V) (g : α → PyData) (h : ∀ a v, TD H v (g a) → v = f a) : ∀ {l : List α} {vs : List V}, TDA H vs (l.map g) → vs = l.map f
  | [], _, .nil => rfl
  | a :: l, _, .cons t r => by rw [h a _ t, tda_inv f g h r]; rfl
theorem td_wa {H : Hp} {v : V} {ws : List Bool} (h : TD H v (wdata ws)) (h8 : ws.length = 8) : WA H v ws := by
  obtain ⟨a, xs, rfl, e, t⟩ := h.at
  rw [tda_inv vb (fun b => PyData.int (bi b)) (fun b v t => by cases t; rfl) t] at e
  exact ⟨a, rfl, e, h8⟩
theorem td_ch {H : Hp} {v : V} {ch : List Nat} (h : TD H v (chD ch)) (h8 : ch.length = 8) (h1 : ∀ x ∈ ch, x ≤ 100) : ChA H v ch := by
  obtain ⟨a, xs, rfl, e, t⟩ := h.at
  rw [tda_inv vn (fun (k : Nat) => PyData.int (k : Int)) (fun b v t => by cases t; rfl) t] at e
  exact ⟨a, rfl, e, h8, h1⟩
/-! parting, its lists each its own -/
def spParting2 : Sp := fun vs H Q _ => ∃ v u c d, vs = [v, u] ∧ CA H v c ∧ CA H u d ∧ Good c ∧ Good d ∧ ∀ v' H', Same H H' → Tr H' 4 (New H H') v' (dueD (partM c d 256) c d) → Q v' H'
theorem pure_parting2 {K : PySem.W.Frag} {w : World} (vs : List V) (H : Hp) (Q : VK) (E : XK) (h : spParting2 vs H Q E) :
    t_parting K w spCheck spAllBits (spOut 11) (Ends.mk (fun _ H' => Q .non H') Q (fun _ _ => False) (fun _ _ => False)) (start ["one", "other", "worths", "told_of_one", "told_of_other"] vs) H := by
  obtain ⟨v, u, c, d, rfl, hc, hd, ⟨ho1, hd1, hk1⟩, ⟨ho2, hd2, hk2⟩, q⟩ := h
  unfold t_parting
  tm_at "j"
  refine ⟨v, c, rfl, hc, ho1, hd1, hk1, fun H1 g1 => ?_⟩
  tm_at "j"
  refine ⟨u, d, rfl, hd.mono g1, ho2, hd2, hk2, fun H2 g2 => ?_⟩
  tm_at "j"
  refine ⟨8, rfl, by decide, fun l ys H3 g3 nl el bt => ?_⟩
  have g03 := (g1.trans g2).trans g3
  have hys : ys.length = 256 := by rw [bt.1, bitsM_len]
  refine forL (xs := ys) (fun i σ' H' => ∃ o2 o3 o4, σ' = [some v, some u, o2, o3, o4] ∧ Same H3 H' ∧ partM c d i = none) ⟨_, _, _, rfl, Same.refl _, rfl⟩ (SqL.of el) ?_ ?_ ?_
  · rintro i σ' H' hi ⟨_, _, _, _, g, _⟩
    exact SqL.of (g _ _ el)
  · rintro i x σ' H' hx ⟨o2, o3, o4, rfl, g, hp⟩
    obtain ⟨hi, hw⟩ := bits_wa bt hx
    have hw := hw.mono g
    have g0 := g03.trans g
    tm_at "j"
    refine ⟨v, x, c, wts i, rfl, hc.mono g0, by omega, by decide, ho1, hw, fun v4 H4 g4 t4 => ?_⟩
    tm_at "j"
    refine ⟨u, x, d, wts i, rfl, (hd.mono g0).mono g4, by omega, by decide, ho2, hw.mono g4, fun v5 H5 g5 t5 => ?_⟩
    tm_at "j"
    refine l_neD (Dp.mono g5 (dp_told t4)) (dp_told t5) (shaped_told _) (shaped_told _) ?_
    rw [eqv_told]
    refine l_bl ?_
    refine i_b (fun e => ?_) (fun e => ?_)
    · tm_at "j"
      rename_i p6 H6 n6 g6 e6
      have hf := part_stays (part_found hp (show unlike c d i = true from e)) (256 - (i + 1))
      rw [show i + 1 + (256 - (i + 1)) = 256 by omega] at hf
      rw [hf] at q
      have g46 := (g4.trans g5).trans g6
      refine q _ _ (g0.trans g46) ?_
      have l0 : Line 3 H' H' [] [] := Line.nil
      have l1 := l0.snoc (fun a z => z) (Same.refl _) (((wa_td hw).tr (okT_ints _ _ (by rw [show (wts i).length = 8 from rfl]; decide))).up.sub fun a z => z.elim)
      have l2 := l1.snoc (fun a z => z) g4 (told_tr t4 (Nat.le_trans (ev_len _ _) (by omega)))
      have l3 := l2.snoc (fun a z => g4.free z) g5 (told_tr t5 (Nat.le_trans (ev_len _ _) (by omega)))
      exact ((l3.same g6).tup (show 3 ≤ 1000 by decide) e6).sub fun a z => ⟨g0.free z.1, z.2⟩
    · tm_at "j"
      exact ⟨_, _, _, rfl, g.trans (g4.trans g5), part_on hp (show unlike c d i = false from e)⟩
  · rintro σ' H' ⟨o2, o3, o4, rfl, g, hp⟩
    tm_at "j"
    rw [hys] at hp
    rw [hp] at q
    exact q _ _ (g03.trans g) (.inl (.inl ⟨rfl, rfl⟩))
end

section
variable {K : PySem.W.Frag} {w : World}
def D13 (c : Cond) (ws : List Bool) (ch : List Nat) (ts us : List Bool) (f : Bool) : List PyData := [dTold (ev ws c), .list ((codeM c true).map rowD), rTold (runC (codeM c false) ws), .int (looksM ch c : Int), cdata (exch c (List.replicate c.pairs true)),
  .int (jumpsM ch true c : Int), dueD (partM c (exch c (List.replicate c.pairs true)) 256) c (exch c (List.replicate c.pairs true)), .bool (partM c (exch c (List.replicate c.pairs true)) 256).isNone, cdata c, flD ch c ts, fjD ch c us f]
def DD (c : Cond) (ws : List Bool) (ch : List Nat) (d : PyData) : Prop := ∃ ts us f, BestL ch c ts ∧ BestJ ch c us f ∧ d = .list (D13 c ws ch ts us f)
theorem DD.uniq {c : Cond} {ws : List Bool} {ch : List Nat} {d e : PyData} (h1 : DD c ws ch d) (h2 : DD c ws ch e) : d = e := by
  obtain ⟨ts, us, f, a1, a2, rfl⟩ := h1
  obtain ⟨ts', us', f', b1, b2, rfl⟩ := h2
  obtain rfl := BestL.uniq a1 b1
  obtain ⟨rfl, rfl⟩ := BestJ.uniq a2 b2
  rfl
/-- a case: condition, worths, chances -/
structure Case (H : Hp) (q : Addr) (c : Cond) (ws : List Bool) (ch : List Nat) : Prop where
  ok : c.ok
  dp : c.deep ≤ 10
  lk : c.looks ≤ 7
  at' : ∃ v u z, H q = some (.tup [v, u, z]) ∧ CA H v c ∧ WA H u ws ∧ ChA H z ch
def spT13 (K : PySem.W.Frag) : Sp := fun vs H Q _ => ∃ q c ws ch, vs = [.ref q] ∧ Case H q c ws ch ∧ ∀ v' H' d, Same H H' → DD c ws ch d → Tr H' 13 (New H H') v' d → Q v' H'
theorem pure_told (vs : List V) (H : Hp) (Q : VK) (E : XK) (h : spT13 K vs H Q E) :
    t_law_told K w (spPairs 30) (spTurned K) spLooksP spCoded (spRunP K) spMeant spWritten spRead spAlikeP spParting2 spJumpsP spFJ spFL (Ends.mk (fun _ H' => Q .non H') Q (fun _ _ => False) (fun _ _ => False)) (start ["_law_case", "_law_part_here", "_law_worths", "_law_chances", "_law_other", "_law_found"] vs) H := by
  obtain ⟨qa, c, ws, ch, rfl, ⟨ho, hd, hk, v, u, z, eq, hc, hw, hch⟩, q⟩ := h
  have hpk := pairs_looks c
  have hkx : c.looks ≤ 12 := by omega
  unfold t_law_told
  tm_at "j"
  rename_i l1 H1 n1 g1 e1
  refine ⟨v, c, rfl, hc.mono g1, by omega, fun H2 g2 => ?_⟩
  refine l_rep (by tm_at "hp") (by omega) fun l3 H3 n3 g3 e3 => ?_
  tm_at "j"
  have g13 := (g1.trans g2).trans g3
  have e3' : H3 l3 = some (.lst ((List.replicate c.pairs true).map vb)) := by
    rw [List.map_replicate]
    exact e3
  refine ⟨v, c, l3, List.replicate c.pairs true, rfl, hc.mono g13, ho, hd, hkx, SqL.of e3', by rw [List.length_replicate], fun v4 H4 g4 hx => ?_⟩
  have hdx : (exch c (List.replicate c.pairs true)).deep ≤ 10 := by rw [exch_deep]; exact hd
  have hlx : (exch c (List.replicate c.pairs true)).looks ≤ 12 := by rw [exch_looks]; exact hkx
  have hox := exch_ok c (List.replicate c.pairs true) ho
  have g04 := g13.trans g4
  have hc4 := hc.mono g04
  have hw4 := hw.mono g04
  have hch4 := hch.mono g04
  tm_at "j"
  refine ⟨v, u, c, ws, rfl, hc4, ho, hd, hkx, hw4, fun v5 H5 g5 t5 => ?_⟩
  tm_at "j"
  refine ⟨v, c, true, rfl, hc4.mono g5, ho, hd, hkx, fun v6 H6 g6 t6 => ?_⟩
  tm_at "j"
  have g46 := g5.trans g6
  refine ⟨v, c, false, rfl, hc4.mono g46, ho, hd, hkx, fun v7 H7 g7 t7 => ?_⟩
  obtain ⟨l7, rfl, _, ra7⟩ := t7.ra (K := K)
  have g47 := g46.trans g7
  tm_at "j"
  refine ⟨l7, u, _, ws, rfl, ra7, codeM_good c false ho (by omega), hw4.mono g47, fun v8 H8 g8 t8 => ?_⟩
  have g48 := g47.trans g8
  tm_at "j"
  refine ⟨v, z, c, ch, rfl, hc4.mono g48, ho, hd, hkx, hch4.mono g48, fun H9 g9 => ?_⟩
  have g49 := g48.trans g9
  tm_at "j"
  rename_i l10 H10 n10 g10 e10
  have gA := g49.trans g10
  refine ⟨v, z, c, ch, true, rfl, hc4.mono gA, ho, hd, hkx, hch4.mono gA, fun H11 g11 => ?_⟩
  have gB := gA.trans g11
  tm_at "j"
  refine ⟨v, v4, c, _, rfl, hc4.mono gB, hx.mono gB, ⟨ho, hd, hkx⟩, ⟨hox, hdx, hlx⟩, fun v12 H12 g12 t12 => ?_⟩
  have gC := gB.trans g12
  tm_at "j"
  refine ⟨v, v4, c, _, rfl, hc4.mono gC, hx.mono gC, ⟨ho, hd, hkx⟩, ⟨hox, hdx, hlx⟩, fun H13 g13' => ?_⟩
  have gD := gC.trans g13'
  tm_at "j"
  refine ⟨v, c, rfl, hc4.mono gD, ho, hd, hkx, fun H14 g14 => ?_⟩
  tm_at "j"
  refine ⟨textL c 0, c, rfl, Nat.le_trans (text_small (by omega)) (by decide), rt_good (rt_text c 0 ho), rt_readL (rt_text c 0 ho), ho, hd, hkx, fun v15 H15 g15 t15 => ?_⟩
  have gE := (gD.trans g14).trans g15
  tm_at "j"
  rename_i l16 H16 n16 g16 e16
  have g1016 := (((((g11.trans g12).trans g13').trans g14).trans g15).trans g16)
  refine l_cat (g1016 _ _ e10) e16 (by show 5 + 4 ≤ 100000; decide) fun l17 H17 n17 g17 e17 => ?_
  have gF := (gE.trans g16).trans g17
  tm_at "j"
  refine ⟨v, z, c, ch, rfl, hc4.mono gF, ho, hd, hkx, by omega, hch4.mono gF, fun v18 H18 g18 t18 => ?_⟩
  have gG := gF.trans g18
  tm_at "j"
  refine ⟨v, z, c, ch, rfl, hc4.mono gG, ho, hd, hkx, by omega, hch4.mono gG, fun v19 H19 g19 t19 => ?_⟩
  tm_at "j"
  rename_i l20 H20 n20 g20 e20
  refine l_cat (((g18.trans g19).trans g20) _ _ e17) e20 (by show 9 + 2 ≤ 100000; decide) fun l21 H21 n21 g21 e21 => ?_
  tm_at "j"
  obtain ⟨ts, hb1, t18⟩ := fl_tr t18 (by omega)
  obtain ⟨us, f, hb2, t19⟩ := fj_tr t19 (by omega)
  obtain ⟨jj, hjj, hrun⟩ := run_code c false ws ho (by omega)
  have L0 : Line 12 H H4 [] [] := Line.nil
  have L1 := L0.snoc (fun a z => g04.free z) g5 ((told_tr t5 (Nat.le_trans (ev_len _ _) (by omega))).le (by decide))
  have L2 := L1.snoc (fun a z => (g04.trans g5).free z) g6 ((rn_tr t6 (by rw [codeM_len]; omega)).le (by decide))
  have L3 := (L2.same g7).snoc (fun a z => (g04.trans g47).free z) g8 ((rtold_tr t8 (by rw [hrun]; exact Nat.le_trans (ev_len _ _) (by omega))).le (by decide))
  have L4 := L3.snoc (fun a z => (g04.trans g48).free z) g9 (tr_int (i := (looksM ch c : Int)))
  have L5 := L4.snoc (fun a z => (g04.trans g49).free z) (Same.refl _) ((ca_tr (hx.mono g49) hdx).sub fun a z => z.elim)
  have L6 := (L5.same g10).snoc (fun a z => (g04.trans gA).free z) g11 (tr_int (i := (jumpsM ch true c : Int)))
  have L7 := L6.snoc (fun a z => (g04.trans gB).free z) g12 (t12.le (by decide))
  have L8 := L7.snoc (fun a z => (g04.trans gC).free z) g13' (tr_bl (i := (partM c (exch c (List.replicate c.pairs true)) 256).isNone))
  have L9 := (L8.same g14).snoc (fun a z => (g04.trans (gD.trans g14)).free z) g15 ((ca_tr t15 hd).sub fun a z => z.elim)
  have L10 := ((L9.same g16).same g17).snoc (fun a z => (g04.trans gF).free z) g18 (t18.le (by decide))
  have L11 := L10.snoc (fun a z => (g04.trans gG).free z) g19 (t19.le (by decide))
  have gall := ((g04.trans gG).trans g19).trans g20
  refine q _ _ (.list (D13 c ws ch ts us f)) (gall.trans g21) ⟨ts, us, f, hb1, hb2, rfl⟩ ?_
  exact (L11.same g20).list (show 11 ≤ 1000 by decide) (gall.free n21) n21 g21 e21
end

section
variable {K : PySem.W.Frag} {w : World}
theorem Tr.td' {H : Hp} : ∀ {n m : Nat} {F : Addr → Prop} {v : V} {d : PyData}, Tr H n F v d → okT m d → TD H v d
  | 0, _, _, _, _, h, _ => h.elim
  | _ + 1, 0, _, _, _, _, k => k.elim
  | n + 1, m + 1, F, v, d, h, k => by
    rcases h with h | ⟨a, xs, ds, G, rfl, rfl, e3, p⟩ | ⟨a, xs, ds, G, rfl, rfl, e3, fa, ng, p⟩
    · rcases h with ⟨rfl, rfl⟩ | ⟨b, rfl, rfl⟩ | ⟨i, rfl, rfl⟩ | ⟨x, rfl, rfl, sx⟩
      · exact .non
      · exact .bl b
      · exact .int i
      · exact .str x
    · refine .tup e3 ?_
      have f : ∀ (i : Nat) x e, xs[i]? = some x → ds[i]? = some e → TD H x e := fun i x e hx he => (p.2.2.1 i x e hx he).td' (k.2 e (List.mem_of_getElem? he))
      have l := p.1
      clear p e3 k
      induction xs generalizing ds with
      | nil => cases ds with
        | nil => exact .nil
        | cons _ _ => cases l
      | cons x xs ih => cases ds with
        | nil => cases l
        | cons d ds => exact .cons (f 0 x d rfl rfl) (ih ds (fun i x e hx he => f (i + 1) x e hx he) (Nat.succ.inj l))
    · exact k.elim
theorem Case.tups {H H' : Hp} {q : Addr} {c : Cond} {ws : List Bool} {ch : List Nat} (h : Case H q c ws ch) (g : Tups H H') : Case H' q c ws ch := by
  obtain ⟨h1, h2, h3, v, u, z, e, hc, hw, hch⟩ := h
  refine ⟨h1, h2, h3, v, u, z, g _ _ e, hc.tups g, ?_, hch.tups g⟩
  obtain ⟨a, e1, e2, e3⟩ := hw
  exact ⟨a, e1, g _ _ e2, e3⟩
def cs3 (c : Cond) (ws : List Bool) (ch : List Nat) : PyData := .tuple [cdata c, wdata ws, chD ch]
theorem okT_case {c : Cond} {ws : List Bool} {ch : List Nat} (hd : c.deep ≤ 10) (h1 : ws.length ≤ 1000) (h2 : ch.length ≤ 1000) : okT 13 (cs3 c ws ch) := ⟨by show 3 ≤ 1000; decide, fun x hx => by
  rcases List.mem_cons.mp hx with rfl | hx
  · exact (okT_cond c).le (show c.deep + 2 ≤ 12 by omega)
  · rcases List.mem_cons.mp hx with rfl | hx
    · exact (okT_ints ws _ h1).le (by decide)
    · obtain rfl := List.mem_singleton.mp hx
      exact (okT_ints ch _ h2).le (by decide)⟩
theorem Case.td {H : Hp} {q : Addr} {c : Cond} {ws : List Bool} {ch : List Nat} (h : Case H q c ws ch) : TD H (.ref q) (cs3 c ws ch) ∧ okT 13 (cs3 c ws ch) ∧ ws.length = 8 ∧ ch.length = 8 ∧ ∀ x ∈ ch, x ≤ 100 := by
  obtain ⟨h1, h2, h3, v, u, z, e, hc, hw, hch⟩ := h
  obtain ⟨_, _, _, l1⟩ := id hw
  obtain ⟨_, _, _, l2, l3⟩ := id hch
  exact ⟨.tup e (.cons hc.td (.cons (wa_td hw) (.cons (ch_td hch) .nil))), okT_case h2 (by omega) (by omega), l1, l2, l3⟩
theorem case_of {H : Hp} {v : V} {c : Cond} {ws : List Bool} {ch : List Nat} (h : TD H v (cs3 c ws ch)) (h1 : c.ok) (h2 : c.deep ≤ 10) (h3 : c.looks ≤ 7) (l1 : ws.length = 8) (l2 : ch.length = 8) (l3 : ∀ x ∈ ch, x ≤ 100) : ∃ q, v = .ref q ∧ Case H q c ws ch := by
  obtain ⟨q, xs, rfl, e, t⟩ := h.at
  cases t with
  | cons t1 t => cases t with
    | cons t2 t => cases t with
      | cons t3 t => cases t; exact ⟨q, rfl, h1, h2, h3, _, _, _, e, t1.ca, td_wa t2 l1, td_ch t3 l2 l3⟩
/-! the law's second loop -/
structure Inv (H : Hp) (lc E Kp : Addr) (qa : Nat → Addr) (X : Nat → Cond × List Bool × List Nat) (d : Nat → PyData) (e kk : Nat → V) (F G : Nat → Addr → Prop) : Prop where
  hC : H lc = some (.lst [.ref (qa 0), .ref (qa 1)])
  hE : H E = some (.lst [e 0, e 1])
  hK : H Kp = some (.lst [kk 0, kk 1])
  cs : ∀ i, i < 2 → Case H (qa i) (X i).1 (X i).2.1 (X i).2.2
  te : ∀ i, i < 2 → Tr H 13 (F i) (e i) (d i)
  tk : ∀ i, i < 2 → Tr H 13 (G i) (kk i) (d i)
  fs : ∀ i a, F i a → H a ≠ none ∧ a ≠ lc ∧ a ≠ E ∧ a ≠ Kp
  gs : ∀ i a, G i a → H a ≠ none ∧ a ≠ E
  ff : ∀ (i j : Nat) a, i ≠ j → F i a → ¬ F j a
  fg : ∀ i j a, F i a → ¬ G j a
  ne : lc ≠ E ∧ Kp ≠ E
theorem some_of_off {F : Addr → Prop} {H H' : Hp} {a : Addr} (g : Off F H H') (n : ¬ F a) (h : H a ≠ none) : H' a ≠ none := by
  cases e : H a with
  | none => exact absurd e h
  | some o => rw [g _ _ e (.inl n)]; exact fun z => nomatch z
theorem some_of_but {E : Addr} {H H' : Hp} {a : Addr} (g : But E H H') (n : a ≠ E) (h : H a ≠ none) : H' a ≠ none := by
  cases e : H a with
  | none => exact absurd e h
  | some o => rw [g _ _ n e]; exact fun z => nomatch z
theorem Inv.turn {H H1 H2 H3 : Hp} {lc E Kp : Addr} {qa : Nat → Addr} {X : Nat → Cond × List Bool × List Nat} {d : Nat → PyData} {e kk : Nat → V} {F G : Nat → Addr → Prop} (v : Inv H lc E Kp qa X d e kk F G) {k : Nat} {y : V} (hk : k < 2)
    (f : Off (F k) H H1) (g : Same H1 H2) (t : Tr H2 13 (New H1 H2) y (d k)) (b : But E H2 H3) (hb : H3 E = some (.lst ([e 0, e 1].set k y))) :
    Inv H3 lc E Kp qa X d (fun i => if i = k then y else e i) kk (fun i => if i = k then New H1 H2 else F i) G := by
  have off : ∀ a o, H a = some o → ¬ F k a → a ≠ E → H3 a = some o := fun a o h n m => b _ _ m (g _ _ (f _ _ h (.inl n)))
  have nl : ¬ F k lc := fun z => (v.fs k _ z).2.1 rfl
  have nE : ¬ F k E := fun z => (v.fs k _ z).2.2.1 rfl
  have nK : ¬ F k Kp := fun z => (v.fs k _ z).2.2.2 rfl
  have tp : Tups H H3 := ((f.tups).trans (Same.tups g)).trans (b.tups (g _ _ (f _ _ v.hE (.inl nE))))
  have s1 : ∀ a, ¬ F k a → H a ≠ none → H1 a ≠ none := fun a n h => some_of_off f n h
  refine ⟨off _ _ v.hC nl v.ne.1, ?_, off _ _ v.hK nK v.ne.2, fun i hi => (v.cs i hi).tups tp, fun i hi => ?_, fun i hi => ?_, fun i a z => ?_, fun i a z => ?_, fun i j a hij z y' => ?_, fun i j a z y' => ?_, v.ne⟩
  · rw [hb]
    obtain rfl | rfl : k = 0 ∨ k = 1 := by omega
    · rfl
    · rfl
  · by_cases h : i = k
    · subst h
      show Tr H3 13 (if i = i then New H1 H2 else F i) (if i = i then y else e i) (d i)
      rw [if_pos rfl, if_pos rfl]
      refine Tr.frame (fun a o ho hf => b _ _ (fun z => ?_) ho) t
      subst z
      rcases hf with hf | ⟨xs, rfl⟩
      · exact absurd hf.1 (s1 _ nE (by rw [v.hE]; exact fun z => nomatch z))
      · rw [g _ _ (f _ _ v.hE (.inl nE))] at ho; cases ho
    · show Tr H3 13 (if i = k then New H1 H2 else F i) (if i = k then y else e i) (d i)
      rw [if_neg h, if_neg h]
      refine Tr.frame (fun a o ho hf => ?_) (v.te i hi)
      rcases hf with hf | ⟨xs, rfl⟩
      · exact off _ _ ho (v.ff i k a h hf) (v.fs i a hf).2.2.1
      · exact tp _ _ ho
  · refine Tr.frame (fun a o ho hf => ?_) (v.tk i hi)
    rcases hf with hf | ⟨xs, rfl⟩
    · exact off _ _ ho (fun z => v.fg k i a z hf) (v.gs i a hf).2
    · exact tp _ _ ho
  · by_cases h : i = k
    · subst h
      have z : New H1 H2 a := by rw [if_pos rfl] at z; exact z
      have nn : ∀ b o, ¬ F i b → H b = some o → a ≠ b := fun b o n hb y => s1 b n (by rw [hb]; exact fun z => nomatch z) (y ▸ z.1)
      have aE := nn _ _ nE v.hE
      exact ⟨some_of_but b aE z.2, nn _ _ nl v.hC, aE, nn _ _ nK v.hK⟩
    · have z : F i a := by rw [if_neg h] at z; exact z
      obtain ⟨a1, a2, a3, a4⟩ := v.fs i a z
      exact ⟨some_of_but b a3 (some_of_same g (s1 a (v.ff i k a h z) a1)), a2, a3, a4⟩
  · obtain ⟨a1, a2⟩ := v.gs i a z
    exact ⟨some_of_but b a2 (some_of_same g (s1 a (fun y => v.fg k i a y z) a1)), a2⟩
  · by_cases h : i = k <;> by_cases h2 : j = k
    · exact hij (h.trans h2.symm)
    · have z : New H1 H2 a := by rw [if_pos h] at z; exact z
      have y' : F j a := by rw [if_neg h2] at y'; exact y'
      exact s1 a (v.ff j k a h2 y') (v.fs j a y').1 z.1
    · have z : F i a := by rw [if_neg h] at z; exact z
      have y' : New H1 H2 a := by rw [if_pos h2] at y'; exact y'
      exact s1 a (v.ff i k a h z) (v.fs i a z).1 y'.1
    · rw [if_neg h] at z
      rw [if_neg h2] at y'
      exact v.ff i j a hij z y'
  · by_cases h : i = k
    · have z : New H1 H2 a := by rw [if_pos h] at z; exact z
      exact s1 a (fun x => v.fg k j a x y') (v.gs j a y').1 z.1
    · rw [if_neg h] at z
      exact v.fg i j a z y'
theorem atB {α : Type} {f : Nat → α} {k : Nat} (h : k < 2) : atI [f 0, f 1] (k : Int) = some (f k) := by
  obtain rfl | rfl : k = 0 ∨ k = 1 := by omega
  · rfl
  · rfl
end

section
variable {K : PySem.W.Frag} {w : World}
abbrev S13 (K : PySem.W.Frag) (w : World) (t : (K : PySem.W.Frag) → (w : World) → Sp → Sp → Sp → Sp → Sp → Sp → TS) : TS := t K w (spBegun K) spCond spTake (spT13 K) (spKept 13) (spSpoil 13)
theorem k13_1 {H : Hp} {o0 : Option V} {o3 o4 o5 o6 o7 o8 o9 o10 o11 : Option V} {b l lc : Addr} {ns : List Int} {s : Int} {nx bk ct : L2.St → Hp → Prop} {rt : VK} (hx : Bx H b l ns s) (e : H lc = some (.lst [])) (n1 : lc ≠ b) (n2 : lc ≠ l)
    (q : ∀ q0 q1 c0 ws0 ch0 c1 ws1 ch1 o3 o4 o5 o6 H', H' lc = some (.lst [.ref q0, .ref q1]) → Case H' q0 c0 ws0 ch0 → Case H' q1 c1 ws1 ch1 → nx [o0, some (.ref b), some (.ref lc), o3, o4, o5, o6, o7, o8, o9, o10, o11] H') :
    S13 K w t_law_1 (Ends.mk nx rt bk ct) [o0, some (.ref b), some (.ref lc), o3, o4, o5, o6, o7, o8, o9, o10, o11] H := by
  show t_law_1 _ _ _ _ _ _ _ _ _ _ _
  unfold t_law_1
  tm_at "j"
  refine forR (n := 2) (by decide) (fun i σ' H' => ∃ ns s o3 o4 o5 o6, ∃ qs : List V, σ' = [o0, some (.ref b), some (.ref lc), o3, o4, o5, o6, o7, o8, o9, o10, o11] ∧ Bx H' b l ns s ∧ H' lc = some (.lst qs) ∧ qs.length = i ∧ ∀ y ∈ qs, ∃ q c ws ch, y = .ref q ∧ Case H' q c ws ch) ⟨ns, s, _, _, _, _, [], rfl, hx, e, rfl, fun _ h => nomatch h⟩ ?_ ?_
  · rintro i σ' H' hi ⟨ns, s, o3, o4, o5, o6, qs, rfl, x, e, hl, hq⟩
    rw [Int.zero_add]
    tm_at "j"
    refine ⟨b, l, ns, s, 5, rfl, x, by decide, by decide, fun v c ns2 s2 H2 f2 x2 hc ho hk hd => ?_⟩
    tm_at "j"
    refine lcR_draw (n := 8) (fun y => ∃ b : Bool, y = vb b) x2 (fun _ => rfl) (by decide) ?_ ?_
    · intro i H' ns' s' Q' hi f x k
      tm_at "j"
      refine ⟨b, l, ns', s', 2, rfl, x, by decide, by decide, fun r ns3 s3 H3 f3 x3 r0 r1 => ?_⟩
      refine k _ _ _ _ ?_ f3 x3
      obtain rfl | rfl : r = 0 ∨ r = 1 := by omega
      · exact ⟨false, rfl⟩
      · exact ⟨true, rfl⟩
    intro D2 ys2 H3 ns3 s3 nD2 f3 x3 hys2 hP2 e3
    obtain ⟨ws, rfl⟩ := vals_vb hP2
    rw [List.length_map] at hys2
    tm_at "j"
    rename_i p4 H4 n4 g4 e4
    have hw4 : WA H4 (.ref p4) ws := ⟨p4, rfl, e4, hys2⟩
    have x4 := x3.same g4
    refine lcR_draw (n := 8) (fun y => ∃ k : Nat, y = vn k ∧ k ≤ 100) x4 (fun _ => rfl) (by decide) ?_ ?_
    · intro i H' ns' s' Q' hi f x k
      tm_at "j"
      refine ⟨b, l, ns', s', 101, rfl, x, by decide, by decide, fun r ns3 s3 H3 f3 x3 r0 r1 => ?_⟩
      refine k _ _ _ _ ⟨r.toNat, ?_, by omega⟩ f3 x3
      show V.int r = .int ((r.toNat : Nat) : Int)
      rw [show ((r.toNat : Nat) : Int) = r by omega]
    intro D5 ys5 H5 ns5 s5 nD5 f5 x5 hys5 hP5 e5
    obtain ⟨ch, rfl, hc100⟩ := vals_vn hP5
    rw [List.length_map] at hys5
    tm_at "j"
    rename_i p6 H6 n6 g6 e6 p7 H7 n7 g7 e7
    have hch7 : ChA H7 (.ref p6) ch := ⟨p6, rfl, g7 _ _ e6, hys5, hc100⟩
    have tp27 : Tups H2 H7 := (((x2.tups f3).trans (Same.tups g4)).trans (x4.tups f5)).trans (Same.tups (g6.trans g7))
    have tp47 : Tups H4 H7 := (x4.tups f5).trans (Same.tups (g6.trans g7))
    have hw7 : WA H7 (.ref p4) ws := ⟨p4, rfl, tp47 _ _ e4, hys2⟩
    have cs7 : Case H7 p7 c ws ch := ⟨ho, hd, by omega, v, _, _, e7, hc.tups tp27, hw7, hch7⟩
    have e27 : H7 lc = some (.lst qs) := (g6.trans g7) _ _ (f5.at n1 n2 (g4 _ _ (f3.at n1 n2 (f2.at n1 n2 e))))
    refine l_append' e27 (by omega) fun H8 b8 e8 => ?_
    tm_at "j"
    have x7 := x5.same (g6.trans g7)
    have tp78 := b8.tups e27
    refine ⟨_, _, _, _, _, _, qs ++ [.ref p7], rfl, x7.but b8 n1.symm n2.symm, e8, by rw [List.length_append, hl]; rfl, fun y hy => ?_⟩
    rcases List.mem_append.mp hy with hy | hy
    · obtain ⟨q, c, ws, ch, h1, h2⟩ := hq y hy
      exact ⟨q, c, ws, ch, h1, h2.tups (((x.tups f2).trans tp27).trans tp78)⟩
    · obtain rfl := List.mem_singleton.mp hy
      exact ⟨_, _, _, _, rfl, cs7.tups tp78⟩
  · rintro σ' H' ⟨ns, s, o3, o4, o5, o6, qs, rfl, x, e, hl, hq⟩
    match qs, hl with
    | [y0, y1], _ =>
      obtain ⟨q0, c0, ws0, ch0, rfl, h0⟩ := hq y0 List.mem_cons_self
      obtain ⟨q1, c1, ws1, ch1, rfl, h1⟩ := hq y1 (List.mem_cons_of_mem _ List.mem_cons_self)
      exact q _ _ _ _ _ _ _ _ _ _ _ _ _ e h0 h1
theorem k13_2 {H : Hp} {lc E Kp : Addr} {qa : Nat → Addr} {X : Nat → Cond × List Bool × List Nat} {d : Nat → PyData} {e kk : Nat → V} {F G : Nat → Addr → Prop} {o0 o1 o3 o4 o5 o6 o8 o10 o11 : Option V} {nx bk ct : L2.St → Hp → Prop} {rt : VK}
    (hd : ∀ i, i < 2 → DD (X i).1 (X i).2.1 (X i).2.2 (d i)) (v : Inv H lc E Kp qa X d e kk F G)
    (q : ∀ o11 H' e' F', Inv H' lc E Kp qa X d e' kk F' G → nx [o0, o1, some (.ref lc), o3, o4, o5, o6, some (.ref E), o8, some (.ref Kp), o10, o11] H') :
    S13 K w t_law_2 (Ends.mk nx rt bk ct) [o0, o1, some (.ref lc), o3, o4, o5, o6, some (.ref E), o8, some (.ref Kp), o10, o11] H := by
  show t_law_2 _ _ _ _ _ _ _ _ _ _ _
  unfold t_law_2
  tm_at "j"
  rename_i lp H1 np g1 e1
  have v1 : Inv H1 lc E Kp qa X d e kk F G := ⟨g1 _ _ v.hC, g1 _ _ v.hE, g1 _ _ v.hK, fun i hi => (v.cs i hi).tups (Same.tups g1), fun i hi => (v.te i hi).mono g1, fun i hi => (v.tk i hi).mono g1, fun i a z => ⟨some_of_same g1 (v.fs i a z).1, (v.fs i a z).2⟩, fun i a z => ⟨some_of_same g1 (v.gs i a z).1, (v.gs i a z).2⟩, v.ff, v.fg, v.ne⟩
  have lpF : ∀ i, ¬ F i lp := fun i z => (v.fs i lp z).1 np
  have lpE : lp ≠ E := fun z => by rw [z, v.hE] at np; cases np
  refine forL (xs := [.int 0, .int 1, .int 0]) (fun i σ' H' => ∃ o11 e F, σ' = [o0, o1, some (.ref lc), o3, o4, o5, o6, some (.ref E), o8, some (.ref Kp), o10, o11] ∧ Inv H' lc E Kp qa X d e kk F G ∧ H' lp = some (.lst [.int 0, .int 1, .int 0]) ∧ ∀ i, ¬ F i lp) ⟨_, e, F, rfl, v1, e1, lpF⟩ (SqL.of e1) ?_ ?_ ?_
  · rintro i σ' H' hi ⟨_, _, _, _, _, h, _⟩
    exact SqL.of h
  · rintro i x σ' H' hx ⟨o11, e, F, rfl, v, hlp, hF⟩
    obtain ⟨k, rfl, hk⟩ : ∃ k : Nat, x = .int (k : Int) ∧ k < 2 := by
      rcases i with _ | _ | _ | i
      · obtain rfl := Option.some.inj hx; exact ⟨0, rfl, by decide⟩
      · obtain rfl := Option.some.inj hx; exact ⟨1, rfl, by decide⟩
      · obtain rfl := Option.some.inj hx; exact ⟨0, rfl, by decide⟩
      · cases hx
    tm_at "j"
    refine l_ixL (SqL.of v.hE) (atB hk) ?_
    tm_at "j"
    refine ⟨e k, d k, F k, rfl, v.te k hk, fun H2 f2 => ?_⟩
    have nl : ¬ F k lc := fun z => (v.fs k _ z).2.1 rfl
    have nE : ¬ F k E := fun z => (v.fs k _ z).2.2.1 rfl
    have hC2 := f2 _ _ v.hC (.inl nl)
    tm_at "j"
    refine l_ixL (SqL.of hC2) (atB (f := fun i => V.ref (qa i)) hk) ?_
    tm_at "j"
    refine ⟨qa k, _, _, _, rfl, (v.cs k hk).tups f2.tups, fun y H3 d' g3 dd t => ?_⟩
    obtain rfl := DD.uniq dd (hd k hk)
    have hE3 := g3 _ _ (f2 _ _ v.hE (.inl nE))
    tm_at "j"
    refine l_setL' (K := K) hE3 (i := k) ?_ fun H4 b4 e4 => ?_
    · obtain rfl | rfl : k = 0 ∨ k = 1 := by omega
      · rfl
      · rfl
    have v4 := v.turn hk f2 g3 t b4 e4
    tm_at "j"
    refine l_ixL (SqL.of v4.hE) (atB (f := fun i => if i = k then y else e i) hk) ?_
    tm_at "j"
    refine l_ixL (SqL.of v4.hK) (atB hk) ?_
    refine l_neD (v4.te k hk).dp (v4.tk k hk).dp ((v4.te k hk).shaped (by decide)) ((v4.tk k hk).shaped (by decide)) ?_
    rw [(v4.te k hk).good.2.2]
    tm_at "j"
    have nlp : ¬ F k lp := hF k
    have hlp3 := g3 _ _ (f2 _ _ hlp (.inl nlp))
    refine ⟨_, _, _, rfl, v4, b4 _ _ lpE hlp3, fun i z => ?_⟩
    by_cases h : i = k
    · have z : New H2 H3 lp := by rw [if_pos h] at z; exact z
      have z1 := z.1
      rw [f2 _ _ hlp (.inl nlp)] at z1
      cases z1
    · rw [if_neg h] at z
      exact hF i z
  · rintro σ' H' ⟨o11, e, F, rfl, v, _, _⟩
    exact q _ _ _ _ v
theorem pure_main (vs : List V) (H : Hp) (Q : VK) (E : XK) (h : spLaw K vs H Q E) :
    S13 K w t_law (Ends.mk (fun _ H' => Q .non H') Q (fun _ _ => False) (fun _ _ => False)) (start ["_law_script", "_law_box", "_law_cases", "_law_turn", "_law_part_here", "_law_worths", "_law_thing", "_law_every", "_law_case", "_law_kept_here", "_law_one", "_law_k"] vs) H := by
  obtain ⟨a, ns, rfl, ha, n63, q⟩ := h
  show t_law _ _ _ _ _ _ _ _ _ _ _
  unfold t_law
  tm_at "j"
  refine ⟨a, ns, rfl, ha, n63, fun b l s H1 g1 x1 nb nl => ?_⟩
  tm_at "j"
  rename_i lc H2 n2 g2 e2
  refine k13_1 (w := w) (x1.same g2) e2 (ne_of_none x1.hb n2).symm (ne_of_none x1.hl n2).symm fun q0 q1 c0 ws0 ch0 c1 ws1 ch1 o3 o4 o5 o6 H3 e3 h0 h1 => ?_
  tm_at "j"
  refine lcTrL (n := 13) (Dd := fun i d => (i = 0 → DD c0 ws0 ch0 d) ∧ (i = 1 → DD c1 ws1 ch1 d)) (fun _ => rfl) (SqL.of e3) (show 2 ≤ 1000 by decide) (fun i x H' Q' hx g k => ?_) fun Ea H4 nE kj => ?_
  · tm_at "j"
    rcases i with _ | _ | i
    · obtain rfl := Option.some.inj hx
      exact ⟨q0, c0, ws0, ch0, rfl, h0.tups (Same.tups g), fun v' H'' d g' dd t => k v' H'' d g' ⟨fun _ => dd, fun z => absurd z (by decide)⟩ t⟩
    · obtain rfl := Option.some.inj hx
      exact ⟨q1, c1, ws1, ch1, rfl, h1.tups (Same.tups g), fun v' H'' d g' dd t => k v' H'' d g' ⟨fun z => absurd z (by decide), fun _ => dd⟩ t⟩
    · cases hx
  have g34 : Same H3 H4 := by
    obtain ⟨_, _, _, _, _, _, g⟩ := kj
    exact g
  obtain ⟨ds, ys, el, eE, hdd, _, ln⟩ := kj.list nE (show 2 ≤ 1000 by decide)
  have hys : ys.length = 2 := by
    obtain ⟨_, h, _⟩ := ln
    rw [h]; exact el
  clear kj
  match ys, hys, ds, el with
  | [y0, y1], _, [d0, d1], _ =>
  obtain ⟨F, _, ft, fn, fd⟩ := ln
  tm_at "j"
  refine lcTrL (n := 13) (Dd := fun i d => [d0, d1][i]? = some d) (fun _ => rfl) (SqL.of eE) (show 2 ≤ 1000 by decide) (fun i x H' Q' hx g k => ?_) fun Kp H5 nK kj => ?_
  · tm_at "j"
    have hi : i < 2 := (List.getElem?_eq_some_iff.mp hx).1
    obtain ⟨d, hd⟩ : ∃ d, [d0, d1][i]? = some d := ⟨_, List.getElem?_eq_getElem hi⟩
    exact ⟨x, d, F i, rfl, (ft i x d hx hd).mono g, fun v' H'' g' t => k v' H'' d g' hd t⟩
  have g45 : Same H4 H5 := by
    obtain ⟨_, _, _, _, _, _, g⟩ := kj
    exact g
  obtain ⟨ds', ks, el', eK, hdd', _, ln'⟩ := kj.list nK (show 2 ≤ 1000 by decide)
  have hks : ks.length = 2 := by
    obtain ⟨_, h, _⟩ := ln'
    rw [h]; exact el'
  clear kj
  match ks, hks, ds', el' with
  | [k0, k1], _, [d0', d1'], _ =>
  obtain rfl : d0 = d0' := Option.some.inj (hdd' 0 d0' rfl)
  obtain rfl : d1 = d1' := Option.some.inj (hdd' 1 d1' rfl)
  obtain ⟨G, _, gt, gn, gd⟩ := ln'
  have lcE : lc ≠ Ea := ne_of_none e3 nE
  have lcK : lc ≠ Kp := ne_of_none (g34 _ _ e3) nK
  have EK : Ea ≠ Kp := ne_of_none eE nK
  have hFn : ∀ i a, F i a → H3 a = none ∧ a ≠ Ea := fun i a z => by
    have h := (fn i a z).1
    have n : a ≠ Ea := fun y => by rw [y, upd_same] at h; cases h
    rw [upd_ne n] at h
    exact ⟨h, n⟩
  have hGn : ∀ i a, G i a → H4 a = none ∧ a ≠ Kp := fun i a z => by
    have h := (gn i a z).1
    have n : a ≠ Kp := fun y => by rw [y, upd_same] at h; cases h
    rw [upd_ne n] at h
    exact ⟨h, n⟩
  have v : Inv H5 lc Ea Kp (fun i => if i = 0 then q0 else q1) (fun i => if i = 0 then (c0, ws0, ch0) else (c1, ws1, ch1)) (fun i => if i = 0 then d0 else d1) (fun i => if i = 0 then y0 else y1) (fun i => if i = 0 then k0 else k1) F G := by
    refine ⟨g45 _ _ (g34 _ _ e3), g45 _ _ eE, eK, fun i hi => ?_, fun i hi => ?_, fun i hi => ?_, fun i a z => ?_, fun i a z => ?_, fd, fun i j a z y => ?_, lcE, EK.symm⟩
    · obtain rfl | rfl : i = 0 ∨ i = 1 := by omega
      · exact h0.tups (Same.tups (g34.trans g45))
      · exact h1.tups (Same.tups (g34.trans g45))
    · obtain rfl | rfl : i = 0 ∨ i = 1 := by omega
      · exact (ft 0 y0 d0 rfl rfl).mono g45
      · exact (ft 1 y1 d1 rfl rfl).mono g45
    · obtain rfl | rfl : i = 0 ∨ i = 1 := by omega
      · exact gt 0 k0 d0 rfl rfl
      · exact gt 1 k1 d1 rfl rfl
    · obtain ⟨h1, h2⟩ := hFn i a z
      exact ⟨some_of_same g45 (fn i a z).2, (fun y => by rw [y, e3] at h1; cases h1), h2, fun y => (fn i a z).2 (y ▸ nK)⟩
    · exact ⟨(gn i a z).2, fun y => by rw [y] at z; have := (hGn i _ z).1; rw [eE] at this; cases this⟩
    · exact (fn i a z).2 (hGn j a y).1
  refine k13_2 (w := w) (fun i hi => ?_) v fun o11 H6 e' F' v6 => ?_
  · obtain rfl | rfl : i = 0 ∨ i = 1 := by omega
    · exact (hdd 0 d0 rfl).1 rfl
    · exact (hdd 1 d1 rfl).2 rfl
  have hC6 : H6 lc = some (.lst [.ref q0, .ref q1]) := v6.hC
  have hK6 : H6 Kp = some (.lst [k0, k1]) := v6.hK
  have c6 : Case H6 q0 c0 ws0 ch0 := v6.cs 0 (by decide)
  obtain ⟨td, okt, l1, l2, l3⟩ := c6.td
  tm_at "j"
  refine ⟨.ref q0, _, _, rfl, td.tr okt, fun v7 H7 g7 t7 => ?_⟩
  obtain ⟨q7, rfl, c7⟩ := case_of (t7.td' okt) c6.ok c6.dp c6.lk l1 l2 l3
  tm_at "j"
  refine ⟨q7, c0, ws0, ch0, rfl, c7, fun v8 H8 d8 g8 dd8 t8 => ?_⟩
  have hK8 := g8 _ _ (g7 _ _ hK6)
  tm_at "j"
  obtain rfl := DD.uniq dd8 ((hdd 0 d0 rfl).1 rfl)
  have tk8 := ((v6.tk 0 (by decide)).mono g7).mono g8
  refine l_eqD t8.dp tk8.dp (t8.shaped (by decide)) (tk8.shaped (by decide)) ?_
  show Q (.bl (PyData.eqv d8 d8)) H8
  rw [t8.good.2.2]
  exact q _
end

theorem pure_outcome {K : PySem.W.Frag} {w : World} {aG : Addr} (k1 : KDct K w aG "and" (.int 1)) (k0 : KDct K w aG "or" (.int 0)) {n : Nat} (vs : List V) (H : Hp) (Q : VK) (E : XK) (h : spOut (n + 1) vs H Q E) :
    t_outcome K w aG (spOut n) (Ends.mk (fun _ H' => Q .non H') Q (fun _ _ => False) (fun _ _ => False)) (start ["condition", "worths", "word", "thing", "worth", "looks", "second", "more"] vs) H := by
  obtain ⟨v, u, c, ws, rfl, hc, hn, h12, ho, hw, q⟩ := h
  unfold t_outcome
  cases hc with
  | look e =>
    rename_i i
    obtain ⟨a, rfl, ha, hl⟩ := id hw
    tm_at "j"
    refine l_ixT (by tm_at "hp") (at_map (d := false) (show i < ws.length by rw [hl]; exact ho)) ?_
    tm_at "j"
    exact q _ _ (by tm_at "hp") ⟨_, _, rfl, by tm_at "hp", by tm_at "hp", by tm_at "hp"⟩
  | not e hc =>
    rename_i c
    have hd : c.deep + 1 < n + 1 := hn
    tm_at "j"
    refine ⟨_, _, _, _, rfl, hc, by omega, by omega, ho, hw, ?_⟩
    rintro v' H1 g1 ⟨p, l, rfl, h0, hp, hq⟩
    tm_at "j"
    have e1 : V.int (1 - bi (ev ws c).1) = vb (ev ws c.not).1 := congrArg V.int (bi_not _)
    rw [show (vb (ev ws c).1) = V.int (bi (ev ws c).1) from rfl]
    tm_at "j"
    rw [e1] at *
    exact q _ _ (by tm_at "hp") ⟨_, _, rfl, by tm_at "hp", by tm_at "hp", by tm_at "hp"⟩
  | bin e h1 h2 =>
    rename_i a v1 v2 c d
    have hd : max c.deep d.deep + 1 < n + 1 := hn
    have hs1 := ev_small (ws := ws) (c := c) (by omega)
    have hs2 := ev_small (ws := ws) (c := d) (by omega)
    rcases hx : ev ws c with ⟨b, ls⟩
    rcases hy : ev ws d with ⟨b2, ls2⟩
    rw [hx] at hs1
    rw [hy] at hs2
    have hs3 : (ls.map vn).length + (ls2.map vn).length ≤ 100000 := by
      rw [List.length_map, List.length_map]
      show ls.length + ls2.length ≤ 100000
      have := show ls.length ≤ 4096 from hs1
      have := show ls2.length ≤ 4096 from hs2
      omega
    have eb : ev ws (.bin a c d) = if b = a then (b2, ls ++ ls2) else (b, ls) := by
      simp only [ev, hx, hy]
    rw [eb] at q
    cases a <;> cases b <;> (
      tm_at "j"
      refine ⟨_, _, _, _, rfl, h1, by omega, by omega, ho.1, hw, ?_⟩
      rw [hx]
      rintro v' H1 g1 ⟨p, l, rfl, h0, hp, hq⟩
      tm_at "j")
    · refine ⟨_, _, _, _, rfl, by tm_at "hp", by omega, by omega, ho.2, by tm_at "hp", ?_⟩
      rw [hy]
      rintro v' H2 g2 ⟨p2, l2, rfl, h02, hp2, hq2⟩
      tm_at "j"
      rw [if_pos rfl] at q
      rw [← List.map_append] at *
      exact q _ _ (by tm_at "hp") (told_mk (by tm_at "hp") (by tm_at "hp") (by tm_at "hp"))
    · exact q _ _ (by tm_at "hp") ⟨_, _, rfl, by tm_at "hp", by tm_at "hp", by tm_at "hp"⟩
    · exact q _ _ (by tm_at "hp") ⟨_, _, rfl, by tm_at "hp", by tm_at "hp", by tm_at "hp"⟩
    · refine ⟨_, _, _, _, rfl, by tm_at "hp", by omega, by omega, ho.2, by tm_at "hp", ?_⟩
      rw [hy]
      rintro v' H2 g2 ⟨p2, l2, rfl, h02, hp2, hq2⟩
      tm_at "j"
      rw [if_pos rfl] at q
      rw [← List.map_append] at *
      exact q _ _ (by tm_at "hp") (told_mk (by tm_at "hp") (by tm_at "hp") (by tm_at "hp"))

theorem ok_alike {P : Program} {w : World} {K : PySem.W.Frag} {mg : Str → Option Value} {base : Heap} (T : Tx P K mg w) {k : Nat} {sp_parting sp : Sp} (G_parting : FnOk P w K mg base CX0 (k) T.f_parting T.d_parting ["one", "other"] sp_parting)
    (len : ∀ vs H Q E, sp vs H Q E → vs.length = 2)
    (pure : ∀ vs H Q E, sp vs H Q E → t_alike K w sp_parting (Ends.mk (fun _ H' => Q .non H') Q (fun _ _ => False) (fun _ _ => False)) (start ["one", "other"] vs) H) :
    FnOk P w K mg base CX0 (k + 1) T.f_alike T.d_alike ["one", "other"] sp := by
  refine T.F_alike.ok sc_alike len (fun cdv A outer s H vs Q E hr h => ⟨t_alike K w sp_parting, ?_, pure vs H Q E h⟩)
  exact (pss_one (ps_ret (pe_cmpR op_isN (pe_call G_parting hr rfl T.m_parting T.F_parting.kp T.b_parting .nil pass0 (pa_cons (pv 0) (pa_cons (pv 1) (pa_nil)))) (pe_non) (nomark _))))

theorem ok_all_bits {P : Program} {w : World} {K : PySem.W.Frag} {mg : Str → Option Value} {base : Heap} (T : Tx P K mg w) {k : Nat} { sp : Sp} 
    (len : ∀ vs H Q E, sp vs H Q E → vs.length = 1)
    (pure : ∀ vs H Q E, sp vs H Q E → t_all_bits K w (Ends.mk (fun _ H' => Q .non H') Q (fun _ _ => False) (fun _ _ => False)) (start ["many", "told", "_", "bits", "bit"] vs) H) :
    FnOk P w K mg base CX0 (k + 1) T.f_all_bits T.d_all_bits ["many"] sp := by
  refine T.F_all_bits.ok sc_all_bits len (fun cdv A outer s H vs Q E hr h => ⟨t_all_bits K w, ?_, pure vs H Q E h⟩)
  exact (pss_cons (ps_set (i := 1) sc_all_bits.nd rfl (by first | exact Or.inl rfl | exact Or.inr rfl) (pe_lst (pa_cons (pe_tup (pa_nil)) (pa_nil))))
      (pss_cons (ps_for PassesOwn.never rfl (pi_range1 (by rfl) T.n_range (pa_cons (pv 0) (pa_nil))) (pg_name (i := 2) sc_all_bits.nd rfl (by first | exact Or.inl rfl | exact Or.inr rfl)) (pss_one (ps_setLc2 (i := 1) (own := [("bits", 3), ("bit", 4)]) (vs1 := [4]) rfl sc_all_bits.nd rfl rfl (sw_true rfl rfl rfl (by decide +kernel)) (pi_list (pv 1)) (blkOk_by (own := [("bits", 3), ("bit", 4)]) (N := ["many", "told", "_", "bits", "bit"]) (sc := defScope s_all_bits) (by decide +kernel)) (by decide) (fun _ _ _ _ _ => pg_name (i := 3) sc_all_bits.nd rfl (by first | exact Or.inl rfl | exact Or.inr rfl)) (fun _ _ _ _ _ => pts_nil) (fun _ _ _ _ _ => pi_tup (pe_tup (pa_cons (pe_int) (pa_cons (pe_int) (pa_nil))))) (fun _ _ _ _ _ => pg_name (i := 4) sc_all_bits.nd rfl (by first | exact Or.inl rfl | exact Or.inr rfl)) (fun _ _ _ _ _ => pts_nil) (fun _ _ _ _ _ => pe_op op_catA (pv 3) (pe_tup (pa_cons (pv 4) (pa_nil)))))))
      (pss_one (ps_ret (pv 1)))))

theorem ok_all_turns {P : Program} {w : World} {K : PySem.W.Frag} {mg : Str → Option Value} {base : Heap} (T : Tx P K mg w) {k : Nat} {sp_count_pairs sp_all_bits sp : Sp} (G_count_pairs : FnOk P w K mg base CX0 (k) T.f_count_pairs T.d_count_pairs ["condition"] sp_count_pairs) (G_all_bits : FnOk P w K mg base CX0 (k) T.f_all_bits T.d_all_bits ["many"] sp_all_bits)
    (len : ∀ vs H Q E, sp vs H Q E → vs.length = 1)
    (pure : ∀ vs H Q E, sp vs H Q E → t_all_turns K w sp_count_pairs sp_all_bits (Ends.mk (fun _ H' => Q .non H') Q (fun _ _ => False) (fun _ _ => False)) (start ["condition", "bits"] vs) H) :
    FnOk P w K mg base CX0 (k + 1) T.f_all_turns T.d_all_turns ["condition"] sp := by
  refine T.F_all_turns.ok sc_all_turns len (fun cdv A outer s H vs Q E hr h => ⟨t_all_turns K w sp_count_pairs sp_all_bits, ?_, pure vs H Q E h⟩)
  exact (pss_one (ps_ret (pe_lc (own := [("bits", 1)]) rfl sc_all_turns.nd (pi_list (pe_call G_all_bits hr rfl T.m_all_bits T.F_all_bits.kp T.b_all_bits .nil pass0 (pa_cons (pe_call G_count_pairs hr rfl T.m_count_pairs T.F_count_pairs.kp T.b_count_pairs .nil pass0 (pa_cons (pv 0) (pa_nil))) (pa_nil)))) (blkOk_by (own := [("bits", 1)]) (N := ["condition", "bits"]) (sc := defScope s_all_turns) (by decide +kernel)) (fun _ _ _ _ _ => pg_name (i := 1) sc_all_turns.nd rfl (by first | exact Or.inl rfl | exact Or.inr rfl)) (fun _ _ _ _ _ => pts_nil) (fun _ _ _ _ _ => pe_callTy call_rListOf (by rfl) T.n_list (by decide +kernel) (pa_cons (pv 1) (pa_nil))))))

theorem ok_are_bits {P : Program} {w : World} {K : PySem.W.Frag} {mg : Str → Option Value} {base : Heap} (T : Tx P K mg w) {k : Nat} {sp_are_numbers_up_to sp : Sp} (G_are_numbers_up_to : FnOk P w K mg base CX0 (k) T.f_are_numbers_up_to T.d_are_numbers_up_to ["values", "many", "most"] sp_are_numbers_up_to)
    (len : ∀ vs H Q E, sp vs H Q E → vs.length = 2)
    (pure : ∀ vs H Q E, sp vs H Q E → t_are_bits K w sp_are_numbers_up_to (Ends.mk (fun _ H' => Q .non H') Q (fun _ _ => False) (fun _ _ => False)) (start ["values", "many"] vs) H) :
    FnOk P w K mg base CX0 (k + 1) T.f_are_bits T.d_are_bits ["values", "many"] sp := by
  refine T.F_are_bits.ok sc_are_bits len (fun cdv A outer s H vs Q E hr h => ⟨t_are_bits K w sp_are_numbers_up_to, ?_, pure vs H Q E h⟩)
  exact (pss_one (ps_ret (pe_call G_are_numbers_up_to hr rfl T.m_are_numbers_up_to T.F_are_numbers_up_to.kp T.b_are_numbers_up_to .nil pass0 (pa_cons (pv 0) (pa_cons (pv 1) (pa_cons (pe_int) (pa_nil)))))))

theorem ok_are_numbers_up_to_L {P : Program} {w : World} {K : PySem.W.Frag} {mg : Str → Option Value} {base : Heap} (T : Tx P K mg w) {k : Nat} {sp_is_number_up_to sp : Sp} (G_is_number_up_to : FnOk P w K mg base CX0 (k) T.f_is_number_up_to T.d_is_number_up_to ["value", "most"] sp_is_number_up_to)
    (len : ∀ vs H Q E, sp vs H Q E → vs.length = 3)
    (pure : ∀ vs H Q E, sp vs H Q E → t_are_numbers_up_to_L K w sp_is_number_up_to (Ends.mk (fun _ H' => Q .non H') Q (fun _ _ => False) (fun _ _ => False)) (start ["values", "many", "most", "value"] vs) H) :
    FnOk P w K mg base CX0 (k + 1) T.f_are_numbers_up_to T.d_are_numbers_up_to ["values", "many", "most"] sp := by
  refine T.F_are_numbers_up_to.ok sc_are_numbers_up_to len (fun cdv A outer s H vs Q E hr h => ⟨t_are_numbers_up_to_L K w sp_is_number_up_to, ?_, pure vs H Q E h⟩)
  exact (pss_one (ps_ret (pe_and (pe_cmpR op_eq (pe_callB call_rLen (by rfl) T.n_len PySem.boot_len (pa_cons (pv 0) (pa_nil))) (pv 1) (nomark _)) (pe_one (pe_callB (cr_all rfl) (by rfl) T.n_all (by decide +kernel) (pa_cons (pe_lc (own := [("value", 3)]) rfl sc_are_numbers_up_to.nd (pi_list (pv 0)) (blkOk_by (own := [("value", 3)]) (N := ["values", "many", "most", "value"]) (sc := defScope s_are_numbers_up_to) (by decide +kernel)) (fun _ _ _ _ _ => pg_name (i := 3) sc_are_numbers_up_to.nd rfl (by first | exact Or.inl rfl | exact Or.inr rfl)) (fun _ _ _ _ _ => pts_nil) (fun _ _ _ _ _ => pe_call G_is_number_up_to hr rfl T.m_is_number_up_to T.F_is_number_up_to.kp T.b_is_number_up_to .nil pass0 (pa_cons (pv 3) (pa_cons (pv 2) (pa_nil))))) (pa_nil)))))))

theorem ok_are_numbers_up_to_T {P : Program} {w : World} {K : PySem.W.Frag} {mg : Str → Option Value} {base : Heap} (T : Tx P K mg w) {k : Nat} {sp_is_number_up_to sp : Sp} (G_is_number_up_to : FnOk P w K mg base CX0 (k) T.f_is_number_up_to T.d_is_number_up_to ["value", "most"] sp_is_number_up_to)
    (len : ∀ vs H Q E, sp vs H Q E → vs.length = 3)
    (pure : ∀ vs H Q E, sp vs H Q E → t_are_numbers_up_to_T K w sp_is_number_up_to (Ends.mk (fun _ H' => Q .non H') Q (fun _ _ => False) (fun _ _ => False)) (start ["values", "many", "most", "value"] vs) H) :
    FnOk P w K mg base CX0 (k + 1) T.f_are_numbers_up_to T.d_are_numbers_up_to ["values", "many", "most"] sp := by
  refine T.F_are_numbers_up_to.ok sc_are_numbers_up_to len (fun cdv A outer s H vs Q E hr h => ⟨t_are_numbers_up_to_T K w sp_is_number_up_to, ?_, pure vs H Q E h⟩)
  exact (pss_one (ps_ret (pe_and (pe_cmpR op_eq (pe_callB call_rLen (by rfl) T.n_len PySem.boot_len (pa_cons (pv 0) (pa_nil))) (pv 1) (nomark _)) (pe_one (pe_callB (cr_all rfl) (by rfl) T.n_all (by decide +kernel) (pa_cons (pe_lc (own := [("value", 3)]) rfl sc_are_numbers_up_to.nd (pi_tup (pv 0)) (blkOk_by (own := [("value", 3)]) (N := ["values", "many", "most", "value"]) (sc := defScope s_are_numbers_up_to) (by decide +kernel)) (fun _ _ _ _ _ => pg_name (i := 3) sc_are_numbers_up_to.nd rfl (by first | exact Or.inl rfl | exact Or.inr rfl)) (fun _ _ _ _ _ => pts_nil) (fun _ _ _ _ _ => pe_call G_is_number_up_to hr rfl T.m_is_number_up_to T.F_is_number_up_to.kp T.b_is_number_up_to .nil pass0 (pa_cons (pv 3) (pa_cons (pv 2) (pa_nil))))) (pa_nil)))))))

theorem ok_can_be {P : Program} {w : World} {K : PySem.W.Frag} {mg : Str → Option Value} {base : Heap} (T : Tx P K mg w) {k : Nat} {sp_is_look sp_is_end sp : Sp} (G_is_look : FnOk P w K mg base CX0 (k) T.f_is_look T.d_is_look ["row", "place", "last"] sp_is_look) (G_is_end : FnOk P w K mg base CX0 (k) T.f_is_end T.d_is_end ["row"] sp_is_end)
    (len : ∀ vs H Q E, sp vs H Q E → vs.length = 2)
    (pure : ∀ vs H Q E, sp vs H Q E → t_can_be K w sp_is_look sp_is_end (Ends.mk (fun _ H' => Q .non H') Q (fun _ _ => False) (fun _ _ => False)) (start ["rows", "place", "last", "row"] vs) H) :
    FnOk P w K mg base CX0 (k + 1) T.f_can_be T.d_can_be ["rows", "place"] sp := by
  refine T.F_can_be.ok sc_can_be len (fun cdv A outer s H vs Q E hr h => ⟨t_can_be K w sp_is_look sp_is_end, ?_, pure vs H Q E h⟩)
  exact (pss_cons (ps_set (i := 2) sc_can_be.nd rfl (by first | exact Or.inl rfl | exact Or.inr rfl) (pe_op op_sub (pe_callB call_rLen (by rfl) T.n_len PySem.boot_len (pa_cons (pv 0) (pa_nil))) (pe_int)))
      (pss_cons (ps_set (i := 3) sc_can_be.nd rfl (by first | exact Or.inl rfl | exact Or.inr rfl) (pe_ix ix_list (pv 0) (pv 1) (fun _ _ => rfl)))
      (pss_cons (ps_if (pt_cmpR op_lt (pv 1) (pe_op op_sub (pv 2) (pe_int)) (nomark _)) (pss_one (ps_ret (pe_call G_is_look hr rfl T.m_is_look T.F_is_look.kp T.b_is_look .nil pass0 (pa_cons (pv 3) (pa_cons (pv 1) (pa_cons (pv 2) (pa_nil))))))) (pss_nil))
      (pss_cons (ps_if (pt_cmpR op_lt (pv 1) (pv 2) (nomark _)) (pss_one (ps_ret (pe_call G_is_end hr rfl T.m_is_end T.F_is_end.kp T.b_is_end .nil pass0 (pa_cons (pv 3) (pa_nil))))) (pss_nil))
      (pss_one (ps_ret (pe_and (pe_call G_is_end hr rfl T.m_is_end T.F_is_end.kp T.b_is_end .nil pass0 (pa_cons (pv 3) (pa_nil))) (pe_one (pe_cmpR op_ne (pe_ix ix_tup (pv 3) (pe_int) (fun _ _ => rfl)) (pe_ix ix_tup (pe_ix ix_list (pv 0) (pe_op op_sub (pv 2) (pe_int)) (fun _ _ => rfl)) (pe_int) (fun _ _ => rfl)) (nomark _))))))))))

theorem ok_check_chances {P : Program} {w : World} {K : PySem.W.Frag} {mg : Str → Option Value} {base : Heap} (T : Tx P K mg w) {k : Nat} {sp_are_numbers_up_to sp : Sp} (G_are_numbers_up_to : FnOk P w K mg base CX0 (k) T.f_are_numbers_up_to T.d_are_numbers_up_to ["values", "many", "most"] sp_are_numbers_up_to)
    (len : ∀ vs H Q E, sp vs H Q E → vs.length = 1)
    (pure : ∀ vs H Q E, sp vs H Q E → t_check_chances K w sp_are_numbers_up_to (Ends.mk (fun _ H' => Q .non H') Q (fun _ _ => False) (fun _ _ => False)) (start ["chances"] vs) H) :
    FnOk P w K mg base CX0 (k + 1) T.f_check_chances T.d_check_chances ["chances"] sp := by
  refine T.F_check_chances.ok sc_check_chances len (fun cdv A outer s H vs Q E hr h => ⟨t_check_chances K w sp_are_numbers_up_to, ?_, pure vs H Q E h⟩)
  exact (pss_one (ps_if (pt_not (pt_val (pe_call G_are_numbers_up_to hr rfl T.m_are_numbers_up_to T.F_are_numbers_up_to.kp T.b_are_numbers_up_to .nil pass0 (pa_cons (pv 0) (pa_cons (pe_glob rfl T.c_THINGS ⟨_, rfl⟩) (pa_cons (pe_glob rfl T.c_HUNDRED ⟨_, rfl⟩) (pa_nil))))))) (pss_never) (pss_nil)))

theorem ok_check_code {P : Program} {w : World} {K : PySem.W.Frag} {mg : Str → Option Value} {base : Heap} (T : Tx P K mg w) {k : Nat} {sp_can_be sp : Sp} (G_can_be : FnOk P w K mg base CX0 (k) T.f_can_be T.d_can_be ["rows", "place"] sp_can_be)
    (len : ∀ vs H Q E, sp vs H Q E → vs.length = 1)
    (pure : ∀ vs H Q E, sp vs H Q E → t_check_code K w sp_can_be (Ends.mk (fun _ H' => Q .non H') Q (fun _ _ => False) (fun _ _ => False)) (start ["rows", "place"] vs) H) :
    FnOk P w K mg base CX0 (k + 1) T.f_check_code T.d_check_code ["rows"] sp := by
  refine T.F_check_code.ok sc_check_code len (fun cdv A outer s H vs Q E hr h => ⟨t_check_code K w sp_can_be, ?_, pure vs H Q E h⟩)
  exact (pss_cons (ps_if (pt_cmpR op_lt (pe_callB call_rLen (by rfl) T.n_len PySem.boot_len (pa_cons (pv 0) (pa_nil))) (pe_int) (nomark _)) (pss_never) (pss_nil))
      (pss_one (ps_for PassesOwn.never rfl (pi_range1 (by rfl) T.n_range (pa_cons (pe_callB call_rLen (by rfl) T.n_len PySem.boot_len (pa_cons (pv 0) (pa_nil))) (pa_nil))) (pg_name (i := 1) sc_check_code.nd rfl (by first | exact Or.inl rfl | exact Or.inr rfl)) (pss_one (ps_if (PW.pt (pw_or (pt_cmpR op_eq (pv 1) (pe_glob rfl T.c_MOST_ROWS ⟨_, rfl⟩) (nomark _)) (pw_or1 (pt_not (pt_val (pe_call G_can_be hr rfl T.m_can_be T.F_can_be.kp T.b_can_be .nil pass0 (pa_cons (pv 0) (pa_cons (pv 1) (pa_nil))))))))) (pss_never) (pss_nil))))))

theorem ok_check_condition {P : Program} {w : World} {K : PySem.W.Frag} {mg : Str → Option Value} {base : Heap} (T : Tx P K mg w) {k : Nat} {sp_count_looks sp : Sp} (G_count_looks : FnOk P w K mg base CX0 (k) T.f_count_looks T.d_count_looks ["condition", "around"] sp_count_looks)
    (len : ∀ vs H Q E, sp vs H Q E → vs.length = 1)
    (pure : ∀ vs H Q E, sp vs H Q E → t_check_condition K w sp_count_looks (Ends.mk (fun _ H' => Q .non H') Q (fun _ _ => False) (fun _ _ => False)) (start ["condition"] vs) H) :
    FnOk P w K mg base CX0 (k + 1) T.f_check_condition T.d_check_condition ["condition"] sp := by
  refine T.F_check_condition.ok sc_check_condition len (fun cdv A outer s H vs Q E hr h => ⟨t_check_condition K w sp_count_looks, ?_, pure vs H Q E h⟩)
  exact (pss_one (ps_if (pt_cmpR op_gt (pe_call G_count_looks hr rfl T.m_count_looks T.F_count_looks.kp T.b_count_looks .nil pass0 (pa_cons (pv 0) (pa_cons (pe_int) (pa_nil)))) (pe_glob rfl T.c_MOST_LOOKS ⟨_, rfl⟩) (nomark _)) (pss_never) (pss_nil)))

theorem ok_check_first {P : Program} {w : World} {K : PySem.W.Frag} {mg : Str → Option Value} {base : Heap} (T : Tx P K mg w) {k : Nat} {sp_is_number_up_to sp : Sp} (G_is_number_up_to : FnOk P w K mg base CX0 (k) T.f_is_number_up_to T.d_is_number_up_to ["value", "most"] sp_is_number_up_to)
    (len : ∀ vs H Q E, sp vs H Q E → vs.length = 1)
    (pure : ∀ vs H Q E, sp vs H Q E → t_check_first K w sp_is_number_up_to (Ends.mk (fun _ H' => Q .non H') Q (fun _ _ => False) (fun _ _ => False)) (start ["first"] vs) H) :
    FnOk P w K mg base CX0 (k + 1) T.f_check_first T.d_check_first ["first"] sp := by
  refine T.F_check_first.ok sc_check_first len (fun cdv A outer s H vs Q E hr h => ⟨t_check_first K w sp_is_number_up_to, ?_, pure vs H Q E h⟩)
  exact (pss_one (ps_if (pt_not (pt_val (pe_call G_is_number_up_to hr rfl T.m_is_number_up_to T.F_is_number_up_to.kp T.b_is_number_up_to .nil pass0 (pa_cons (pv 0) (pa_cons (pe_int) (pa_nil)))))) (pss_never) (pss_nil)))

theorem ok_check_for_fewest {P : Program} {w : World} {K : PySem.W.Frag} {mg : Str → Option Value} {base : Heap} (T : Tx P K mg w) {k : Nat} {sp_check_condition sp_check_chances sp_count_pairs sp : Sp} (G_check_condition : FnOk P w K mg base CX0 (k) T.f_check_condition T.d_check_condition ["condition"] sp_check_condition) (G_check_chances : FnOk P w K mg base CX0 (k) T.f_check_chances T.d_check_chances ["chances"] sp_check_chances) (G_count_pairs : FnOk P w K mg base CX0 (k) T.f_count_pairs T.d_count_pairs ["condition"] sp_count_pairs)
    (len : ∀ vs H Q E, sp vs H Q E → vs.length = 2)
    (pure : ∀ vs H Q E, sp vs H Q E → t_check_for_fewest K w sp_check_condition sp_check_chances sp_count_pairs (Ends.mk (fun _ H' => Q .non H') Q (fun _ _ => False) (fun _ _ => False)) (start ["condition", "chances"] vs) H) :
    FnOk P w K mg base CX0 (k + 1) T.f_check_for_fewest T.d_check_for_fewest ["condition", "chances"] sp := by
  refine T.F_check_for_fewest.ok sc_check_for_fewest len (fun cdv A outer s H vs Q E hr h => ⟨t_check_for_fewest K w sp_check_condition sp_check_chances sp_count_pairs, ?_, pure vs H Q E h⟩)
  exact (pss_cons (ps_expr (pe_call G_check_condition hr rfl T.m_check_condition T.F_check_condition.kp T.b_check_condition .nil pass0 (pa_cons (pv 0) (pa_nil))))
      (pss_cons (ps_expr (pe_call G_check_chances hr rfl T.m_check_chances T.F_check_chances.kp T.b_check_chances .nil pass0 (pa_cons (pv 1) (pa_nil))))
      (pss_one (ps_if (pt_cmpR op_gt (pe_call G_count_pairs hr rfl T.m_count_pairs T.F_count_pairs.kp T.b_count_pairs .nil pass0 (pa_cons (pv 0) (pa_nil))) (pe_glob rfl T.c_MOST_PAIRS ⟨_, rfl⟩) (nomark _)) (pss_never) (pss_nil)))))

theorem ok_check_signs {P : Program} {w : World} {K : PySem.W.Frag} {mg : Str → Option Value} {base : Heap} (T : Tx P K mg w) {k : Nat} {sp_may_stand sp : Sp} (G_may_stand : FnOk P w K mg base CX0 (k) T.f_may_stand T.d_may_stand ["sign", "due", "unclosed"] sp_may_stand)
    (len : ∀ vs H Q E, sp vs H Q E → vs.length = 1)
    (pure : ∀ vs H Q E, sp vs H Q E → t_check_signs K w sp_may_stand (Ends.mk (fun _ H' => Q .non H') Q (fun _ _ => False) (fun _ _ => False)) (start ["text", "due", "unclosed", "place", "sign"] vs) H) :
    FnOk P w K mg base CX0 (k + 1) T.f_check_signs T.d_check_signs ["text"] sp := by
  refine T.F_check_signs.ok sc_check_signs len (fun cdv A outer s H vs Q E hr h => ⟨t_check_signs K w sp_may_stand, ?_, pure vs H Q E h⟩)
  exact (pss_cons (ps_set (i := 1) sc_check_signs.nd rfl (by first | exact Or.inl rfl | exact Or.inr rfl) (pe_bl))
      (pss_cons (ps_set (i := 2) sc_check_signs.nd rfl (by first | exact Or.inl rfl | exact Or.inr rfl) (pe_int))
      (pss_cons (ps_for PassesOwn.never rfl (pi_enumS (by rfl) T.n_enumerate (pa_cons (pv 0) (pa_nil))) (pg_tup rfl (pgs_cons (pg_name (i := 3) sc_check_signs.nd rfl (by first | exact Or.inl rfl | exact Or.inr rfl)) (pgs_cons (pg_name (i := 4) sc_check_signs.nd rfl (by first | exact Or.inl rfl | exact Or.inr rfl)) (pgs_nil)))) (pss_cons (ps_if (pt_not (pt_val (pe_call G_may_stand hr rfl T.m_may_stand T.F_may_stand.kp T.b_may_stand .nil pass0 (pa_cons (pv 4) (pa_cons (pv 1) (pa_cons (pv 2) (pa_nil))))))) (pss_never) (pss_nil))
      (pss_cons (ps_if (pt_cmpR op_eq (pv 4) (pe_str) (nomark _)) (pss_one (ps_aug (i := 2) sc_check_signs.nd rfl (by first | exact Or.inl rfl | exact Or.inr rfl) (pe_int) ip_add)) (pss_nil))
      (pss_cons (ps_if (pt_cmpR op_eq (pv 4) (pe_str) (nomark _)) (pss_one (ps_aug (i := 2) sc_check_signs.nd rfl (by first | exact Or.inl rfl | exact Or.inr rfl) (pe_int) ip_sub)) (pss_nil))
      (pss_one (ps_set (i := 1) sc_check_signs.nd rfl (by first | exact Or.inl rfl | exact Or.inr rfl) (pe_cmpR op_in_sign (pv 4) (pe_glob rfl T.c_BEFORE_ONE ⟨_, rfl⟩) (by with_unfolding_all rfl))))))))
      (pss_one (ps_if (PW.pt (pw_or (pt_val (pv 1)) (pw_or1 (pt_cmpR op_gt (pv 2) (pe_int) (nomark _))))) (pss_never) (pss_nil))))))

theorem ok_check_worths {P : Program} {w : World} {K : PySem.W.Frag} {mg : Str → Option Value} {base : Heap} (T : Tx P K mg w) {k : Nat} {sp_are_bits sp : Sp} (G_are_bits : FnOk P w K mg base CX0 (k) T.f_are_bits T.d_are_bits ["values", "many"] sp_are_bits)
    (len : ∀ vs H Q E, sp vs H Q E → vs.length = 1)
    (pure : ∀ vs H Q E, sp vs H Q E → t_check_worths K w sp_are_bits (Ends.mk (fun _ H' => Q .non H') Q (fun _ _ => False) (fun _ _ => False)) (start ["worths"] vs) H) :
    FnOk P w K mg base CX0 (k + 1) T.f_check_worths T.d_check_worths ["worths"] sp := by
  refine T.F_check_worths.ok sc_check_worths len (fun cdv A outer s H vs Q E hr h => ⟨t_check_worths K w sp_are_bits, ?_, pure vs H Q E h⟩)
  exact (pss_one (ps_if (pt_not (pt_val (pe_call G_are_bits hr rfl T.m_are_bits T.F_are_bits.kp T.b_are_bits .nil pass0 (pa_cons (pv 0) (pa_cons (pe_glob rfl T.c_THINGS ⟨_, rfl⟩) (pa_nil)))))) (pss_never) (pss_nil)))

theorem ok_code_of {P : Program} {w : World} {K : PySem.W.Frag} {mg : Str → Option Value} {base : Heap} (T : Tx P K mg w) {k : Nat} {sp_count_looks sp_rows_of sp : Sp} (G_count_looks : FnOk P w K mg base CX0 (k) T.f_count_looks T.d_count_looks ["condition", "around"] sp_count_looks) (G_rows_of : FnOk P w K mg base CX0 (k) T.f_rows_of T.d_rows_of ["condition", "start", "dues"] sp_rows_of)
    (len : ∀ vs H Q E, sp vs H Q E → vs.length = 2)
    (pure : ∀ vs H Q E, sp vs H Q E → t_code_of K w sp_count_looks sp_rows_of (Ends.mk (fun _ H' => Q .non H') Q (fun _ _ => False) (fun _ _ => False)) (start ["condition", "first", "behind", "dues"] vs) H) :
    FnOk P w K mg base CX0 (k + 1) T.f_code_of T.d_code_of ["condition", "first"] sp := by
  refine T.F_code_of.ok sc_code_of len (fun cdv A outer s H vs Q E hr h => ⟨t_code_of K w sp_count_looks sp_rows_of, ?_, pure vs H Q E h⟩)
  exact (pss_cons (ps_set (i := 2) sc_code_of.nd rfl (by first | exact Or.inl rfl | exact Or.inr rfl) (pe_call G_count_looks hr rfl T.m_count_looks T.F_count_looks.kp T.b_count_looks .nil pass0 (pa_cons (pv 0) (pa_cons (pe_int) (pa_nil)))))
      (pss_cons (ps_set (i := 3) sc_code_of.nd rfl (by first | exact Or.inl rfl | exact Or.inr rfl) (pe_lst (pa_cons (pv 2) (pa_cons (pv 2) (pa_nil)))))
      (pss_cons (ps_asg (pe_op op_add (pv 2) (pe_int)) (pg_sub (pv 3) (pe_op op_sub (pe_int) (pv 1)) set_list))
      (pss_one (ps_ret (pe_op op_cat (pe_call G_rows_of hr rfl T.m_rows_of T.F_rows_of.kp T.b_rows_of .nil pass0 (pa_cons (pv 0) (pa_cons (pe_int) (pa_cons (pv 3) (pa_nil))))) (pe_lst (pa_cons (pe_tup (pa_cons (pe_str) (pa_cons (pv 1) (pa_nil)))) (pa_cons (pe_tup (pa_cons (pe_str) (pa_cons (pe_op op_sub (pe_int) (pv 1)) (pa_nil)))) (pa_nil))))))))))

theorem ok_coded {P : Program} {w : World} {K : PySem.W.Frag} {mg : Str → Option Value} {base : Heap} (T : Tx P K mg w) {k : Nat} {sp_check_condition sp_check_first sp_code_of sp : Sp} (G_check_condition : FnOk P w K mg base CX0 (k) T.f_check_condition T.d_check_condition ["condition"] sp_check_condition) (G_check_first : FnOk P w K mg base CX0 (k) T.f_check_first T.d_check_first ["first"] sp_check_first) (G_code_of : FnOk P w K mg base CX0 (k) T.f_code_of T.d_code_of ["condition", "first"] sp_code_of)
    (len : ∀ vs H Q E, sp vs H Q E → vs.length = 2)
    (pure : ∀ vs H Q E, sp vs H Q E → t_coded K w sp_check_condition sp_check_first sp_code_of (Ends.mk (fun _ H' => Q .non H') Q (fun _ _ => False) (fun _ _ => False)) (start ["condition", "first"] vs) H) :
    FnOk P w K mg base CX0 (k + 1) T.f_coded T.d_coded ["condition", "first"] sp := by
  refine T.F_coded.ok sc_coded len (fun cdv A outer s H vs Q E hr h => ⟨t_coded K w sp_check_condition sp_check_first sp_code_of, ?_, pure vs H Q E h⟩)
  exact (pss_cons (ps_expr (pe_call G_check_condition hr rfl T.m_check_condition T.F_check_condition.kp T.b_check_condition .nil pass0 (pa_cons (pv 0) (pa_nil))))
      (pss_cons (ps_expr (pe_call G_check_first hr rfl T.m_check_first T.F_check_first.kp T.b_check_first .nil pass0 (pa_cons (pv 1) (pa_nil))))
      (pss_one (ps_ret (pe_call G_code_of hr rfl T.m_code_of T.F_code_of.kp T.b_code_of .nil pass0 (pa_cons (pv 0) (pa_cons (pv 1) (pa_nil))))))))

theorem ok_condition_of {P : Program} {w : World} {K : PySem.W.Frag} {mg : Str → Option Value} {base : Heap} (T : Tx P K mg w) {k : Nat} {sp_join_waiting sp : Sp} (G_join_waiting : FnOk P w K mg base CX0 (k) T.f_join_waiting T.d_join_waiting ["done", "waiting", "least"] sp_join_waiting)
    (len : ∀ vs H Q E, sp vs H Q E → vs.length = 1)
    (pure : ∀ vs H Q E, sp vs H Q E → t_condition_of K w T.a_BINDS T.a_WORDS sp_join_waiting (Ends.mk (fun _ H' => Q .non H') Q (fun _ _ => False) (fun _ _ => False)) (start ["text", "done", "waiting", "sign"] vs) H) :
    FnOk P w K mg base CX0 (k + 1) T.f_condition_of T.d_condition_of ["text"] sp := by
  refine T.F_condition_of.ok sc_condition_of len (fun cdv A outer s H vs Q E hr h => ⟨t_condition_of K w T.a_BINDS T.a_WORDS sp_join_waiting, ?_, pure vs H Q E h⟩)
  exact (pss_cons (ps_set (i := 1) sc_condition_of.nd rfl (by first | exact Or.inl rfl | exact Or.inr rfl) (pe_lst (pa_nil)))
      (pss_cons (ps_set (i := 2) sc_condition_of.nd rfl (by first | exact Or.inl rfl | exact Or.inr rfl) (pe_lst (pa_nil)))
      (pss_cons (ps_for PassesOwn.never rfl (pi_str (pv 0)) (pg_name (i := 3) sc_condition_of.nd rfl (by first | exact Or.inl rfl | exact Or.inr rfl)) (pss_one (ps_if (pt_cmpR op_in_sign (pv 3) (pe_glob rfl T.c_LETTERS ⟨_, rfl⟩) (by with_unfolding_all rfl)) (pss_one (ps_expr (pe_bm PySem.F.plainAttrs_list PySem.F.slot_list_append PySem.F.type_list_append mt_append (pv 1) (pa_cons (pe_tup (pa_cons (pe_str) (pa_cons (pe_bm PySem.F.plainAttrs_str PySem.F.slot_str_index PySem.F.type_str_index mt_indexS (pe_glob rfl T.c_LETTERS ⟨_, rfl⟩) (pa_cons (pv 3) (pa_nil))) (pa_nil)))) (pa_nil))))) (pss_one (ps_if (pt_cmpR op_eq (pv 3) (pe_str) (nomark _)) (pss_cons (ps_expr (pe_call G_join_waiting hr rfl T.m_join_waiting T.F_join_waiting.kp T.b_join_waiting .nil pass0 (pa_cons (pv 1) (pa_cons (pv 2) (pa_cons (pe_ix ix_kdict (pe_glob rfl T.c_BINDS rfl) (pe_str) (fun _ _ => rfl)) (pa_nil))))))
      (pss_one (ps_expr (pe_bm0 PySem.F.plainAttrs_list PySem.F.slot_list_pop PySem.F.type_list_pop mt_pop (pv 2))))) (pss_cons (ps_if (pt_cmpR op_inKD (pv 3) (pe_glob rfl T.c_WORDS rfl) (by with_unfolding_all rfl)) (pss_one (ps_expr (pe_call G_join_waiting hr rfl T.m_join_waiting T.F_join_waiting.kp T.b_join_waiting .nil pass0 (pa_cons (pv 1) (pa_cons (pv 2) (pa_cons (pe_ix ix_kdict (pe_glob rfl T.c_BINDS rfl) (pv 3) (fun _ _ => rfl)) (pa_nil))))))) (pss_nil))
      (pss_one (ps_expr (pe_bm PySem.F.plainAttrs_list PySem.F.slot_list_append PySem.F.type_list_append mt_append (pv 2) (pa_cons (pv 3) (pa_nil)))))))))))
      (pss_cons (ps_expr (pe_call G_join_waiting hr rfl T.m_join_waiting T.F_join_waiting.kp T.b_join_waiting .nil pass0 (pa_cons (pv 1) (pa_cons (pv 2) (pa_cons (pe_ix ix_kdict (pe_glob rfl T.c_BINDS rfl) (pe_str) (fun _ _ => rfl)) (pa_nil))))))
      (pss_one (ps_ret (pe_ix ix_list (pv 1) (pe_int) (fun _ _ => rfl))))))))

theorem ok_count_looks {P : Program} {w : World} {K : PySem.W.Frag} {mg : Str → Option Value} {base : Heap} (T : Tx P K mg w) {k : Nat} {sp_has_form sp_count_looks sp : Sp} (G_has_form : FnOk P w K mg base CX0 (k) T.f_has_form T.d_has_form ["condition"] sp_has_form) (G_count_looks : FnOk P w K mg base CX0 (k) T.f_count_looks T.d_count_looks ["condition", "around"] sp_count_looks)
    (len : ∀ vs H Q E, sp vs H Q E → vs.length = 2)
    (pure : ∀ vs H Q E, sp vs H Q E → t_count_looks K w sp_has_form sp_count_looks (Ends.mk (fun _ H' => Q .non H') Q (fun _ _ => False) (fun _ _ => False)) (start ["condition", "around", "side"] vs) H) :
    FnOk P w K mg base CX0 (k + 1) T.f_count_looks T.d_count_looks ["condition", "around"] sp := by
  refine T.F_count_looks.ok sc_count_looks len (fun cdv A outer s H vs Q E hr h => ⟨t_count_looks K w sp_has_form sp_count_looks, ?_, pure vs H Q E h⟩)
  exact (pss_cons (ps_if (pt_cmpR op_gt (pv 1) (pe_glob rfl T.c_MOST_AROUND ⟨_, rfl⟩) (nomark _)) (pss_never) (pss_nil))
      (pss_cons (ps_if (pt_not (pt_val (pe_call G_has_form hr rfl T.m_has_form T.F_has_form.kp T.b_has_form .nil pass0 (pa_cons (pv 0) (pa_nil))))) (pss_never) (pss_nil))
      (pss_cons (ps_if (pt_cmpR op_eq (pe_ix ix_tup (pv 0) (pe_int) (fun _ _ => rfl)) (pe_str) (nomark _)) (pss_one (ps_ret (pe_int))) (pss_nil))
      (pss_one (ps_ret (pe_callB (cr_sum rfl) (by rfl) T.n_sum (by decide +kernel) (pa_cons (pe_lc (own := [("side", 2)]) rfl sc_count_looks.nd (pi_tup (pe_slice sl_tup (pv 0) (po_some (pe_int)) (po_none))) (blkOk_by (own := [("side", 2)]) (N := ["condition", "around", "side"]) (sc := defScope s_count_looks) (by decide +kernel)) (fun _ _ _ _ _ => pg_name (i := 2) sc_count_looks.nd rfl (by first | exact Or.inl rfl | exact Or.inr rfl)) (fun _ _ _ _ _ => pts_nil) (fun _ _ _ _ _ => pe_call G_count_looks hr rfl T.m_count_looks T.F_count_looks.kp T.b_count_looks .nil pass0 (pa_cons (pv 2) (pa_cons (pe_op op_add (pv 1) (pe_int)) (pa_nil))))) (pa_nil))))))))

theorem ok_count_pairs {P : Program} {w : World} {K : PySem.W.Frag} {mg : Str → Option Value} {base : Heap} (T : Tx P K mg w) {k : Nat} {sp_count_pairs sp : Sp} (G_count_pairs : FnOk P w K mg base CX0 (k) T.f_count_pairs T.d_count_pairs ["condition"] sp_count_pairs)
    (len : ∀ vs H Q E, sp vs H Q E → vs.length = 1)
    (pure : ∀ vs H Q E, sp vs H Q E → t_count_pairs K w sp_count_pairs (Ends.mk (fun _ H' => Q .non H') Q (fun _ _ => False) (fun _ _ => False)) (start ["condition"] vs) H) :
    FnOk P w K mg base CX0 (k + 1) T.f_count_pairs T.d_count_pairs ["condition"] sp := by
  refine T.F_count_pairs.ok sc_count_pairs len (fun cdv A outer s H vs Q E hr h => ⟨t_count_pairs K w sp_count_pairs, ?_, pure vs H Q E h⟩)
  exact (pss_cons (ps_if (pt_cmpR op_eq (pe_ix ix_tup (pv 0) (pe_int) (fun _ _ => rfl)) (pe_str) (nomark _)) (pss_one (ps_ret (pe_int))) (pss_nil))
      (pss_cons (ps_if (pt_cmpR op_eq (pe_ix ix_tup (pv 0) (pe_int) (fun _ _ => rfl)) (pe_str) (nomark _)) (pss_one (ps_ret (pe_call G_count_pairs hr rfl T.m_count_pairs T.F_count_pairs.kp T.b_count_pairs .nil pass0 (pa_cons (pe_ix ix_tup (pv 0) (pe_int) (fun _ _ => rfl)) (pa_nil))))) (pss_nil))
      (pss_one (ps_ret (pe_op op_add (pe_op op_add (pe_int) (pe_call G_count_pairs hr rfl T.m_count_pairs T.F_count_pairs.kp T.b_count_pairs .nil pass0 (pa_cons (pe_ix ix_tup (pv 0) (pe_int) (fun _ _ => rfl)) (pa_nil)))) (pe_call G_count_pairs hr rfl T.m_count_pairs T.F_count_pairs.kp T.b_count_pairs .nil pass0 (pa_cons (pe_ix ix_tup (pv 0) (pe_int) (fun _ _ => rfl)) (pa_nil))))))))

theorem ok_fewest_jumps {P : Program} {w : World} {K : PySem.W.Frag} {mg : Str → Option Value} {base : Heap} (T : Tx P K mg w) {k : Nat} {sp_check_for_fewest sp_likely_worths sp_all_turns sp_with_turns sp_jumps_in_all sp : Sp} (G_check_for_fewest : FnOk P w K mg base CX0 (k) T.f_check_for_fewest T.d_check_for_fewest ["condition", "chances"] sp_check_for_fewest) (G_likely_worths : FnOk P w K mg base CX0 (k) T.f_likely_worths T.d_likely_worths ["chances"] sp_likely_worths) (G_all_turns : FnOk P w K mg base CX0 (k) T.f_all_turns T.d_all_turns ["condition"] sp_all_turns) (G_with_turns : FnOk P w K mg base CX0 (k) T.f_with_turns T.d_with_turns ["condition", "turns"] sp_with_turns) (G_jumps_in_all : FnOk P w K mg base CX0 (k) T.f_jumps_in_all T.d_jumps_in_all ["condition", "first", "likely"] sp_jumps_in_all)
    (len : ∀ vs H Q E, sp vs H Q E → vs.length = 2)
    (pure : ∀ vs H Q E, sp vs H Q E → t_fewest_jumps K w sp_check_for_fewest sp_likely_worths sp_all_turns sp_with_turns sp_jumps_in_all (Ends.mk (fun _ H' => Q .non H') Q (fun _ _ => False) (fun _ _ => False)) (start ["condition", "chances", "likely", "turns", "first"] vs) H) :
    FnOk P w K mg base CX0 (k + 1) T.f_fewest_jumps T.d_fewest_jumps ["condition", "chances"] sp := by
  refine T.F_fewest_jumps.ok sc_fewest_jumps len (fun cdv A outer s H vs Q E hr h => ⟨t_fewest_jumps K w sp_check_for_fewest sp_likely_worths sp_all_turns sp_with_turns sp_jumps_in_all, ?_, pure vs H Q E h⟩)
  exact (pss_cons (ps_expr (pe_call G_check_for_fewest hr rfl T.m_check_for_fewest T.F_check_for_fewest.kp T.b_check_for_fewest .nil pass0 (pa_cons (pv 0) (pa_cons (pv 1) (pa_nil)))))
      (pss_cons (ps_set (i := 2) sc_fewest_jumps.nd rfl (by first | exact Or.inl rfl | exact Or.inr rfl) (pe_call G_likely_worths hr rfl T.m_likely_worths T.F_likely_worths.kp T.b_likely_worths .nil pass0 (pa_cons (pv 1) (pa_nil))))
      (pss_one (ps_ret (pe_callB (cr_minD rfl hr.units) (by rfl) T.n_min (by decide +kernel) (pa_cons (pe_lc2 (own := [("turns", 3), ("first", 4)]) (vs1 := [4]) rfl sc_fewest_jumps.nd (pi_list (pe_call G_all_turns hr rfl T.m_all_turns T.F_all_turns.kp T.b_all_turns .nil pass0 (pa_cons (pv 0) (pa_nil)))) (blkOk_by (own := [("turns", 3), ("first", 4)]) (N := ["condition", "chances", "likely", "turns", "first"]) (sc := defScope s_fewest_jumps) (by decide +kernel)) (by decide) (fun _ _ _ _ _ => pg_name (i := 3) sc_fewest_jumps.nd rfl (by first | exact Or.inl rfl | exact Or.inr rfl)) (fun _ _ _ _ _ => pts_nil) (fun _ _ _ _ _ => pi_tup (pe_tup (pa_cons (pe_int) (pa_cons (pe_int) (pa_nil))))) (fun _ _ _ _ _ => pg_name (i := 4) sc_fewest_jumps.nd rfl (by first | exact Or.inl rfl | exact Or.inr rfl)) (fun _ _ _ _ _ => pts_nil) (fun _ _ _ _ _ => pe_tup (pa_cons (pe_call G_jumps_in_all hr rfl T.m_jumps_in_all T.F_jumps_in_all.kp T.b_jumps_in_all .nil pass0 (pa_cons (pe_call G_with_turns hr rfl T.m_with_turns T.F_with_turns.kp T.b_with_turns .nil pass0 (pa_cons (pv 0) (pa_cons (pv 3) (pa_nil)))) (pa_cons (pv 4) (pa_cons (pv 2) (pa_nil))))) (pa_cons (pv 3) (pa_cons (pv 4) (pa_nil)))))) (pa_nil)))))))

theorem ok_fewest_looks {P : Program} {w : World} {K : PySem.W.Frag} {mg : Str → Option Value} {base : Heap} (T : Tx P K mg w) {k : Nat} {sp_check_for_fewest sp_likely_worths sp_all_turns sp_with_turns sp_looks_in_all sp : Sp} (G_check_for_fewest : FnOk P w K mg base CX0 (k) T.f_check_for_fewest T.d_check_for_fewest ["condition", "chances"] sp_check_for_fewest) (G_likely_worths : FnOk P w K mg base CX0 (k) T.f_likely_worths T.d_likely_worths ["chances"] sp_likely_worths) (G_all_turns : FnOk P w K mg base CX0 (k) T.f_all_turns T.d_all_turns ["condition"] sp_all_turns) (G_with_turns : FnOk P w K mg base CX0 (k) T.f_with_turns T.d_with_turns ["condition", "turns"] sp_with_turns) (G_looks_in_all : FnOk P w K mg base CX0 (k) T.f_looks_in_all T.d_looks_in_all ["condition", "likely"] sp_looks_in_all)
    (len : ∀ vs H Q E, sp vs H Q E → vs.length = 2)
    (pure : ∀ vs H Q E, sp vs H Q E → t_fewest_looks K w sp_check_for_fewest sp_likely_worths sp_all_turns sp_with_turns sp_looks_in_all (Ends.mk (fun _ H' => Q .non H') Q (fun _ _ => False) (fun _ _ => False)) (start ["condition", "chances", "likely", "turns"] vs) H) :
    FnOk P w K mg base CX0 (k + 1) T.f_fewest_looks T.d_fewest_looks ["condition", "chances"] sp := by
  refine T.F_fewest_looks.ok sc_fewest_looks len (fun cdv A outer s H vs Q E hr h => ⟨t_fewest_looks K w sp_check_for_fewest sp_likely_worths sp_all_turns sp_with_turns sp_looks_in_all, ?_, pure vs H Q E h⟩)
  exact (pss_cons (ps_expr (pe_call G_check_for_fewest hr rfl T.m_check_for_fewest T.F_check_for_fewest.kp T.b_check_for_fewest .nil pass0 (pa_cons (pv 0) (pa_cons (pv 1) (pa_nil)))))
      (pss_cons (ps_set (i := 2) sc_fewest_looks.nd rfl (by first | exact Or.inl rfl | exact Or.inr rfl) (pe_call G_likely_worths hr rfl T.m_likely_worths T.F_likely_worths.kp T.b_likely_worths .nil pass0 (pa_cons (pv 1) (pa_nil))))
      (pss_one (ps_ret (pe_callB (cr_minD rfl hr.units) (by rfl) T.n_min (by decide +kernel) (pa_cons (pe_lc (own := [("turns", 3)]) rfl sc_fewest_looks.nd (pi_list (pe_call G_all_turns hr rfl T.m_all_turns T.F_all_turns.kp T.b_all_turns .nil pass0 (pa_cons (pv 0) (pa_nil)))) (blkOk_by (own := [("turns", 3)]) (N := ["condition", "chances", "likely", "turns"]) (sc := defScope s_fewest_looks) (by decide +kernel)) (fun _ _ _ _ _ => pg_name (i := 3) sc_fewest_looks.nd rfl (by first | exact Or.inl rfl | exact Or.inr rfl)) (fun _ _ _ _ _ => pts_nil) (fun _ _ _ _ _ => pe_tup (pa_cons (pe_call G_looks_in_all hr rfl T.m_looks_in_all T.F_looks_in_all.kp T.b_looks_in_all .nil pass0 (pa_cons (pe_call G_with_turns hr rfl T.m_with_turns T.F_with_turns.kp T.b_with_turns .nil pass0 (pa_cons (pv 0) (pa_cons (pv 3) (pa_nil)))) (pa_cons (pv 2) (pa_nil)))) (pa_cons (pv 3) (pa_nil))))) (pa_nil)))))))

theorem ok_has_form {P : Program} {w : World} {K : PySem.W.Frag} {mg : Str → Option Value} {base : Heap} (T : Tx P K mg w) {k : Nat} {sp_is_number_up_to sp : Sp} (G_is_number_up_to : FnOk P w K mg base CX0 (k) T.f_is_number_up_to T.d_is_number_up_to ["value", "most"] sp_is_number_up_to)
    (len : ∀ vs H Q E, sp vs H Q E → vs.length = 1)
    (pure : ∀ vs H Q E, sp vs H Q E → t_has_form K w sp_is_number_up_to (Ends.mk (fun _ H' => Q .non H') Q (fun _ _ => False) (fun _ _ => False)) (start ["condition", "word"] vs) H) :
    FnOk P w K mg base CX0 (k + 1) T.f_has_form T.d_has_form ["condition"] sp := by
  refine T.F_has_form.ok sc_has_form len (fun cdv A outer s H vs Q E hr h => ⟨t_has_form K w sp_is_number_up_to, ?_, pure vs H Q E h⟩)
  exact (pss_cons (ps_if (PW.pt (pw_or (pt_not (pt_val (pe_callB call_isi (by rfl) T.n_isinstance (by decide +kernel) (pa_cons (pv 0) (pa_cons (pe_bltn (by rfl) T.n_tuple (by decide +kernel) rfl) (pa_nil)))))) (pw_or1 (pt_cmpR op_eq (pe_callB call_rLen (by rfl) T.n_len PySem.boot_len (pa_cons (pv 0) (pa_nil))) (pe_int) (nomark _))))) (pss_one (ps_ret (pe_bl))) (pss_nil))
      (pss_cons (ps_set (i := 1) sc_has_form.nd rfl (by first | exact Or.inl rfl | exact Or.inr rfl) (pe_ix ix_tup (pv 0) (pe_int) (fun _ _ => rfl)))
      (pss_cons (ps_if (pt_cmpR op_eq (pv 1) (pe_str) (nomark _)) (pss_one (ps_ret (pe_and (pe_cmpR op_eq (pe_callB call_rLen (by rfl) T.n_len PySem.boot_len (pa_cons (pv 0) (pa_nil))) (pe_int) (nomark _)) (pe_one (pe_call G_is_number_up_to hr rfl T.m_is_number_up_to T.F_is_number_up_to.kp T.b_is_number_up_to .nil pass0 (pa_cons (pe_ix ix_tup (pv 0) (pe_int) (fun _ _ => rfl)) (pa_cons (pe_op op_sub (pe_glob rfl T.c_THINGS ⟨_, rfl⟩) (pe_int)) (pa_nil)))))))) (pss_nil))
      (pss_cons (ps_if (pt_cmpR op_eq (pv 1) (pe_str) (nomark _)) (pss_one (ps_ret (pe_cmpR op_eq (pe_callB call_rLen (by rfl) T.n_len PySem.boot_len (pa_cons (pv 0) (pa_nil))) (pe_int) (nomark _)))) (pss_nil))
      (pss_one (ps_ret (pe_and (pe_cmpR op_in_seq (pv 1) (pe_tup (pa_cons (pe_str) (pa_cons (pe_str) (pa_nil)))) (by with_unfolding_all rfl)) (pe_one (pe_cmpR op_eq (pe_callB call_rLen (by rfl) T.n_len PySem.boot_len (pa_cons (pv 0) (pa_nil))) (pe_int) (nomark _))))))))))

theorem ok_is_end {P : Program} {w : World} {K : PySem.W.Frag} {mg : Str → Option Value} {base : Heap} (T : Tx P K mg w) {k : Nat} {sp_is_number_up_to sp : Sp} (G_is_number_up_to : FnOk P w K mg base CX0 (k) T.f_is_number_up_to T.d_is_number_up_to ["value", "most"] sp_is_number_up_to)
    (len : ∀ vs H Q E, sp vs H Q E → vs.length = 1)
    (pure : ∀ vs H Q E, sp vs H Q E → t_is_end K w sp_is_number_up_to (Ends.mk (fun _ H' => Q .non H') Q (fun _ _ => False) (fun _ _ => False)) (start ["row"] vs) H) :
    FnOk P w K mg base CX0 (k + 1) T.f_is_end T.d_is_end ["row"] sp := by
  refine T.F_is_end.ok sc_is_end len (fun cdv A outer s H vs Q E hr h => ⟨t_is_end K w sp_is_number_up_to, ?_, pure vs H Q E h⟩)
  exact (pss_one (ps_ret (pe_and (pe_cmpR op_eq (pe_callB call_rLen (by rfl) T.n_len PySem.boot_len (pa_cons (pv 0) (pa_nil))) (pe_int) (nomark _)) (pe_and (pe_cmpR op_eq (pe_ix ix_tup (pv 0) (pe_int) (fun _ _ => rfl)) (pe_str) (nomark _)) (pe_one (pe_call G_is_number_up_to hr rfl T.m_is_number_up_to T.F_is_number_up_to.kp T.b_is_number_up_to .nil pass0 (pa_cons (pe_ix ix_tup (pv 0) (pe_int) (fun _ _ => rfl)) (pa_cons (pe_int) (pa_nil)))))))))

theorem ok_is_look {P : Program} {w : World} {K : PySem.W.Frag} {mg : Str → Option Value} {base : Heap} (T : Tx P K mg w) {k : Nat} {sp_is_number_up_to sp : Sp} (G_is_number_up_to : FnOk P w K mg base CX0 (k) T.f_is_number_up_to T.d_is_number_up_to ["value", "most"] sp_is_number_up_to)
    (len : ∀ vs H Q E, sp vs H Q E → vs.length = 3)
    (pure : ∀ vs H Q E, sp vs H Q E → t_is_look K w sp_is_number_up_to (Ends.mk (fun _ H' => Q .non H') Q (fun _ _ => False) (fun _ _ => False)) (start ["row", "place", "last", "_", "thing", "when", "to"] vs) H) :
    FnOk P w K mg base CX0 (k + 1) T.f_is_look T.d_is_look ["row", "place", "last"] sp := by
  refine T.F_is_look.ok sc_is_look len (fun cdv A outer s H vs Q E hr h => ⟨t_is_look K w sp_is_number_up_to, ?_, pure vs H Q E h⟩)
  exact (pss_cons (ps_if (PW.pt (pw_or (pt_cmpR op_ne (pe_callB call_rLen (by rfl) T.n_len PySem.boot_len (pa_cons (pv 0) (pa_nil))) (pe_int) (nomark _)) (pw_or1 (pt_cmpR op_ne (pe_ix ix_tup (pv 0) (pe_int) (fun _ _ => rfl)) (pe_str) (nomark _))))) (pss_one (ps_ret (pe_bl))) (pss_nil))
      (pss_cons (ps_asg (pv 0) (pg_tup rfl (pgs_cons (pg_name (i := 3) sc_is_look.nd rfl (by first | exact Or.inl rfl | exact Or.inr rfl)) (pgs_cons (pg_name (i := 4) sc_is_look.nd rfl (by first | exact Or.inl rfl | exact Or.inr rfl)) (pgs_cons (pg_name (i := 5) sc_is_look.nd rfl (by first | exact Or.inl rfl | exact Or.inr rfl)) (pgs_cons (pg_name (i := 6) sc_is_look.nd rfl (by first | exact Or.inl rfl | exact Or.inr rfl)) (pgs_nil)))))))
      (pss_cons (ps_if (PW.pt (pw_or (pt_not (pt_val (pe_call G_is_number_up_to hr rfl T.m_is_number_up_to T.F_is_number_up_to.kp T.b_is_number_up_to .nil pass0 (pa_cons (pv 4) (pa_cons (pe_op op_sub (pe_glob rfl T.c_THINGS ⟨_, rfl⟩) (pe_int)) (pa_nil)))))) (pw_or1 (pt_not (pt_val (pe_call G_is_number_up_to hr rfl T.m_is_number_up_to T.F_is_number_up_to.kp T.b_is_number_up_to .nil pass0 (pa_cons (pv 5) (pa_cons (pe_int) (pa_nil))))))))) (pss_one (ps_ret (pe_bl))) (pss_nil))
      (pss_one (ps_ret (pe_and (pe_call G_is_number_up_to hr rfl T.m_is_number_up_to T.F_is_number_up_to.kp T.b_is_number_up_to .nil pass0 (pa_cons (pv 6) (pa_cons (pv 2) (pa_nil)))) (pe_one (pe_cmpR op_gt (pv 6) (pv 1) (nomark _)))))))))

theorem ok_is_number_up_to {P : Program} {w : World} {K : PySem.W.Frag} {mg : Str → Option Value} {base : Heap} (T : Tx P K mg w) {k : Nat} { sp : Sp} 
    (len : ∀ vs H Q E, sp vs H Q E → vs.length = 2)
    (pure : ∀ vs H Q E, sp vs H Q E → t_is_number_up_to K w (Ends.mk (fun _ H' => Q .non H') Q (fun _ _ => False) (fun _ _ => False)) (start ["value", "most"] vs) H) :
    FnOk P w K mg base CX0 (k + 1) T.f_is_number_up_to T.d_is_number_up_to ["value", "most"] sp := by
  refine T.F_is_number_up_to.ok sc_is_number_up_to len (fun cdv A outer s H vs Q E hr h => ⟨t_is_number_up_to K w, ?_, pure vs H Q E h⟩)
  exact (pss_cons (ps_if (PW.pt (pw_or (pt_val (pe_callB call_isi (by rfl) T.n_isinstance (by decide +kernel) (pa_cons (pv 0) (pa_cons (pe_bltn (by rfl) T.n_bool (by decide +kernel) rfl) (pa_nil))))) (pw_or1 (pt_not (pt_val (pe_callB call_isi (by rfl) T.n_isinstance (by decide +kernel) (pa_cons (pv 0) (pa_cons (pe_bltn (by rfl) T.n_int (by decide +kernel) rfl) (pa_nil))))))))) (pss_one (ps_ret (pe_bl))) (pss_nil))
      (pss_one (ps_ret (pe_chain op_le op_le (pe_int) (pv 0) (pv 1)))))

theorem ok_join_waiting {P : Program} {w : World} {K : PySem.W.Frag} {mg : Str → Option Value} {base : Heap} (T : Tx P K mg w) {k : Nat} { sp : Sp} 
    (len : ∀ vs H Q E, sp vs H Q E → vs.length = 3)
    (pure : ∀ vs H Q E, sp vs H Q E → t_join_waiting K w T.a_BINDS T.a_WORDS (Ends.mk (fun _ H' => Q .non H') Q (fun _ _ => False) (fun _ _ => False)) (start ["done", "waiting", "least", "sign", "last"] vs) H) :
    FnOk P w K mg base CX0 (k + 1) T.f_join_waiting T.d_join_waiting ["done", "waiting", "least"] sp := by
  refine T.F_join_waiting.ok sc_join_waiting len (fun cdv A outer s H vs Q E hr h => ⟨t_join_waiting K w T.a_BINDS T.a_WORDS, ?_, pure vs H Q E h⟩)
  exact (pss_one (ps_while PassesOwn.never (PW.pt (pw_and (pt_cmpR op_gt (pe_callB call_rLen (by rfl) T.n_len PySem.boot_len (pa_cons (pv 1) (pa_nil))) (pe_int) (nomark _)) (pw_and1 (pt_cmpR op_ge (pe_ix ix_kdict (pe_glob rfl T.c_BINDS rfl) (pe_ix ix_list (pv 1) (pe_un un_neg (pe_int)) (fun _ _ => rfl)) (fun _ _ => rfl)) (pv 2) (nomark _))))) (pss_cons (ps_set (i := 3) sc_join_waiting.nd rfl (by first | exact Or.inl rfl | exact Or.inr rfl) (pe_bm0 PySem.F.plainAttrs_list PySem.F.slot_list_pop PySem.F.type_list_pop mt_pop (pv 1)))
      (pss_cons (ps_set (i := 4) sc_join_waiting.nd rfl (by first | exact Or.inl rfl | exact Or.inr rfl) (pe_bm0 PySem.F.plainAttrs_list PySem.F.slot_list_pop PySem.F.type_list_pop mt_pop (pv 0)))
      (pss_one (ps_if (pt_cmpR op_eq (pv 3) (pe_str) (nomark _)) (pss_one (ps_expr (pe_bm PySem.F.plainAttrs_list PySem.F.slot_list_append PySem.F.type_list_append mt_append (pv 0) (pa_cons (pe_tup (pa_cons (pe_str) (pa_cons (pv 4) (pa_nil)))) (pa_nil))))) (pss_one (ps_expr (pe_bm PySem.F.plainAttrs_list PySem.F.slot_list_append PySem.F.type_list_append mt_append (pv 0) (pa_cons (pe_tup (pa_cons (pe_ix ix_kdict (pe_glob rfl T.c_WORDS rfl) (pv 3) (fun _ _ => rfl)) (pa_cons (pe_bm0 PySem.F.plainAttrs_list PySem.F.slot_list_pop PySem.F.type_list_pop mt_pop (pv 0)) (pa_cons (pv 4) (pa_nil))))) (pa_nil)))))))))))

theorem ok_jumps {P : Program} {w : World} {K : PySem.W.Frag} {mg : Str → Option Value} {base : Heap} (T : Tx P K mg w) {k : Nat} {sp_check_condition sp_check_first sp_check_chances sp_likely_worths sp_jumps_in_all sp : Sp} (G_check_condition : FnOk P w K mg base CX0 (k) T.f_check_condition T.d_check_condition ["condition"] sp_check_condition) (G_check_first : FnOk P w K mg base CX0 (k) T.f_check_first T.d_check_first ["first"] sp_check_first) (G_check_chances : FnOk P w K mg base CX0 (k) T.f_check_chances T.d_check_chances ["chances"] sp_check_chances) (G_likely_worths : FnOk P w K mg base CX0 (k) T.f_likely_worths T.d_likely_worths ["chances"] sp_likely_worths) (G_jumps_in_all : FnOk P w K mg base CX0 (k) T.f_jumps_in_all T.d_jumps_in_all ["condition", "first", "likely"] sp_jumps_in_all)
    (len : ∀ vs H Q E, sp vs H Q E → vs.length = 3)
    (pure : ∀ vs H Q E, sp vs H Q E → t_jumps K w sp_check_condition sp_check_first sp_check_chances sp_likely_worths sp_jumps_in_all (Ends.mk (fun _ H' => Q .non H') Q (fun _ _ => False) (fun _ _ => False)) (start ["condition", "first", "chances"] vs) H) :
    FnOk P w K mg base CX0 (k + 1) T.f_jumps T.d_jumps ["condition", "first", "chances"] sp := by
  refine T.F_jumps.ok sc_jumps len (fun cdv A outer s H vs Q E hr h => ⟨t_jumps K w sp_check_condition sp_check_first sp_check_chances sp_likely_worths sp_jumps_in_all, ?_, pure vs H Q E h⟩)
  exact (pss_cons (ps_expr (pe_call G_check_condition hr rfl T.m_check_condition T.F_check_condition.kp T.b_check_condition .nil pass0 (pa_cons (pv 0) (pa_nil))))
      (pss_cons (ps_expr (pe_call G_check_first hr rfl T.m_check_first T.F_check_first.kp T.b_check_first .nil pass0 (pa_cons (pv 1) (pa_nil))))
      (pss_cons (ps_expr (pe_call G_check_chances hr rfl T.m_check_chances T.F_check_chances.kp T.b_check_chances .nil pass0 (pa_cons (pv 2) (pa_nil))))
      (pss_one (ps_ret (pe_call G_jumps_in_all hr rfl T.m_jumps_in_all T.F_jumps_in_all.kp T.b_jumps_in_all .nil pass0 (pa_cons (pv 0) (pa_cons (pv 1) (pa_cons (pe_call G_likely_worths hr rfl T.m_likely_worths T.F_likely_worths.kp T.b_likely_worths .nil pass0 (pa_cons (pv 2) (pa_nil))) (pa_nil))))))))))

theorem ok_jumps_in_all {P : Program} {w : World} {K : PySem.W.Frag} {mg : Str → Option Value} {base : Heap} (T : Tx P K mg w) {k : Nat} {sp_code_of sp_outcome_of_rows sp : Sp} (G_code_of : FnOk P w K mg base CX0 (k) T.f_code_of T.d_code_of ["condition", "first"] sp_code_of) (G_outcome_of_rows : FnOk P w K mg base CX0 (k) T.f_outcome_of_rows T.d_outcome_of_rows ["rows", "worths"] sp_outcome_of_rows)
    (len : ∀ vs H Q E, sp vs H Q E → vs.length = 3)
    (pure : ∀ vs H Q E, sp vs H Q E → t_jumps_in_all K w sp_code_of sp_outcome_of_rows (Ends.mk (fun _ H' => Q .non H') Q (fun _ _ => False) (fun _ _ => False)) (start ["condition", "first", "likely", "rows", "worths", "times"] vs) H) :
    FnOk P w K mg base CX0 (k + 1) T.f_jumps_in_all T.d_jumps_in_all ["condition", "first", "likely"] sp := by
  refine T.F_jumps_in_all.ok sc_jumps_in_all len (fun cdv A outer s H vs Q E hr h => ⟨t_jumps_in_all K w sp_code_of sp_outcome_of_rows, ?_, pure vs H Q E h⟩)
  exact (pss_cons (ps_set (i := 3) sc_jumps_in_all.nd rfl (by first | exact Or.inl rfl | exact Or.inr rfl) (pe_call G_code_of hr rfl T.m_code_of T.F_code_of.kp T.b_code_of .nil pass0 (pa_cons (pv 0) (pa_cons (pv 1) (pa_nil)))))
      (pss_one (ps_ret (pe_callB (cr_sum rfl) (by rfl) T.n_sum (by decide +kernel) (pa_cons (pe_lc (own := [("worths", 4), ("times", 5)]) rfl sc_jumps_in_all.nd (pi_list (pv 2)) (blkOk_by (own := [("worths", 4), ("times", 5)]) (N := ["condition", "first", "likely", "rows", "worths", "times"]) (sc := defScope s_jumps_in_all) (by decide +kernel)) (fun _ _ _ _ _ => pg_tup rfl (pgs_cons (pg_name (i := 4) sc_jumps_in_all.nd rfl (by first | exact Or.inl rfl | exact Or.inr rfl)) (pgs_cons (pg_name (i := 5) sc_jumps_in_all.nd rfl (by first | exact Or.inl rfl | exact Or.inr rfl)) (pgs_nil)))) (fun _ _ _ _ _ => pts_nil) (fun _ _ _ _ _ => pe_op op_mul (pe_ix ix_tup (pe_call G_outcome_of_rows hr rfl T.m_outcome_of_rows T.F_outcome_of_rows.kp T.b_outcome_of_rows .nil pass0 (pa_cons (pv 3) (pa_cons (pv 4) (pa_nil)))) (pe_int) (fun _ _ => rfl)) (pv 5))) (pa_nil))))))

theorem ok_law {P : Program} {w : World} {K : PySem.W.Frag} {mg : Str → Option Value} {base : Heap} (T : Tx P K mg w) {k : Nat} {sp_law_begun sp_law_condition sp_law_take sp_law_told sp_law_kept sp_law_spoil sp : Sp} (G_law_begun : FnOk P w K mg base CX0 (k) T.f_law_begun T.d_law_begun ["_law_script"] sp_law_begun) (G_law_condition : FnOk P w K mg base CX0 (k) T.f_law_condition T.d_law_condition ["_law_box", "_law_most"] sp_law_condition) (G_law_take : FnOk P w K mg base CX0 (k) T.f_law_take T.d_law_take ["_law_box", "_law_many"] sp_law_take) (G_law_told : FnOk P w K mg base CX0 (k) T.f_law_told T.d_law_told ["_law_case"] sp_law_told) (G_law_kept : FnOk P w K mg base CX0 (k) T.f_law_kept T.d_law_kept ["_law_found"] sp_law_kept) (G_law_spoil : FnOk P w K mg base CX0 (k) T.f_law_spoil T.d_law_spoil ["_law_found"] sp_law_spoil)
    (len : ∀ vs H Q E, sp vs H Q E → vs.length = 1)
    (pure : ∀ vs H Q E, sp vs H Q E → t_law K w sp_law_begun sp_law_condition sp_law_take sp_law_told sp_law_kept sp_law_spoil (Ends.mk (fun _ H' => Q .non H') Q (fun _ _ => False) (fun _ _ => False)) (start ["_law_script", "_law_box", "_law_cases", "_law_turn", "_law_part_here", "_law_worths", "_law_thing", "_law_every", "_law_case", "_law_kept_here", "_law_one", "_law_k"] vs) H) :
    FnOk P w K mg base CX0 (k + 1) T.f_law T.d_law ["_law_script"] sp := by
  refine T.F_law.ok sc_law len (fun cdv A outer s H vs Q E hr h => ⟨t_law K w sp_law_begun sp_law_condition sp_law_take sp_law_told sp_law_kept sp_law_spoil, ?_, pure vs H Q E h⟩)
  exact (pss_cons (ps_set (i := 1) sc_law.nd rfl (by first | exact Or.inl rfl | exact Or.inr rfl) (pe_call G_law_begun hr rfl T.m_law_begun T.F_law_begun.kp T.b_law_begun .nil pass0 (pa_cons (pv 0) (pa_nil))))
      (pss_cons (ps_set (i := 2) sc_law.nd rfl (by first | exact Or.inl rfl | exact Or.inr rfl) (pe_lst (pa_nil)))
      (pss_cons (ps_for PassesOwn.never rfl (pi_range1 (by rfl) T.n_range (pa_cons (pe_int) (pa_nil))) (pg_name (i := 3) sc_law.nd rfl (by first | exact Or.inl rfl | exact Or.inr rfl)) (pss_cons (ps_set (i := 4) sc_law.nd rfl (by first | exact Or.inl rfl | exact Or.inr rfl) (pe_call G_law_condition hr rfl T.m_law_condition T.F_law_condition.kp T.b_law_condition .nil pass0 (pa_cons (pv 1) (pa_cons (pe_int) (pa_nil)))))
      (pss_cons (ps_set (i := 5) sc_law.nd rfl (by first | exact Or.inl rfl | exact Or.inr rfl) (pe_callTy call_rTupleOf (by rfl) T.n_tuple (by decide +kernel) (pa_cons (pe_lc (own := [("_law_thing", 6)]) rfl sc_law.nd (pi_range1 (by rfl) T.n_range (pa_cons (pe_int) (pa_nil))) (blkOk_by (own := [("_law_thing", 6)]) (N := ["_law_script", "_law_box", "_law_cases", "_law_turn", "_law_part_here", "_law_worths", "_law_thing", "_law_every", "_law_case", "_law_kept_here", "_law_one", "_law_k"]) (sc := defScope s_law) (by decide +kernel)) (fun _ _ _ _ _ => pg_name (i := 6) sc_law.nd rfl (by first | exact Or.inl rfl | exact Or.inr rfl)) (fun _ _ _ _ _ => pts_nil) (fun _ _ _ _ _ => pe_call G_law_take hr rfl T.m_law_take T.F_law_take.kp T.b_law_take .nil pass0 (pa_cons (pv 1) (pa_cons (pe_int) (pa_nil))))) (pa_nil))))
      (pss_one (ps_expr (pe_bm PySem.F.plainAttrs_list PySem.F.slot_list_append PySem.F.type_list_append mt_append (pv 2) (pa_cons (pe_tup (pa_cons (pv 4) (pa_cons (pv 5) (pa_cons (pe_callTy call_rTupleOf (by rfl) T.n_tuple (by decide +kernel) (pa_cons (pe_lc (own := [("_law_thing", 6)]) rfl sc_law.nd (pi_range1 (by rfl) T.n_range (pa_cons (pe_int) (pa_nil))) (blkOk_by (own := [("_law_thing", 6)]) (N := ["_law_script", "_law_box", "_law_cases", "_law_turn", "_law_part_here", "_law_worths", "_law_thing", "_law_every", "_law_case", "_law_kept_here", "_law_one", "_law_k"]) (sc := defScope s_law) (by decide +kernel)) (fun _ _ _ _ _ => pg_name (i := 6) sc_law.nd rfl (by first | exact Or.inl rfl | exact Or.inr rfl)) (fun _ _ _ _ _ => pts_nil) (fun _ _ _ _ _ => pe_call G_law_take hr rfl T.m_law_take T.F_law_take.kp T.b_law_take .nil pass0 (pa_cons (pv 1) (pa_cons (pe_int) (pa_nil))))) (pa_nil))) (pa_nil))))) (pa_nil))))))))
      (pss_cons (ps_setLc (i := 7) (own := [("_law_case", 8)]) rfl sc_law.nd rfl rfl (sw_true rfl rfl rfl (by decide +kernel)) (pi_list (pv 2)) (blkOk_by (own := [("_law_case", 8)]) (N := ["_law_script", "_law_box", "_law_cases", "_law_turn", "_law_part_here", "_law_worths", "_law_thing", "_law_every", "_law_case", "_law_kept_here", "_law_one", "_law_k"]) (sc := defScope s_law) (by decide +kernel)) (fun _ _ _ _ _ => pg_name (i := 8) sc_law.nd rfl (by first | exact Or.inl rfl | exact Or.inr rfl)) (fun _ _ _ _ _ => pts_nil) (fun _ _ _ _ _ => pe_call G_law_told hr rfl T.m_law_told T.F_law_told.kp T.b_law_told .nil pass0 (pa_cons (pv 8) (pa_nil))))
      (pss_cons (ps_setLc (i := 9) (own := [("_law_one", 10)]) rfl sc_law.nd rfl rfl (sw_true rfl rfl rfl (by decide +kernel)) (pi_list (pv 7)) (blkOk_by (own := [("_law_one", 10)]) (N := ["_law_script", "_law_box", "_law_cases", "_law_turn", "_law_part_here", "_law_worths", "_law_thing", "_law_every", "_law_case", "_law_kept_here", "_law_one", "_law_k"]) (sc := defScope s_law) (by decide +kernel)) (fun _ _ _ _ _ => pg_name (i := 10) sc_law.nd rfl (by first | exact Or.inl rfl | exact Or.inr rfl)) (fun _ _ _ _ _ => pts_nil) (fun _ _ _ _ _ => pe_call G_law_kept hr rfl T.m_law_kept T.F_law_kept.kp T.b_law_kept .nil pass0 (pa_cons (pv 10) (pa_nil))))
      (pss_cons (ps_for PassesOwn.never rfl (pi_list (pe_lst (pa_cons (pe_int) (pa_cons (pe_int) (pa_cons (pe_int) (pa_nil)))))) (pg_name (i := 11) sc_law.nd rfl (by first | exact Or.inl rfl | exact Or.inr rfl)) (pss_cons (ps_expr (pe_call G_law_spoil hr rfl T.m_law_spoil T.F_law_spoil.kp T.b_law_spoil .nil pass0 (pa_cons (pe_ix ix_list (pv 7) (pv 11) (fun _ _ => rfl)) (pa_nil))))
      (pss_cons (ps_asg (pe_call G_law_told hr rfl T.m_law_told T.F_law_told.kp T.b_law_told .nil pass0 (pa_cons (pe_ix ix_list (pv 2) (pv 11) (fun _ _ => rfl)) (pa_nil))) (pg_sub (pv 7) (pv 11) set_list))
      (pss_one (ps_if (pt_cmpR (op_neD hr.units) (pe_ix ix_list (pv 7) (pv 11) (fun _ _ => rfl)) (pe_ix ix_list (pv 9) (pv 11) (fun _ _ => rfl)) (nomark _)) (pss_one (ps_ret (pe_bl))) (pss_nil))))))
      (pss_one (ps_ret (pe_cmpR (op_eqD hr.units) (pe_call G_law_told hr rfl T.m_law_told T.F_law_told.kp T.b_law_told .nil pass0 (pa_cons (pe_call G_law_kept hr rfl T.m_law_kept T.F_law_kept.kp T.b_law_kept .nil pass0 (pa_cons (pe_ix ix_list (pv 2) (pe_int) (fun _ _ => rfl)) (pa_nil))) (pa_nil))) (pe_ix ix_list (pv 9) (pe_int) (fun _ _ => rfl)) (nomark _))))))))))

theorem ok_law_bare {P : Program} {w : World} {K : PySem.W.Frag} {mg : Str → Option Value} {base : Heap} (T : Tx P K mg w) {k : Nat} {sp_law_take sp_law_part sp : Sp} (G_law_take : FnOk P w K mg base CX0 (k) T.f_law_take T.d_law_take ["_law_box", "_law_many"] sp_law_take) (G_law_part : FnOk P w K mg base CX0 (k) T.f_law_part T.d_law_part ["_law_box", "_law_many", "_law_things"] sp_law_part)
    (len : ∀ vs H Q E, sp vs H Q E → vs.length = 3)
    (pure : ∀ vs H Q E, sp vs H Q E → t_law_bare K w sp_law_take sp_law_part (Ends.mk (fun _ H' => Q .non H') Q (fun _ _ => False) (fun _ _ => False)) (start ["_law_box", "_law_many", "_law_things", "_law_left", "_law_word"] vs) H) :
    FnOk P w K mg base CX0 (k + 1) T.f_law_bare T.d_law_bare ["_law_box", "_law_many", "_law_things"] sp := by
  refine T.F_law_bare.ok sc_law_bare len (fun cdv A outer s H vs Q E hr h => ⟨t_law_bare K w sp_law_take sp_law_part, ?_, pure vs H Q E h⟩)
  exact (pss_cons (ps_if (pt_cmpR op_eq (pv 1) (pe_int) (nomark _)) (pss_one (ps_ret (pe_tup (pa_cons (pe_str) (pa_cons (pe_ix ix_list (pv 2) (pe_call G_law_take hr rfl T.m_law_take T.F_law_take.kp T.b_law_take .nil pass0 (pa_cons (pv 0) (pa_cons (pe_callB call_rLen (by rfl) T.n_len PySem.boot_len (pa_cons (pv 2) (pa_nil))) (pa_nil)))) (fun _ _ => rfl)) (pa_nil)))))) (pss_nil))
      (pss_cons (ps_set (i := 3) sc_law_bare.nd rfl (by first | exact Or.inl rfl | exact Or.inr rfl) (pe_ix ix_list (pe_lst (pa_cons (pe_int) (pa_cons (pe_op op_sub (pv 1) (pe_int)) (pa_cons (pe_op op_add (pe_int) (pe_call G_law_take hr rfl T.m_law_take T.F_law_take.kp T.b_law_take .nil pass0 (pa_cons (pv 0) (pa_cons (pe_op op_sub (pv 1) (pe_int)) (pa_nil))))) (pa_cons (pe_op op_fdiv (pv 1) (pe_int)) (pa_nil)))))) (pe_call G_law_take hr rfl T.m_law_take T.F_law_take.kp T.b_law_take .nil pass0 (pa_cons (pv 0) (pa_cons (pe_int) (pa_nil)))) (fun _ _ => rfl)))
      (pss_cons (ps_set (i := 4) sc_law_bare.nd rfl (by first | exact Or.inl rfl | exact Or.inr rfl) (pe_ix ix_list (pe_lst (pa_cons (pe_str) (pa_cons (pe_str) (pa_nil)))) (pe_call G_law_take hr rfl T.m_law_take T.F_law_take.kp T.b_law_take .nil pass0 (pa_cons (pv 0) (pa_cons (pe_int) (pa_nil)))) (fun _ _ => rfl)))
      (pss_one (ps_ret (pe_tup (pa_cons (pv 4) (pa_cons (pe_call G_law_part hr rfl T.m_law_part T.F_law_part.kp T.b_law_part .nil pass0 (pa_cons (pv 0) (pa_cons (pv 3) (pa_cons (pv 2) (pa_nil))))) (pa_cons (pe_call G_law_part hr rfl T.m_law_part T.F_law_part.kp T.b_law_part .nil pass0 (pa_cons (pv 0) (pa_cons (pe_op op_sub (pv 1) (pv 3)) (pa_cons (pv 2) (pa_nil))))) (pa_nil))))))))))

theorem ok_law_begun {P : Program} {w : World} {K : PySem.W.Frag} {mg : Str → Option Value} {base : Heap} (T : Tx P K mg w) {k : Nat} { sp : Sp} 
    (len : ∀ vs H Q E, sp vs H Q E → vs.length = 1)
    (pure : ∀ vs H Q E, sp vs H Q E → t_law_begun K w (Ends.mk (fun _ H' => Q .non H') Q (fun _ _ => False) (fun _ _ => False)) (start ["_law_script", "_law_stirred", "_law_cell"] vs) H) :
    FnOk P w K mg base CX0 (k + 1) T.f_law_begun T.d_law_begun ["_law_script"] sp := by
  refine T.F_law_begun.ok sc_law_begun len (fun cdv A outer s H vs Q E hr h => ⟨t_law_begun K w, ?_, pure vs H Q E h⟩)
  exact (pss_cons (ps_set (i := 1) sc_law_begun.nd rfl (by first | exact Or.inl rfl | exact Or.inr rfl) (pe_int))
      (pss_cons (ps_for PassesOwn.never rfl (pi_list (pv 0)) (pg_name (i := 2) sc_law_begun.nd rfl (by first | exact Or.inl rfl | exact Or.inr rfl)) (pss_one (ps_set (i := 1) sc_law_begun.nd rfl (by first | exact Or.inl rfl | exact Or.inr rfl) (pe_op op_mod (pe_op op_add (pe_op op_add (pe_op op_mul (pv 1) (pe_int)) (pe_op op_mul (pv 2) (pe_int))) (pe_int)) (pe_int)))))
      (pss_one (ps_ret (pe_lst (pa_cons (pe_callTy call_rListOf (by rfl) T.n_list (by decide +kernel) (pa_cons (pv 0) (pa_nil))) (pa_cons (pe_op op_mul (pv 1) (pe_callTy call_rInt1 (by rfl) T.n_int (by decide +kernel) (pa_cons (pe_cmpR op_gt (pe_callB call_rLen (by rfl) T.n_len PySem.boot_len (pa_cons (pv 0) (pa_nil))) (pe_int) (nomark _)) (pa_nil)))) (pa_nil))))))))

theorem ok_law_condition {P : Program} {w : World} {K : PySem.W.Frag} {mg : Str → Option Value} {base : Heap} (T : Tx P K mg w) {k : Nat} {sp_law_take sp_law_part sp_law_deep sp : Sp} (G_law_take : FnOk P w K mg base CX0 (k) T.f_law_take T.d_law_take ["_law_box", "_law_many"] sp_law_take) (G_law_part : FnOk P w K mg base CX0 (k) T.f_law_part T.d_law_part ["_law_box", "_law_many", "_law_things"] sp_law_part) (G_law_deep : FnOk P w K mg base CX0 (k) T.f_law_deep T.d_law_deep ["_law_part_here"] sp_law_deep)
    (len : ∀ vs H Q E, sp vs H Q E → vs.length = 2)
    (pure : ∀ vs H Q E, sp vs H Q E → t_law_condition K w sp_law_take sp_law_part sp_law_deep (Ends.mk (fun _ H' => Q .non H') Q (fun _ _ => False) (fun _ _ => False)) (start ["_law_box", "_law_most", "_law_things", "_law_part_here"] vs) H) :
    FnOk P w K mg base CX0 (k + 1) T.f_law_condition T.d_law_condition ["_law_box", "_law_most"] sp := by
  refine T.F_law_condition.ok sc_law_condition len (fun cdv A outer s H vs Q E hr h => ⟨t_law_condition K w sp_law_take sp_law_part sp_law_deep, ?_, pure vs H Q E h⟩)
  exact (pss_cons (ps_set (i := 2) sc_law_condition.nd rfl (by first | exact Or.inl rfl | exact Or.inr rfl) (pe_ix ix_list (pe_lst (pa_cons (pe_lst (pa_cons (pe_int) (pa_cons (pe_int) (pa_cons (pe_int) (pa_nil))))) (pa_cons (pe_lst (pa_cons (pe_int) (pa_cons (pe_int) (pa_cons (pe_int) (pa_cons (pe_int) (pa_cons (pe_int) (pa_cons (pe_int) (pa_cons (pe_int) (pa_cons (pe_int) (pa_nil)))))))))) (pa_cons (pe_lst (pa_cons (pe_int) (pa_cons (pe_int) (pa_nil)))) (pa_nil))))) (pe_call G_law_take hr rfl T.m_law_take T.F_law_take.kp T.b_law_take .nil pass0 (pa_cons (pv 0) (pa_cons (pe_int) (pa_nil)))) (fun _ _ => rfl)))
      (pss_cons (ps_set (i := 3) sc_law_condition.nd rfl (by first | exact Or.inl rfl | exact Or.inr rfl) (pe_call G_law_part hr rfl T.m_law_part T.F_law_part.kp T.b_law_part .nil pass0 (pa_cons (pv 0) (pa_cons (pe_op op_add (pe_int) (pe_call G_law_take hr rfl T.m_law_take T.F_law_take.kp T.b_law_take .nil pass0 (pa_cons (pv 0) (pa_cons (pv 1) (pa_nil))))) (pa_cons (pv 2) (pa_nil))))))
      (pss_cons (ps_while PassesOwn.never (pt_cmpR op_gt (pe_call G_law_deep hr rfl T.m_law_deep T.F_law_deep.kp T.b_law_deep .nil pass0 (pa_cons (pv 3) (pa_nil))) (pe_int) (nomark _)) (pss_one (ps_set (i := 3) sc_law_condition.nd rfl (by first | exact Or.inl rfl | exact Or.inr rfl) (pe_ix ix_tup (pv 3) (pe_int) (fun _ _ => rfl)))))
      (pss_one (ps_ret (pv 3))))))

theorem ok_law_deep {P : Program} {w : World} {K : PySem.W.Frag} {mg : Str → Option Value} {base : Heap} (T : Tx P K mg w) {k : Nat} {sp_law_deep sp : Sp} (G_law_deep : FnOk P w K mg base CX0 (k) T.f_law_deep T.d_law_deep ["_law_part_here"] sp_law_deep)
    (len : ∀ vs H Q E, sp vs H Q E → vs.length = 1)
    (pure : ∀ vs H Q E, sp vs H Q E → t_law_deep K w sp_law_deep (Ends.mk (fun _ H' => Q .non H') Q (fun _ _ => False) (fun _ _ => False)) (start ["_law_part_here", "_law_one"] vs) H) :
    FnOk P w K mg base CX0 (k + 1) T.f_law_deep T.d_law_deep ["_law_part_here"] sp := by
  refine T.F_law_deep.ok sc_law_deep len (fun cdv A outer s H vs Q E hr h => ⟨t_law_deep K w sp_law_deep, ?_, pure vs H Q E h⟩)
  exact (pss_one (ps_ret (pe_ifExp (pt_cmpR op_eq (pe_ix ix_tup (pv 0) (pe_int) (fun _ _ => rfl)) (pe_str) (nomark _)) (pe_int) (pe_op op_add (pe_int) (pe_callB (cr_max rfl) (by rfl) T.n_max (by decide +kernel) (pa_cons (pe_lc (own := [("_law_one", 1)]) rfl sc_law_deep.nd (pi_tup (pe_slice sl_tup (pv 0) (po_some (pe_int)) (po_none))) (blkOk_by (own := [("_law_one", 1)]) (N := ["_law_part_here", "_law_one"]) (sc := defScope s_law_deep) (by decide +kernel)) (fun _ _ _ _ _ => pg_name (i := 1) sc_law_deep.nd rfl (by first | exact Or.inl rfl | exact Or.inr rfl)) (fun _ _ _ _ _ => pts_nil) (fun _ _ _ _ _ => pe_call G_law_deep hr rfl T.m_law_deep T.F_law_deep.kp T.b_law_deep .nil pass0 (pa_cons (pv 1) (pa_nil)))) (pa_nil)))))))

theorem ok_law_kept_A {P : Program} {w : World} {K : PySem.W.Frag} {mg : Str → Option Value} {base : Heap} (T : Tx P K mg w) {k : Nat} { sp : Sp} 
    (len : ∀ vs H Q E, sp vs H Q E → vs.length = 1)
    (pure : ∀ vs H Q E, sp vs H Q E → t_law_kept_A K w (Ends.mk (fun _ H' => Q .non H') Q (fun _ _ => False) (fun _ _ => False)) (start ["_law_found", "_law_parts", "_law_one"] vs) H) :
    FnOk P w K mg base CX0 (k + 1) T.f_law_kept T.d_law_kept ["_law_found"] sp := by
  refine T.F_law_kept.ok sc_law_kept len (fun cdv A outer s H vs Q E hr h => ⟨t_law_kept_A K w, ?_, pure vs H Q E h⟩)
  exact (pss_cons (ps_if (pt_val (pe_callB call_isiT (by rfl) T.n_isinstance (by decide +kernel) (pa_cons (pv 0) (pa_cons (pe_tup (pa_cons (pe_bltn (by rfl) T.n_list (by decide +kernel) rfl) (pa_cons (pe_bltn (by rfl) T.n_tuple (by decide +kernel) rfl) (pa_nil)))) (pa_nil))))) (pss_never) (pss_nil))
      (pss_one (ps_ret (pv 0))))

theorem ok_law_kept_L {P : Program} {w : World} {K : PySem.W.Frag} {mg : Str → Option Value} {base : Heap} (T : Tx P K mg w) {k : Nat} {sp_law_kept sp : Sp} (G_law_kept : FnOk P w K mg base CX0 (k) T.f_law_kept T.d_law_kept ["_law_found"] sp_law_kept)
    (len : ∀ vs H Q E, sp vs H Q E → vs.length = 1)
    (pure : ∀ vs H Q E, sp vs H Q E → t_law_kept_L K w sp_law_kept (Ends.mk (fun _ H' => Q .non H') Q (fun _ _ => False) (fun _ _ => False)) (start ["_law_found", "_law_parts", "_law_one"] vs) H) :
    FnOk P w K mg base CX0 (k + 1) T.f_law_kept T.d_law_kept ["_law_found"] sp := by
  refine T.F_law_kept.ok sc_law_kept len (fun cdv A outer s H vs Q E hr h => ⟨t_law_kept_L K w sp_law_kept, ?_, pure vs H Q E h⟩)
  exact (pss_cons (ps_if (pt_val (pe_callB call_isiT (by rfl) T.n_isinstance (by decide +kernel) (pa_cons (pv 0) (pa_cons (pe_tup (pa_cons (pe_bltn (by rfl) T.n_list (by decide +kernel) rfl) (pa_cons (pe_bltn (by rfl) T.n_tuple (by decide +kernel) rfl) (pa_nil)))) (pa_nil))))) (pss_cons (ps_setLc (i := 1) (own := [("_law_one", 2)]) rfl sc_law_kept.nd rfl rfl (sw_true rfl rfl rfl (by decide +kernel)) (pi_list (pv 0)) (blkOk_by (own := [("_law_one", 2)]) (N := ["_law_found", "_law_parts", "_law_one"]) (sc := defScope s_law_kept) (by decide +kernel)) (fun _ _ _ _ _ => pg_name (i := 2) sc_law_kept.nd rfl (by first | exact Or.inl rfl | exact Or.inr rfl)) (fun _ _ _ _ _ => pts_nil) (fun _ _ _ _ _ => pe_call G_law_kept hr rfl T.m_law_kept T.F_law_kept.kp T.b_law_kept .nil pass0 (pa_cons (pv 2) (pa_nil))))
      (pss_one (ps_ret (pe_ifExp (pt_val (pe_callB call_isi (by rfl) T.n_isinstance (by decide +kernel) (pa_cons (pv 0) (pa_cons (pe_bltn (by rfl) T.n_tuple (by decide +kernel) rfl) (pa_nil))))) (pe_callTy call_rTupleOf (by rfl) T.n_tuple (by decide +kernel) (pa_cons (pv 1) (pa_nil))) (pv 1))))) (pss_nil))
      (pss_one (ps_ret (pv 0))))

theorem ok_law_kept_T {P : Program} {w : World} {K : PySem.W.Frag} {mg : Str → Option Value} {base : Heap} (T : Tx P K mg w) {k : Nat} {sp_law_kept sp : Sp} (G_law_kept : FnOk P w K mg base CX0 (k) T.f_law_kept T.d_law_kept ["_law_found"] sp_law_kept)
    (len : ∀ vs H Q E, sp vs H Q E → vs.length = 1)
    (pure : ∀ vs H Q E, sp vs H Q E → t_law_kept_T K w sp_law_kept (Ends.mk (fun _ H' => Q .non H') Q (fun _ _ => False) (fun _ _ => False)) (start ["_law_found", "_law_parts", "_law_one"] vs) H) :
    FnOk P w K mg base CX0 (k + 1) T.f_law_kept T.d_law_kept ["_law_found"] sp := by
  refine T.F_law_kept.ok sc_law_kept len (fun cdv A outer s H vs Q E hr h => ⟨t_law_kept_T K w sp_law_kept, ?_, pure vs H Q E h⟩)
  exact (pss_cons (ps_if (pt_val (pe_callB call_isiT (by rfl) T.n_isinstance (by decide +kernel) (pa_cons (pv 0) (pa_cons (pe_tup (pa_cons (pe_bltn (by rfl) T.n_list (by decide +kernel) rfl) (pa_cons (pe_bltn (by rfl) T.n_tuple (by decide +kernel) rfl) (pa_nil)))) (pa_nil))))) (pss_cons (ps_setLc (i := 1) (own := [("_law_one", 2)]) rfl sc_law_kept.nd rfl rfl (sw_true rfl rfl rfl (by decide +kernel)) (pi_tup (pv 0)) (blkOk_by (own := [("_law_one", 2)]) (N := ["_law_found", "_law_parts", "_law_one"]) (sc := defScope s_law_kept) (by decide +kernel)) (fun _ _ _ _ _ => pg_name (i := 2) sc_law_kept.nd rfl (by first | exact Or.inl rfl | exact Or.inr rfl)) (fun _ _ _ _ _ => pts_nil) (fun _ _ _ _ _ => pe_call G_law_kept hr rfl T.m_law_kept T.F_law_kept.kp T.b_law_kept .nil pass0 (pa_cons (pv 2) (pa_nil))))
      (pss_one (ps_ret (pe_ifExp (pt_val (pe_callB call_isi (by rfl) T.n_isinstance (by decide +kernel) (pa_cons (pv 0) (pa_cons (pe_bltn (by rfl) T.n_tuple (by decide +kernel) rfl) (pa_nil))))) (pe_callTy call_rTupleOf (by rfl) T.n_tuple (by decide +kernel) (pa_cons (pv 1) (pa_nil))) (pv 1))))) (pss_nil))
      (pss_one (ps_ret (pv 0))))

theorem ok_law_pairs {P : Program} {w : World} {K : PySem.W.Frag} {mg : Str → Option Value} {base : Heap} (T : Tx P K mg w) {k : Nat} {sp_law_pairs sp : Sp} (G_law_pairs : FnOk P w K mg base CX0 (k) T.f_law_pairs T.d_law_pairs ["_law_part_here"] sp_law_pairs)
    (len : ∀ vs H Q E, sp vs H Q E → vs.length = 1)
    (pure : ∀ vs H Q E, sp vs H Q E → t_law_pairs K w sp_law_pairs (Ends.mk (fun _ H' => Q .non H') Q (fun _ _ => False) (fun _ _ => False)) (start ["_law_part_here", "_law_one"] vs) H) :
    FnOk P w K mg base CX0 (k + 1) T.f_law_pairs T.d_law_pairs ["_law_part_here"] sp := by
  refine T.F_law_pairs.ok sc_law_pairs len (fun cdv A outer s H vs Q E hr h => ⟨t_law_pairs K w sp_law_pairs, ?_, pure vs H Q E h⟩)
  exact (pss_cons (ps_if (pt_cmpR op_eq (pe_ix ix_tup (pv 0) (pe_int) (fun _ _ => rfl)) (pe_str) (nomark _)) (pss_one (ps_ret (pe_int))) (pss_nil))
      (pss_one (ps_ret (pe_op op_add (pe_callTy call_rInt1 (by rfl) T.n_int (by decide +kernel) (pa_cons (pe_cmpR op_ne (pe_ix ix_tup (pv 0) (pe_int) (fun _ _ => rfl)) (pe_str) (nomark _)) (pa_nil))) (pe_callB (cr_sum rfl) (by rfl) T.n_sum (by decide +kernel) (pa_cons (pe_lc (own := [("_law_one", 1)]) rfl sc_law_pairs.nd (pi_tup (pe_slice sl_tup (pv 0) (po_some (pe_int)) (po_none))) (blkOk_by (own := [("_law_one", 1)]) (N := ["_law_part_here", "_law_one"]) (sc := defScope s_law_pairs) (by decide +kernel)) (fun _ _ _ _ _ => pg_name (i := 1) sc_law_pairs.nd rfl (by first | exact Or.inl rfl | exact Or.inr rfl)) (fun _ _ _ _ _ => pts_nil) (fun _ _ _ _ _ => pe_call G_law_pairs hr rfl T.m_law_pairs T.F_law_pairs.kp T.b_law_pairs .nil pass0 (pa_cons (pv 1) (pa_nil)))) (pa_nil)))))))

theorem ok_law_part {P : Program} {w : World} {K : PySem.W.Frag} {mg : Str → Option Value} {base : Heap} (T : Tx P K mg w) {k : Nat} {sp_law_take sp_law_bare sp : Sp} (G_law_take : FnOk P w K mg base CX0 (k) T.f_law_take T.d_law_take ["_law_box", "_law_many"] sp_law_take) (G_law_bare : FnOk P w K mg base CX0 (k) T.f_law_bare T.d_law_bare ["_law_box", "_law_many", "_law_things"] sp_law_bare)
    (len : ∀ vs H Q E, sp vs H Q E → vs.length = 3)
    (pure : ∀ vs H Q E, sp vs H Q E → t_law_part K w sp_law_take sp_law_bare (Ends.mk (fun _ H' => Q .non H') Q (fun _ _ => False) (fun _ _ => False)) (start ["_law_box", "_law_many", "_law_things"] vs) H) :
    FnOk P w K mg base CX0 (k + 1) T.f_law_part T.d_law_part ["_law_box", "_law_many", "_law_things"] sp := by
  refine T.F_law_part.ok sc_law_part len (fun cdv A outer s H vs Q E hr h => ⟨t_law_part K w sp_law_take sp_law_bare, ?_, pure vs H Q E h⟩)
  exact (pss_cons (ps_if (pt_cmpR op_eq (pe_call G_law_take hr rfl T.m_law_take T.F_law_take.kp T.b_law_take .nil pass0 (pa_cons (pv 0) (pa_cons (pe_int) (pa_nil)))) (pe_int) (nomark _)) (pss_one (ps_ret (pe_tup (pa_cons (pe_str) (pa_cons (pe_call G_law_bare hr rfl T.m_law_bare T.F_law_bare.kp T.b_law_bare .nil pass0 (pa_cons (pv 0) (pa_cons (pv 1) (pa_cons (pv 2) (pa_nil))))) (pa_nil)))))) (pss_nil))
      (pss_one (ps_ret (pe_call G_law_bare hr rfl T.m_law_bare T.F_law_bare.kp T.b_law_bare .nil pass0 (pa_cons (pv 0) (pa_cons (pv 1) (pa_cons (pv 2) (pa_nil))))))))

theorem ok_law_spoil_A {P : Program} {w : World} {K : PySem.W.Frag} {mg : Str → Option Value} {base : Heap} (T : Tx P K mg w) {k : Nat} { sp : Sp} 
    (len : ∀ vs H Q E, sp vs H Q E → vs.length = 1)
    (pure : ∀ vs H Q E, sp vs H Q E → t_law_spoil_A K w (Ends.mk (fun _ H' => Q .non H') Q (fun _ _ => False) (fun _ _ => False)) (start ["_law_found", "_law_part_here"] vs) H) :
    FnOk P w K mg base CX0 (k + 1) T.f_law_spoil T.d_law_spoil ["_law_found"] sp := by
  refine T.F_law_spoil.ok sc_law_spoil len (fun cdv A outer s H vs Q E hr h => ⟨t_law_spoil_A K w, ?_, pure vs H Q E h⟩)
  exact (pss_cons (ps_if (pt_val (pe_callB call_isiT (by rfl) T.n_isinstance (by decide +kernel) (pa_cons (pv 0) (pa_cons (pe_tup (pa_cons (pe_bltn (by rfl) T.n_list (by decide +kernel) rfl) (pa_cons (pe_bltn (by rfl) T.n_tuple (by decide +kernel) rfl) (pa_nil)))) (pa_nil))))) (pss_never) (pss_nil))
      (pss_one (ps_if (pt_val (pe_callB call_isi (by rfl) T.n_isinstance (by decide +kernel) (pa_cons (pv 0) (pa_cons (pe_bltn (by rfl) T.n_list (by decide +kernel) rfl) (pa_nil))))) (pss_never) (pss_nil))))

theorem ok_law_spoil_L {P : Program} {w : World} {K : PySem.W.Frag} {mg : Str → Option Value} {base : Heap} (T : Tx P K mg w) {k : Nat} {sp_law_spoil sp : Sp} (G_law_spoil : FnOk P w K mg base CX0 (k) T.f_law_spoil T.d_law_spoil ["_law_found"] sp_law_spoil)
    (len : ∀ vs H Q E, sp vs H Q E → vs.length = 1)
    (pure : ∀ vs H Q E, sp vs H Q E → t_law_spoil_L K w sp_law_spoil (Ends.mk (fun _ H' => Q .non H') Q (fun _ _ => False) (fun _ _ => False)) (start ["_law_found", "_law_part_here"] vs) H) :
    FnOk P w K mg base CX0 (k + 1) T.f_law_spoil T.d_law_spoil ["_law_found"] sp := by
  refine T.F_law_spoil.ok sc_law_spoil len (fun cdv A outer s H vs Q E hr h => ⟨t_law_spoil_L K w sp_law_spoil, ?_, pure vs H Q E h⟩)
  exact (pss_cons (ps_if (pt_val (pe_callB call_isiT (by rfl) T.n_isinstance (by decide +kernel) (pa_cons (pv 0) (pa_cons (pe_tup (pa_cons (pe_bltn (by rfl) T.n_list (by decide +kernel) rfl) (pa_cons (pe_bltn (by rfl) T.n_tuple (by decide +kernel) rfl) (pa_nil)))) (pa_nil))))) (pss_one (ps_for PassesOwn.never rfl (pi_list (pv 0)) (pg_name (i := 1) sc_law_spoil.nd rfl (by first | exact Or.inl rfl | exact Or.inr rfl)) (pss_one (ps_expr (pe_call G_law_spoil hr rfl T.m_law_spoil T.F_law_spoil.kp T.b_law_spoil .nil pass0 (pa_cons (pv 1) (pa_nil))))))) (pss_nil))
      (pss_one (ps_if (pt_val (pe_callB call_isi (by rfl) T.n_isinstance (by decide +kernel) (pa_cons (pv 0) (pa_cons (pe_bltn (by rfl) T.n_list (by decide +kernel) rfl) (pa_nil))))) (pss_one (ps_expr (pe_bm PySem.F.plainAttrs_list PySem.F.slot_list_append PySem.F.type_list_append mt_append (pv 0) (pa_cons (pe_int) (pa_nil))))) (pss_nil))))

theorem ok_law_spoil_T {P : Program} {w : World} {K : PySem.W.Frag} {mg : Str → Option Value} {base : Heap} (T : Tx P K mg w) {k : Nat} {sp_law_spoil sp : Sp} (G_law_spoil : FnOk P w K mg base CX0 (k) T.f_law_spoil T.d_law_spoil ["_law_found"] sp_law_spoil)
    (len : ∀ vs H Q E, sp vs H Q E → vs.length = 1)
    (pure : ∀ vs H Q E, sp vs H Q E → t_law_spoil_T K w sp_law_spoil (Ends.mk (fun _ H' => Q .non H') Q (fun _ _ => False) (fun _ _ => False)) (start ["_law_found", "_law_part_here"] vs) H) :
    FnOk P w K mg base CX0 (k + 1) T.f_law_spoil T.d_law_spoil ["_law_found"] sp := by
  refine T.F_law_spoil.ok sc_law_spoil len (fun cdv A outer s H vs Q E hr h => ⟨t_law_spoil_T K w sp_law_spoil, ?_, pure vs H Q E h⟩)
  exact (pss_cons (ps_if (pt_val (pe_callB call_isiT (by rfl) T.n_isinstance (by decide +kernel) (pa_cons (pv 0) (pa_cons (pe_tup (pa_cons (pe_bltn (by rfl) T.n_list (by decide +kernel) rfl) (pa_cons (pe_bltn (by rfl) T.n_tuple (by decide +kernel) rfl) (pa_nil)))) (pa_nil))))) (pss_one (ps_for PassesOwn.never rfl (pi_tup (pv 0)) (pg_name (i := 1) sc_law_spoil.nd rfl (by first | exact Or.inl rfl | exact Or.inr rfl)) (pss_one (ps_expr (pe_call G_law_spoil hr rfl T.m_law_spoil T.F_law_spoil.kp T.b_law_spoil .nil pass0 (pa_cons (pv 1) (pa_nil))))))) (pss_nil))
      (pss_one (ps_if (pt_val (pe_callB call_isi (by rfl) T.n_isinstance (by decide +kernel) (pa_cons (pv 0) (pa_cons (pe_bltn (by rfl) T.n_list (by decide +kernel) rfl) (pa_nil))))) (pss_never) (pss_nil))))

theorem ok_law_take {P : Program} {w : World} {K : PySem.W.Frag} {mg : Str → Option Value} {base : Heap} (T : Tx P K mg w) {k : Nat} { sp : Sp} 
    (len : ∀ vs H Q E, sp vs H Q E → vs.length = 2)
    (pure : ∀ vs H Q E, sp vs H Q E → t_law_take K w (Ends.mk (fun _ H' => Q .non H') Q (fun _ _ => False) (fun _ _ => False)) (start ["_law_box", "_law_many", "_law_number"] vs) H) :
    FnOk P w K mg base CX0 (k + 1) T.f_law_take T.d_law_take ["_law_box", "_law_many"] sp := by
  refine T.F_law_take.ok sc_law_take len (fun cdv A outer s H vs Q E hr h => ⟨t_law_take K w, ?_, pure vs H Q E h⟩)
  exact (pss_cons (ps_if (pt_cmpR (op_eqD hr.units) (pe_ix ix_list (pv 0) (pe_int) (fun _ _ => rfl)) (pe_lst (pa_nil)) (nomark _)) (pss_cons (ps_asg (pe_op op_mod (pe_op op_mul (pe_ix ix_list (pv 0) (pe_int) (fun _ _ => rfl)) (pe_int)) (pe_int)) (pg_sub (pv 0) (pe_int) set_list))
      (pss_one (ps_ret (pe_op op_mod (pe_op op_fdiv (pe_ix ix_list (pv 0) (pe_int) (fun _ _ => rfl)) (pe_int)) (pv 1))))) (pss_nil))
      (pss_cons (ps_set (i := 2) sc_law_take.nd rfl (by first | exact Or.inl rfl | exact Or.inr rfl) (pe_ix ix_list (pe_ix ix_list (pv 0) (pe_int) (fun _ _ => rfl)) (pe_int) (fun _ _ => rfl)))
      (pss_cons (ps_asg (pe_op op_fdiv (pv 2) (pv 1)) (pg_sub (pe_ix ix_list (pv 0) (pe_int) (fun _ _ => rfl)) (pe_int) set_list))
      (pss_cons (ps_if (PW.pt (pw_or (pt_cmpR op_eq (pe_ix ix_list (pe_ix ix_list (pv 0) (pe_int) (fun _ _ => rfl)) (pe_int) (fun _ _ => rfl)) (pe_int) (nomark _)) (pw_or1 (pt_cmpR op_eq (pe_ix ix_list (pe_ix ix_list (pv 0) (pe_int) (fun _ _ => rfl)) (pe_int) (fun _ _ => rfl)) (pe_un un_neg (pe_int)) (nomark _))))) (pss_one (ps_expr (pe_bm PySem.F.plainAttrs_list PySem.F.slot_list_pop PySem.F.type_list_pop mt_popAt (pe_ix ix_list (pv 0) (pe_int) (fun _ _ => rfl)) (pa_cons (pe_int) (pa_nil))))) (pss_nil))
      (pss_one (ps_ret (pe_op op_mod (pv 2) (pv 1))))))))

theorem ok_law_told {P : Program} {w : World} {K : PySem.W.Frag} {mg : Str → Option Value} {base : Heap} (T : Tx P K mg w) {k : Nat} {sp_law_pairs sp_turned sp_looks sp_coded sp_run sp_meant sp_written sp_read sp_alike sp_parting sp_jumps sp_fewest_jumps sp_fewest_looks sp : Sp} (G_law_pairs : FnOk P w K mg base CX0 (k) T.f_law_pairs T.d_law_pairs ["_law_part_here"] sp_law_pairs) (G_turned : FnOk P w K mg base CX0 (k) T.f_turned T.d_turned ["condition", "turns"] sp_turned) (G_looks : FnOk P w K mg base CX0 (k) T.f_looks T.d_looks ["condition", "chances"] sp_looks) (G_coded : FnOk P w K mg base CX0 (k) T.f_coded T.d_coded ["condition", "first"] sp_coded) (G_run : FnOk P w K mg base CX0 (k) T.f_run T.d_run ["rows", "worths"] sp_run) (G_meant : FnOk P w K mg base CX0 (k) T.f_meant T.d_meant ["condition", "worths"] sp_meant) (G_written : FnOk P w K mg base CX0 (k) T.f_written T.d_written ["condition"] sp_written) (G_read : FnOk P w K mg base CX0 (k) T.f_read T.d_read ["text"] sp_read) (G_alike : FnOk P w K mg base CX0 (k) T.f_alike T.d_alike ["one", "other"] sp_alike) (G_parting : FnOk P w K mg base CX0 (k) T.f_parting T.d_parting ["one", "other"] sp_parting) (G_jumps : FnOk P w K mg base CX0 (k) T.f_jumps T.d_jumps ["condition", "first", "chances"] sp_jumps) (G_fewest_jumps : FnOk P w K mg base CX0 (k) T.f_fewest_jumps T.d_fewest_jumps ["condition", "chances"] sp_fewest_jumps) (G_fewest_looks : FnOk P w K mg base CX0 (k) T.f_fewest_looks T.d_fewest_looks ["condition", "chances"] sp_fewest_looks)
    (len : ∀ vs H Q E, sp vs H Q E → vs.length = 1)
    (pure : ∀ vs H Q E, sp vs H Q E → t_law_told K w sp_law_pairs sp_turned sp_looks sp_coded sp_run sp_meant sp_written sp_read sp_alike sp_parting sp_jumps sp_fewest_jumps sp_fewest_looks (Ends.mk (fun _ H' => Q .non H') Q (fun _ _ => False) (fun _ _ => False)) (start ["_law_case", "_law_part_here", "_law_worths", "_law_chances", "_law_other", "_law_found"] vs) H) :
    FnOk P w K mg base CX0 (k + 1) T.f_law_told T.d_law_told ["_law_case"] sp := by
  refine T.F_law_told.ok sc_law_told len (fun cdv A outer s H vs Q E hr h => ⟨t_law_told K w sp_law_pairs sp_turned sp_looks sp_coded sp_run sp_meant sp_written sp_read sp_alike sp_parting sp_jumps sp_fewest_jumps sp_fewest_looks, ?_, pure vs H Q E h⟩)
  exact (pss_cons (ps_asg (pv 0) (pg_tup rfl (pgs_cons (pg_name (i := 1) sc_law_told.nd rfl (by first | exact Or.inl rfl | exact Or.inr rfl)) (pgs_cons (pg_name (i := 2) sc_law_told.nd rfl (by first | exact Or.inl rfl | exact Or.inr rfl)) (pgs_cons (pg_name (i := 3) sc_law_told.nd rfl (by first | exact Or.inl rfl | exact Or.inr rfl)) (pgs_nil))))))
      (pss_cons (ps_set (i := 4) sc_law_told.nd rfl (by first | exact Or.inl rfl | exact Or.inr rfl) (pe_call G_turned hr rfl T.m_turned T.F_turned.kp T.b_turned .nil pass0 (pa_cons (pv 1) (pa_cons (pe_op op_rep (pe_lst (pa_cons (pe_int) (pa_nil))) (pe_call G_law_pairs hr rfl T.m_law_pairs T.F_law_pairs.kp T.b_law_pairs .nil pass0 (pa_cons (pv 1) (pa_nil)))) (pa_nil)))))
      (pss_cons (ps_set (i := 5) sc_law_told.nd rfl (by first | exact Or.inl rfl | exact Or.inr rfl) (pe_lst (pa_cons (pe_call G_meant hr rfl T.m_meant T.F_meant.kp T.b_meant .nil pass0 (pa_cons (pv 1) (pa_cons (pv 2) (pa_nil)))) (pa_cons (pe_call G_coded hr rfl T.m_coded T.F_coded.kp T.b_coded .nil pass0 (pa_cons (pv 1) (pa_cons (pe_int) (pa_nil)))) (pa_cons (pe_call G_run hr rfl T.m_run T.F_run.kp T.b_run .nil pass0 (pa_cons (pe_call G_coded hr rfl T.m_coded T.F_coded.kp T.b_coded .nil pass0 (pa_cons (pv 1) (pa_cons (pe_int) (pa_nil)))) (pa_cons (pv 2) (pa_nil)))) (pa_cons (pe_call G_looks hr rfl T.m_looks T.F_looks.kp T.b_looks .nil pass0 (pa_cons (pv 1) (pa_cons (pv 3) (pa_nil)))) (pa_cons (pv 4) (pa_nil))))))))
      (pss_cons (ps_set (i := 5) sc_law_told.nd rfl (by first | exact Or.inl rfl | exact Or.inr rfl) (pe_op op_cat (pv 5) (pe_lst (pa_cons (pe_call G_jumps hr rfl T.m_jumps T.F_jumps.kp T.b_jumps .nil pass0 (pa_cons (pv 1) (pa_cons (pe_int) (pa_cons (pv 3) (pa_nil))))) (pa_cons (pe_call G_parting hr rfl T.m_parting T.F_parting.kp T.b_parting .nil pass0 (pa_cons (pv 1) (pa_cons (pv 4) (pa_nil)))) (pa_cons (pe_call G_alike hr rfl T.m_alike T.F_alike.kp T.b_alike .nil pass0 (pa_cons (pv 1) (pa_cons (pv 4) (pa_nil)))) (pa_cons (pe_call G_read hr rfl T.m_read T.F_read.kp T.b_read .nil pass0 (pa_cons (pe_call G_written hr rfl T.m_written T.F_written.kp T.b_written .nil pass0 (pa_cons (pv 1) (pa_nil))) (pa_nil))) (pa_nil))))))))
      (pss_one (ps_ret (pe_op op_cat (pv 5) (pe_lst (pa_cons (pe_call G_fewest_looks hr rfl T.m_fewest_looks T.F_fewest_looks.kp T.b_fewest_looks .nil pass0 (pa_cons (pv 1) (pa_cons (pv 3) (pa_nil)))) (pa_cons (pe_call G_fewest_jumps hr rfl T.m_fewest_jumps T.F_fewest_jumps.kp T.b_fewest_jumps .nil pass0 (pa_cons (pv 1) (pa_cons (pv 3) (pa_nil)))) (pa_nil)))))))))))

theorem ok_likely_worths {P : Program} {w : World} {K : PySem.W.Frag} {mg : Str → Option Value} {base : Heap} (T : Tx P K mg w) {k : Nat} {sp_all_bits sp_times_of sp : Sp} (G_all_bits : FnOk P w K mg base CX0 (k) T.f_all_bits T.d_all_bits ["many"] sp_all_bits) (G_times_of : FnOk P w K mg base CX0 (k) T.f_times_of T.d_times_of ["worths", "chances"] sp_times_of)
    (len : ∀ vs H Q E, sp vs H Q E → vs.length = 1)
    (pure : ∀ vs H Q E, sp vs H Q E → t_likely_worths K w sp_all_bits sp_times_of (Ends.mk (fun _ H' => Q .non H') Q (fun _ _ => False) (fun _ _ => False)) (start ["chances", "worths"] vs) H) :
    FnOk P w K mg base CX0 (k + 1) T.f_likely_worths T.d_likely_worths ["chances"] sp := by
  refine T.F_likely_worths.ok sc_likely_worths len (fun cdv A outer s H vs Q E hr h => ⟨t_likely_worths K w sp_all_bits sp_times_of, ?_, pure vs H Q E h⟩)
  exact (pss_one (ps_ret (pe_lc (own := [("worths", 1)]) rfl sc_likely_worths.nd (pi_list (pe_call G_all_bits hr rfl T.m_all_bits T.F_all_bits.kp T.b_all_bits .nil pass0 (pa_cons (pe_glob rfl T.c_THINGS ⟨_, rfl⟩) (pa_nil)))) (blkOk_by (own := [("worths", 1)]) (N := ["chances", "worths"]) (sc := defScope s_likely_worths) (by decide +kernel)) (fun _ _ _ _ _ => pg_name (i := 1) sc_likely_worths.nd rfl (by first | exact Or.inl rfl | exact Or.inr rfl)) (fun _ _ _ _ _ => pts_nil) (fun _ _ _ _ _ => pe_tup (pa_cons (pv 1) (pa_cons (pe_call G_times_of hr rfl T.m_times_of T.F_times_of.kp T.b_times_of .nil pass0 (pa_cons (pv 1) (pa_cons (pv 0) (pa_nil)))) (pa_nil)))))))

theorem ok_look_row {P : Program} {w : World} {K : PySem.W.Frag} {mg : Str → Option Value} {base : Heap} (T : Tx P K mg w) {k : Nat} { sp : Sp} 
    (len : ∀ vs H Q E, sp vs H Q E → vs.length = 3)
    (pure : ∀ vs H Q E, sp vs H Q E → t_look_row K w (Ends.mk (fun _ H' => Q .non H') Q (fun _ _ => False) (fun _ _ => False)) (start ["thing", "place", "dues", "when"] vs) H) :
    FnOk P w K mg base CX0 (k + 1) T.f_look_row T.d_look_row ["thing", "place", "dues"] sp := by
  refine T.F_look_row.ok sc_look_row len (fun cdv A outer s H vs Q E hr h => ⟨t_look_row K w, ?_, pure vs H Q E h⟩)
  exact (pss_cons (ps_set (i := 3) sc_look_row.nd rfl (by first | exact Or.inl rfl | exact Or.inr rfl) (pe_ifExp (pt_cmpR op_eq (pe_ix ix_list (pv 2) (pe_int) (fun _ _ => rfl)) (pe_op op_add (pv 1) (pe_int)) (nomark _)) (pe_int) (pe_int)))
      (pss_one (ps_ret (pe_tup (pa_cons (pe_str) (pa_cons (pv 0) (pa_cons (pv 3) (pa_cons (pe_ix ix_list (pv 2) (pv 3) (fun _ _ => rfl)) (pa_nil)))))))))

theorem ok_looks {P : Program} {w : World} {K : PySem.W.Frag} {mg : Str → Option Value} {base : Heap} (T : Tx P K mg w) {k : Nat} {sp_check_condition sp_check_chances sp_likely_worths sp_looks_in_all sp : Sp} (G_check_condition : FnOk P w K mg base CX0 (k) T.f_check_condition T.d_check_condition ["condition"] sp_check_condition) (G_check_chances : FnOk P w K mg base CX0 (k) T.f_check_chances T.d_check_chances ["chances"] sp_check_chances) (G_likely_worths : FnOk P w K mg base CX0 (k) T.f_likely_worths T.d_likely_worths ["chances"] sp_likely_worths) (G_looks_in_all : FnOk P w K mg base CX0 (k) T.f_looks_in_all T.d_looks_in_all ["condition", "likely"] sp_looks_in_all)
    (len : ∀ vs H Q E, sp vs H Q E → vs.length = 2)
    (pure : ∀ vs H Q E, sp vs H Q E → t_looks K w sp_check_condition sp_check_chances sp_likely_worths sp_looks_in_all (Ends.mk (fun _ H' => Q .non H') Q (fun _ _ => False) (fun _ _ => False)) (start ["condition", "chances"] vs) H) :
    FnOk P w K mg base CX0 (k + 1) T.f_looks T.d_looks ["condition", "chances"] sp := by
  refine T.F_looks.ok sc_looks len (fun cdv A outer s H vs Q E hr h => ⟨t_looks K w sp_check_condition sp_check_chances sp_likely_worths sp_looks_in_all, ?_, pure vs H Q E h⟩)
  exact (pss_cons (ps_expr (pe_call G_check_condition hr rfl T.m_check_condition T.F_check_condition.kp T.b_check_condition .nil pass0 (pa_cons (pv 0) (pa_nil))))
      (pss_cons (ps_expr (pe_call G_check_chances hr rfl T.m_check_chances T.F_check_chances.kp T.b_check_chances .nil pass0 (pa_cons (pv 1) (pa_nil))))
      (pss_one (ps_ret (pe_call G_looks_in_all hr rfl T.m_looks_in_all T.F_looks_in_all.kp T.b_looks_in_all .nil pass0 (pa_cons (pv 0) (pa_cons (pe_call G_likely_worths hr rfl T.m_likely_worths T.F_likely_worths.kp T.b_likely_worths .nil pass0 (pa_cons (pv 1) (pa_nil))) (pa_nil))))))))

theorem ok_looks_in_all {P : Program} {w : World} {K : PySem.W.Frag} {mg : Str → Option Value} {base : Heap} (T : Tx P K mg w) {k : Nat} {sp_outcome sp : Sp} (G_outcome : FnOk P w K mg base CX0 (k) T.f_outcome T.d_outcome ["condition", "worths"] sp_outcome)
    (len : ∀ vs H Q E, sp vs H Q E → vs.length = 2)
    (pure : ∀ vs H Q E, sp vs H Q E → t_looks_in_all K w sp_outcome (Ends.mk (fun _ H' => Q .non H') Q (fun _ _ => False) (fun _ _ => False)) (start ["condition", "likely", "worths", "times"] vs) H) :
    FnOk P w K mg base CX0 (k + 1) T.f_looks_in_all T.d_looks_in_all ["condition", "likely"] sp := by
  refine T.F_looks_in_all.ok sc_looks_in_all len (fun cdv A outer s H vs Q E hr h => ⟨t_looks_in_all K w sp_outcome, ?_, pure vs H Q E h⟩)
  exact (pss_one (ps_ret (pe_callB (cr_sum rfl) (by rfl) T.n_sum (by decide +kernel) (pa_cons (pe_lc (own := [("worths", 2), ("times", 3)]) rfl sc_looks_in_all.nd (pi_list (pv 1)) (blkOk_by (own := [("worths", 2), ("times", 3)]) (N := ["condition", "likely", "worths", "times"]) (sc := defScope s_looks_in_all) (by decide +kernel)) (fun _ _ _ _ _ => pg_tup rfl (pgs_cons (pg_name (i := 2) sc_looks_in_all.nd rfl (by first | exact Or.inl rfl | exact Or.inr rfl)) (pgs_cons (pg_name (i := 3) sc_looks_in_all.nd rfl (by first | exact Or.inl rfl | exact Or.inr rfl)) (pgs_nil)))) (fun _ _ _ _ _ => pts_nil) (fun _ _ _ _ _ => pe_op op_mul (pe_callB call_rLen (by rfl) T.n_len PySem.boot_len (pa_cons (pe_ix ix_tup (pe_call G_outcome hr rfl T.m_outcome T.F_outcome.kp T.b_outcome .nil pass0 (pa_cons (pv 0) (pa_cons (pv 2) (pa_nil)))) (pe_int) (fun _ _ => rfl)) (pa_nil))) (pv 3))) (pa_nil)))))

theorem ok_may_stand {P : Program} {w : World} {K : PySem.W.Frag} {mg : Str → Option Value} {base : Heap} (T : Tx P K mg w) {k : Nat} { sp : Sp} 
    (len : ∀ vs H Q E, sp vs H Q E → vs.length = 3)
    (pure : ∀ vs H Q E, sp vs H Q E → t_may_stand K w T.a_WORDS (Ends.mk (fun _ H' => Q .non H') Q (fun _ _ => False) (fun _ _ => False)) (start ["sign", "due", "unclosed"] vs) H) :
    FnOk P w K mg base CX0 (k + 1) T.f_may_stand T.d_may_stand ["sign", "due", "unclosed"] sp := by
  refine T.F_may_stand.ok sc_may_stand len (fun cdv A outer s H vs Q E hr h => ⟨t_may_stand K w T.a_WORDS, ?_, pure vs H Q E h⟩)
  exact (pss_cons (ps_if (pt_val (pv 1)) (pss_one (ps_ret (pe_cmpR op_in_sign (pv 0) (pe_glob rfl T.c_BEGINNINGS ⟨_, rfl⟩) (by with_unfolding_all rfl)))) (pss_nil))
      (pss_cons (ps_if (pt_cmpR op_eq (pv 0) (pe_str) (nomark _)) (pss_one (ps_ret (pe_cmpR op_gt (pv 2) (pe_int) (nomark _)))) (pss_nil))
      (pss_one (ps_ret (pe_cmpR op_inKD (pv 0) (pe_glob rfl T.c_WORDS rfl) (by with_unfolding_all rfl))))))

theorem ok_meant {P : Program} {w : World} {K : PySem.W.Frag} {mg : Str → Option Value} {base : Heap} (T : Tx P K mg w) {k : Nat} {sp_check_condition sp_check_worths sp_outcome sp : Sp} (G_check_condition : FnOk P w K mg base CX0 (k) T.f_check_condition T.d_check_condition ["condition"] sp_check_condition) (G_check_worths : FnOk P w K mg base CX0 (k) T.f_check_worths T.d_check_worths ["worths"] sp_check_worths) (G_outcome : FnOk P w K mg base CX0 (k) T.f_outcome T.d_outcome ["condition", "worths"] sp_outcome)
    (len : ∀ vs H Q E, sp vs H Q E → vs.length = 2)
    (pure : ∀ vs H Q E, sp vs H Q E → t_meant K w sp_check_condition sp_check_worths sp_outcome (Ends.mk (fun _ H' => Q .non H') Q (fun _ _ => False) (fun _ _ => False)) (start ["condition", "worths"] vs) H) :
    FnOk P w K mg base CX0 (k + 1) T.f_meant T.d_meant ["condition", "worths"] sp := by
  refine T.F_meant.ok sc_meant len (fun cdv A outer s H vs Q E hr h => ⟨t_meant K w sp_check_condition sp_check_worths sp_outcome, ?_, pure vs H Q E h⟩)
  exact (pss_cons (ps_expr (pe_call G_check_condition hr rfl T.m_check_condition T.F_check_condition.kp T.b_check_condition .nil pass0 (pa_cons (pv 0) (pa_nil))))
      (pss_cons (ps_expr (pe_call G_check_worths hr rfl T.m_check_worths T.F_check_worths.kp T.b_check_worths .nil pass0 (pa_cons (pv 1) (pa_nil))))
      (pss_one (ps_ret (pe_call G_outcome hr rfl T.m_outcome T.F_outcome.kp T.b_outcome .nil pass0 (pa_cons (pv 0) (pa_cons (pv 1) (pa_nil))))))))

theorem ok_outcome {P : Program} {w : World} {K : PySem.W.Frag} {mg : Str → Option Value} {base : Heap} (T : Tx P K mg w) {k : Nat} {sp_outcome sp : Sp} (G_outcome : FnOk P w K mg base CX0 (k) T.f_outcome T.d_outcome ["condition", "worths"] sp_outcome)
    (len : ∀ vs H Q E, sp vs H Q E → vs.length = 2)
    (pure : ∀ vs H Q E, sp vs H Q E → t_outcome K w T.a_GOES_ON sp_outcome (Ends.mk (fun _ H' => Q .non H') Q (fun _ _ => False) (fun _ _ => False)) (start ["condition", "worths", "word", "thing", "worth", "looks", "second", "more"] vs) H) :
    FnOk P w K mg base CX0 (k + 1) T.f_outcome T.d_outcome ["condition", "worths"] sp := by
  refine T.F_outcome.ok sc_outcome len (fun cdv A outer s H vs Q E hr h => ⟨t_outcome K w T.a_GOES_ON sp_outcome, ?_, pure vs H Q E h⟩)
  exact (pss_cons (ps_set (i := 2) sc_outcome.nd rfl (by first | exact Or.inl rfl | exact Or.inr rfl) (pe_ix ix_tup (pv 0) (pe_int) (fun _ _ => rfl)))
      (pss_cons (ps_if (pt_cmpR op_eq (pv 2) (pe_str) (nomark _)) (pss_cons (ps_set (i := 3) sc_outcome.nd rfl (by first | exact Or.inl rfl | exact Or.inr rfl) (pe_ix ix_tup (pv 0) (pe_int) (fun _ _ => rfl)))
      (pss_one (ps_ret (pe_tup (pa_cons (pe_ix ix_tup (pv 1) (pv 3) (fun _ _ => rfl)) (pa_cons (pe_lst (pa_cons (pv 3) (pa_nil))) (pa_nil))))))) (pss_nil))
      (pss_cons (ps_asg (pe_call G_outcome hr rfl T.m_outcome T.F_outcome.kp T.b_outcome .nil pass0 (pa_cons (pe_ix ix_tup (pv 0) (pe_int) (fun _ _ => rfl)) (pa_cons (pv 1) (pa_nil)))) (pg_tup rfl (pgs_cons (pg_name (i := 4) sc_outcome.nd rfl (by first | exact Or.inl rfl | exact Or.inr rfl)) (pgs_cons (pg_name (i := 5) sc_outcome.nd rfl (by first | exact Or.inl rfl | exact Or.inr rfl)) (pgs_nil)))))
      (pss_cons (ps_if (pt_cmpR op_eq (pv 2) (pe_str) (nomark _)) (pss_one (ps_ret (pe_tup (pa_cons (pe_op op_sub (pe_int) (pv 4)) (pa_cons (pv 5) (pa_nil)))))) (pss_nil))
      (pss_cons (ps_if (pt_cmpR op_ne (pv 4) (pe_ix ix_kdict (pe_glob rfl T.c_GOES_ON rfl) (pv 2) (fun _ _ => rfl)) (nomark _)) (pss_one (ps_ret (pe_tup (pa_cons (pv 4) (pa_cons (pv 5) (pa_nil)))))) (pss_nil))
      (pss_cons (ps_asg (pe_call G_outcome hr rfl T.m_outcome T.F_outcome.kp T.b_outcome .nil pass0 (pa_cons (pe_ix ix_tup (pv 0) (pe_int) (fun _ _ => rfl)) (pa_cons (pv 1) (pa_nil)))) (pg_tup rfl (pgs_cons (pg_name (i := 6) sc_outcome.nd rfl (by first | exact Or.inl rfl | exact Or.inr rfl)) (pgs_cons (pg_name (i := 7) sc_outcome.nd rfl (by first | exact Or.inl rfl | exact Or.inr rfl)) (pgs_nil)))))
      (pss_one (ps_ret (pe_tup (pa_cons (pv 6) (pa_cons (pe_op op_cat (pv 5) (pv 7)) (pa_nil))))))))))))

theorem ok_outcome_of_rows {P : Program} {w : World} {K : PySem.W.Frag} {mg : Str → Option Value} {base : Heap} (T : Tx P K mg w) {k : Nat} { sp : Sp} 
    (len : ∀ vs H Q E, sp vs H Q E → vs.length = 2)
    (pure : ∀ vs H Q E, sp vs H Q E → t_outcome_of_rows K w (Ends.mk (fun _ H' => Q .non H') Q (fun _ _ => False) (fun _ _ => False)) (start ["rows", "worths", "at", "looks", "jumps", "_", "thing", "when", "to"] vs) H) :
    FnOk P w K mg base CX0 (k + 1) T.f_outcome_of_rows T.d_outcome_of_rows ["rows", "worths"] sp := by
  refine T.F_outcome_of_rows.ok sc_outcome_of_rows len (fun cdv A outer s H vs Q E hr h => ⟨t_outcome_of_rows K w, ?_, pure vs H Q E h⟩)
  exact (pss_cons (ps_set (i := 2) sc_outcome_of_rows.nd rfl (by first | exact Or.inl rfl | exact Or.inr rfl) (pe_int))
      (pss_cons (ps_set (i := 3) sc_outcome_of_rows.nd rfl (by first | exact Or.inl rfl | exact Or.inr rfl) (pe_lst (pa_nil)))
      (pss_cons (ps_set (i := 4) sc_outcome_of_rows.nd rfl (by first | exact Or.inl rfl | exact Or.inr rfl) (pe_int))
      (pss_cons (ps_while PassesOwn.never (pt_cmpR op_eq (pe_ix ix_tup (pe_ix ix_list (pv 0) (pv 2) (fun _ _ => rfl)) (pe_int) (fun _ _ => rfl)) (pe_str) (nomark _)) (pss_cons (ps_asg (pe_ix ix_list (pv 0) (pv 2) (fun _ _ => rfl)) (pg_tup rfl (pgs_cons (pg_name (i := 5) sc_outcome_of_rows.nd rfl (by first | exact Or.inl rfl | exact Or.inr rfl)) (pgs_cons (pg_name (i := 6) sc_outcome_of_rows.nd rfl (by first | exact Or.inl rfl | exact Or.inr rfl)) (pgs_cons (pg_name (i := 7) sc_outcome_of_rows.nd rfl (by first | exact Or.inl rfl | exact Or.inr rfl)) (pgs_cons (pg_name (i := 8) sc_outcome_of_rows.nd rfl (by first | exact Or.inl rfl | exact Or.inr rfl)) (pgs_nil)))))))
      (pss_cons (ps_expr (pe_bm PySem.F.plainAttrs_list PySem.F.slot_list_append PySem.F.type_list_append mt_append (pv 3) (pa_cons (pv 6) (pa_nil))))
      (pss_one (ps_if (pt_cmpR op_eq (pe_ix ix_tup (pv 1) (pv 6) (fun _ _ => rfl)) (pv 7) (nomark _)) (pss_cons (ps_set (i := 2) sc_outcome_of_rows.nd rfl (by first | exact Or.inl rfl | exact Or.inr rfl) (pv 8))
      (pss_one (ps_aug (i := 4) sc_outcome_of_rows.nd rfl (by first | exact Or.inl rfl | exact Or.inr rfl) (pe_int) ip_add))) (pss_one (ps_aug (i := 2) sc_outcome_of_rows.nd rfl (by first | exact Or.inl rfl | exact Or.inr rfl) (pe_int) ip_add)))))))
      (pss_one (ps_ret (pe_tup (pa_cons (pe_ix ix_tup (pe_ix ix_list (pv 0) (pv 2) (fun _ _ => rfl)) (pe_int) (fun _ _ => rfl)) (pa_cons (pv 3) (pa_cons (pv 4) (pa_nil)))))))))))

theorem ok_parting {P : Program} {w : World} {K : PySem.W.Frag} {mg : Str → Option Value} {base : Heap} (T : Tx P K mg w) {k : Nat} {sp_check_condition sp_all_bits sp_outcome sp : Sp} (G_check_condition : FnOk P w K mg base CX0 (k) T.f_check_condition T.d_check_condition ["condition"] sp_check_condition) (G_all_bits : FnOk P w K mg base CX0 (k) T.f_all_bits T.d_all_bits ["many"] sp_all_bits) (G_outcome : FnOk P w K mg base CX0 (k) T.f_outcome T.d_outcome ["condition", "worths"] sp_outcome)
    (len : ∀ vs H Q E, sp vs H Q E → vs.length = 2)
    (pure : ∀ vs H Q E, sp vs H Q E → t_parting K w sp_check_condition sp_all_bits sp_outcome (Ends.mk (fun _ H' => Q .non H') Q (fun _ _ => False) (fun _ _ => False)) (start ["one", "other", "worths", "told_of_one", "told_of_other"] vs) H) :
    FnOk P w K mg base CX0 (k + 1) T.f_parting T.d_parting ["one", "other"] sp := by
  refine T.F_parting.ok sc_parting len (fun cdv A outer s H vs Q E hr h => ⟨t_parting K w sp_check_condition sp_all_bits sp_outcome, ?_, pure vs H Q E h⟩)
  exact (pss_cons (ps_expr (pe_call G_check_condition hr rfl T.m_check_condition T.F_check_condition.kp T.b_check_condition .nil pass0 (pa_cons (pv 0) (pa_nil))))
      (pss_cons (ps_expr (pe_call G_check_condition hr rfl T.m_check_condition T.F_check_condition.kp T.b_check_condition .nil pass0 (pa_cons (pv 1) (pa_nil))))
      (pss_cons (ps_for PassesOwn.never rfl (pi_list (pe_call G_all_bits hr rfl T.m_all_bits T.F_all_bits.kp T.b_all_bits .nil pass0 (pa_cons (pe_glob rfl T.c_THINGS ⟨_, rfl⟩) (pa_nil)))) (pg_name (i := 2) sc_parting.nd rfl (by first | exact Or.inl rfl | exact Or.inr rfl)) (pss_cons (ps_set (i := 3) sc_parting.nd rfl (by first | exact Or.inl rfl | exact Or.inr rfl) (pe_call G_outcome hr rfl T.m_outcome T.F_outcome.kp T.b_outcome .nil pass0 (pa_cons (pv 0) (pa_cons (pv 2) (pa_nil)))))
      (pss_cons (ps_set (i := 4) sc_parting.nd rfl (by first | exact Or.inl rfl | exact Or.inr rfl) (pe_call G_outcome hr rfl T.m_outcome T.F_outcome.kp T.b_outcome .nil pass0 (pa_cons (pv 1) (pa_cons (pv 2) (pa_nil)))))
      (pss_one (ps_if (pt_cmpR (op_neD hr.units) (pv 3) (pv 4) (nomark _)) (pss_one (ps_ret (pe_tup (pa_cons (pv 2) (pa_cons (pv 3) (pa_cons (pv 4) (pa_nil))))))) (pss_nil))))))
      (pss_one (ps_ret (pe_non))))))

theorem ok_read {P : Program} {w : World} {K : PySem.W.Frag} {mg : Str → Option Value} {base : Heap} (T : Tx P K mg w) {k : Nat} {sp_check_signs sp_condition_of sp_check_condition sp : Sp} (G_check_signs : FnOk P w K mg base CX0 (k) T.f_check_signs T.d_check_signs ["text"] sp_check_signs) (G_condition_of : FnOk P w K mg base CX0 (k) T.f_condition_of T.d_condition_of ["text"] sp_condition_of) (G_check_condition : FnOk P w K mg base CX0 (k) T.f_check_condition T.d_check_condition ["condition"] sp_check_condition)
    (len : ∀ vs H Q E, sp vs H Q E → vs.length = 1)
    (pure : ∀ vs H Q E, sp vs H Q E → t_read K w sp_check_signs sp_condition_of sp_check_condition (Ends.mk (fun _ H' => Q .non H') Q (fun _ _ => False) (fun _ _ => False)) (start ["text", "condition"] vs) H) :
    FnOk P w K mg base CX0 (k + 1) T.f_read T.d_read ["text"] sp := by
  refine T.F_read.ok sc_read len (fun cdv A outer s H vs Q E hr h => ⟨t_read K w sp_check_signs sp_condition_of sp_check_condition, ?_, pure vs H Q E h⟩)
  exact (pss_cons (ps_expr (pe_call G_check_signs hr rfl T.m_check_signs T.F_check_signs.kp T.b_check_signs .nil pass0 (pa_cons (pv 0) (pa_nil))))
      (pss_cons (ps_set (i := 1) sc_read.nd rfl (by first | exact Or.inl rfl | exact Or.inr rfl) (pe_call G_condition_of hr rfl T.m_condition_of T.F_condition_of.kp T.b_condition_of .nil pass0 (pa_cons (pv 0) (pa_nil))))
      (pss_cons (ps_expr (pe_call G_check_condition hr rfl T.m_check_condition T.F_check_condition.kp T.b_check_condition .nil pass0 (pa_cons (pv 1) (pa_nil))))
      (pss_one (ps_ret (pv 1))))))

theorem ok_rows_of {P : Program} {w : World} {K : PySem.W.Frag} {mg : Str → Option Value} {base : Heap} (T : Tx P K mg w) {k : Nat} {sp_look_row sp_rows_of sp_count_looks sp : Sp} (G_look_row : FnOk P w K mg base CX0 (k) T.f_look_row T.d_look_row ["thing", "place", "dues"] sp_look_row) (G_rows_of : FnOk P w K mg base CX0 (k) T.f_rows_of T.d_rows_of ["condition", "start", "dues"] sp_rows_of) (G_count_looks : FnOk P w K mg base CX0 (k) T.f_count_looks T.d_count_looks ["condition", "around"] sp_count_looks)
    (len : ∀ vs H Q E, sp vs H Q E → vs.length = 3)
    (pure : ∀ vs H Q E, sp vs H Q E → t_rows_of K w T.a_GOES_ON sp_look_row sp_rows_of sp_count_looks (Ends.mk (fun _ H' => Q .non H') Q (fun _ _ => False) (fun _ _ => False)) (start ["condition", "start", "dues", "word", "middle", "first_dues"] vs) H) :
    FnOk P w K mg base CX0 (k + 1) T.f_rows_of T.d_rows_of ["condition", "start", "dues"] sp := by
  refine T.F_rows_of.ok sc_rows_of len (fun cdv A outer s H vs Q E hr h => ⟨t_rows_of K w T.a_GOES_ON sp_look_row sp_rows_of sp_count_looks, ?_, pure vs H Q E h⟩)
  exact (pss_cons (ps_set (i := 3) sc_rows_of.nd rfl (by first | exact Or.inl rfl | exact Or.inr rfl) (pe_ix ix_tup (pv 0) (pe_int) (fun _ _ => rfl)))
      (pss_cons (ps_if (pt_cmpR op_eq (pv 3) (pe_str) (nomark _)) (pss_one (ps_ret (pe_lst (pa_cons (pe_call G_look_row hr rfl T.m_look_row T.F_look_row.kp T.b_look_row .nil pass0 (pa_cons (pe_ix ix_tup (pv 0) (pe_int) (fun _ _ => rfl)) (pa_cons (pv 1) (pa_cons (pv 2) (pa_nil))))) (pa_nil))))) (pss_nil))
      (pss_cons (ps_if (pt_cmpR op_eq (pv 3) (pe_str) (nomark _)) (pss_one (ps_ret (pe_call G_rows_of hr rfl T.m_rows_of T.F_rows_of.kp T.b_rows_of .nil pass0 (pa_cons (pe_ix ix_tup (pv 0) (pe_int) (fun _ _ => rfl)) (pa_cons (pv 1) (pa_cons (pe_lst (pa_cons (pe_ix ix_list (pv 2) (pe_int) (fun _ _ => rfl)) (pa_cons (pe_ix ix_list (pv 2) (pe_int) (fun _ _ => rfl)) (pa_nil)))) (pa_nil))))))) (pss_nil))
      (pss_cons (ps_set (i := 4) sc_rows_of.nd rfl (by first | exact Or.inl rfl | exact Or.inr rfl) (pe_op op_add (pv 1) (pe_call G_count_looks hr rfl T.m_count_looks T.F_count_looks.kp T.b_count_looks .nil pass0 (pa_cons (pe_ix ix_tup (pv 0) (pe_int) (fun _ _ => rfl)) (pa_cons (pe_int) (pa_nil))))))
      (pss_cons (ps_set (i := 5) sc_rows_of.nd rfl (by first | exact Or.inl rfl | exact Or.inr rfl) (pe_callTy call_rListOf (by rfl) T.n_list (by decide +kernel) (pa_cons (pv 2) (pa_nil))))
      (pss_cons (ps_asg (pv 4) (pg_sub (pv 5) (pe_ix ix_kdict (pe_glob rfl T.c_GOES_ON rfl) (pv 3) (fun _ _ => rfl)) set_list))
      (pss_one (ps_ret (pe_op op_cat (pe_call G_rows_of hr rfl T.m_rows_of T.F_rows_of.kp T.b_rows_of .nil pass0 (pa_cons (pe_ix ix_tup (pv 0) (pe_int) (fun _ _ => rfl)) (pa_cons (pv 1) (pa_cons (pv 5) (pa_nil))))) (pe_call G_rows_of hr rfl T.m_rows_of T.F_rows_of.kp T.b_rows_of .nil pass0 (pa_cons (pe_ix ix_tup (pv 0) (pe_int) (fun _ _ => rfl)) (pa_cons (pv 4) (pa_cons (pv 2) (pa_nil))))))))))))))

theorem ok_run {P : Program} {w : World} {K : PySem.W.Frag} {mg : Str → Option Value} {base : Heap} (T : Tx P K mg w) {k : Nat} {sp_check_code sp_check_worths sp_outcome_of_rows sp : Sp} (G_check_code : FnOk P w K mg base CX0 (k) T.f_check_code T.d_check_code ["rows"] sp_check_code) (G_check_worths : FnOk P w K mg base CX0 (k) T.f_check_worths T.d_check_worths ["worths"] sp_check_worths) (G_outcome_of_rows : FnOk P w K mg base CX0 (k) T.f_outcome_of_rows T.d_outcome_of_rows ["rows", "worths"] sp_outcome_of_rows)
    (len : ∀ vs H Q E, sp vs H Q E → vs.length = 2)
    (pure : ∀ vs H Q E, sp vs H Q E → t_run K w sp_check_code sp_check_worths sp_outcome_of_rows (Ends.mk (fun _ H' => Q .non H') Q (fun _ _ => False) (fun _ _ => False)) (start ["rows", "worths"] vs) H) :
    FnOk P w K mg base CX0 (k + 1) T.f_run T.d_run ["rows", "worths"] sp := by
  refine T.F_run.ok sc_run len (fun cdv A outer s H vs Q E hr h => ⟨t_run K w sp_check_code sp_check_worths sp_outcome_of_rows, ?_, pure vs H Q E h⟩)
  exact (pss_cons (ps_expr (pe_call G_check_code hr rfl T.m_check_code T.F_check_code.kp T.b_check_code .nil pass0 (pa_cons (pv 0) (pa_nil))))
      (pss_cons (ps_expr (pe_call G_check_worths hr rfl T.m_check_worths T.F_check_worths.kp T.b_check_worths .nil pass0 (pa_cons (pv 1) (pa_nil))))
      (pss_one (ps_ret (pe_call G_outcome_of_rows hr rfl T.m_outcome_of_rows T.F_outcome_of_rows.kp T.b_outcome_of_rows .nil pass0 (pa_cons (pv 0) (pa_cons (pv 1) (pa_nil))))))))

theorem ok_text_of {P : Program} {w : World} {K : PySem.W.Frag} {mg : Str → Option Value} {base : Heap} (T : Tx P K mg w) {k : Nat} {sp_text_of sp : Sp} (G_text_of : FnOk P w K mg base CX0 (k) T.f_text_of T.d_text_of ["condition", "least"] sp_text_of)
    (len : ∀ vs H Q E, sp vs H Q E → vs.length = 2)
    (pure : ∀ vs H Q E, sp vs H Q E → t_text_of K w T.a_SIGNS T.a_BINDS sp_text_of (Ends.mk (fun _ H' => Q .non H') Q (fun _ _ => False) (fun _ _ => False)) (start ["condition", "least", "word", "sign", "binds", "text"] vs) H) :
    FnOk P w K mg base CX0 (k + 1) T.f_text_of T.d_text_of ["condition", "least"] sp := by
  refine T.F_text_of.ok sc_text_of len (fun cdv A outer s H vs Q E hr h => ⟨t_text_of K w T.a_SIGNS T.a_BINDS sp_text_of, ?_, pure vs H Q E h⟩)
  exact (pss_cons (ps_set (i := 2) sc_text_of.nd rfl (by first | exact Or.inl rfl | exact Or.inr rfl) (pe_ix ix_tup (pv 0) (pe_int) (fun _ _ => rfl)))
      (pss_cons (ps_if (pt_cmpR op_eq (pv 2) (pe_str) (nomark _)) (pss_one (ps_ret (pe_ix ix_str (pe_glob rfl T.c_LETTERS ⟨_, rfl⟩) (pe_ix ix_tup (pv 0) (pe_int) (fun _ _ => rfl)) (fun _ _ => rfl)))) (pss_nil))
      (pss_cons (ps_set (i := 3) sc_text_of.nd rfl (by first | exact Or.inl rfl | exact Or.inr rfl) (pe_ix ix_kdict (pe_glob rfl T.c_SIGNS rfl) (pv 2) (fun _ _ => rfl)))
      (pss_cons (ps_set (i := 4) sc_text_of.nd rfl (by first | exact Or.inl rfl | exact Or.inr rfl) (pe_ix ix_kdict (pe_glob rfl T.c_BINDS rfl) (pv 3) (fun _ _ => rfl)))
      (pss_cons (ps_if (pt_cmpR op_eq (pv 2) (pe_str) (nomark _)) (pss_one (ps_set (i := 5) sc_text_of.nd rfl (by first | exact Or.inl rfl | exact Or.inr rfl) (pe_op op_add_str (pv 3) (pe_call G_text_of hr rfl T.m_text_of T.F_text_of.kp T.b_text_of .nil pass0 (pa_cons (pe_ix ix_tup (pv 0) (pe_int) (fun _ _ => rfl)) (pa_cons (pv 4) (pa_nil))))))) (pss_one (ps_set (i := 5) sc_text_of.nd rfl (by first | exact Or.inl rfl | exact Or.inr rfl) (pe_op op_add_str (pe_op op_add_str (pe_call G_text_of hr rfl T.m_text_of T.F_text_of.kp T.b_text_of .nil pass0 (pa_cons (pe_ix ix_tup (pv 0) (pe_int) (fun _ _ => rfl)) (pa_cons (pv 4) (pa_nil)))) (pv 3)) (pe_call G_text_of hr rfl T.m_text_of T.F_text_of.kp T.b_text_of .nil pass0 (pa_cons (pe_ix ix_tup (pv 0) (pe_int) (fun _ _ => rfl)) (pa_cons (pe_op op_add (pv 4) (pe_int)) (pa_nil))))))))
      (pss_cons (ps_if (pt_cmpR op_lt (pv 4) (pv 1) (nomark _)) (pss_one (ps_ret (pe_joined (.cons (pe_str) (.cons (pe_fmt (pv 5)) (.cons (pe_str) (.nil))))))) (pss_nil))
      (pss_one (ps_ret (pv 5)))))))))

theorem ok_times_of {P : Program} {w : World} {K : PySem.W.Frag} {mg : Str → Option Value} {base : Heap} (T : Tx P K mg w) {k : Nat} { sp : Sp} 
    (len : ∀ vs H Q E, sp vs H Q E → vs.length = 2)
    (pure : ∀ vs H Q E, sp vs H Q E → t_times_of K w (Ends.mk (fun _ H' => Q .non H') Q (fun _ _ => False) (fun _ _ => False)) (start ["worths", "chances", "times", "worth", "chance"] vs) H) :
    FnOk P w K mg base CX0 (k + 1) T.f_times_of T.d_times_of ["worths", "chances"] sp := by
  refine T.F_times_of.ok sc_times_of len (fun cdv A outer s H vs Q E hr h => ⟨t_times_of K w, ?_, pure vs H Q E h⟩)
  exact (pss_cons (ps_set (i := 2) sc_times_of.nd rfl (by first | exact Or.inl rfl | exact Or.inr rfl) (pe_int))
      (pss_cons (ps_for PassesOwn.never rfl (RZ.pi_zipA (by rfl) T.n_zip (pa_cons (pv 0) (pa_cons (pv 1) (pa_nil)))) (pg_tup rfl (pgs_cons (pg_name (i := 3) sc_times_of.nd rfl (by first | exact Or.inl rfl | exact Or.inr rfl)) (pgs_cons (pg_name (i := 4) sc_times_of.nd rfl (by first | exact Or.inl rfl | exact Or.inr rfl)) (pgs_nil)))) (pss_one (ps_aug (i := 2) sc_times_of.nd rfl (by first | exact Or.inl rfl | exact Or.inr rfl) (pe_ifExp (pt_cmpR op_eq (pv 3) (pe_int) (nomark _)) (pv 4) (pe_op op_sub (pe_glob rfl T.c_HUNDRED ⟨_, rfl⟩) (pv 4))) iop_mul)))
      (pss_one (ps_ret (pv 2)))))

theorem ok_turned {P : Program} {w : World} {K : PySem.W.Frag} {mg : Str → Option Value} {base : Heap} (T : Tx P K mg w) {k : Nat} {sp_check_condition sp_count_pairs sp_are_bits sp_with_turns sp : Sp} (G_check_condition : FnOk P w K mg base CX0 (k) T.f_check_condition T.d_check_condition ["condition"] sp_check_condition) (G_count_pairs : FnOk P w K mg base CX0 (k) T.f_count_pairs T.d_count_pairs ["condition"] sp_count_pairs) (G_are_bits : FnOk P w K mg base CX0 (k) T.f_are_bits T.d_are_bits ["values", "many"] sp_are_bits) (G_with_turns : FnOk P w K mg base CX0 (k) T.f_with_turns T.d_with_turns ["condition", "turns"] sp_with_turns)
    (len : ∀ vs H Q E, sp vs H Q E → vs.length = 2)
    (pure : ∀ vs H Q E, sp vs H Q E → t_turned K w sp_check_condition sp_count_pairs sp_are_bits sp_with_turns (Ends.mk (fun _ H' => Q .non H') Q (fun _ _ => False) (fun _ _ => False)) (start ["condition", "turns"] vs) H) :
    FnOk P w K mg base CX0 (k + 1) T.f_turned T.d_turned ["condition", "turns"] sp := by
  refine T.F_turned.ok sc_turned len (fun cdv A outer s H vs Q E hr h => ⟨t_turned K w sp_check_condition sp_count_pairs sp_are_bits sp_with_turns, ?_, pure vs H Q E h⟩)
  exact (pss_cons (ps_expr (pe_call G_check_condition hr rfl T.m_check_condition T.F_check_condition.kp T.b_check_condition .nil pass0 (pa_cons (pv 0) (pa_nil))))
      (pss_cons (ps_if (pt_not (pt_val (pe_call G_are_bits hr rfl T.m_are_bits T.F_are_bits.kp T.b_are_bits .nil pass0 (pa_cons (pv 1) (pa_cons (pe_call G_count_pairs hr rfl T.m_count_pairs T.F_count_pairs.kp T.b_count_pairs .nil pass0 (pa_cons (pv 0) (pa_nil))) (pa_nil)))))) (pss_never) (pss_nil))
      (pss_one (ps_ret (pe_call G_with_turns hr rfl T.m_with_turns T.F_with_turns.kp T.b_with_turns .nil pass0 (pa_cons (pv 0) (pa_cons (pv 1) (pa_nil))))))))

theorem ok_with_turns {P : Program} {w : World} {K : PySem.W.Frag} {mg : Str → Option Value} {base : Heap} (T : Tx P K mg w) {k : Nat} {sp_with_turns sp_count_pairs sp : Sp} (G_with_turns : FnOk P w K mg base CX0 (k) T.f_with_turns T.d_with_turns ["condition", "turns"] sp_with_turns) (G_count_pairs : FnOk P w K mg base CX0 (k) T.f_count_pairs T.d_count_pairs ["condition"] sp_count_pairs)
    (len : ∀ vs H Q E, sp vs H Q E → vs.length = 2)
    (pure : ∀ vs H Q E, sp vs H Q E → t_with_turns K w sp_with_turns sp_count_pairs (Ends.mk (fun _ H' => Q .non H') Q (fun _ _ => False) (fun _ _ => False)) (start ["condition", "turns", "word", "middle", "one", "other"] vs) H) :
    FnOk P w K mg base CX0 (k + 1) T.f_with_turns T.d_with_turns ["condition", "turns"] sp := by
  refine T.F_with_turns.ok sc_with_turns len (fun cdv A outer s H vs Q E hr h => ⟨t_with_turns K w sp_with_turns sp_count_pairs, ?_, pure vs H Q E h⟩)
  exact (pss_cons (ps_set (i := 2) sc_with_turns.nd rfl (by first | exact Or.inl rfl | exact Or.inr rfl) (pe_ix ix_tup (pv 0) (pe_int) (fun _ _ => rfl)))
      (pss_cons (ps_if (pt_cmpR op_eq (pv 2) (pe_str) (nomark _)) (pss_one (ps_ret (pe_tup (pa_cons (pe_str) (pa_cons (pe_ix ix_tup (pv 0) (pe_int) (fun _ _ => rfl)) (pa_nil)))))) (pss_nil))
      (pss_cons (ps_if (pt_cmpR op_eq (pv 2) (pe_str) (nomark _)) (pss_one (ps_ret (pe_tup (pa_cons (pe_str) (pa_cons (pe_call G_with_turns hr rfl T.m_with_turns T.F_with_turns.kp T.b_with_turns .nil pass0 (pa_cons (pe_ix ix_tup (pv 0) (pe_int) (fun _ _ => rfl)) (pa_cons (pv 1) (pa_nil)))) (pa_nil)))))) (pss_nil))
      (pss_cons (ps_set (i := 3) sc_with_turns.nd rfl (by first | exact Or.inl rfl | exact Or.inr rfl) (pe_op op_add (pe_int) (pe_call G_count_pairs hr rfl T.m_count_pairs T.F_count_pairs.kp T.b_count_pairs .nil pass0 (pa_cons (pe_ix ix_tup (pv 0) (pe_int) (fun _ _ => rfl)) (pa_nil)))))
      (pss_cons (ps_set (i := 4) sc_with_turns.nd rfl (by first | exact Or.inl rfl | exact Or.inr rfl) (pe_call G_with_turns hr rfl T.m_with_turns T.F_with_turns.kp T.b_with_turns .nil pass0 (pa_cons (pe_ix ix_tup (pv 0) (pe_int) (fun _ _ => rfl)) (pa_cons (pe_slice sl_list (pv 1) (po_some (pe_int)) (po_some (pv 3))) (pa_nil)))))
      (pss_cons (ps_set (i := 5) sc_with_turns.nd rfl (by first | exact Or.inl rfl | exact Or.inr rfl) (pe_call G_with_turns hr rfl T.m_with_turns T.F_with_turns.kp T.b_with_turns .nil pass0 (pa_cons (pe_ix ix_tup (pv 0) (pe_int) (fun _ _ => rfl)) (pa_cons (pe_slice sl_list (pv 1) (po_some (pv 3)) (po_none)) (pa_nil)))))
      (pss_cons (ps_if (pt_cmpR op_eq (pe_ix ix_list (pv 1) (pe_int) (fun _ _ => rfl)) (pe_int) (nomark _)) (pss_one (ps_ret (pe_tup (pa_cons (pv 2) (pa_cons (pv 5) (pa_cons (pv 4) (pa_nil))))))) (pss_nil))
      (pss_one (ps_ret (pe_tup (pa_cons (pv 2) (pa_cons (pv 4) (pa_cons (pv 5) (pa_nil))))))))))))))

theorem ok_written {P : Program} {w : World} {K : PySem.W.Frag} {mg : Str → Option Value} {base : Heap} (T : Tx P K mg w) {k : Nat} {sp_check_condition sp_text_of sp : Sp} (G_check_condition : FnOk P w K mg base CX0 (k) T.f_check_condition T.d_check_condition ["condition"] sp_check_condition) (G_text_of : FnOk P w K mg base CX0 (k) T.f_text_of T.d_text_of ["condition", "least"] sp_text_of)
    (len : ∀ vs H Q E, sp vs H Q E → vs.length = 1)
    (pure : ∀ vs H Q E, sp vs H Q E → t_written K w T.a_BINDS sp_check_condition sp_text_of (Ends.mk (fun _ H' => Q .non H') Q (fun _ _ => False) (fun _ _ => False)) (start ["condition"] vs) H) :
    FnOk P w K mg base CX0 (k + 1) T.f_written T.d_written ["condition"] sp := by
  refine T.F_written.ok sc_written len (fun cdv A outer s H vs Q E hr h => ⟨t_written K w T.a_BINDS sp_check_condition sp_text_of, ?_, pure vs H Q E h⟩)
  exact (pss_cons (ps_expr (pe_call G_check_condition hr rfl T.m_check_condition T.F_check_condition.kp T.b_check_condition .nil pass0 (pa_cons (pv 0) (pa_nil))))
      (pss_one (ps_ret (pe_call G_text_of hr rfl T.m_text_of T.F_text_of.kp T.b_text_of .nil pass0 (pa_cons (pv 0) (pa_cons (pe_ix ix_kdict (pe_glob rfl T.c_BINDS rfl) (pe_str) (fun _ _ => rfl)) (pa_nil)))))))

/-! the defs keep their promises -/
theorem fn_no {P : Program} {w : World} {K : PySem.W.Frag} {mg : Str → Option Value} {base : Heap} {CX : CXT} {f : Addr} {fd : FuncData} {ps : List Str} {sp : Sp} {k : Nat} (no : ∀ vs H Q E, ¬ sp vs H Q E) : FnOk P w K mg base CX k f fd ps sp :=
  ⟨fun vs H Q E h => absurd h (no vs H Q E), fun A outer s H args us vs Q E _ _ _ _ h => absurd h (no vs H Q E)⟩
theorem fn_or {P : Program} {w : World} {K : PySem.W.Frag} {mg : Str → Option Value} {base : Heap} {f : Addr} {fd : FuncData} {ps : List Str} {sp sa sb : Sp} {k : Nat} (h : ∀ vs H Q E, sp vs H Q E → sa vs H Q E ∨ sb vs H Q E) (ha : FnOk P w K mg base CX0 k f fd ps sa) (hb : FnOk P w K mg base CX0 k f fd ps sb) : FnOk P w K mg base CX0 k f fd ps sp :=
  ⟨fun vs H Q E z => (h vs H Q E z).elim (ha.len vs H Q E) (hb.len vs H Q E), fun A outer s H args us vs Q E r e b v z => (h vs H Q E z).elim (ha.run A outer s H args us vs Q E r e b v) (hb.run A outer s H args us vs Q E r e b v)⟩
section
variable {P : Program} {w : World} {K : PySem.W.Frag} {mg : Str → Option Value} {base : Heap}
theorem hb_of {aB : Addr} (n : KDct K w aB "!" (.int 3)) (a : KDct K w aB "&" (.int 2)) (o : KDct K w aB "|" (.int 1)) (p : KDct K w aB "(" (.int 0)) : ∀ o : Op, KDct K w aB (S [o.code]) (.int (o.bnd : Int))
  | .no => n
  | .bi true => a
  | .bi false => o
  | .par => p
theorem hw_of {aW : Addr} (a : KDct K w aW "&" (.str "and")) (o : KDct K w aW "|" (.str "or")) : ∀ x, KDct K w aW (S [sg x]) (.str (wd x))
  | true => a
  | false => o
theorem fn_begun (T : Tx P K mg w) : FnOk P w K mg base CX0 1 T.f_law_begun T.d_law_begun ["_law_script"] (spBegun K) := ok_law_begun T (k := 0)  (by tm_at "lnz") pure_begun
theorem fn_take (T : Tx P K mg w) : FnOk P w K mg base CX0 1 T.f_law_take T.d_law_take ["_law_box", "_law_many"] (spTake) := ok_law_take T (k := 0)  (by tm_at "lnz") pure_take
theorem no_pb {x : Nat} {vs : List V} {H : Hp} {Q : VK} {E : XK} : ¬ spPB x 0 vs H Q E := fun ⟨_, _, _, _, _, _, _, _, _, h1, h2, _⟩ => by omega
theorem fn_pb (T : Tx P K mg w) : ∀ n : Nat, FnOk P w K mg base CX0 (2 * n + 1) T.f_law_bare T.d_law_bare ["_law_box", "_law_many", "_law_things"] (spPB 2 n) ∧ FnOk P w K mg base CX0 (2 * n + 2) T.f_law_part T.d_law_part ["_law_box", "_law_many", "_law_things"] (spPB 1 n)
  | 0 => ⟨fn_no fun _ _ _ _ => no_pb, fn_no fun _ _ _ _ => no_pb⟩
  | n + 1 => by
    have ih := fn_pb T n
    have hb : FnOk P w K mg base CX0 (2 * n + 2 + 1) T.f_law_bare T.d_law_bare ["_law_box", "_law_many", "_law_things"] (spPB 2 (n + 1)) := ok_law_bare T ((fn_take T).mono (by omega)) ih.2 (by tm_at "lnz") pure_bare
    exact ⟨hb, ok_law_part T ((fn_take T).mono (by omega)) hb (by tm_at "lnz") pure_part⟩
theorem fn_deep (T : Tx P K mg w) : ∀ n : Nat, FnOk P w K mg base CX0 (n) T.f_law_deep T.d_law_deep ["_law_part_here"] (spDeep n)
  | 0 => fn_no (by intro vs H Q E h; simp only [spDeep, Nat.not_lt_zero, false_and, and_false, exists_false, exists_const] at h)
  | n + 1 => ok_law_deep T (fn_deep T n) (by tm_at "lnz") pure_deep
theorem fn_cond (T : Tx P K mg w) : FnOk P w K mg base CX0 70 T.f_law_condition T.d_law_condition ["_law_box", "_law_most"] (spCond) := ok_law_condition T (k := 69) ((fn_take T).mono (by omega)) ((fn_pb T 20).2.mono (by omega)) ((fn_deep T 60).mono (by omega)) (by tm_at "lnz") pure_condition
theorem fn_pairs (T : Tx P K mg w) : ∀ n : Nat, FnOk P w K mg base CX0 (n) T.f_law_pairs T.d_law_pairs ["_law_part_here"] (spPairs n)
  | 0 => fn_no (by intro vs H Q E h; simp only [spPairs, Nat.not_lt_zero, false_and, and_false, exists_false, exists_const] at h)
  | n + 1 => ok_law_pairs T (fn_pairs T n) (by tm_at "lnz") pure_pairs
theorem fn_num (T : Tx P K mg w) : FnOk P w K mg base CX0 1 T.f_is_number_up_to T.d_is_number_up_to ["value", "most"] (spNum) := ok_is_number_up_to T (k := 0)  (by tm_at "lnz") pure_num
theorem fn_form (T : Tx P K mg w) : FnOk P w K mg base CX0 2 T.f_has_form T.d_has_form ["condition"] (spForm) := ok_has_form T (k := 1) ((fn_num T).mono (by omega)) (by tm_at "lnz") pure_form
theorem fn_count (T : Tx P K mg w) : ∀ n : Nat, FnOk P w K mg base CX0 (n + 3) T.f_count_looks T.d_count_looks ["condition", "around"] (spCount n)
  | 0 => fn_no (by intro vs H Q E h; simp only [spCount, Nat.not_lt_zero, false_and, and_false, exists_false, exists_const] at h)
  | n + 1 => ok_count_looks T ((fn_form T).mono (by omega)) (fn_count T n) (by tm_at "lnz") pure_count
theorem fn_check (T : Tx P K mg w) : FnOk P w K mg base CX0 16 T.f_check_condition T.d_check_condition ["condition"] (spCheck) := ok_check_condition T (k := 15) ((fn_count T 11).mono (by omega)) (by tm_at "lnz") pure_check
theorem fn_cpairs (T : Tx P K mg w) : ∀ n : Nat, FnOk P w K mg base CX0 (n) T.f_count_pairs T.d_count_pairs ["condition"] (spPairs n)
  | 0 => fn_no (by intro vs H Q E h; simp only [spPairs, Nat.not_lt_zero, false_and, and_false, exists_false, exists_const] at h)
  | n + 1 => ok_count_pairs T (fn_cpairs T n) (by tm_at "lnz") pure_cpairs
theorem fn_numsT (T : Tx P K mg w) : FnOk P w K mg base CX0 2 T.f_are_numbers_up_to T.d_are_numbers_up_to ["values", "many", "most"] (spNumsT K) := ok_are_numbers_up_to_T T (k := 1) ((fn_num T).mono (by omega)) (by tm_at "lnz") pure_nums_T
theorem fn_numsL (T : Tx P K mg w) : FnOk P w K mg base CX0 2 T.f_are_numbers_up_to T.d_are_numbers_up_to ["values", "many", "most"] (spNumsL K) := ok_are_numbers_up_to_L T (k := 1) ((fn_num T).mono (by omega)) (by tm_at "lnz") pure_nums_L
theorem fn_bitsT (T : Tx P K mg w) : FnOk P w K mg base CX0 3 T.f_are_bits T.d_are_bits ["values", "many"] (spBitsT K) := ok_are_bits T (fn_numsT T) (by tm_at "lnz") pure_bits_T
theorem fn_bitsL (T : Tx P K mg w) : FnOk P w K mg base CX0 3 T.f_are_bits T.d_are_bits ["values", "many"] (spBitsL K) := ok_are_bits T (fn_numsL T) (by tm_at "lnz") pure_bits_L
theorem fn_wturns (T : Tx P K mg w) : ∀ n : Nat, FnOk P w K mg base CX0 (n + 31) T.f_with_turns T.d_with_turns ["condition", "turns"] (spExch K n)
  | 0 => fn_no (by intro vs H Q E h; simp only [spExch, Nat.not_lt_zero, false_and, and_false, exists_false, exists_const] at h)
  | n + 1 => ok_with_turns T (fn_wturns T n) ((fn_cpairs T 30).mono (by omega)) (by tm_at "lnz") pure_wturns
theorem fn_turned (T : Tx P K mg w) : FnOk P w K mg base CX0 60 T.f_turned T.d_turned ["condition", "turns"] (spTurned K) := ok_turned T (k := 59) ((fn_check T).mono (by omega)) ((fn_cpairs T 30).mono (by omega)) ((fn_bitsL T).mono (by omega)) ((fn_wturns T 20).mono (by omega)) (by tm_at "lnz") pure_turned
theorem fn_chances (T : Tx P K mg w) : FnOk P w K mg base CX0 3 T.f_check_chances T.d_check_chances ["chances"] (spChances) := ok_check_chances T (k := 2) ((fn_numsT T).mono (by omega)) (by tm_at "lnz") pure_chances
theorem fn_bitsall (T : Tx P K mg w) : FnOk P w K mg base CX0 1 T.f_all_bits T.d_all_bits ["many"] (spAllBits) := ok_all_bits T (k := 0)  (by tm_at "lnz") pure_allbits
theorem fn_times (T : Tx P K mg w) : FnOk P w K mg base CX0 1 T.f_times_of T.d_times_of ["worths", "chances"] (spTimesOf) := ok_times_of T (k := 0)  (by tm_at "lnz") pure_timesof
theorem fn_likely (T : Tx P K mg w) : FnOk P w K mg base CX0 3 T.f_likely_worths T.d_likely_worths ["chances"] (spLikely) := ok_likely_worths T (k := 2) ((fn_bitsall T).mono (by omega)) ((fn_times T).mono (by omega)) (by tm_at "lnz") pure_likely
theorem fn_out (T : Tx P K mg w) : ∀ n : Nat, FnOk P w K mg base CX0 (n) T.f_outcome T.d_outcome ["condition", "worths"] (spOut n)
  | 0 => fn_no (by intro vs H Q E h; simp only [spOut, Nat.not_lt_zero, false_and, and_false, exists_false, exists_const] at h)
  | n + 1 => ok_outcome T (fn_out T n) (by tm_at "lnz") (pure_outcome T.k_GOES_ON_0 T.k_GOES_ON_1)
theorem fn_looksall (T : Tx P K mg w) : FnOk P w K mg base CX0 13 T.f_looks_in_all T.d_looks_in_all ["condition", "likely"] (spLooksAll K) := ok_looks_in_all T (k := 12) ((fn_out T 11).mono (by omega)) (by tm_at "lnz") pure_looksall
theorem fn_looks (T : Tx P K mg w) : FnOk P w K mg base CX0 43 T.f_looks T.d_looks ["condition", "chances"] (spLooksP) := ok_looks T (k := 42) ((fn_check T).mono (by omega)) ((fn_chances T).mono (by omega)) ((fn_likely T).mono (by omega)) ((fn_looksall T).mono (by omega)) (by tm_at "lnz") pure_looksp
theorem fn_first (T : Tx P K mg w) : FnOk P w K mg base CX0 2 T.f_check_first T.d_check_first ["first"] (spFirst) := ok_check_first T (k := 1) ((fn_num T).mono (by omega)) (by tm_at "lnz") pure_first
theorem fn_lookrow (T : Tx P K mg w) : FnOk P w K mg base CX0 1 T.f_look_row T.d_look_row ["thing", "place", "dues"] (spLookRow) := ok_look_row T (k := 0)  (by tm_at "lnz") pure_lookrow
theorem fn_rowsof (T : Tx P K mg w) : ∀ n : Nat, FnOk P w K mg base CX0 (n + 20) T.f_rows_of T.d_rows_of ["condition", "start", "dues"] (spRowsOf n)
  | 0 => fn_no (by intro vs H Q E h; simp only [spRowsOf, Nat.not_lt_zero, false_and, and_false, exists_false, exists_const] at h)
  | n + 1 => ok_rows_of T ((fn_lookrow T).mono (by omega)) (fn_rowsof T n) ((fn_count T 11).mono (by omega)) (by tm_at "lnz") (pure_rowsof T.k_GOES_ON_0 T.k_GOES_ON_1)
theorem fn_codeof (T : Tx P K mg w) : FnOk P w K mg base CX0 40 T.f_code_of T.d_code_of ["condition", "first"] (spCodeOf) := ok_code_of T (k := 39) ((fn_count T 11).mono (by omega)) ((fn_rowsof T 11).mono (by omega)) (by tm_at "lnz") pure_codeof
theorem fn_coded (T : Tx P K mg w) : FnOk P w K mg base CX0 41 T.f_coded T.d_coded ["condition", "first"] (spCoded) := ok_coded T (k := 40) ((fn_check T).mono (by omega)) ((fn_first T).mono (by omega)) ((fn_codeof T).mono (by omega)) (by tm_at "lnz") pure_coded
theorem fn_islook (T : Tx P K mg w) : FnOk P w K mg base CX0 2 T.f_is_look T.d_is_look ["row", "place", "last"] (spIsLook) := ok_is_look T (k := 1) ((fn_num T).mono (by omega)) (by tm_at "lnz") pure_islook
theorem fn_isend (T : Tx P K mg w) : FnOk P w K mg base CX0 2 T.f_is_end T.d_is_end ["row"] (spIsEnd) := ok_is_end T (k := 1) ((fn_num T).mono (by omega)) (by tm_at "lnz") pure_isend
theorem fn_canbe (T : Tx P K mg w) : FnOk P w K mg base CX0 4 T.f_can_be T.d_can_be ["rows", "place"] (spCanBe K) := ok_can_be T (k := 3) ((fn_islook T).mono (by omega)) ((fn_isend T).mono (by omega)) (by tm_at "lnz") pure_canbe
theorem fn_ccode (T : Tx P K mg w) : FnOk P w K mg base CX0 5 T.f_check_code T.d_check_code ["rows"] (spCheckCode K) := ok_check_code T (k := 4) ((fn_canbe T).mono (by omega)) (by tm_at "lnz") pure_ccode
theorem fn_worths (T : Tx P K mg w) : FnOk P w K mg base CX0 4 T.f_check_worths T.d_check_worths ["worths"] (spWorths) := ok_check_worths T (k := 3) ((fn_bitsT T).mono (by omega)) (by tm_at "lnz") pure_worths
theorem fn_orows (T : Tx P K mg w) : FnOk P w K mg base CX0 1 T.f_outcome_of_rows T.d_outcome_of_rows ["rows", "worths"] (spRun K) := ok_outcome_of_rows T (k := 0)  (by tm_at "lnz") pure_orows
theorem fn_run (T : Tx P K mg w) : FnOk P w K mg base CX0 12 T.f_run T.d_run ["rows", "worths"] (spRunP K) := ok_run T (k := 11) ((fn_ccode T).mono (by omega)) ((fn_worths T).mono (by omega)) ((fn_orows T).mono (by omega)) (by tm_at "lnz") pure_runp
theorem fn_meant (T : Tx P K mg w) : FnOk P w K mg base CX0 17 T.f_meant T.d_meant ["condition", "worths"] (spMeant) := ok_meant T (k := 16) ((fn_check T).mono (by omega)) ((fn_worths T).mono (by omega)) ((fn_out T 11).mono (by omega)) (by tm_at "lnz") pure_meant
theorem fn_textof (T : Tx P K mg w) : ∀ n : Nat, FnOk P w K mg base CX0 (n) T.f_text_of T.d_text_of ["condition", "least"] (spTextOf n)
  | 0 => fn_no (by intro vs H Q E h; simp only [spTextOf, Nat.not_lt_zero, false_and, and_false, exists_false, exists_const] at h)
  | n + 1 => ok_text_of T (fn_textof T n) (by tm_at "lnz") (pure_textof T.k_SIGNS_0 T.k_SIGNS_1 T.k_SIGNS_2 T.k_BINDS_0 T.k_BINDS_1 T.k_BINDS_2 T.k_BINDS_3)
theorem fn_written (T : Tx P K mg w) : FnOk P w K mg base CX0 31 T.f_written T.d_written ["condition"] (spWritten) := ok_written T (k := 30) ((fn_check T).mono (by omega)) ((fn_textof T 11).mono (by omega)) (by tm_at "lnz") (pure_written T.k_BINDS_2)
theorem fn_stand (T : Tx P K mg w) : FnOk P w K mg base CX0 1 T.f_may_stand T.d_may_stand ["sign", "due", "unclosed"] (spStand) := ok_may_stand T (k := 0)  (by tm_at "lnz") (pure_stand T.i_WORDS_0 T.i_WORDS_1)
theorem fn_signs (T : Tx P K mg w) : FnOk P w K mg base CX0 3 T.f_check_signs T.d_check_signs ["text"] (spSigns) := ok_check_signs T (k := 2) ((fn_stand T).mono (by omega)) (by tm_at "lnz") pure_signs
theorem fn_join (T : Tx P K mg w) : FnOk P w K mg base CX0 1 T.f_join_waiting T.d_join_waiting ["done", "waiting", "least"] (spJoin 60000) := ok_join_waiting T (k := 0)  (by tm_at "lnz") (pure_join (hb_of T.k_BINDS_0 T.k_BINDS_1 T.k_BINDS_2 T.k_BINDS_3) (hw_of T.k_WORDS_0 T.k_WORDS_1))
theorem fn_condof (T : Tx P K mg w) : FnOk P w K mg base CX0 3 T.f_condition_of T.d_condition_of ["text"] (spCondOf) := ok_condition_of T (k := 2) ((fn_join T).mono (by omega)) (by tm_at "lnz") (pure_condof (hb_of T.k_BINDS_0 T.k_BINDS_1 T.k_BINDS_2 T.k_BINDS_3) T.i_WORDS_0 T.i_WORDS_1 T.i_WORDS_2 T.i_WORDS_3)
theorem fn_read (T : Tx P K mg w) : FnOk P w K mg base CX0 31 T.f_read T.d_read ["text"] (spRead) := ok_read T (k := 30) ((fn_signs T).mono (by omega)) ((fn_condof T).mono (by omega)) ((fn_check T).mono (by omega)) (by tm_at "lnz") pure_read
theorem fn_parting2 (T : Tx P K mg w) : FnOk P w K mg base CX0 30 T.f_parting T.d_parting ["one", "other"] (spParting2) := ok_parting T (k := 29) ((fn_check T).mono (by omega)) ((fn_bitsall T).mono (by omega)) ((fn_out T 11).mono (by omega)) (by tm_at "lnz") pure_parting2
theorem fn_parting (T : Tx P K mg w) : FnOk P w K mg base CX0 30 T.f_parting T.d_parting ["one", "other"] (spParting) := ok_parting T (k := 29) ((fn_check T).mono (by omega)) ((fn_bitsall T).mono (by omega)) ((fn_out T 11).mono (by omega)) (by tm_at "lnz") pure_parting
theorem fn_palike (T : Tx P K mg w) : FnOk P w K mg base CX0 31 T.f_alike T.d_alike ["one", "other"] (spAlikeP) := ok_alike T (k := 30) ((fn_parting T).mono (by omega)) (by tm_at "lnz") pure_palike
theorem fn_jumpsall (T : Tx P K mg w) : FnOk P w K mg base CX0 42 T.f_jumps_in_all T.d_jumps_in_all ["condition", "first", "likely"] (spJumpsAll K) := ok_jumps_in_all T (k := 41) ((fn_codeof T).mono (by omega)) ((fn_orows T).mono (by omega)) (by tm_at "lnz") pure_jumpsall
theorem fn_jumps (T : Tx P K mg w) : FnOk P w K mg base CX0 44 T.f_jumps T.d_jumps ["condition", "first", "chances"] (spJumpsP) := ok_jumps T (k := 43) ((fn_check T).mono (by omega)) ((fn_first T).mono (by omega)) ((fn_chances T).mono (by omega)) ((fn_likely T).mono (by omega)) ((fn_jumpsall T).mono (by omega)) (by tm_at "lnz") pure_jumpsp
theorem fn_cfew (T : Tx P K mg w) : FnOk P w K mg base CX0 45 T.f_check_for_fewest T.d_check_for_fewest ["condition", "chances"] (spCFew) := ok_check_for_fewest T (k := 44) ((fn_check T).mono (by omega)) ((fn_chances T).mono (by omega)) ((fn_cpairs T 30).mono (by omega)) (by tm_at "lnz") pure_cfew
theorem fn_turnsall (T : Tx P K mg w) : FnOk P w K mg base CX0 40 T.f_all_turns T.d_all_turns ["condition"] (spAllTurns) := ok_all_turns T (k := 39) ((fn_cpairs T 30).mono (by omega)) ((fn_bitsall T).mono (by omega)) (by tm_at "lnz") pure_allturns
theorem fn_fjumps (T : Tx P K mg w) : FnOk P w K mg base CX0 60 T.f_fewest_jumps T.d_fewest_jumps ["condition", "chances"] (spFJ) := ok_fewest_jumps T (k := 59) ((fn_cfew T).mono (by omega)) ((fn_likely T).mono (by omega)) ((fn_turnsall T).mono (by omega)) ((fn_wturns T 20).mono (by omega)) ((fn_jumpsall T).mono (by omega)) (by tm_at "lnz") pure_fj
theorem fn_flooks (T : Tx P K mg w) : FnOk P w K mg base CX0 60 T.f_fewest_looks T.d_fewest_looks ["condition", "chances"] (spFL) := ok_fewest_looks T (k := 59) ((fn_cfew T).mono (by omega)) ((fn_likely T).mono (by omega)) ((fn_turnsall T).mono (by omega)) ((fn_wturns T 20).mono (by omega)) ((fn_looksall T).mono (by omega)) (by tm_at "lnz") pure_fl
theorem fn_told (T : Tx P K mg w) : FnOk P w K mg base CX0 80 T.f_law_told T.d_law_told ["_law_case"] (spT13 K) := ok_law_told T (k := 79) ((fn_pairs T 30).mono (by omega)) ((fn_turned T).mono (by omega)) ((fn_looks T).mono (by omega)) ((fn_coded T).mono (by omega)) ((fn_run T).mono (by omega)) ((fn_meant T).mono (by omega)) ((fn_written T).mono (by omega)) ((fn_read T).mono (by omega)) ((fn_palike T).mono (by omega)) ((fn_parting2 T).mono (by omega)) ((fn_jumps T).mono (by omega)) ((fn_fjumps T).mono (by omega)) ((fn_flooks T).mono (by omega)) (by tm_at "lnz") pure_told
theorem fn_kept (T : Tx P K mg w) : ∀ n : Nat, FnOk P w K mg base CX0 n T.f_law_kept T.d_law_kept ["_law_found"] (spKept n)
  | 0 => fn_no (fun vs H Q E h => no_kept h)
  | n + 1 => by
    have hT : FnOk P w K mg base CX0 (n + 1) T.f_law_kept T.d_law_kept ["_law_found"] (spKeptT n) := ok_law_kept_T T (fn_kept T n) (by tm_at "lnz") pure_kept_T
    have hL : FnOk P w K mg base CX0 (n + 1) T.f_law_kept T.d_law_kept ["_law_found"] (spKeptL n) := ok_law_kept_L T (fn_kept T n) (by tm_at "lnz") pure_kept_L
    have hA : FnOk P w K mg base CX0 (n + 1) T.f_law_kept T.d_law_kept ["_law_found"] (spKeptA n) := ok_law_kept_A T (by tm_at "lnz") pure_kept_A
    exact fn_or kept_or (fn_or (fun _ _ _ _ h => h) hT hL) hA
theorem fn_spoil (T : Tx P K mg w) : ∀ n : Nat, FnOk P w K mg base CX0 n T.f_law_spoil T.d_law_spoil ["_law_found"] (spSpoil n)
  | 0 => fn_no (fun vs H Q E h => no_spoil h)
  | n + 1 => by
    have hT : FnOk P w K mg base CX0 (n + 1) T.f_law_spoil T.d_law_spoil ["_law_found"] (spSpoilT n) := ok_law_spoil_T T (fn_spoil T n) (by tm_at "lnz") pure_spoil_T
    have hL : FnOk P w K mg base CX0 (n + 1) T.f_law_spoil T.d_law_spoil ["_law_found"] (spSpoilL n) := ok_law_spoil_L T (fn_spoil T n) (by tm_at "lnz") pure_spoil_L
    have hA : FnOk P w K mg base CX0 (n + 1) T.f_law_spoil T.d_law_spoil ["_law_found"] (spSpoilA n) := ok_law_spoil_A T (by tm_at "lnz") pure_spoil_A
    exact fn_or spoil_or (fn_or (fun _ _ _ _ h => h) hT hL) hA
theorem main (T : Tx P K mg w) : FnOk P w K mg base CX0 200 T.f_law T.d_law ["_law_script"] (spLaw K) :=
  ok_law T (k := 199) ((fn_begun T).mono (by omega)) ((fn_cond T).mono (by omega)) ((fn_take T).mono (by omega)) ((fn_told T).mono (by omega)) ((fn_kept T 13).mono (by omega)) ((fn_spoil T 13).mono (by omega)) (by tm_at "lnz") pure_main
end

theorem all_mk {l : PySem.W.OpenLaw} {w : World} {K : PySem.W.Frag} {h : Heap} {mg : Str → Option Value} {fa : Addr} (X : K.In h) (G : h.Ns mainGlobals mg) (hfa : mg "law" = some (.ref fa))
    {f0 : Addr} {od0 an0 : Option Addr} {sl0 : Array (Option Value)} {oc0 kV0 dc0 pm0 cd0 ct0 : Value}
    {f1 : Addr} {od1 an1 : Option Addr} {sl1 : Array (Option Value)} {oc1 kV1 dc1 pm1 cd1 ct1 : Value}
    {f2 : Addr} {od2 an2 : Option Addr} {sl2 : Array (Option Value)} {oc2 kV2 dc2 pm2 cd2 ct2 : Value}
    {f3 : Addr} {od3 an3 : Option Addr} {sl3 : Array (Option Value)} {oc3 kV3 dc3 pm3 cd3 ct3 : Value}
    {f4 : Addr} {od4 an4 : Option Addr} {sl4 : Array (Option Value)} {oc4 kV4 dc4 pm4 cd4 ct4 : Value}
    {f5 : Addr} {od5 an5 : Option Addr} {sl5 : Array (Option Value)} {oc5 kV5 dc5 pm5 cd5 ct5 : Value}
    {f6 : Addr} {od6 an6 : Option Addr} {sl6 : Array (Option Value)} {oc6 kV6 dc6 pm6 cd6 ct6 : Value}
    {f7 : Addr} {od7 an7 : Option Addr} {sl7 : Array (Option Value)} {oc7 kV7 dc7 pm7 cd7 ct7 : Value}
    {f8 : Addr} {od8 an8 : Option Addr} {sl8 : Array (Option Value)} {oc8 kV8 dc8 pm8 cd8 ct8 : Value}
    {f9 : Addr} {od9 an9 : Option Addr} {sl9 : Array (Option Value)} {oc9 kV9 dc9 pm9 cd9 ct9 : Value}
    {f10 : Addr} {od10 an10 : Option Addr} {sl10 : Array (Option Value)} {oc10 kV10 dc10 pm10 cd10 ct10 : Value}
    {f11 : Addr} {od11 an11 : Option Addr} {sl11 : Array (Option Value)} {oc11 kV11 dc11 pm11 cd11 ct11 : Value}
    {f12 : Addr} {od12 an12 : Option Addr} {sl12 : Array (Option Value)} {oc12 kV12 dc12 pm12 cd12 ct12 : Value}
    {f13 : Addr} {od13 an13 : Option Addr} {sl13 : Array (Option Value)} {oc13 kV13 dc13 pm13 cd13 ct13 : Value}
    {f14 : Addr} {od14 an14 : Option Addr} {sl14 : Array (Option Value)} {oc14 kV14 dc14 pm14 cd14 ct14 : Value}
    {f15 : Addr} {od15 an15 : Option Addr} {sl15 : Array (Option Value)} {oc15 kV15 dc15 pm15 cd15 ct15 : Value}
    {f16 : Addr} {od16 an16 : Option Addr} {sl16 : Array (Option Value)} {oc16 kV16 dc16 pm16 cd16 ct16 : Value}
    {f17 : Addr} {od17 an17 : Option Addr} {sl17 : Array (Option Value)} {oc17 kV17 dc17 pm17 cd17 ct17 : Value}
    {f18 : Addr} {od18 an18 : Option Addr} {sl18 : Array (Option Value)} {oc18 kV18 dc18 pm18 cd18 ct18 : Value}
    {f19 : Addr} {od19 an19 : Option Addr} {sl19 : Array (Option Value)} {oc19 kV19 dc19 pm19 cd19 ct19 : Value}
    {f20 : Addr} {od20 an20 : Option Addr} {sl20 : Array (Option Value)} {oc20 kV20 dc20 pm20 cd20 ct20 : Value}
    {f21 : Addr} {od21 an21 : Option Addr} {sl21 : Array (Option Value)} {oc21 kV21 dc21 pm21 cd21 ct21 : Value}
    {f22 : Addr} {od22 an22 : Option Addr} {sl22 : Array (Option Value)} {oc22 kV22 dc22 pm22 cd22 ct22 : Value}
    {f23 : Addr} {od23 an23 : Option Addr} {sl23 : Array (Option Value)} {oc23 kV23 dc23 pm23 cd23 ct23 : Value}
    {f24 : Addr} {od24 an24 : Option Addr} {sl24 : Array (Option Value)} {oc24 kV24 dc24 pm24 cd24 ct24 : Value}
    {f25 : Addr} {od25 an25 : Option Addr} {sl25 : Array (Option Value)} {oc25 kV25 dc25 pm25 cd25 ct25 : Value}
    {f26 : Addr} {od26 an26 : Option Addr} {sl26 : Array (Option Value)} {oc26 kV26 dc26 pm26 cd26 ct26 : Value}
    {f27 : Addr} {od27 an27 : Option Addr} {sl27 : Array (Option Value)} {oc27 kV27 dc27 pm27 cd27 ct27 : Value}
    {f28 : Addr} {od28 an28 : Option Addr} {sl28 : Array (Option Value)} {oc28 kV28 dc28 pm28 cd28 ct28 : Value}
    {f29 : Addr} {od29 an29 : Option Addr} {sl29 : Array (Option Value)} {oc29 kV29 dc29 pm29 cd29 ct29 : Value}
    {f30 : Addr} {od30 an30 : Option Addr} {sl30 : Array (Option Value)} {oc30 kV30 dc30 pm30 cd30 ct30 : Value}
    {f31 : Addr} {od31 an31 : Option Addr} {sl31 : Array (Option Value)} {oc31 kV31 dc31 pm31 cd31 ct31 : Value}
    {f32 : Addr} {od32 an32 : Option Addr} {sl32 : Array (Option Value)} {oc32 kV32 dc32 pm32 cd32 ct32 : Value}
    {f33 : Addr} {od33 an33 : Option Addr} {sl33 : Array (Option Value)} {oc33 kV33 dc33 pm33 cd33 ct33 : Value}
    {f34 : Addr} {od34 an34 : Option Addr} {sl34 : Array (Option Value)} {oc34 kV34 dc34 pm34 cd34 ct34 : Value}
    {f35 : Addr} {od35 an35 : Option Addr} {sl35 : Array (Option Value)} {oc35 kV35 dc35 pm35 cd35 ct35 : Value}
    {f36 : Addr} {od36 an36 : Option Addr} {sl36 : Array (Option Value)} {oc36 kV36 dc36 pm36 cd36 ct36 : Value}
    {f37 : Addr} {od37 an37 : Option Addr} {sl37 : Array (Option Value)} {oc37 kV37 dc37 pm37 cd37 ct37 : Value}
    {f38 : Addr} {od38 an38 : Option Addr} {sl38 : Array (Option Value)} {oc38 kV38 dc38 pm38 cd38 ct38 : Value}
    {f39 : Addr} {od39 an39 : Option Addr} {sl39 : Array (Option Value)} {oc39 kV39 dc39 pm39 cd39 ct39 : Value}
    {f40 : Addr} {od40 an40 : Option Addr} {sl40 : Array (Option Value)} {oc40 kV40 dc40 pm40 cd40 ct40 : Value}
    {f41 : Addr} {od41 an41 : Option Addr} {sl41 : Array (Option Value)} {oc41 kV41 dc41 pm41 cd41 ct41 : Value}
    {f42 : Addr} {od42 an42 : Option Addr} {sl42 : Array (Option Value)} {oc42 kV42 dc42 pm42 cd42 ct42 : Value}
    {f43 : Addr} {od43 an43 : Option Addr} {sl43 : Array (Option Value)} {oc43 kV43 dc43 pm43 cd43 ct43 : Value}
    {f44 : Addr} {od44 an44 : Option Addr} {sl44 : Array (Option Value)} {oc44 kV44 dc44 pm44 cd44 ct44 : Value}
    {f45 : Addr} {od45 an45 : Option Addr} {sl45 : Array (Option Value)} {oc45 kV45 dc45 pm45 cd45 ct45 : Value}
    {f46 : Addr} {od46 an46 : Option Addr} {sl46 : Array (Option Value)} {oc46 kV46 dc46 pm46 cd46 ct46 : Value}
    {f47 : Addr} {od47 an47 : Option Addr} {sl47 : Array (Option Value)} {oc47 kV47 dc47 pm47 cd47 ct47 : Value}
    {f48 : Addr} {od48 an48 : Option Addr} {sl48 : Array (Option Value)} {oc48 kV48 dc48 pm48 cd48 ct48 : Value}
    {f49 : Addr} {od49 an49 : Option Addr} {sl49 : Array (Option Value)} {oc49 kV49 dc49 pm49 cd49 ct49 : Value}
    {f50 : Addr} {od50 an50 : Option Addr} {sl50 : Array (Option Value)} {oc50 kV50 dc50 pm50 cd50 ct50 : Value}
    {f51 : Addr} {od51 an51 : Option Addr} {sl51 : Array (Option Value)} {oc51 kV51 dc51 pm51 cd51 ct51 : Value}
    {f52 : Addr} {od52 an52 : Option Addr} {sl52 : Array (Option Value)} {oc52 kV52 dc52 pm52 cd52 ct52 : Value}
    {f53 : Addr} {od53 an53 : Option Addr} {sl53 : Array (Option Value)} {oc53 kV53 dc53 pm53 cd53 ct53 : Value}
    {f54 : Addr} {od54 an54 : Option Addr} {sl54 : Array (Option Value)} {oc54 kV54 dc54 pm54 cd54 ct54 : Value}
    {u_MOST_LOOKS : Tok}
    {u_MOST_AROUND : Tok}
    {u_THINGS : Tok}
    {a_GOES_ON : Addr}
    {es_GOES_ON : Array DictEntry} {en_GOES_ON : Nat}
    {t_GOES_ON_0 : Tok}
    {t_GOES_ON_1 : Tok}
    {u_MOST_ROWS : Tok}
    {u_HUNDRED : Tok}
    {u_MOST_PAIRS : Tok}
    {a_BINDS : Addr}
    {es_BINDS : Array DictEntry} {en_BINDS : Nat}
    {t_BINDS_0 : Tok}
    {t_BINDS_1 : Tok}
    {t_BINDS_2 : Tok}
    {t_BINDS_3 : Tok}
    {u_LETTERS : Tok}
    {a_SIGNS : Addr}
    {es_SIGNS : Array DictEntry} {en_SIGNS : Nat}
    {t_SIGNS_0 : Tok}
    {t_SIGNS_1 : Tok}
    {t_SIGNS_2 : Tok}
    {u_BEFORE_ONE : Tok}
    {u_BEGINNINGS : Tok}
    {a_WORDS : Addr}
    {es_WORDS : Array DictEntry} {en_WORDS : Nat}
    {t_WORDS_0 : Tok}
    {t_WORDS_1 : Tok}
    (a0 : PySem.W.nsIn K mainGlobals "turned" = some (some (.ref f0)))
    (l0 : K.lookup f0 = some ⟨oc0, od0, .func (PySem.W.fnOf "turned" "turned" (defArgs s_turned) (defBody s_turned) (defScope s_turned) .none kV0 dc0 pm0 an0 cd0 ct0), sl0⟩)
    (c0 : PySem.W.codeIn K cd0 "turned" = true)
    (k0 : PySem.W.keepIn K (.ref f0) = true)
    (a1 : PySem.W.nsIn K mainGlobals "check_condition" = some (some (.ref f1)))
    (l1 : K.lookup f1 = some ⟨oc1, od1, .func (PySem.W.fnOf "check_condition" "check_condition" (defArgs s_check_condition) (defBody s_check_condition) (defScope s_check_condition) .none kV1 dc1 pm1 an1 cd1 ct1), sl1⟩)
    (c1 : PySem.W.codeIn K cd1 "check_condition" = true)
    (k1 : PySem.W.keepIn K (.ref f1) = true)
    (a2 : PySem.W.nsIn K mainGlobals "count_looks" = some (some (.ref f2)))
    (l2 : K.lookup f2 = some ⟨oc2, od2, .func (PySem.W.fnOf "count_looks" "count_looks" (defArgs s_count_looks) (defBody s_count_looks) (defScope s_count_looks) .none kV2 dc2 pm2 an2 cd2 ct2), sl2⟩)
    (c2 : PySem.W.codeIn K cd2 "count_looks" = true)
    (k2 : PySem.W.keepIn K (.ref f2) = true)
    (a3 : PySem.W.nsIn K mainGlobals "has_form" = some (some (.ref f3)))
    (l3 : K.lookup f3 = some ⟨oc3, od3, .func (PySem.W.fnOf "has_form" "has_form" (defArgs s_has_form) (defBody s_has_form) (defScope s_has_form) .none kV3 dc3 pm3 an3 cd3 ct3), sl3⟩)
    (c3 : PySem.W.codeIn K cd3 "has_form" = true)
    (k3 : PySem.W.keepIn K (.ref f3) = true)
    (a4 : PySem.W.nsIn K mainGlobals "is_number_up_to" = some (some (.ref f4)))
    (l4 : K.lookup f4 = some ⟨oc4, od4, .func (PySem.W.fnOf "is_number_up_to" "is_number_up_to" (defArgs s_is_number_up_to) (defBody s_is_number_up_to) (defScope s_is_number_up_to) .none kV4 dc4 pm4 an4 cd4 ct4), sl4⟩)
    (c4 : PySem.W.codeIn K cd4 "is_number_up_to" = true)
    (k4 : PySem.W.keepIn K (.ref f4) = true)
    (a5 : PySem.W.nsIn K mainGlobals "are_numbers_up_to" = some (some (.ref f5)))
    (l5 : K.lookup f5 = some ⟨oc5, od5, .func (PySem.W.fnOf "are_numbers_up_to" "are_numbers_up_to" (defArgs s_are_numbers_up_to) (defBody s_are_numbers_up_to) (defScope s_are_numbers_up_to) .none kV5 dc5 pm5 an5 cd5 ct5), sl5⟩)
    (c5 : PySem.W.codeIn K cd5 "are_numbers_up_to" = true)
    (k5 : PySem.W.keepIn K (.ref f5) = true)
    (a6 : PySem.W.nsIn K mainGlobals "are_bits" = some (some (.ref f6)))
    (l6 : K.lookup f6 = some ⟨oc6, od6, .func (PySem.W.fnOf "are_bits" "are_bits" (defArgs s_are_bits) (defBody s_are_bits) (defScope s_are_bits) .none kV6 dc6 pm6 an6 cd6 ct6), sl6⟩)
    (c6 : PySem.W.codeIn K cd6 "are_bits" = true)
    (k6 : PySem.W.keepIn K (.ref f6) = true)
    (a7 : PySem.W.nsIn K mainGlobals "all_bits" = some (some (.ref f7)))
    (l7 : K.lookup f7 = some ⟨oc7, od7, .func (PySem.W.fnOf "all_bits" "all_bits" (defArgs s_all_bits) (defBody s_all_bits) (defScope s_all_bits) .none kV7 dc7 pm7 an7 cd7 ct7), sl7⟩)
    (c7 : PySem.W.codeIn K cd7 "all_bits" = true)
    (k7 : PySem.W.keepIn K (.ref f7) = true)
    (a8 : PySem.W.nsIn K mainGlobals "count_pairs" = some (some (.ref f8)))
    (l8 : K.lookup f8 = some ⟨oc8, od8, .func (PySem.W.fnOf "count_pairs" "count_pairs" (defArgs s_count_pairs) (defBody s_count_pairs) (defScope s_count_pairs) .none kV8 dc8 pm8 an8 cd8 ct8), sl8⟩)
    (c8 : PySem.W.codeIn K cd8 "count_pairs" = true)
    (k8 : PySem.W.keepIn K (.ref f8) = true)
    (a9 : PySem.W.nsIn K mainGlobals "with_turns" = some (some (.ref f9)))
    (l9 : K.lookup f9 = some ⟨oc9, od9, .func (PySem.W.fnOf "with_turns" "with_turns" (defArgs s_with_turns) (defBody s_with_turns) (defScope s_with_turns) .none kV9 dc9 pm9 an9 cd9 ct9), sl9⟩)
    (c9 : PySem.W.codeIn K cd9 "with_turns" = true)
    (k9 : PySem.W.keepIn K (.ref f9) = true)
    (a10 : PySem.W.nsIn K mainGlobals "meant" = some (some (.ref f10)))
    (l10 : K.lookup f10 = some ⟨oc10, od10, .func (PySem.W.fnOf "meant" "meant" (defArgs s_meant) (defBody s_meant) (defScope s_meant) .none kV10 dc10 pm10 an10 cd10 ct10), sl10⟩)
    (c10 : PySem.W.codeIn K cd10 "meant" = true)
    (k10 : PySem.W.keepIn K (.ref f10) = true)
    (a11 : PySem.W.nsIn K mainGlobals "check_worths" = some (some (.ref f11)))
    (l11 : K.lookup f11 = some ⟨oc11, od11, .func (PySem.W.fnOf "check_worths" "check_worths" (defArgs s_check_worths) (defBody s_check_worths) (defScope s_check_worths) .none kV11 dc11 pm11 an11 cd11 ct11), sl11⟩)
    (c11 : PySem.W.codeIn K cd11 "check_worths" = true)
    (k11 : PySem.W.keepIn K (.ref f11) = true)
    (a12 : PySem.W.nsIn K mainGlobals "outcome" = some (some (.ref f12)))
    (l12 : K.lookup f12 = some ⟨oc12, od12, .func (PySem.W.fnOf "outcome" "outcome" (defArgs s_outcome) (defBody s_outcome) (defScope s_outcome) .none kV12 dc12 pm12 an12 cd12 ct12), sl12⟩)
    (c12 : PySem.W.codeIn K cd12 "outcome" = true)
    (k12 : PySem.W.keepIn K (.ref f12) = true)
    (a13 : PySem.W.nsIn K mainGlobals "coded" = some (some (.ref f13)))
    (l13 : K.lookup f13 = some ⟨oc13, od13, .func (PySem.W.fnOf "coded" "coded" (defArgs s_coded) (defBody s_coded) (defScope s_coded) .none kV13 dc13 pm13 an13 cd13 ct13), sl13⟩)
    (c13 : PySem.W.codeIn K cd13 "coded" = true)
    (k13 : PySem.W.keepIn K (.ref f13) = true)
    (a14 : PySem.W.nsIn K mainGlobals "run" = some (some (.ref f14)))
    (l14 : K.lookup f14 = some ⟨oc14, od14, .func (PySem.W.fnOf "run" "run" (defArgs s_run) (defBody s_run) (defScope s_run) .none kV14 dc14 pm14 an14 cd14 ct14), sl14⟩)
    (c14 : PySem.W.codeIn K cd14 "run" = true)
    (k14 : PySem.W.keepIn K (.ref f14) = true)
    (a15 : PySem.W.nsIn K mainGlobals "check_first" = some (some (.ref f15)))
    (l15 : K.lookup f15 = some ⟨oc15, od15, .func (PySem.W.fnOf "check_first" "check_first" (defArgs s_check_first) (defBody s_check_first) (defScope s_check_first) .none kV15 dc15 pm15 an15 cd15 ct15), sl15⟩)
    (c15 : PySem.W.codeIn K cd15 "check_first" = true)
    (k15 : PySem.W.keepIn K (.ref f15) = true)
    (a16 : PySem.W.nsIn K mainGlobals "code_of" = some (some (.ref f16)))
    (l16 : K.lookup f16 = some ⟨oc16, od16, .func (PySem.W.fnOf "code_of" "code_of" (defArgs s_code_of) (defBody s_code_of) (defScope s_code_of) .none kV16 dc16 pm16 an16 cd16 ct16), sl16⟩)
    (c16 : PySem.W.codeIn K cd16 "code_of" = true)
    (k16 : PySem.W.keepIn K (.ref f16) = true)
    (a17 : PySem.W.nsIn K mainGlobals "rows_of" = some (some (.ref f17)))
    (l17 : K.lookup f17 = some ⟨oc17, od17, .func (PySem.W.fnOf "rows_of" "rows_of" (defArgs s_rows_of) (defBody s_rows_of) (defScope s_rows_of) .none kV17 dc17 pm17 an17 cd17 ct17), sl17⟩)
    (c17 : PySem.W.codeIn K cd17 "rows_of" = true)
    (k17 : PySem.W.keepIn K (.ref f17) = true)
    (a18 : PySem.W.nsIn K mainGlobals "look_row" = some (some (.ref f18)))
    (l18 : K.lookup f18 = some ⟨oc18, od18, .func (PySem.W.fnOf "look_row" "look_row" (defArgs s_look_row) (defBody s_look_row) (defScope s_look_row) .none kV18 dc18 pm18 an18 cd18 ct18), sl18⟩)
    (c18 : PySem.W.codeIn K cd18 "look_row" = true)
    (k18 : PySem.W.keepIn K (.ref f18) = true)
    (a19 : PySem.W.nsIn K mainGlobals "check_code" = some (some (.ref f19)))
    (l19 : K.lookup f19 = some ⟨oc19, od19, .func (PySem.W.fnOf "check_code" "check_code" (defArgs s_check_code) (defBody s_check_code) (defScope s_check_code) .none kV19 dc19 pm19 an19 cd19 ct19), sl19⟩)
    (c19 : PySem.W.codeIn K cd19 "check_code" = true)
    (k19 : PySem.W.keepIn K (.ref f19) = true)
    (a20 : PySem.W.nsIn K mainGlobals "can_be" = some (some (.ref f20)))
    (l20 : K.lookup f20 = some ⟨oc20, od20, .func (PySem.W.fnOf "can_be" "can_be" (defArgs s_can_be) (defBody s_can_be) (defScope s_can_be) .none kV20 dc20 pm20 an20 cd20 ct20), sl20⟩)
    (c20 : PySem.W.codeIn K cd20 "can_be" = true)
    (k20 : PySem.W.keepIn K (.ref f20) = true)
    (a21 : PySem.W.nsIn K mainGlobals "is_look" = some (some (.ref f21)))
    (l21 : K.lookup f21 = some ⟨oc21, od21, .func (PySem.W.fnOf "is_look" "is_look" (defArgs s_is_look) (defBody s_is_look) (defScope s_is_look) .none kV21 dc21 pm21 an21 cd21 ct21), sl21⟩)
    (c21 : PySem.W.codeIn K cd21 "is_look" = true)
    (k21 : PySem.W.keepIn K (.ref f21) = true)
    (a22 : PySem.W.nsIn K mainGlobals "is_end" = some (some (.ref f22)))
    (l22 : K.lookup f22 = some ⟨oc22, od22, .func (PySem.W.fnOf "is_end" "is_end" (defArgs s_is_end) (defBody s_is_end) (defScope s_is_end) .none kV22 dc22 pm22 an22 cd22 ct22), sl22⟩)
    (c22 : PySem.W.codeIn K cd22 "is_end" = true)
    (k22 : PySem.W.keepIn K (.ref f22) = true)
    (a23 : PySem.W.nsIn K mainGlobals "outcome_of_rows" = some (some (.ref f23)))
    (l23 : K.lookup f23 = some ⟨oc23, od23, .func (PySem.W.fnOf "outcome_of_rows" "outcome_of_rows" (defArgs s_outcome_of_rows) (defBody s_outcome_of_rows) (defScope s_outcome_of_rows) .none kV23 dc23 pm23 an23 cd23 ct23), sl23⟩)
    (c23 : PySem.W.codeIn K cd23 "outcome_of_rows" = true)
    (k23 : PySem.W.keepIn K (.ref f23) = true)
    (a24 : PySem.W.nsIn K mainGlobals "looks" = some (some (.ref f24)))
    (l24 : K.lookup f24 = some ⟨oc24, od24, .func (PySem.W.fnOf "looks" "looks" (defArgs s_looks) (defBody s_looks) (defScope s_looks) .none kV24 dc24 pm24 an24 cd24 ct24), sl24⟩)
    (c24 : PySem.W.codeIn K cd24 "looks" = true)
    (k24 : PySem.W.keepIn K (.ref f24) = true)
    (a25 : PySem.W.nsIn K mainGlobals "jumps" = some (some (.ref f25)))
    (l25 : K.lookup f25 = some ⟨oc25, od25, .func (PySem.W.fnOf "jumps" "jumps" (defArgs s_jumps) (defBody s_jumps) (defScope s_jumps) .none kV25 dc25 pm25 an25 cd25 ct25), sl25⟩)
    (c25 : PySem.W.codeIn K cd25 "jumps" = true)
    (k25 : PySem.W.keepIn K (.ref f25) = true)
    (a26 : PySem.W.nsIn K mainGlobals "fewest_looks" = some (some (.ref f26)))
    (l26 : K.lookup f26 = some ⟨oc26, od26, .func (PySem.W.fnOf "fewest_looks" "fewest_looks" (defArgs s_fewest_looks) (defBody s_fewest_looks) (defScope s_fewest_looks) .none kV26 dc26 pm26 an26 cd26 ct26), sl26⟩)
    (c26 : PySem.W.codeIn K cd26 "fewest_looks" = true)
    (k26 : PySem.W.keepIn K (.ref f26) = true)
    (a27 : PySem.W.nsIn K mainGlobals "fewest_jumps" = some (some (.ref f27)))
    (l27 : K.lookup f27 = some ⟨oc27, od27, .func (PySem.W.fnOf "fewest_jumps" "fewest_jumps" (defArgs s_fewest_jumps) (defBody s_fewest_jumps) (defScope s_fewest_jumps) .none kV27 dc27 pm27 an27 cd27 ct27), sl27⟩)
    (c27 : PySem.W.codeIn K cd27 "fewest_jumps" = true)
    (k27 : PySem.W.keepIn K (.ref f27) = true)
    (a28 : PySem.W.nsIn K mainGlobals "check_chances" = some (some (.ref f28)))
    (l28 : K.lookup f28 = some ⟨oc28, od28, .func (PySem.W.fnOf "check_chances" "check_chances" (defArgs s_check_chances) (defBody s_check_chances) (defScope s_check_chances) .none kV28 dc28 pm28 an28 cd28 ct28), sl28⟩)
    (c28 : PySem.W.codeIn K cd28 "check_chances" = true)
    (k28 : PySem.W.keepIn K (.ref f28) = true)
    (a29 : PySem.W.nsIn K mainGlobals "check_for_fewest" = some (some (.ref f29)))
    (l29 : K.lookup f29 = some ⟨oc29, od29, .func (PySem.W.fnOf "check_for_fewest" "check_for_fewest" (defArgs s_check_for_fewest) (defBody s_check_for_fewest) (defScope s_check_for_fewest) .none kV29 dc29 pm29 an29 cd29 ct29), sl29⟩)
    (c29 : PySem.W.codeIn K cd29 "check_for_fewest" = true)
    (k29 : PySem.W.keepIn K (.ref f29) = true)
    (a30 : PySem.W.nsIn K mainGlobals "all_turns" = some (some (.ref f30)))
    (l30 : K.lookup f30 = some ⟨oc30, od30, .func (PySem.W.fnOf "all_turns" "all_turns" (defArgs s_all_turns) (defBody s_all_turns) (defScope s_all_turns) .none kV30 dc30 pm30 an30 cd30 ct30), sl30⟩)
    (c30 : PySem.W.codeIn K cd30 "all_turns" = true)
    (k30 : PySem.W.keepIn K (.ref f30) = true)
    (a31 : PySem.W.nsIn K mainGlobals "likely_worths" = some (some (.ref f31)))
    (l31 : K.lookup f31 = some ⟨oc31, od31, .func (PySem.W.fnOf "likely_worths" "likely_worths" (defArgs s_likely_worths) (defBody s_likely_worths) (defScope s_likely_worths) .none kV31 dc31 pm31 an31 cd31 ct31), sl31⟩)
    (c31 : PySem.W.codeIn K cd31 "likely_worths" = true)
    (k31 : PySem.W.keepIn K (.ref f31) = true)
    (a32 : PySem.W.nsIn K mainGlobals "times_of" = some (some (.ref f32)))
    (l32 : K.lookup f32 = some ⟨oc32, od32, .func (PySem.W.fnOf "times_of" "times_of" (defArgs s_times_of) (defBody s_times_of) (defScope s_times_of) .none kV32 dc32 pm32 an32 cd32 ct32), sl32⟩)
    (c32 : PySem.W.codeIn K cd32 "times_of" = true)
    (k32 : PySem.W.keepIn K (.ref f32) = true)
    (a33 : PySem.W.nsIn K mainGlobals "looks_in_all" = some (some (.ref f33)))
    (l33 : K.lookup f33 = some ⟨oc33, od33, .func (PySem.W.fnOf "looks_in_all" "looks_in_all" (defArgs s_looks_in_all) (defBody s_looks_in_all) (defScope s_looks_in_all) .none kV33 dc33 pm33 an33 cd33 ct33), sl33⟩)
    (c33 : PySem.W.codeIn K cd33 "looks_in_all" = true)
    (k33 : PySem.W.keepIn K (.ref f33) = true)
    (a34 : PySem.W.nsIn K mainGlobals "jumps_in_all" = some (some (.ref f34)))
    (l34 : K.lookup f34 = some ⟨oc34, od34, .func (PySem.W.fnOf "jumps_in_all" "jumps_in_all" (defArgs s_jumps_in_all) (defBody s_jumps_in_all) (defScope s_jumps_in_all) .none kV34 dc34 pm34 an34 cd34 ct34), sl34⟩)
    (c34 : PySem.W.codeIn K cd34 "jumps_in_all" = true)
    (k34 : PySem.W.keepIn K (.ref f34) = true)
    (a35 : PySem.W.nsIn K mainGlobals "parting" = some (some (.ref f35)))
    (l35 : K.lookup f35 = some ⟨oc35, od35, .func (PySem.W.fnOf "parting" "parting" (defArgs s_parting) (defBody s_parting) (defScope s_parting) .none kV35 dc35 pm35 an35 cd35 ct35), sl35⟩)
    (c35 : PySem.W.codeIn K cd35 "parting" = true)
    (k35 : PySem.W.keepIn K (.ref f35) = true)
    (a36 : PySem.W.nsIn K mainGlobals "alike" = some (some (.ref f36)))
    (l36 : K.lookup f36 = some ⟨oc36, od36, .func (PySem.W.fnOf "alike" "alike" (defArgs s_alike) (defBody s_alike) (defScope s_alike) .none kV36 dc36 pm36 an36 cd36 ct36), sl36⟩)
    (c36 : PySem.W.codeIn K cd36 "alike" = true)
    (k36 : PySem.W.keepIn K (.ref f36) = true)
    (a37 : PySem.W.nsIn K mainGlobals "written" = some (some (.ref f37)))
    (l37 : K.lookup f37 = some ⟨oc37, od37, .func (PySem.W.fnOf "written" "written" (defArgs s_written) (defBody s_written) (defScope s_written) .none kV37 dc37 pm37 an37 cd37 ct37), sl37⟩)
    (c37 : PySem.W.codeIn K cd37 "written" = true)
    (k37 : PySem.W.keepIn K (.ref f37) = true)
    (a38 : PySem.W.nsIn K mainGlobals "read" = some (some (.ref f38)))
    (l38 : K.lookup f38 = some ⟨oc38, od38, .func (PySem.W.fnOf "read" "read" (defArgs s_read) (defBody s_read) (defScope s_read) .none kV38 dc38 pm38 an38 cd38 ct38), sl38⟩)
    (c38 : PySem.W.codeIn K cd38 "read" = true)
    (k38 : PySem.W.keepIn K (.ref f38) = true)
    (a39 : PySem.W.nsIn K mainGlobals "text_of" = some (some (.ref f39)))
    (l39 : K.lookup f39 = some ⟨oc39, od39, .func (PySem.W.fnOf "text_of" "text_of" (defArgs s_text_of) (defBody s_text_of) (defScope s_text_of) .none kV39 dc39 pm39 an39 cd39 ct39), sl39⟩)
    (c39 : PySem.W.codeIn K cd39 "text_of" = true)
    (k39 : PySem.W.keepIn K (.ref f39) = true)
    (a40 : PySem.W.nsIn K mainGlobals "check_signs" = some (some (.ref f40)))
    (l40 : K.lookup f40 = some ⟨oc40, od40, .func (PySem.W.fnOf "check_signs" "check_signs" (defArgs s_check_signs) (defBody s_check_signs) (defScope s_check_signs) .none kV40 dc40 pm40 an40 cd40 ct40), sl40⟩)
    (c40 : PySem.W.codeIn K cd40 "check_signs" = true)
    (k40 : PySem.W.keepIn K (.ref f40) = true)
    (a41 : PySem.W.nsIn K mainGlobals "may_stand" = some (some (.ref f41)))
    (l41 : K.lookup f41 = some ⟨oc41, od41, .func (PySem.W.fnOf "may_stand" "may_stand" (defArgs s_may_stand) (defBody s_may_stand) (defScope s_may_stand) .none kV41 dc41 pm41 an41 cd41 ct41), sl41⟩)
    (c41 : PySem.W.codeIn K cd41 "may_stand" = true)
    (k41 : PySem.W.keepIn K (.ref f41) = true)
    (a42 : PySem.W.nsIn K mainGlobals "condition_of" = some (some (.ref f42)))
    (l42 : K.lookup f42 = some ⟨oc42, od42, .func (PySem.W.fnOf "condition_of" "condition_of" (defArgs s_condition_of) (defBody s_condition_of) (defScope s_condition_of) .none kV42 dc42 pm42 an42 cd42 ct42), sl42⟩)
    (c42 : PySem.W.codeIn K cd42 "condition_of" = true)
    (k42 : PySem.W.keepIn K (.ref f42) = true)
    (a43 : PySem.W.nsIn K mainGlobals "join_waiting" = some (some (.ref f43)))
    (l43 : K.lookup f43 = some ⟨oc43, od43, .func (PySem.W.fnOf "join_waiting" "join_waiting" (defArgs s_join_waiting) (defBody s_join_waiting) (defScope s_join_waiting) .none kV43 dc43 pm43 an43 cd43 ct43), sl43⟩)
    (c43 : PySem.W.codeIn K cd43 "join_waiting" = true)
    (k43 : PySem.W.keepIn K (.ref f43) = true)
    (a44 : PySem.W.nsIn K mainGlobals "_law_begun" = some (some (.ref f44)))
    (l44 : K.lookup f44 = some ⟨oc44, od44, .func (PySem.W.fnOf "_law_begun" "_law_begun" (defArgs s_law_begun) (defBody s_law_begun) (defScope s_law_begun) .none kV44 dc44 pm44 an44 cd44 ct44), sl44⟩)
    (c44 : PySem.W.codeIn K cd44 "_law_begun" = true)
    (k44 : PySem.W.keepIn K (.ref f44) = true)
    (a45 : PySem.W.nsIn K mainGlobals "_law_take" = some (some (.ref f45)))
    (l45 : K.lookup f45 = some ⟨oc45, od45, .func (PySem.W.fnOf "_law_take" "_law_take" (defArgs s_law_take) (defBody s_law_take) (defScope s_law_take) .none kV45 dc45 pm45 an45 cd45 ct45), sl45⟩)
    (c45 : PySem.W.codeIn K cd45 "_law_take" = true)
    (k45 : PySem.W.keepIn K (.ref f45) = true)
    (a46 : PySem.W.nsIn K mainGlobals "_law_part" = some (some (.ref f46)))
    (l46 : K.lookup f46 = some ⟨oc46, od46, .func (PySem.W.fnOf "_law_part" "_law_part" (defArgs s_law_part) (defBody s_law_part) (defScope s_law_part) .none kV46 dc46 pm46 an46 cd46 ct46), sl46⟩)
    (c46 : PySem.W.codeIn K cd46 "_law_part" = true)
    (k46 : PySem.W.keepIn K (.ref f46) = true)
    (a47 : PySem.W.nsIn K mainGlobals "_law_bare" = some (some (.ref f47)))
    (l47 : K.lookup f47 = some ⟨oc47, od47, .func (PySem.W.fnOf "_law_bare" "_law_bare" (defArgs s_law_bare) (defBody s_law_bare) (defScope s_law_bare) .none kV47 dc47 pm47 an47 cd47 ct47), sl47⟩)
    (c47 : PySem.W.codeIn K cd47 "_law_bare" = true)
    (k47 : PySem.W.keepIn K (.ref f47) = true)
    (a48 : PySem.W.nsIn K mainGlobals "_law_deep" = some (some (.ref f48)))
    (l48 : K.lookup f48 = some ⟨oc48, od48, .func (PySem.W.fnOf "_law_deep" "_law_deep" (defArgs s_law_deep) (defBody s_law_deep) (defScope s_law_deep) .none kV48 dc48 pm48 an48 cd48 ct48), sl48⟩)
    (c48 : PySem.W.codeIn K cd48 "_law_deep" = true)
    (k48 : PySem.W.keepIn K (.ref f48) = true)
    (a49 : PySem.W.nsIn K mainGlobals "_law_condition" = some (some (.ref f49)))
    (l49 : K.lookup f49 = some ⟨oc49, od49, .func (PySem.W.fnOf "_law_condition" "_law_condition" (defArgs s_law_condition) (defBody s_law_condition) (defScope s_law_condition) .none kV49 dc49 pm49 an49 cd49 ct49), sl49⟩)
    (c49 : PySem.W.codeIn K cd49 "_law_condition" = true)
    (k49 : PySem.W.keepIn K (.ref f49) = true)
    (a50 : PySem.W.nsIn K mainGlobals "_law_pairs" = some (some (.ref f50)))
    (l50 : K.lookup f50 = some ⟨oc50, od50, .func (PySem.W.fnOf "_law_pairs" "_law_pairs" (defArgs s_law_pairs) (defBody s_law_pairs) (defScope s_law_pairs) .none kV50 dc50 pm50 an50 cd50 ct50), sl50⟩)
    (c50 : PySem.W.codeIn K cd50 "_law_pairs" = true)
    (k50 : PySem.W.keepIn K (.ref f50) = true)
    (a51 : PySem.W.nsIn K mainGlobals "_law_told" = some (some (.ref f51)))
    (l51 : K.lookup f51 = some ⟨oc51, od51, .func (PySem.W.fnOf "_law_told" "_law_told" (defArgs s_law_told) (defBody s_law_told) (defScope s_law_told) .none kV51 dc51 pm51 an51 cd51 ct51), sl51⟩)
    (c51 : PySem.W.codeIn K cd51 "_law_told" = true)
    (k51 : PySem.W.keepIn K (.ref f51) = true)
    (a52 : PySem.W.nsIn K mainGlobals "_law_kept" = some (some (.ref f52)))
    (l52 : K.lookup f52 = some ⟨oc52, od52, .func (PySem.W.fnOf "_law_kept" "_law_kept" (defArgs s_law_kept) (defBody s_law_kept) (defScope s_law_kept) .none kV52 dc52 pm52 an52 cd52 ct52), sl52⟩)
    (c52 : PySem.W.codeIn K cd52 "_law_kept" = true)
    (k52 : PySem.W.keepIn K (.ref f52) = true)
    (a53 : PySem.W.nsIn K mainGlobals "_law_spoil" = some (some (.ref f53)))
    (l53 : K.lookup f53 = some ⟨oc53, od53, .func (PySem.W.fnOf "_law_spoil" "_law_spoil" (defArgs s_law_spoil) (defBody s_law_spoil) (defScope s_law_spoil) .none kV53 dc53 pm53 an53 cd53 ct53), sl53⟩)
    (c53 : PySem.W.codeIn K cd53 "_law_spoil" = true)
    (k53 : PySem.W.keepIn K (.ref f53) = true)
    (a54 : PySem.W.nsIn K mainGlobals "law" = some (some (.ref f54)))
    (l54 : K.lookup f54 = some ⟨oc54, od54, .func (PySem.W.fnOf "law" "law" (defArgs s_law) (defBody s_law) (defScope s_law) .none kV54 dc54 pm54 an54 cd54 ct54), sl54⟩)
    (c54 : PySem.W.codeIn K cd54 "law" = true)
    (k54 : PySem.W.keepIn K (.ref f54) = true)
    (z_sum : PySem.W.nsIn K mainGlobals "sum" = some none)
    (z_tuple : PySem.W.nsIn K mainGlobals "tuple" = some none)
    (z_isinstance : PySem.W.nsIn K mainGlobals "isinstance" = some none)
    (z_len : PySem.W.nsIn K mainGlobals "len" = some none)
    (z_bool : PySem.W.nsIn K mainGlobals "bool" = some none)
    (z_int : PySem.W.nsIn K mainGlobals "int" = some none)
    (z_all : PySem.W.nsIn K mainGlobals "all" = some none)
    (z_range : PySem.W.nsIn K mainGlobals "range" = some none)
    (z_list : PySem.W.nsIn K mainGlobals "list" = some none)
    (z_min : PySem.W.nsIn K mainGlobals "min" = some none)
    (z_zip : PySem.W.nsIn K mainGlobals "zip" = some none)
    (z_enumerate : PySem.W.nsIn K mainGlobals "enumerate" = some none)
    (z_max : PySem.W.nsIn K mainGlobals "max" = some none)
    (y_MOST_LOOKS : PySem.W.nsIn K mainGlobals "MOST_LOOKS" = some (some (.int 12 u_MOST_LOOKS)))
    (y_MOST_AROUND : PySem.W.nsIn K mainGlobals "MOST_AROUND" = some (some (.int 10 u_MOST_AROUND)))
    (y_THINGS : PySem.W.nsIn K mainGlobals "THINGS" = some (some (.int 8 u_THINGS)))
    (y_GOES_ON : PySem.W.nsIn K mainGlobals "GOES_ON" = some (some (.ref a_GOES_ON)))
    (h_GOES_ON : K.lookup a_GOES_ON = some ⟨.type "dict", none, .dict es_GOES_ON en_GOES_ON, #[]⟩)
    (q_GOES_ON : PySem.W.KeysLit w.params es_GOES_ON.toList)
    (v_GOES_ON_0 : PySem.W.nsIn K a_GOES_ON "and" = some (some (.int 1 t_GOES_ON_0)))
    (v_GOES_ON_1 : PySem.W.nsIn K a_GOES_ON "or" = some (some (.int 0 t_GOES_ON_1)))
    (y_MOST_ROWS : PySem.W.nsIn K mainGlobals "MOST_ROWS" = some (some (.int 40 u_MOST_ROWS)))
    (y_HUNDRED : PySem.W.nsIn K mainGlobals "HUNDRED" = some (some (.int 100 u_HUNDRED)))
    (y_MOST_PAIRS : PySem.W.nsIn K mainGlobals "MOST_PAIRS" = some (some (.int 6 u_MOST_PAIRS)))
    (y_BINDS : PySem.W.nsIn K mainGlobals "BINDS" = some (some (.ref a_BINDS)))
    (h_BINDS : K.lookup a_BINDS = some ⟨.type "dict", none, .dict es_BINDS en_BINDS, #[]⟩)
    (q_BINDS : PySem.W.KeysLit w.params es_BINDS.toList)
    (v_BINDS_0 : PySem.W.nsIn K a_BINDS "!" = some (some (.int 3 t_BINDS_0)))
    (v_BINDS_1 : PySem.W.nsIn K a_BINDS "&" = some (some (.int 2 t_BINDS_1)))
    (v_BINDS_2 : PySem.W.nsIn K a_BINDS "|" = some (some (.int 1 t_BINDS_2)))
    (v_BINDS_3 : PySem.W.nsIn K a_BINDS "(" = some (some (.int 0 t_BINDS_3)))
    (y_LETTERS : PySem.W.nsIn K mainGlobals "LETTERS" = some (some (.str "abcdefgh" u_LETTERS)))
    (y_SIGNS : PySem.W.nsIn K mainGlobals "SIGNS" = some (some (.ref a_SIGNS)))
    (h_SIGNS : K.lookup a_SIGNS = some ⟨.type "dict", none, .dict es_SIGNS en_SIGNS, #[]⟩)
    (q_SIGNS : PySem.W.KeysLit w.params es_SIGNS.toList)
    (v_SIGNS_0 : PySem.W.nsIn K a_SIGNS "not" = some (some (.str "!" t_SIGNS_0)))
    (v_SIGNS_1 : PySem.W.nsIn K a_SIGNS "and" = some (some (.str "&" t_SIGNS_1)))
    (v_SIGNS_2 : PySem.W.nsIn K a_SIGNS "or" = some (some (.str "|" t_SIGNS_2)))
    (y_BEFORE_ONE : PySem.W.nsIn K mainGlobals "BEFORE_ONE" = some (some (.str "!(&|" u_BEFORE_ONE)))
    (y_BEGINNINGS : PySem.W.nsIn K mainGlobals "BEGINNINGS" = some (some (.str "abcdefgh!(" u_BEGINNINGS)))
    (y_WORDS : PySem.W.nsIn K mainGlobals "WORDS" = some (some (.ref a_WORDS)))
    (h_WORDS : K.lookup a_WORDS = some ⟨.type "dict", none, .dict es_WORDS en_WORDS, #[]⟩)
    (q_WORDS : PySem.W.KeysLit w.params es_WORDS.toList)
    (v_WORDS_0 : PySem.W.nsIn K a_WORDS "&" = some (some (.str "and" t_WORDS_0)))
    (v_WORDS_1 : PySem.W.nsIn K a_WORDS "|" = some (some (.str "or" t_WORDS_1)))
    (low_WORDS : (a_WORDS == sysModules) = false)
    (w_WORDS_2 : PySem.W.nsIn K a_WORDS "!" = some none)
    (w_WORDS_3 : PySem.W.nsIn K a_WORDS "(" = some none) :
    ∃ fd : FuncData, (∀ (s : Shared) (v : Value), BindsTo s fd ⟨[v], []⟩ [("_law_script", v)]) ∧ ∀ base : Heap, K.In base → base.Ns mainGlobals mg → FnOk l.prog w K mg base CX0 200 fa fd ["_law_script"] (spLaw K) := by
  have e := hfa.symm.trans (PySem.W.mg_of X G a54)
  cases e
  refine ⟨PySem.W.fnOf "law" "law" (defArgs s_law) (defBody s_law) (defScope s_law) .none kV54 dc54 pm54 an54 cd54 ct54, fun s v => .of_eq rfl, fun base _ _ => ?_⟩
  exact main (T := {
    f_turned := f0,
    d_turned := _,
    F_turned := fun_mk (st := s_turned) l0 c0 k0,
    m_turned := PySem.W.mg_of X G a0,
    b_turned := (fun_mk (st := s_turned) l0 c0 k0).binds (ps := ["condition", "turns"]) fun _ _ _ _ _ _ us hl => match us, hl with | [_, _], _ => rfl,
    f_check_condition := f1,
    d_check_condition := _,
    F_check_condition := fun_mk (st := s_check_condition) l1 c1 k1,
    m_check_condition := PySem.W.mg_of X G a1,
    b_check_condition := (fun_mk (st := s_check_condition) l1 c1 k1).binds (ps := ["condition"]) fun _ _ _ _ _ _ us hl => match us, hl with | [_], _ => rfl,
    f_count_looks := f2,
    d_count_looks := _,
    F_count_looks := fun_mk (st := s_count_looks) l2 c2 k2,
    m_count_looks := PySem.W.mg_of X G a2,
    b_count_looks := (fun_mk (st := s_count_looks) l2 c2 k2).binds (ps := ["condition", "around"]) fun _ _ _ _ _ _ us hl => match us, hl with | [_, _], _ => rfl,
    f_has_form := f3,
    d_has_form := _,
    F_has_form := fun_mk (st := s_has_form) l3 c3 k3,
    m_has_form := PySem.W.mg_of X G a3,
    b_has_form := (fun_mk (st := s_has_form) l3 c3 k3).binds (ps := ["condition"]) fun _ _ _ _ _ _ us hl => match us, hl with | [_], _ => rfl,
    f_is_number_up_to := f4,
    d_is_number_up_to := _,
    F_is_number_up_to := fun_mk (st := s_is_number_up_to) l4 c4 k4,
    m_is_number_up_to := PySem.W.mg_of X G a4,
    b_is_number_up_to := (fun_mk (st := s_is_number_up_to) l4 c4 k4).binds (ps := ["value", "most"]) fun _ _ _ _ _ _ us hl => match us, hl with | [_, _], _ => rfl,
    f_are_numbers_up_to := f5,
    d_are_numbers_up_to := _,
    F_are_numbers_up_to := fun_mk (st := s_are_numbers_up_to) l5 c5 k5,
    m_are_numbers_up_to := PySem.W.mg_of X G a5,
    b_are_numbers_up_to := (fun_mk (st := s_are_numbers_up_to) l5 c5 k5).binds (ps := ["values", "many", "most"]) fun _ _ _ _ _ _ us hl => match us, hl with | [_, _, _], _ => rfl,
    f_are_bits := f6,
    d_are_bits := _,
    F_are_bits := fun_mk (st := s_are_bits) l6 c6 k6,
    m_are_bits := PySem.W.mg_of X G a6,
    b_are_bits := (fun_mk (st := s_are_bits) l6 c6 k6).binds (ps := ["values", "many"]) fun _ _ _ _ _ _ us hl => match us, hl with | [_, _], _ => rfl,
    f_all_bits := f7,
    d_all_bits := _,
    F_all_bits := fun_mk (st := s_all_bits) l7 c7 k7,
    m_all_bits := PySem.W.mg_of X G a7,
    b_all_bits := (fun_mk (st := s_all_bits) l7 c7 k7).binds (ps := ["many"]) fun _ _ _ _ _ _ us hl => match us, hl with | [_], _ => rfl,
    f_count_pairs := f8,
    d_count_pairs := _,
    F_count_pairs := fun_mk (st := s_count_pairs) l8 c8 k8,
    m_count_pairs := PySem.W.mg_of X G a8,
    b_count_pairs := (fun_mk (st := s_count_pairs) l8 c8 k8).binds (ps := ["condition"]) fun _ _ _ _ _ _ us hl => match us, hl with | [_], _ => rfl,
    f_with_turns := f9,
    d_with_turns := _,
    F_with_turns := fun_mk (st := s_with_turns) l9 c9 k9,
    m_with_turns := PySem.W.mg_of X G a9,
    b_with_turns := (fun_mk (st := s_with_turns) l9 c9 k9).binds (ps := ["condition", "turns"]) fun _ _ _ _ _ _ us hl => match us, hl with | [_, _], _ => rfl,
    f_meant := f10,
    d_meant := _,
    F_meant := fun_mk (st := s_meant) l10 c10 k10,
    m_meant := PySem.W.mg_of X G a10,
    b_meant := (fun_mk (st := s_meant) l10 c10 k10).binds (ps := ["condition", "worths"]) fun _ _ _ _ _ _ us hl => match us, hl with | [_, _], _ => rfl,
    f_check_worths := f11,
    d_check_worths := _,
    F_check_worths := fun_mk (st := s_check_worths) l11 c11 k11,
    m_check_worths := PySem.W.mg_of X G a11,
    b_check_worths := (fun_mk (st := s_check_worths) l11 c11 k11).binds (ps := ["worths"]) fun _ _ _ _ _ _ us hl => match us, hl with | [_], _ => rfl,
    f_outcome := f12,
    d_outcome := _,
    F_outcome := fun_mk (st := s_outcome) l12 c12 k12,
    m_outcome := PySem.W.mg_of X G a12,
    b_outcome := (fun_mk (st := s_outcome) l12 c12 k12).binds (ps := ["condition", "worths"]) fun _ _ _ _ _ _ us hl => match us, hl with | [_, _], _ => rfl,
    f_coded := f13,
    d_coded := _,
    F_coded := fun_mk (st := s_coded) l13 c13 k13,
    m_coded := PySem.W.mg_of X G a13,
    b_coded := (fun_mk (st := s_coded) l13 c13 k13).binds (ps := ["condition", "first"]) fun _ _ _ _ _ _ us hl => match us, hl with | [_, _], _ => rfl,
    f_run := f14,
    d_run := _,
    F_run := fun_mk (st := s_run) l14 c14 k14,
    m_run := PySem.W.mg_of X G a14,
    b_run := (fun_mk (st := s_run) l14 c14 k14).binds (ps := ["rows", "worths"]) fun _ _ _ _ _ _ us hl => match us, hl with | [_, _], _ => rfl,
    f_check_first := f15,
    d_check_first := _,
    F_check_first := fun_mk (st := s_check_first) l15 c15 k15,
    m_check_first := PySem.W.mg_of X G a15,
    b_check_first := (fun_mk (st := s_check_first) l15 c15 k15).binds (ps := ["first"]) fun _ _ _ _ _ _ us hl => match us, hl with | [_], _ => rfl,
    f_code_of := f16,
    d_code_of := _,
    F_code_of := fun_mk (st := s_code_of) l16 c16 k16,
    m_code_of := PySem.W.mg_of X G a16,
    b_code_of := (fun_mk (st := s_code_of) l16 c16 k16).binds (ps := ["condition", "first"]) fun _ _ _ _ _ _ us hl => match us, hl with | [_, _], _ => rfl,
    f_rows_of := f17,
    d_rows_of := _,
    F_rows_of := fun_mk (st := s_rows_of) l17 c17 k17,
    m_rows_of := PySem.W.mg_of X G a17,
    b_rows_of := (fun_mk (st := s_rows_of) l17 c17 k17).binds (ps := ["condition", "start", "dues"]) fun _ _ _ _ _ _ us hl => match us, hl with | [_, _, _], _ => rfl,
    f_look_row := f18,
    d_look_row := _,
    F_look_row := fun_mk (st := s_look_row) l18 c18 k18,
    m_look_row := PySem.W.mg_of X G a18,
    b_look_row := (fun_mk (st := s_look_row) l18 c18 k18).binds (ps := ["thing", "place", "dues"]) fun _ _ _ _ _ _ us hl => match us, hl with | [_, _, _], _ => rfl,
    f_check_code := f19,
    d_check_code := _,
    F_check_code := fun_mk (st := s_check_code) l19 c19 k19,
    m_check_code := PySem.W.mg_of X G a19,
    b_check_code := (fun_mk (st := s_check_code) l19 c19 k19).binds (ps := ["rows"]) fun _ _ _ _ _ _ us hl => match us, hl with | [_], _ => rfl,
    f_can_be := f20,
    d_can_be := _,
    F_can_be := fun_mk (st := s_can_be) l20 c20 k20,
    m_can_be := PySem.W.mg_of X G a20,
    b_can_be := (fun_mk (st := s_can_be) l20 c20 k20).binds (ps := ["rows", "place"]) fun _ _ _ _ _ _ us hl => match us, hl with | [_, _], _ => rfl,
    f_is_look := f21,
    d_is_look := _,
    F_is_look := fun_mk (st := s_is_look) l21 c21 k21,
    m_is_look := PySem.W.mg_of X G a21,
    b_is_look := (fun_mk (st := s_is_look) l21 c21 k21).binds (ps := ["row", "place", "last"]) fun _ _ _ _ _ _ us hl => match us, hl with | [_, _, _], _ => rfl,
    f_is_end := f22,
    d_is_end := _,
    F_is_end := fun_mk (st := s_is_end) l22 c22 k22,
    m_is_end := PySem.W.mg_of X G a22,
    b_is_end := (fun_mk (st := s_is_end) l22 c22 k22).binds (ps := ["row"]) fun _ _ _ _ _ _ us hl => match us, hl with | [_], _ => rfl,
    f_outcome_of_rows := f23,
    d_outcome_of_rows := _,
    F_outcome_of_rows := fun_mk (st := s_outcome_of_rows) l23 c23 k23,
    m_outcome_of_rows := PySem.W.mg_of X G a23,
    b_outcome_of_rows := (fun_mk (st := s_outcome_of_rows) l23 c23 k23).binds (ps := ["rows", "worths"]) fun _ _ _ _ _ _ us hl => match us, hl with | [_, _], _ => rfl,
    f_looks := f24,
    d_looks := _,
    F_looks := fun_mk (st := s_looks) l24 c24 k24,
    m_looks := PySem.W.mg_of X G a24,
    b_looks := (fun_mk (st := s_looks) l24 c24 k24).binds (ps := ["condition", "chances"]) fun _ _ _ _ _ _ us hl => match us, hl with | [_, _], _ => rfl,
    f_jumps := f25,
    d_jumps := _,
    F_jumps := fun_mk (st := s_jumps) l25 c25 k25,
    m_jumps := PySem.W.mg_of X G a25,
    b_jumps := (fun_mk (st := s_jumps) l25 c25 k25).binds (ps := ["condition", "first", "chances"]) fun _ _ _ _ _ _ us hl => match us, hl with | [_, _, _], _ => rfl,
    f_fewest_looks := f26,
    d_fewest_looks := _,
    F_fewest_looks := fun_mk (st := s_fewest_looks) l26 c26 k26,
    m_fewest_looks := PySem.W.mg_of X G a26,
    b_fewest_looks := (fun_mk (st := s_fewest_looks) l26 c26 k26).binds (ps := ["condition", "chances"]) fun _ _ _ _ _ _ us hl => match us, hl with | [_, _], _ => rfl,
    f_fewest_jumps := f27,
    d_fewest_jumps := _,
    F_fewest_jumps := fun_mk (st := s_fewest_jumps) l27 c27 k27,
    m_fewest_jumps := PySem.W.mg_of X G a27,
    b_fewest_jumps := (fun_mk (st := s_fewest_jumps) l27 c27 k27).binds (ps := ["condition", "chances"]) fun _ _ _ _ _ _ us hl => match us, hl with | [_, _], _ => rfl,
    f_check_chances := f28,
    d_check_chances := _,
    F_check_chances := fun_mk (st := s_check_chances) l28 c28 k28,
    m_check_chances := PySem.W.mg_of X G a28,
    b_check_chances := (fun_mk (st := s_check_chances) l28 c28 k28).binds (ps := ["chances"]) fun _ _ _ _ _ _ us hl => match us, hl with | [_], _ => rfl,
    f_check_for_fewest := f29,
    d_check_for_fewest := _,
    F_check_for_fewest := fun_mk (st := s_check_for_fewest) l29 c29 k29,
    m_check_for_fewest := PySem.W.mg_of X G a29,
    b_check_for_fewest := (fun_mk (st := s_check_for_fewest) l29 c29 k29).binds (ps := ["condition", "chances"]) fun _ _ _ _ _ _ us hl => match us, hl with | [_, _], _ => rfl,
    f_all_turns := f30,
    d_all_turns := _,
    F_all_turns := fun_mk (st := s_all_turns) l30 c30 k30,
    m_all_turns := PySem.W.mg_of X G a30,
    b_all_turns := (fun_mk (st := s_all_turns) l30 c30 k30).binds (ps := ["condition"]) fun _ _ _ _ _ _ us hl => match us, hl with | [_], _ => rfl,
    f_likely_worths := f31,
    d_likely_worths := _,
    F_likely_worths := fun_mk (st := s_likely_worths) l31 c31 k31,
    m_likely_worths := PySem.W.mg_of X G a31,
    b_likely_worths := (fun_mk (st := s_likely_worths) l31 c31 k31).binds (ps := ["chances"]) fun _ _ _ _ _ _ us hl => match us, hl with | [_], _ => rfl,
    f_times_of := f32,
    d_times_of := _,
    F_times_of := fun_mk (st := s_times_of) l32 c32 k32,
    m_times_of := PySem.W.mg_of X G a32,
    b_times_of := (fun_mk (st := s_times_of) l32 c32 k32).binds (ps := ["worths", "chances"]) fun _ _ _ _ _ _ us hl => match us, hl with | [_, _], _ => rfl,
    f_looks_in_all := f33,
    d_looks_in_all := _,
    F_looks_in_all := fun_mk (st := s_looks_in_all) l33 c33 k33,
    m_looks_in_all := PySem.W.mg_of X G a33,
    b_looks_in_all := (fun_mk (st := s_looks_in_all) l33 c33 k33).binds (ps := ["condition", "likely"]) fun _ _ _ _ _ _ us hl => match us, hl with | [_, _], _ => rfl,
    f_jumps_in_all := f34,
    d_jumps_in_all := _,
    F_jumps_in_all := fun_mk (st := s_jumps_in_all) l34 c34 k34,
    m_jumps_in_all := PySem.W.mg_of X G a34,
    b_jumps_in_all := (fun_mk (st := s_jumps_in_all) l34 c34 k34).binds (ps := ["condition", "first", "likely"]) fun _ _ _ _ _ _ us hl => match us, hl with | [_, _, _], _ => rfl,
    f_parting := f35,
    d_parting := _,
    F_parting := fun_mk (st := s_parting) l35 c35 k35,
    m_parting := PySem.W.mg_of X G a35,
    b_parting := (fun_mk (st := s_parting) l35 c35 k35).binds (ps := ["one", "other"]) fun _ _ _ _ _ _ us hl => match us, hl with | [_, _], _ => rfl,
    f_alike := f36,
    d_alike := _,
    F_alike := fun_mk (st := s_alike) l36 c36 k36,
    m_alike := PySem.W.mg_of X G a36,
    b_alike := (fun_mk (st := s_alike) l36 c36 k36).binds (ps := ["one", "other"]) fun _ _ _ _ _ _ us hl => match us, hl with | [_, _], _ => rfl,
    f_written := f37,
    d_written := _,
    F_written := fun_mk (st := s_written) l37 c37 k37,
    m_written := PySem.W.mg_of X G a37,
    b_written := (fun_mk (st := s_written) l37 c37 k37).binds (ps := ["condition"]) fun _ _ _ _ _ _ us hl => match us, hl with | [_], _ => rfl,
    f_read := f38,
    d_read := _,
    F_read := fun_mk (st := s_read) l38 c38 k38,
    m_read := PySem.W.mg_of X G a38,
    b_read := (fun_mk (st := s_read) l38 c38 k38).binds (ps := ["text"]) fun _ _ _ _ _ _ us hl => match us, hl with | [_], _ => rfl,
    f_text_of := f39,
    d_text_of := _,
    F_text_of := fun_mk (st := s_text_of) l39 c39 k39,
    m_text_of := PySem.W.mg_of X G a39,
    b_text_of := (fun_mk (st := s_text_of) l39 c39 k39).binds (ps := ["condition", "least"]) fun _ _ _ _ _ _ us hl => match us, hl with | [_, _], _ => rfl,
    f_check_signs := f40,
    d_check_signs := _,
    F_check_signs := fun_mk (st := s_check_signs) l40 c40 k40,
    m_check_signs := PySem.W.mg_of X G a40,
    b_check_signs := (fun_mk (st := s_check_signs) l40 c40 k40).binds (ps := ["text"]) fun _ _ _ _ _ _ us hl => match us, hl with | [_], _ => rfl,
    f_may_stand := f41,
    d_may_stand := _,
    F_may_stand := fun_mk (st := s_may_stand) l41 c41 k41,
    m_may_stand := PySem.W.mg_of X G a41,
    b_may_stand := (fun_mk (st := s_may_stand) l41 c41 k41).binds (ps := ["sign", "due", "unclosed"]) fun _ _ _ _ _ _ us hl => match us, hl with | [_, _, _], _ => rfl,
    f_condition_of := f42,
    d_condition_of := _,
    F_condition_of := fun_mk (st := s_condition_of) l42 c42 k42,
    m_condition_of := PySem.W.mg_of X G a42,
    b_condition_of := (fun_mk (st := s_condition_of) l42 c42 k42).binds (ps := ["text"]) fun _ _ _ _ _ _ us hl => match us, hl with | [_], _ => rfl,
    f_join_waiting := f43,
    d_join_waiting := _,
    F_join_waiting := fun_mk (st := s_join_waiting) l43 c43 k43,
    m_join_waiting := PySem.W.mg_of X G a43,
    b_join_waiting := (fun_mk (st := s_join_waiting) l43 c43 k43).binds (ps := ["done", "waiting", "least"]) fun _ _ _ _ _ _ us hl => match us, hl with | [_, _, _], _ => rfl,
    f_law_begun := f44,
    d_law_begun := _,
    F_law_begun := fun_mk (st := s_law_begun) l44 c44 k44,
    m_law_begun := PySem.W.mg_of X G a44,
    b_law_begun := (fun_mk (st := s_law_begun) l44 c44 k44).binds (ps := ["_law_script"]) fun _ _ _ _ _ _ us hl => match us, hl with | [_], _ => rfl,
    f_law_take := f45,
    d_law_take := _,
    F_law_take := fun_mk (st := s_law_take) l45 c45 k45,
    m_law_take := PySem.W.mg_of X G a45,
    b_law_take := (fun_mk (st := s_law_take) l45 c45 k45).binds (ps := ["_law_box", "_law_many"]) fun _ _ _ _ _ _ us hl => match us, hl with | [_, _], _ => rfl,
    f_law_part := f46,
    d_law_part := _,
    F_law_part := fun_mk (st := s_law_part) l46 c46 k46,
    m_law_part := PySem.W.mg_of X G a46,
    b_law_part := (fun_mk (st := s_law_part) l46 c46 k46).binds (ps := ["_law_box", "_law_many", "_law_things"]) fun _ _ _ _ _ _ us hl => match us, hl with | [_, _, _], _ => rfl,
    f_law_bare := f47,
    d_law_bare := _,
    F_law_bare := fun_mk (st := s_law_bare) l47 c47 k47,
    m_law_bare := PySem.W.mg_of X G a47,
    b_law_bare := (fun_mk (st := s_law_bare) l47 c47 k47).binds (ps := ["_law_box", "_law_many", "_law_things"]) fun _ _ _ _ _ _ us hl => match us, hl with | [_, _, _], _ => rfl,
    f_law_deep := f48,
    d_law_deep := _,
    F_law_deep := fun_mk (st := s_law_deep) l48 c48 k48,
    m_law_deep := PySem.W.mg_of X G a48,
    b_law_deep := (fun_mk (st := s_law_deep) l48 c48 k48).binds (ps := ["_law_part_here"]) fun _ _ _ _ _ _ us hl => match us, hl with | [_], _ => rfl,
    f_law_condition := f49,
    d_law_condition := _,
    F_law_condition := fun_mk (st := s_law_condition) l49 c49 k49,
    m_law_condition := PySem.W.mg_of X G a49,
    b_law_condition := (fun_mk (st := s_law_condition) l49 c49 k49).binds (ps := ["_law_box", "_law_most"]) fun _ _ _ _ _ _ us hl => match us, hl with | [_, _], _ => rfl,
    f_law_pairs := f50,
    d_law_pairs := _,
    F_law_pairs := fun_mk (st := s_law_pairs) l50 c50 k50,
    m_law_pairs := PySem.W.mg_of X G a50,
    b_law_pairs := (fun_mk (st := s_law_pairs) l50 c50 k50).binds (ps := ["_law_part_here"]) fun _ _ _ _ _ _ us hl => match us, hl with | [_], _ => rfl,
    f_law_told := f51,
    d_law_told := _,
    F_law_told := fun_mk (st := s_law_told) l51 c51 k51,
    m_law_told := PySem.W.mg_of X G a51,
    b_law_told := (fun_mk (st := s_law_told) l51 c51 k51).binds (ps := ["_law_case"]) fun _ _ _ _ _ _ us hl => match us, hl with | [_], _ => rfl,
    f_law_kept := f52,
    d_law_kept := _,
    F_law_kept := fun_mk (st := s_law_kept) l52 c52 k52,
    m_law_kept := PySem.W.mg_of X G a52,
    b_law_kept := (fun_mk (st := s_law_kept) l52 c52 k52).binds (ps := ["_law_found"]) fun _ _ _ _ _ _ us hl => match us, hl with | [_], _ => rfl,
    f_law_spoil := f53,
    d_law_spoil := _,
    F_law_spoil := fun_mk (st := s_law_spoil) l53 c53 k53,
    m_law_spoil := PySem.W.mg_of X G a53,
    b_law_spoil := (fun_mk (st := s_law_spoil) l53 c53 k53).binds (ps := ["_law_found"]) fun _ _ _ _ _ _ us hl => match us, hl with | [_], _ => rfl,
    f_law := fa,
    d_law := _,
    F_law := fun_mk (st := s_law) l54 c54 k54,
    m_law := PySem.W.mg_of X G a54,
    b_law := (fun_mk (st := s_law) l54 c54 k54).binds (ps := ["_law_script"]) fun _ _ _ _ _ _ us hl => match us, hl with | [_], _ => rfl,
    n_sum := PySem.W.mg_none_of X G z_sum,
    n_tuple := PySem.W.mg_none_of X G z_tuple,
    n_isinstance := PySem.W.mg_none_of X G z_isinstance,
    n_len := PySem.W.mg_none_of X G z_len,
    n_bool := PySem.W.mg_none_of X G z_bool,
    n_int := PySem.W.mg_none_of X G z_int,
    n_all := PySem.W.mg_none_of X G z_all,
    n_range := PySem.W.mg_none_of X G z_range,
    n_list := PySem.W.mg_none_of X G z_list,
    n_min := PySem.W.mg_none_of X G z_min,
    n_zip := PySem.W.mg_none_of X G z_zip,
    n_enumerate := PySem.W.mg_none_of X G z_enumerate,
    n_max := PySem.W.mg_none_of X G z_max,
    u_MOST_LOOKS := u_MOST_LOOKS,
    c_MOST_LOOKS := PySem.W.mg_of X G y_MOST_LOOKS,
    u_MOST_AROUND := u_MOST_AROUND,
    c_MOST_AROUND := PySem.W.mg_of X G y_MOST_AROUND,
    u_THINGS := u_THINGS,
    c_THINGS := PySem.W.mg_of X G y_THINGS,
    a_GOES_ON := a_GOES_ON,
    c_GOES_ON := PySem.W.mg_of X G y_GOES_ON,
    k_GOES_ON_0 := ⟨_, _, _, h_GOES_ON, q_GOES_ON, v_GOES_ON_0, ⟨_, rfl⟩⟩,
    k_GOES_ON_1 := ⟨_, _, _, h_GOES_ON, q_GOES_ON, v_GOES_ON_1, ⟨_, rfl⟩⟩,
    u_MOST_ROWS := u_MOST_ROWS,
    c_MOST_ROWS := PySem.W.mg_of X G y_MOST_ROWS,
    u_HUNDRED := u_HUNDRED,
    c_HUNDRED := PySem.W.mg_of X G y_HUNDRED,
    u_MOST_PAIRS := u_MOST_PAIRS,
    c_MOST_PAIRS := PySem.W.mg_of X G y_MOST_PAIRS,
    a_BINDS := a_BINDS,
    c_BINDS := PySem.W.mg_of X G y_BINDS,
    k_BINDS_0 := ⟨_, _, _, h_BINDS, q_BINDS, v_BINDS_0, ⟨_, rfl⟩⟩,
    k_BINDS_1 := ⟨_, _, _, h_BINDS, q_BINDS, v_BINDS_1, ⟨_, rfl⟩⟩,
    k_BINDS_2 := ⟨_, _, _, h_BINDS, q_BINDS, v_BINDS_2, ⟨_, rfl⟩⟩,
    k_BINDS_3 := ⟨_, _, _, h_BINDS, q_BINDS, v_BINDS_3, ⟨_, rfl⟩⟩,
    u_LETTERS := u_LETTERS,
    c_LETTERS := PySem.W.mg_of X G y_LETTERS,
    a_SIGNS := a_SIGNS,
    c_SIGNS := PySem.W.mg_of X G y_SIGNS,
    k_SIGNS_0 := ⟨_, _, _, h_SIGNS, q_SIGNS, v_SIGNS_0, ⟨_, rfl⟩⟩,
    k_SIGNS_1 := ⟨_, _, _, h_SIGNS, q_SIGNS, v_SIGNS_1, ⟨_, rfl⟩⟩,
    k_SIGNS_2 := ⟨_, _, _, h_SIGNS, q_SIGNS, v_SIGNS_2, ⟨_, rfl⟩⟩,
    u_BEFORE_ONE := u_BEFORE_ONE,
    c_BEFORE_ONE := PySem.W.mg_of X G y_BEFORE_ONE,
    u_BEGINNINGS := u_BEGINNINGS,
    c_BEGINNINGS := PySem.W.mg_of X G y_BEGINNINGS,
    a_WORDS := a_WORDS,
    c_WORDS := PySem.W.mg_of X G y_WORDS,
    k_WORDS_0 := ⟨_, _, _, h_WORDS, q_WORDS, v_WORDS_0, ⟨_, rfl⟩⟩,
    k_WORDS_1 := ⟨_, _, _, h_WORDS, q_WORDS, v_WORDS_1, ⟨_, rfl⟩⟩,
    i_WORDS_0 := ⟨_, _, _, h_WORDS, q_WORDS, low_WORDS, v_WORDS_0, rfl⟩,
    i_WORDS_1 := ⟨_, _, _, h_WORDS, q_WORDS, low_WORDS, v_WORDS_1, rfl⟩,
    i_WORDS_2 := ⟨_, _, _, h_WORDS, q_WORDS, low_WORDS, w_WORDS_2, rfl⟩,
    i_WORDS_3 := ⟨_, _, _, h_WORDS, q_WORDS, low_WORDS, w_WORDS_3, rfl⟩ }) 
theorem walk {l : PySem.W.OpenLaw} {q : Program} {loose : List Str} {XP : (Str → Option Value) → Heap → Prop} {YP : World → Heap → Prop} {d : DefRec} {K : Params → PySem.W.Frag} (hn : l.most = some 63) (hdf : d.params.defaults = [])
    (hY : ∀ (w : World) (h : Heap), YP w h → (K w.params).In h)
    (F : ∀ (w : World) (mg : Str → Option Value) (fa : Addr) (h : Heap), (K w.params).In h → h.Ns mainGlobals mg → mg d.name = some (.ref fa) →
      ∃ fd : FuncData, (∀ (s : Shared) (u : Value), BindsTo s fd ⟨[u], []⟩ [("_law_script", u)]) ∧ ∀ base : Heap, (K w.params).In base → base.Ns mainGlobals mg → FnOk l.prog w (K w.params) mg base CX0 200 fa fd ["_law_script"] (spLaw (K w.params))) :
    PySem.W.WalkO q loose XP YP l.row.toRowW d [] (fun f vs => PySem.call f vs) :=
  L2.walk_of (n := 63) (k := 200) (x := "_law_script") (CX := fun _ => CX0) (sp := fun w => spLaw (K w.params)) hn (by decide) hdf ⟨rfl, by decide, by decide⟩ hY F (fun _ _ a ns hl _ hS => ⟨a, ns, rfl, hS, hl, fun _ => rfl⟩) fun _ _ _ _ _ z => z
end J
open PySem PySem.W PyProof.Rows
set_option maxRecDepth 100000 in
set_option maxHeartbeats 0 in
theorem PySem.Challenge.cw_jumpsay_k13_asked_again_holds : PySem.Challenge.rw_jumpsay_k13_asked_again.Holds := by
  w_on; o_law; k_head; (case hw => w_witness2)
  k_fill
  refine J.walk (l := PySem.Challenge.rw_jumpsay_k13_asked_again) rfl rfl (fun w h Y => PySem.W.kIn_of Y) ?F
  case F =>
    intro w mg fa h KX G hmg
    refine' J.all_mk KX G hmg ?a0 ?l0 ?c0 ?k0 ?a1 ?l1 ?c1 ?k1 ?a2 ?l2 ?c2 ?k2 ?a3 ?l3 ?c3 ?k3 ?a4 ?l4 ?c4 ?k4 ?a5 ?l5 ?c5 ?k5 ?a6 ?l6 ?c6 ?k6 ?a7 ?l7 ?c7 ?k7 ?a8 ?l8 ?c8 ?k8 ?a9 ?l9 ?c9 ?k9 ?a10 ?l10 ?c10 ?k10 ?a11 ?l11 ?c11 ?k11 ?a12 ?l12 ?c12 ?k12 ?a13 ?l13 ?c13 ?k13 ?a14 ?l14 ?c14 ?k14 ?a15 ?l15 ?c15 ?k15 ?a16 ?l16 ?c16 ?k16 ?a17 ?l17 ?c17 ?k17 ?a18 ?l18 ?c18 ?k18 ?a19 ?l19 ?c19 ?k19 ?a20 ?l20 ?c20 ?k20 ?a21 ?l21 ?c21 ?k21 ?a22 ?l22 ?c22 ?k22 ?a23 ?l23 ?c23 ?k23 ?a24 ?l24 ?c24 ?k24 ?a25 ?l25 ?c25 ?k25 ?a26 ?l26 ?c26 ?k26 ?a27 ?l27 ?c27 ?k27 ?a28 ?l28 ?c28 ?k28 ?a29 ?l29 ?c29 ?k29 ?a30 ?l30 ?c30 ?k30 ?a31 ?l31 ?c31 ?k31 ?a32 ?l32 ?c32 ?k32 ?a33 ?l33 ?c33 ?k33 ?a34 ?l34 ?c34 ?k34 ?a35 ?l35 ?c35 ?k35 ?a36 ?l36 ?c36 ?k36 ?a37 ?l37 ?c37 ?k37 ?a38 ?l38 ?c38 ?k38 ?a39 ?l39 ?c39 ?k39 ?a40 ?l40 ?c40 ?k40 ?a41 ?l41 ?c41 ?k41 ?a42 ?l42 ?c42 ?k42 ?a43 ?l43 ?c43 ?k43 ?a44 ?l44 ?c44 ?k44 ?a45 ?l45 ?c45 ?k45 ?a46 ?l46 ?c46 ?k46 ?a47 ?l47 ?c47 ?k47 ?a48 ?l48 ?c48 ?k48 ?a49 ?l49 ?c49 ?k49 ?a50 ?l50 ?c50 ?k50 ?a51 ?l51 ?c51 ?k51 ?a52 ?l52 ?c52 ?k52 ?a53 ?l53 ?c53 ?k53 ?a54 ?l54 ?c54 ?k54 ?z_sum ?z_tuple ?z_isinstance ?z_len ?z_bool ?z_int ?z_all ?z_range ?z_list ?z_min ?z_zip ?z_enumerate ?z_max ?y_MOST_LOOKS ?y_MOST_AROUND ?y_THINGS ?y_GOES_ON ?h_GOES_ON ?q_GOES_ON ?v_GOES_ON_0 ?v_GOES_ON_1 ?y_MOST_ROWS ?y_HUNDRED ?y_MOST_PAIRS ?y_BINDS ?h_BINDS ?q_BINDS ?v_BINDS_0 ?v_BINDS_1 ?v_BINDS_2 ?v_BINDS_3 ?y_LETTERS ?y_SIGNS ?h_SIGNS ?q_SIGNS ?v_SIGNS_0 ?v_SIGNS_1 ?v_SIGNS_2 ?y_BEFORE_ONE ?y_BEGINNINGS ?y_WORDS ?h_WORDS ?q_WORDS ?v_WORDS_0 ?v_WORDS_1 ?low_WORDS ?w_WORDS_2 ?w_WORDS_3
    (case a0 => k_is); (case l0 => k_is); (case c0 => k_is); (case k0 => k_is)
    (case a1 => k_is); (case l1 => k_is); (case c1 => k_is); (case k1 => k_is)
    (case a2 => k_is); (case l2 => k_is); (case c2 => k_is); (case k2 => k_is)
    (case a3 => k_is); (case l3 => k_is); (case c3 => k_is); (case k3 => k_is)
    (case a4 => k_is); (case l4 => k_is); (case c4 => k_is); (case k4 => k_is)
    (case a5 => k_is); (case l5 => k_is); (case c5 => k_is); (case k5 => k_is)
    (case a6 => k_is); (case l6 => k_is); (case c6 => k_is); (case k6 => k_is)
    (case a7 => k_is); (case l7 => k_is); (case c7 => k_is); (case k7 => k_is)
    (case a8 => k_is); (case l8 => k_is); (case c8 => k_is); (case k8 => k_is)
    (case a9 => k_is); (case l9 => k_is); (case c9 => k_is); (case k9 => k_is)
    (case a10 => k_is); (case l10 => k_is); (case c10 => k_is); (case k10 => k_is)
    (case a11 => k_is); (case l11 => k_is); (case c11 => k_is); (case k11 => k_is)
    (case a12 => k_is); (case l12 => k_is); (case c12 => k_is); (case k12 => k_is)
    (case a13 => k_is); (case l13 => k_is); (case c13 => k_is); (case k13 => k_is)
    (case a14 => k_is); (case l14 => k_is); (case c14 => k_is); (case k14 => k_is)
    (case a15 => k_is); (case l15 => k_is); (case c15 => k_is); (case k15 => k_is)
    (case a16 => k_is); (case l16 => k_is); (case c16 => k_is); (case k16 => k_is)
    (case a17 => k_is); (case l17 => k_is); (case c17 => k_is); (case k17 => k_is)
    (case a18 => k_is); (case l18 => k_is); (case c18 => k_is); (case k18 => k_is)
    (case a19 => k_is); (case l19 => k_is); (case c19 => k_is); (case k19 => k_is)
    (case a20 => k_is); (case l20 => k_is); (case c20 => k_is); (case k20 => k_is)
    (case a21 => k_is); (case l21 => k_is); (case c21 => k_is); (case k21 => k_is)
    (case a22 => k_is); (case l22 => k_is); (case c22 => k_is); (case k22 => k_is)
    (case a23 => k_is); (case l23 => k_is); (case c23 => k_is); (case k23 => k_is)
    (case a24 => k_is); (case l24 => k_is); (case c24 => k_is); (case k24 => k_is)
    (case a25 => k_is); (case l25 => k_is); (case c25 => k_is); (case k25 => k_is)
    (case a26 => k_is); (case l26 => k_is); (case c26 => k_is); (case k26 => k_is)
    (case a27 => k_is); (case l27 => k_is); (case c27 => k_is); (case k27 => k_is)
    (case a28 => k_is); (case l28 => k_is); (case c28 => k_is); (case k28 => k_is)
    (case a29 => k_is); (case l29 => k_is); (case c29 => k_is); (case k29 => k_is)
    (case a30 => k_is); (case l30 => k_is); (case c30 => k_is); (case k30 => k_is)
    (case a31 => k_is); (case l31 => k_is); (case c31 => k_is); (case k31 => k_is)
    (case a32 => k_is); (case l32 => k_is); (case c32 => k_is); (case k32 => k_is)
    (case a33 => k_is); (case l33 => k_is); (case c33 => k_is); (case k33 => k_is)
    (case a34 => k_is); (case l34 => k_is); (case c34 => k_is); (case k34 => k_is)
    (case a35 => k_is); (case l35 => k_is); (case c35 => k_is); (case k35 => k_is)
    (case a36 => k_is); (case l36 => k_is); (case c36 => k_is); (case k36 => k_is)
    (case a37 => k_is); (case l37 => k_is); (case c37 => k_is); (case k37 => k_is)
    (case a38 => k_is); (case l38 => k_is); (case c38 => k_is); (case k38 => k_is)
    (case a39 => k_is); (case l39 => k_is); (case c39 => k_is); (case k39 => k_is)
    (case a40 => k_is); (case l40 => k_is); (case c40 => k_is); (case k40 => k_is)
    (case a41 => k_is); (case l41 => k_is); (case c41 => k_is); (case k41 => k_is)
    (case a42 => k_is); (case l42 => k_is); (case c42 => k_is); (case k42 => k_is)
    (case a43 => k_is); (case l43 => k_is); (case c43 => k_is); (case k43 => k_is)
    (case a44 => k_is); (case l44 => k_is); (case c44 => k_is); (case k44 => k_is)
    (case a45 => k_is); (case l45 => k_is); (case c45 => k_is); (case k45 => k_is)
    (case a46 => k_is); (case l46 => k_is); (case c46 => k_is); (case k46 => k_is)
    (case a47 => k_is); (case l47 => k_is); (case c47 => k_is); (case k47 => k_is)
    (case a48 => k_is); (case l48 => k_is); (case c48 => k_is); (case k48 => k_is)
    (case a49 => k_is); (case l49 => k_is); (case c49 => k_is); (case k49 => k_is)
    (case a50 => k_is); (case l50 => k_is); (case c50 => k_is); (case k50 => k_is)
    (case a51 => k_is); (case l51 => k_is); (case c51 => k_is); (case k51 => k_is)
    (case a52 => k_is); (case l52 => k_is); (case c52 => k_is); (case k52 => k_is)
    (case a53 => k_is); (case l53 => k_is); (case c53 => k_is); (case k53 => k_is)
    (case a54 => k_is); (case l54 => k_is); (case c54 => k_is); (case k54 => k_is)
    (case z_sum => k_is)
    (case z_tuple => k_is)
    (case z_isinstance => k_is)
    (case z_len => k_is)
    (case z_bool => k_is)
    (case z_int => k_is)
    (case z_all => k_is)
    (case z_range => k_is)
    (case z_list => k_is)
    (case z_min => k_is)
    (case z_zip => k_is)
    (case z_enumerate => k_is)
    (case z_max => k_is)
    (case y_MOST_LOOKS => k_is)
    (case y_MOST_AROUND => k_is)
    (case y_THINGS => k_is)
    (case y_GOES_ON => k_is)
    (case h_GOES_ON => k_is); (case q_GOES_ON => exact ⟨⟨_, _, rfl, rfl⟩, ⟨_, _, rfl, rfl⟩, trivial⟩)
    (case v_GOES_ON_0 => k_is)
    (case v_GOES_ON_1 => k_is)
    (case y_MOST_ROWS => k_is)
    (case y_HUNDRED => k_is)
    (case y_MOST_PAIRS => k_is)
    (case y_BINDS => k_is)
    (case h_BINDS => k_is); (case q_BINDS => exact ⟨⟨_, _, rfl, rfl⟩, ⟨_, _, rfl, rfl⟩, ⟨_, _, rfl, rfl⟩, ⟨_, _, rfl, rfl⟩, trivial⟩)
    (case v_BINDS_0 => k_is)
    (case v_BINDS_1 => k_is)
    (case v_BINDS_2 => k_is)
    (case v_BINDS_3 => k_is)
    (case y_LETTERS => k_is)
    (case y_SIGNS => k_is)
    (case h_SIGNS => k_is); (case q_SIGNS => exact ⟨⟨_, _, rfl, rfl⟩, ⟨_, _, rfl, rfl⟩, ⟨_, _, rfl, rfl⟩, trivial⟩)
    (case v_SIGNS_0 => k_is)
    (case v_SIGNS_1 => k_is)
    (case v_SIGNS_2 => k_is)
    (case y_BEFORE_ONE => k_is)
    (case y_BEGINNINGS => k_is)
    (case y_WORDS => k_is)
    (case h_WORDS => k_is); (case q_WORDS => exact ⟨⟨_, _, rfl, rfl⟩, ⟨_, _, rfl, rfl⟩, trivial⟩)
    (case v_WORDS_0 => k_is)
    (case v_WORDS_1 => k_is)
    (case low_WORDS => first | k_is | rfl | decide)
    (case w_WORDS_2 => k_is)
    (case w_WORDS_3 => k_is)
