import PyProof.Rows.All
import Wide.All
import OpenK.AllK
import Wide.FinOn
import HandS.ForMost
import HandS.ForExc
import HandS.IsInst
import HandS.More
import HandS.Conv
import HandS.TupAny
import HandS.Zip
import KE.DataMinMax
import KE.SortData
import HandS.FStr
import HandS.Text
import HandS.StrMore
import HandS.WrittenGet
import HandS.Iter
import PySem.Challenge.RW_jumpsay_k12_whole_nots_and_other_things
set_option Elab.async false
set_option linter.all false
set_option maxRecDepth 100000
set_option maxHeartbeats 4000000
namespace J
open PySem L2
/-! ### heaps -/
theorem sm_new {H : Hp} {p : Addr} (h : H p = none) (o : HO) : Same H (upd H p o) := fun b u q => by
  rw [upd_ne (ne_of_none q h)]
  exact q
theorem sm_ap {H H' : Hp} {b : Addr} {o : HO} (g : Same H H') (h : H b = some o) : H' b = some o := g _ _ h
theorem sm_l {K : PySem.W.Frag} {H H' : Hp} {a : Addr} {xs : List V} (g : Same H H') (h : SqL K H a xs) : SqL K H' a xs := g.seq h
theorem sm_t {K : PySem.W.Frag} {H H' : Hp} {a : Addr} {xs : List V} (e : Same H H') (h : SqT K H a xs) : SqT K H' a xs := by
  rcases h with (h | ⟨o, h⟩) | h
  · exact .inl (.inl (e _ _ h))
  · exact .inl (.inr ⟨o, e _ _ h⟩)
  · exact .inr h
theorem sm_tr {H H1 H2 : Hp} (b : Same H1 H2) (a : Same H H1) : Same H H2 := a.trans b
/-- the tuples stand -/
def Tups (H H' : Hp) : Prop := ∀ b xs, H b = some (.tup xs) → H' b = some (.tup xs)
theorem Same.tups {H H' : Hp} (g : Same H H') : Tups H H' := fun b xs h => g b _ h
theorem Tups.refl (H : Hp) : Tups H H := fun _ _ h => h
theorem Tups.trans {H H1 H2 : Hp} (a : Tups H H1) (b : Tups H1 H2) : Tups H H2 := fun c xs h => b c xs (a c xs h)
/-! ### what is new -/
def NewO (o : HO) (n : Nat) (H : Hp) (Q : VK) : Prop := n ≤ sizeLine ∧ ∀ p, H p = none → Q (.ref p) (upd H p o)
theorem l_new {o : HO} {n : Nat} {H : Hp} {Q : VK} (hn : n ≤ 100000) (h : ∀ (p : Addr) (H' : Hp), H p = none → Same H H' → H' p = some o → Q (.ref p) H') : NewO o n H Q :=
  ⟨Nat.le_trans hn (by decide), fun p hp => h p _ hp (sm_new hp o) upd_same⟩
/-! ### the readings, a step each -/
section
variable {K : PySem.W.Frag} {w : World} {σ : St} {H : Hp} {Q : VK} {QT : Bool → Hp → Prop} {QA : List V → Hp → Prop} {nx bk ct : St → Hp → Prop} {rt : VK} {ta tb tc te : TE} {t u : TT} {ts tu : TS} {g : TG} {r r' : R2} {x y v : V} {i j : Nat}
theorem l_seq (h : ts (Ends.mk (tu (Ends.mk nx rt bk ct)) rt bk ct) σ H) : tSeq ts tu (Ends.mk nx rt bk ct) σ H := h
theorem l_next (h : nx σ H) : tNext (Ends.mk nx rt bk ct) σ H := h
theorem l_brk (h : bk σ H) : tBreak (Ends.mk nx rt bk ct) σ H := h
theorem l_cnt (h : ct σ H) : tCont (Ends.mk nx rt bk ct) σ H := h
theorem l_asg (h : te σ H fun x H1 => g x σ H1 nx) : tAsg te g (Ends.mk nx rt bk ct) σ H := h
theorem l_drop (h : te σ H fun _ H1 => nx σ H1) : tDrop te (Ends.mk nx rt bk ct) σ H := h
theorem l_ret (h : te σ H rt) : tRet te (Ends.mk nx rt bk ct) σ H := h
theorem l_retN (h : rt .non H) : tRetN (Ends.mk nx rt bk ct) σ H := h
theorem l_ifS (h : t σ H fun b H1 => if b = true then ts (Ends.mk nx rt bk ct) σ H1 else tu (Ends.mk nx rt bk ct) σ H1) : tIfS t ts tu (Ends.mk nx rt bk ct) σ H := h
theorem l_name {QS : St → Hp → Prop} (h : QS (σ.set i (some v)) H) : gName i v σ H QS := h
theorem l_var (e : σ[i]? = some (some v)) (h : Q v H) : tVar i σ H Q := ⟨v, e, h⟩
theorem l_c (h : Q v H) : tC v σ H Q := h
theorem l_op (h : ta σ H fun x H1 => tb σ H1 fun y H2 => r x y H2 Q) : tOp r ta tb σ H Q := h
theorem l_un {ru : V → Hp → VK → Prop} (h : ta σ H fun x H1 => ru x H1 Q) : tUn ru ta σ H Q := h
theorem l_I0 {f : Int → Int → V} {a b : Int} (h : Q (f a b) H) : rI0 f (.int a) (.int b) H Q := ⟨a, b, rfl, rfl, h⟩
theorem l_I {C : Int → Int → Prop} {f : Int → Int → V} {a b : Int} (c : C a b) (h : Q (f a b) H) : rI C f (.int a) (.int b) H Q := ⟨a, b, rfl, rfl, c, h⟩
theorem l_U {f : Int → V} {a : Int} (h : Q (f a) H) : rU f (.int a) H Q := ⟨a, rfl, h⟩
theorem l_eq (e : scal x y = true) (h : Q (.bl (decide (x = y))) H) : rEq x y H Q := ⟨e, h⟩
theorem l_ne (e : scal x y = true) (h : Q (.bl (!decide (x = y))) H) : rNe x y H Q := ⟨e, h⟩
theorem l_ixT {p : Addr} {xs : List V} {k : Int} (ht : SqT K H p xs) (ha : atI xs k = some v) (h : Q v H) : rIxT K (.ref p) (.int k) H Q := ⟨p, xs, k, v, rfl, rfl, ht, ha, h⟩
theorem l_ixL {p : Addr} {xs : List V} {k : Int} (ht : SqL K H p xs) (ha : atI xs k = some v) (h : Q v H) : rIxL K (.ref p) (.int k) H Q := ⟨p, xs, k, v, rfl, rfl, ht, ha, h⟩
theorem l_test (h : te σ H fun x H' => ∃ k, x = .bl k ∧ QT k H') : tTest te σ H QT := h
theorem l_tB (h : te σ H fun x H' => ∃ k, x = .bl k ∧ QT k H') : tB te σ H QT := h
theorem l_bl {k : Bool} {G : Bool → Prop} (h : G k) : ∃ c, V.bl k = .bl c ∧ G c := ⟨k, rfl, h⟩
theorem l_and (h : t σ H fun c H1 => if c = true then u σ H1 QT else QT false H1) : tAnd t u σ H QT := h
theorem l_or (h : t σ H fun c H1 => if c = true then QT true H1 else u σ H1 QT) : tOr t u σ H QT := h
theorem l_not (h : t σ H fun c H1 => QT (!c) H1) : tNot t σ H QT := h
theorem l_andV (h : ta σ H fun x H1 => ∃ c, x = .bl c ∧ if c = true then tb σ H1 Q else Q (.bl false) H1) : tAndV ta tb σ H Q := h
theorem l_orV (h : ta σ H fun x H1 => ∃ c, x = .bl c ∧ if c = true then Q (.bl true) H1 else tb σ H1 Q) : tOrV ta tb σ H Q := h
theorem l_notV (h : ta σ H fun x H1 => ∃ c, x = .bl c ∧ Q (.bl (!c)) H1) : tNotV ta σ H Q := h
theorem l_if (h : t σ H fun c H1 => if c = true then ta σ H1 Q else tb σ H1 Q) : tIf t ta tb σ H Q := h
theorem l_chain (h : ta σ H fun x H1 => tb σ H1 fun y H2 => r x y H2 fun z H3 => ∃ k, z = .bl k ∧ (if k = true then tc σ H3 fun w' H4 => r' y w' H4 Q else Q (.bl false) H3)) : tChain r r' ta tb tc σ H Q := h
theorem l_nil (h : QA [] H) : tNil σ H QA := h
theorem l_cons {tr : TA} (h : te σ H fun x H1 => tr σ H1 fun xs H2 => QA (x :: xs) H2) : tCons te tr σ H QA := h
theorem l_tup {tr : TA} (h : tr σ H fun xs H1 => NewO (.tup xs) xs.length H1 Q) : tTup tr σ H Q := h
theorem l_lst {tr : TA} (h : tr σ H fun xs H1 => NewO (.lst xs) xs.length H1 Q) : tLst tr σ H Q := h
theorem l_CB {rc : List V → Hp → VK → Prop} {tr : TA} (h : tr σ H fun xs H1 => rc xs H1 Q) : tCB rc tr σ H Q := h
theorem l_call {sp : Sp} {E : XK} {tr : TA} (h : tr σ H fun vs H1 => sp vs H1 Q E) : tCall sp [] E tr σ H Q := by
  have e : (fun (vs : List V) (H1 : Hp) => sp (vs ++ []) H1 Q E) = fun vs H1 => sp vs H1 Q E := by
    funext vs H1
    rw [List.append_nil]
  show tr σ H (fun vs H1 => sp (vs ++ []) H1 Q E)
  rw [e]
  exact h
theorem l_bm {T : String} {rm : V → List V → Hp → VK → Prop} {tr : TA} (h : ta σ H fun x H1 => tyV K T x H1 ∧ tr σ H1 fun xs H2 => rm x xs H2 Q) : tBM K T rm ta tr σ H Q := h
theorem l_bm0 {T : String} {rm : V → List V → Hp → VK → Prop} (h : ta σ H fun x H1 => tyV K T x H1 ∧ rm x [] H1 Q) : tBM0 K T rm ta σ H Q := h
theorem l_sl {rs : V → Option Int → Option Int → Hp → VK → Prop} {tl th : TO} (h : te σ H fun x H1 => tl σ H1 fun l H2 => th σ H2 fun u H3 => rs x l u H3 Q) : tSl rs te tl th σ H Q := h
theorem l_noPart {QO : Option Int → Hp → Prop} (h : QO none H) : tNoPart σ H QO := h
theorem l_part {QO : Option Int → Hp → Prop} (h : te σ H fun x H1 => ∃ k, x = .int k ∧ QO (some k) H1) : tPart te σ H QO := h
theorem l_isInt {G : Int → Prop} {k : Int} (h : G k) : ∃ c, V.int k = .int c ∧ G c := ⟨k, rfl, h⟩
theorem l_slT {p : Addr} {xs : List V} {lo hi : Option Int} (ht : SqT K H p xs) (hw : ¬ (HT.sIx xs.length 0 lo = 0 ∧ HT.sIx xs.length xs.length hi = xs.length)) (h : ∀ (q : Addr) (H' : Hp), H q = none → Same H H' → H' q = some (.tup (cutV xs lo hi)) → Q (.ref q) H') : rSlT K (.ref p) lo hi H Q :=
  ⟨p, xs, rfl, ht, hw, fun q hq => h q _ hq (sm_new hq _) upd_same⟩
theorem l_slL {p : Addr} {xs : List V} {lo hi : Option Int} (ht : SqL K H p xs) (h : ∀ (q : Addr) (H' : Hp), H q = none → Same H H' → H' q = some (.lst (cutV xs lo hi)) → Q (.ref q) H') : rSlL K (.ref p) lo hi H Q :=
  ⟨p, xs, rfl, ht, fun q hq => h q _ hq (sm_new hq _) upd_same⟩
theorem l_cat {p q : Addr} {xs ys : List V} (hp : H p = some (.lst xs)) (hq : H q = some (.lst ys)) (hn : xs.length + ys.length ≤ 100000) (h : ∀ (p' : Addr) (H' : Hp), H p' = none → Same H H' → H' p' = some (.lst (xs ++ ys)) → Q (.ref p') H') : rCat (.ref p) (.ref q) H Q :=
  ⟨p, q, xs, ys, rfl, rfl, hp, hq, Nat.le_trans hn (by decide), fun p' hp' => h p' _ hp' (sm_new hp' _) upd_same⟩
theorem l_in {neg : Bool} {p : Addr} {xs : List V} (ht : SqT K H p xs) (hx : flatV x = true) (ha : xs.all flatV = true) (h : Q (.bl (if neg then !inV x xs else inV x xs)) H) : rIn K neg x (.ref p) H Q := ⟨p, xs, rfl, .inr ht, hx, ha, h⟩
theorem l_gtup {n : Nat} {tg : TGs} {p : Addr} {xs : List V} {QS : St → Hp → Prop} (ht : SqT K H p xs) (hn : xs.length = n) (h : tg xs σ H QS) : gTup K n tg (.ref p) σ H QS := ⟨p, xs, rfl, ht, hn, h⟩
theorem l_gnil {QS : St → Hp → Prop} (h : QS σ H) : gNil [] σ H QS := ⟨rfl, h⟩
theorem l_gcons {tg : TG} {tgs : TGs} {vs : List V} {QS : St → Hp → Prop} (h : tg v σ H fun σ' H' => tgs vs σ' H' QS) : gCons tg tgs (v :: vs) σ H QS := ⟨v, vs, rfl, h⟩
theorem l_gsub {to ti : TE} {tset : TSet} {QS : St → Hp → Prop} (h : to σ H fun o H1 => ti σ H1 fun k H2 => tset o k v H2 fun H3 => QS σ H3) : gSub to ti tset v σ H QS := h
/-! tests that are known -/
theorem i_t {A B : Prop} {b : Bool} (e : b = true) (h : A) : if b = true then A else B := by
  rw [if_pos e]
  exact h
theorem i_f {A B : Prop} {b : Bool} (e : b = false) (h : B) : if b = true then A else B := by
  rw [if_neg (by rw [e]; exact Bool.false_ne_true)]
  exact h
theorem i_b {A B : Prop} {b : Bool} (h1 : b = true → A) (h2 : b = false → B) : if b = true then A else B := by
  cases b
  · rw [if_neg Bool.false_ne_true]
    exact h2 rfl
  · rw [if_pos rfl]
    exact h1 rfl
end
/-! named forms of the library's unnamed ones -/
def rLen (K : PySem.W.Frag) : List V → Hp → VK → Prop := fun xs H Q => ∃ p ys, xs = [.ref p] ∧ (SqL K H p ys ∨ SqT K H p ys) ∧ Q (.int ys.length) H
theorem call_rLen {X : Cx} : CallR X (.builtin "len") (rLen X.K) := call_len_seq
def rListOf (K : PySem.W.Frag) : List V → Hp → VK → Prop := fun xs H Q => ∃ p ys, xs = [.ref p] ∧ (SqL K H p ys ∨ SqT K H p ys) ∧ ∀ l, H l = none → Q (.ref l) (upd H l (.lst ys))
theorem call_rListOf {X : Cx} : CallR X (.type "list") (rListOf X.K) := call_list_of
def rTupleOf (K : PySem.W.Frag) : List V → Hp → VK → Prop := fun xs H Q => ∃ p ys, xs = [.ref p] ∧ ((SqL K H p ys ∧ ∀ l, H l = none → Q (.ref l) (upd H l (.tup ys))) ∨ (SqT K H p ys ∧ Q (.ref p) H))
theorem call_rTupleOf {X : Cx} : CallR X (.type "tuple") (rTupleOf X.K) := call_tuple_of
def rInt1 : List V → Hp → VK → Prop := fun xs H Q => (∃ i, xs = [.int i] ∧ Q (.int i) H) ∨ ∃ k, xs = [.bl k] ∧ Q (.int (if k then 1 else 0)) H
theorem call_rInt1 {X : Cx} : CallR X (.type "int") rInt1 := call_int1
section
variable {K : PySem.W.Frag} {w : World} {σ : St} {H : Hp} {Q : VK} {p : Addr} {xs : List V}
theorem l_lenT (h : SqT K H p xs) (q : Q (.int xs.length) H) : rLen K [.ref p] H Q := ⟨p, xs, rfl, .inr h, q⟩
theorem l_lenL (h : SqL K H p xs) (q : Q (.int xs.length) H) : rLen K [.ref p] H Q := ⟨p, xs, rfl, .inl h, q⟩
theorem l_listL (h : SqL K H p xs) (q : ∀ (l : Addr) (H' : Hp), H l = none → Same H H' → H' l = some (.lst xs) → Q (.ref l) H') : rListOf K [.ref p] H Q := ⟨p, xs, rfl, .inl h, fun l hl => q l _ hl (sm_new hl _) upd_same⟩
theorem l_tupleL (h : SqL K H p xs) (q : ∀ (l : Addr) (H' : Hp), H l = none → Same H H' → H' l = some (.tup xs) → Q (.ref l) H') : rTupleOf K [.ref p] H Q := ⟨p, xs, rfl, .inl ⟨h, fun l hl => q l _ hl (sm_new hl _) upd_same⟩⟩
theorem l_intB {b : Bool} (q : Q (.int (if b then 1 else 0)) H) : rInt1 [.bl b] H Q := .inr ⟨b, rfl, q⟩
theorem l_intI {i : Int} (q : Q (.int i) H) : rInt1 [.int i] H Q := .inl ⟨i, rfl, q⟩
theorem l_sum {ns : List Int} (h : SqL K H p (ns.map V.int)) (q : Q (.int ns.sum) H) : rSum K [.ref p] H Q := ⟨p, ns, rfl, h, q⟩
theorem l_all {bs : List Bool} (h : SqL K H p (bs.map V.bl)) (q : Q (.bl (bs.all id)) H) : rAll K [.ref p] H Q := ⟨p, bs, rfl, h, q⟩
theorem l_isi {x c : V} {t u : Value} {b : Bool} (hc : ClsV c u) (ht : TyX K H x t) (hk : PySem.W.kitOne K t u = some b) (q : Q (.bl b) H) : rIsi K [x, c] H Q := ⟨x, c, t, u, b, rfl, hc, ht, hk, q⟩
theorem ty_tup (h : H p = some (.tup xs)) : TyX K H (.ref p) (.type "tuple") := .base (.tup h)
theorem ty_lst (h : H p = some (.lst xs)) : TyX K H (.ref p) (.type "list") := .base (.lst h)
theorem ty_int {i : Int} : TyX K H (.int i) (.type "int") := .base (.int i)
theorem ty_bl {i : Bool} : TyX K H (.bl i) (.type "bool") := .base (.bl i)
theorem ty_str {i : Str} : TyX K H (.str i) (.type "str") := .base (.str i)
theorem ty_non : TyX K H .non (.type "NoneType") := .base .non
theorem l_ixD {a : Addr} {z : Str} {v : V} (h : KDct K w a z v) (q : Q v H) : rIxD K w (.ref a) (.str z) H Q := ⟨a, z, v, rfl, rfl, h, q⟩
end
/-! more named forms -/
def rAddStr : R2 := fun x y H Q => ∃ i j, x = .str i ∧ y = .str j ∧ i.length + j.length ≤ sizeLine ∧ Q (.str (i ++ j)) H
def rIsNone : R2 := fun x y H Q => y = .non ∧ Q (.bl (decide (x = .non))) H
def rNotNone : R2 := fun x y H Q => y = .non ∧ Q (.bl (!decide (x = .non))) H
def rInStr : R2 := fun x y H Q => ∃ i j, x = .str i ∧ y = .str j ∧ Q (.bl (!(Builtin.Str.occurrences j i 0 j.length 1).isEmpty)) H
def rNotInStr : R2 := fun x y H Q => ∃ i j, x = .str i ∧ y = .str j ∧ Q (.bl (!(!(Builtin.Str.occurrences j i 0 j.length 1).isEmpty))) H
def rLenStr : List V → Hp → VK → Prop := fun xs H Q => ∃ z, xs = [.str z] ∧ z.length ≤ sizeLine ∧ Q (.int z.length) H
theorem l_isNone {x : V} {H : Hp} {Q : VK} (h : Q (.bl (decide (x = .non))) H) : rIsNone x .non H Q := ⟨rfl, h⟩
theorem l_notNone {x : V} {H : Hp} {Q : VK} (h : Q (.bl (!decide (x = .non))) H) : rNotNone x .non H Q := ⟨rfl, h⟩
/-! loops and comprehensions -/
theorem sm_mut {H H' : Hp} {p : Addr} {o : HO} (e : Same H H') (h : H p = none) : Same H (upd H' p o) := fun a u ha => by
  rw [upd_ne (ne_of_none ha h)]
  exact e a u ha
theorem take_snoc {α : Type} {l : List α} {i : Nat} {x : α} (h : l[i]? = some x) : l.take (i + 1) = l.take i ++ [x] := by
  rw [List.take_add_one, h]
  rfl
def LcB (g : TG) (tt : TT) (te : TE) (vs : List Nat) (σ : St) (Q : VK) : It → Hp → Prop := fun J H1 => ∀ D, H1 D = none → ∃ W : Nat → Nat → Hp → Prop, (∃ m, W 0 m (upd H1 D (.lst []))) ∧ ∀ i m H, W i m H →
  (J.stop i H ∧ Q (.ref D) H) ∨ (J.go i H ∧ ∃ Nx : Hp → Prop, (∀ H', Nx H' → ∃ m', m' < m ∧ W (i + 1) m' H') ∧ ∀ x H', J.yld i H x H' → g x (wipe σ vs) H' fun σ2 H2 => wipe σ2 vs = wipe σ vs ∧ tt σ2 H2 fun b H3 =>
    if b = true then te σ2 H3 fun y H4 => ∃ acc, H4 D = some (.lst acc) ∧ acc.length < sizeLine ∧ Nx (upd H4 D (.lst (acc ++ [y]))) else Nx H3)
def ForB (g : TG) (tb : TS) (D : Ends) (σ0 : St) : It → Hp → Prop := fun J H1 => ∃ W : Nat → Nat → St → Hp → Prop, (∃ m, W 0 m σ0 H1) ∧ ∀ i m σ H, W i m σ H →
  (J.stop i H ∧ D.nx σ H) ∨ (J.go i H ∧ ∃ N : St → Hp → Prop, (∀ σ' H', N σ' H' → ∃ m', m' < m ∧ W (i + 1) m' σ' H') ∧ ∀ x H', J.yld i H x H' → g x σ H' fun σ2 H2 => tb { D with nx := N, ct := N, bk := D.nx } σ2 H2)
def IT (K : PySem.W.Frag) (x : V) (H : Hp) (R : It → Hp → Prop) : Prop := ∃ a, x = .ref a ∧ (∃ xs, SqT K H a xs) ∧ R (Itt K a) H
def IL (K : PySem.W.Frag) (x : V) (H : Hp) (R : It → Hp → Prop) : Prop := ∃ a, x = .ref a ∧ (∃ xs, SqL K H a xs) ∧ R (Itl K a) H
def IR1 (vs : List V) (H : Hp) (R : It → Hp → Prop) : Prop := ∃ j : Int, vs = [.int j] ∧ -(2 ^ 62) ≤ j ∧ j < 2 ^ 62 ∧ R (Itr 0 j.toNat) H
def IR2 (vs : List V) (H : Hp) (R : It → Hp → Prop) : Prop := ∃ i j : Int, vs = [.int i, .int j] ∧ (-(2 ^ 62) ≤ i ∧ i < 2 ^ 62 ∧ -(2 ^ 62) ≤ j ∧ j < 2 ^ 62) ∧ R (Itr i (j - i).toNat) H
section
variable {K : PySem.W.Frag} {w : World} {σ : St} {H : Hp} {Q : VK} {nx bk ct : St → Hp → Prop} {rt : VK} {te tl : TE} {tt : TT} {tb : TS} {g : TG} {j : Nat} {vs : List Nat} {ta : TA} {wi : TI} {R : It → Hp → Prop} {D : Ends}
theorem l_lc (h : wi σ H (LcB g tt te vs σ Q)) : tLc wi g tt te vs σ H Q := h
theorem l_for (h : wi σ H (ForB g tb D σ)) : tFor wi g tb D σ H := h
theorem l_iTup (h : tl σ H fun x H1 => IT K x H1 R) : iTup K tl σ H R := h
theorem l_iList (h : tl σ H fun x H1 => IL K x H1 R) : iList K tl σ H R := h
theorem l_iRng1 (h : ta σ H fun vs H1 => IR1 vs H1 R) : iRng1 ta σ H R := h
theorem l_iRng2 (h : ta σ H fun vs H1 => IR2 vs H1 R) : iRng2 ta σ H R := h
/-- [e for x in ..], every item's value known, nothing that was known changes: the turns -/
def LcTurns (te : TE) (vs : List Nat) (σ : St) (j : Nat) (H1 : Hp) (xs ys : List V) : Prop :=
  ys.length = xs.length ∧ ∀ (i : Nat) (x y : V) H' (Q' : VK), xs[i]? = some x → ys[i]? = some y → Same H1 H' → (∀ H'', Same H' H'' → Q' y H'') → te ((wipe σ vs).set j (some x)) H' Q'
theorem lc_turn {te : TE} {vs : List Nat} {σ : St} {j : Nat} {H1 : Hp} {xs ys : List V} {D : Addr} (hD : H1 D = none) (hl : xs.length ≤ 100000) (h : LcTurns te vs σ j H1 xs ys) {i : Nat} {x : V} {H' : Hp} (hx : xs[i]? = some x)
    (p : Same H1 H' ∧ H' D = some (.lst (ys.take i))) :
    te ((wipe σ vs).set j (some x)) H' fun y H4 => ∃ acc, H4 D = some (.lst acc) ∧ acc.length < sizeLine ∧ (Same H1 (upd H4 D (.lst (acc ++ [y]))) ∧ upd H4 D (.lst (acc ++ [y])) D = some (.lst (ys.take (i + 1)))) := by
  have hi := (List.getElem?_eq_some_iff.mp hx).1
  have hy : ∃ y, ys[i]? = some y := ⟨ys[i]'(by rw [h.1]; exact hi), List.getElem?_eq_getElem _⟩
  obtain ⟨y, hy⟩ := hy
  refine h.2 i x y H' _ hx hy p.1 fun H'' g => ?_
  refine ⟨ys.take i, g _ _ p.2, ?_, sm_mut (p.1.trans g) hD, ?_⟩
  · rw [List.length_take]
    exact Nat.lt_of_le_of_lt (Nat.le_trans (Nat.min_le_left _ _) (Nat.le_trans (Nat.le_of_lt hi) hl)) (by decide)
  · rw [upd_same, take_snoc hy]
theorem lcT {a : Addr} {xs ys : List V} (hw : ∀ x, wipe ((wipe σ vs).set j (some x)) vs = wipe σ vs) (ht : SqT K H a xs) (hl : xs.length ≤ 100000) (h : LcTurns te vs σ j H xs ys) (q : ∀ D H2, H D = none → Same H H2 → H2 D = some (.lst ys) → Q (.ref D) H2) :
    IT K (.ref a) H (LcB (gName j) tYes te vs σ Q) :=
  ⟨a, rfl, ⟨xs, ht⟩, fun D hD => lc_tup (K := K) (a := a) (xs := xs) (fun i H' => Same H H' ∧ H' D = some (.lst (ys.take i))) ⟨sm_new hD _, upd_same⟩ (fun i H' _ p => sm_t p.1 ht)
    (fun i x H' hx p => ⟨hw x, lc_turn hD hl h hx p⟩) fun H' p => q D H' hD p.1 (by have e := p.2; rw [← h.1, List.take_length] at e; exact e)⟩
theorem lcL {a : Addr} {xs ys : List V} (hw : ∀ x, wipe ((wipe σ vs).set j (some x)) vs = wipe σ vs) (ht : SqL K H a xs) (hl : xs.length ≤ 100000) (h : LcTurns te vs σ j H xs ys) (q : ∀ D H2, H D = none → Same H H2 → H2 D = some (.lst ys) → Q (.ref D) H2) :
    IL K (.ref a) H (LcB (gName j) tYes te vs σ Q) :=
  ⟨a, rfl, ⟨xs, ht⟩, fun D hD => lc_list (K := K) (a := a) (xs := xs) (fun i H' => Same H H' ∧ H' D = some (.lst (ys.take i))) ⟨sm_new hD _, upd_same⟩ (fun i H' _ p => sm_l p.1 ht)
    (fun i x H' hx p => ⟨hw x, lc_turn hD hl h hx p⟩) fun H' p => q D H' hD p.1 (by have e := p.2; rw [← h.1, List.take_length] at e; exact e)⟩
/-- over range(n) -/
def irs (n : Nat) : List V := (List.range n).map vI where vI (i : Nat) : V := .int (0 + (i : Int))
theorem irs_at {n i : Nat} (h : i < n) : (irs n)[i]? = some (.int (0 + (i : Int))) := by
  unfold irs
  rw [List.getElem?_map, List.getElem?_range h]
  rfl
theorem lcR {n : Nat} {ys : List V} (hw : ∀ x, wipe ((wipe σ vs).set j (some x)) vs = wipe σ vs) (hl : n ≤ 100000) (h : LcTurns te vs σ j H (irs n) ys) (q : ∀ D H2, H D = none → Same H H2 → H2 D = some (.lst ys) → Q (.ref D) H2) :
    IR1 [.int (n : Int)] H (LcB (gName j) tYes te vs σ Q) := by
  have hz : (irs n).length = n := by unfold irs; rw [List.length_map, List.length_range]
  refine ⟨(n : Int), rfl, ?_, ?_, ?_⟩
  · have : (0 : Int) ≤ 2 ^ 62 := by decide
    omega
  · have : (100000 : Int) < 2 ^ 62 := by decide
    omega
  · intro D hD
    rw [Int.toNat_natCast]
    refine lc_range (lo := 0) (n := n) (fun i H' => Same H H' ∧ H' D = some (.lst (ys.take i))) ⟨sm_new hD _, upd_same⟩ (fun i H' hi p => ⟨hw _, ?_⟩) fun H' p => q D H' hD p.1 ?_
    · exact lc_turn (xs := irs n) hD (by rw [hz]; exact hl) h (irs_at hi) p
    · have e := p.2
      rw [← hz, ← h.1, List.take_length] at e
      exact e
/-! for -/
theorem forT {a : Addr} {xs : List V} (Pv : Nat → St → Hp → Prop) (h0 : Pv 0 σ H) (hx : SqT K H a xs) (hl : ∀ i σ' H', i ≤ xs.length → Pv i σ' H' → SqT K H' a xs) (hs : ∀ i x σ' H', xs[i]? = some x → Pv i σ' H' → g x σ' H' fun σ2 H2 => tb (Ends.mk (Pv (i + 1)) rt nx (Pv (i + 1))) σ2 H2) (hd : ∀ σ' H', Pv xs.length σ' H' → nx σ' H') :
    IT K (.ref a) H (ForB g tb (Ends.mk nx rt bk ct) σ) := ⟨a, rfl, ⟨xs, hx⟩, for_tup (D := Ends.mk nx rt bk ct) Pv h0 hl hs hd⟩
theorem forL {a : Addr} {xs : List V} (Pv : Nat → St → Hp → Prop) (h0 : Pv 0 σ H) (hx : SqL K H a xs) (hl : ∀ i σ' H', i ≤ xs.length → Pv i σ' H' → SqL K H' a xs) (hs : ∀ i x σ' H', xs[i]? = some x → Pv i σ' H' → g x σ' H' fun σ2 H2 => tb (Ends.mk (Pv (i + 1)) rt nx (Pv (i + 1))) σ2 H2) (hd : ∀ σ' H', Pv xs.length σ' H' → nx σ' H') :
    IL K (.ref a) H (ForB g tb (Ends.mk nx rt bk ct) σ) := ⟨a, rfl, ⟨xs, hx⟩, for_list (D := Ends.mk nx rt bk ct) Pv h0 hl hs hd⟩
theorem forR {n : Nat} (hn : n ≤ 100000) (Pv : Nat → St → Hp → Prop) (h0 : Pv 0 σ H) (hs : ∀ i σ' H', i < n → Pv i σ' H' → g (.int (0 + (i : Int))) σ' H' fun σ2 H2 => tb (Ends.mk (Pv (i + 1)) rt nx (Pv (i + 1))) σ2 H2) (hd : ∀ σ' H', Pv n σ' H' → nx σ' H') :
    IR1 [.int (n : Int)] H (ForB g tb (Ends.mk nx rt bk ct) σ) := by
  refine ⟨(n : Int), rfl, ?_, ?_, ?_⟩
  · have : (0 : Int) ≤ 2 ^ 62 := by decide
    omega
  · have : (100000 : Int) < 2 ^ 62 := by decide
    omega
  · rw [Int.toNat_natCast]
    exact for_range (D := Ends.mk nx rt bk ct) (lo := 0) (n := n) Pv h0 hs hd
/-- while -/
theorem l_while {t : TT} (Pv : St → Hp → Prop) (μ : St → Hp → Nat) (h0 : Pv σ H) (hs : ∀ σ' H', Pv σ' H' → t σ' H' fun b H1 => if b = true then tb (Ends.mk (fun σ2 H2 => Pv σ2 H2 ∧ μ σ2 H2 < μ σ' H') rt nx (fun σ2 H2 => Pv σ2 H2 ∧ μ σ2 H2 < μ σ' H')) σ' H1 else nx σ' H1)
    (hm : ∀ (σ : St) (H : Hp) (Q Q' : Bool → Hp → Prop), (∀ (b : Bool) (H1 : Hp), Q b H1 → Q' b H1) → t σ H Q → t σ H Q') :
    tWhile t tb (Ends.mk nx rt bk ct) σ H := while_by (D := Ends.mk nx rt bk ct) Pv μ h0 hs hm
end
section
variable {K : PySem.W.Frag} {w : World} {σ : St} {H : Hp} {Q : VK} {p : Addr} {xs : List V}
theorem l_ty {G : Prop} (h : SqL K H p xs) (q : G) : tyV K "list" (.ref p) H ∧ G := ⟨Or.inl ⟨rfl, _, h⟩, q⟩
theorem l_append {y : V} (h : H p = some (.lst xs)) (hn : xs.length < 100000) (q : Q .non (upd H p (.lst (xs ++ [y])))) : rAppend (.ref p) [y] H Q := ⟨p, xs, y, rfl, rfl, h, Nat.lt_of_lt_of_le hn (by decide), q⟩
theorem l_setL {k : Int} {i : Nat} {y : V} {Q' : Hp → Prop} (h : H p = some (.lst xs)) (hk : ixN xs.length k = some i) (q : Q' (upd H p (.lst (xs.set i y)))) : rSetL (.ref p) (.int k) y H Q' := ⟨p, xs, k, i, rfl, rfl, h, hk, q⟩
theorem l_max {ns : List Int} (h : SqL K H p (ns.map V.int)) (hn : 0 < ns.length) (q : ∀ m, m ∈ ns → (∀ y, y ∈ ns → y ≤ m) → Q (.int m) H) : rMax K [.ref p] H Q := ⟨p, ns, rfl, h, hn, q⟩
theorem l_pop0 {x : V} (h : H p = some (.lst (x :: xs))) (q : Q x (upd H p (.lst xs))) : rPopAt (.ref p) [.int 0] H Q :=
  ⟨p, x :: xs, 0, 0, x, rfl, rfl, h, by decide, by decide, by
    unfold seqIndex?
    simp, rfl, q⟩
theorem l_eqD {x y : V} {d e : PyData} (hx : Dp K H x d) (hy : Dp K H y e) (s1 : SeqAt.shaped d = true) (s2 : SeqAt.shaped e = true) (q : Q (.bl (PyData.eqv d e)) H) : rEqD K x y H Q := ⟨d, e, hx, hy, s1, s2, q⟩
theorem l_neD {x y : V} {d e : PyData} (hx : Dp K H x d) (hy : Dp K H y e) (s1 : SeqAt.shaped d = true) (s2 : SeqAt.shaped e = true) (q : Q (.bl (!PyData.eqv d e)) H) : rNeD K x y H Q := ⟨d, e, hx, hy, s1, s2, q⟩
end
theorem ix0 {n : Nat} (h : 0 < n) : ixN n 0 = some 0 := by
  unfold ixN
  rw [if_pos (Int.le_refl 0), if_pos (by omega)]
  rfl
theorem at0 {α : Type} {x : α} {xs : List α} : atI (x :: xs) 0 = some x := by
  unfold atI
  rw [ix0 (by simp)]
  rfl
theorem ixNat {n i : Nat} (h : i < n) : ixN n (i : Int) = some i := by
  unfold ixN
  rw [if_pos (by omega), if_pos (by omega)]
  rfl
/-! while, by a measure -/
def WB (W : Nat → St → Hp → Prop) (m : Nat) (tb : TS) (rt : VK) (nx : St → Hp → Prop) (σ : St) : Bool → Hp → Prop := fun b H1 =>
  if b = true then ∃ N : St → Hp → Prop, (∀ σ' H', N σ' H' → ∃ m', m' < m ∧ W m' σ' H') ∧ tb (Ends.mk N rt nx N) σ H1 else nx σ H1
theorem l_whileN {t : TT} {tb : TS} {σ : St} {H : Hp} {nx bk ct : St → Hp → Prop} {rt : VK} (W : Nat → St → Hp → Prop) (m0 : Nat) (h0 : W m0 σ H) (hs : ∀ m σ' H', W m σ' H' → t σ' H' (WB W m tb rt nx σ')) : tWhile t tb (Ends.mk nx rt bk ct) σ H := ⟨W, ⟨m0, h0⟩, hs⟩
theorem wb {W : Nat → St → Hp → Prop} {m : Nat} {tb : TS} {rt : VK} {nx : St → Hp → Prop} {σ : St} {b : Bool} {H1 : Hp} (h1 : b = true → tb (Ends.mk (fun σ2 H2 => ∃ m', m' < m ∧ W m' σ2 H2) rt nx (fun σ2 H2 => ∃ m', m' < m ∧ W m' σ2 H2)) σ H1) (h2 : b = false → nx σ H1) : WB W m tb rt nx σ b H1 := by
  cases b
  · exact i_f rfl (h2 rfl)
  · exact i_t rfl ⟨_, fun _ _ h => h, h1 rfl⟩
/-- [e for i in range(n) if t], t never true -/
theorem lcR_none {σ : St} {H : Hp} {Q : VK} {te : TE} {tt : TT} {j n : Nat} {vs : List Nat} (hw : ∀ x, wipe ((wipe σ vs).set j (some x)) vs = wipe σ vs) (hl : n ≤ 100000)
    (h : ∀ (i : Nat) H' (Q' : Bool → Hp → Prop), i < n → Same H H' → (∀ H'', Same H' H'' → Q' false H'') → tt ((wipe σ vs).set j (some (.int (0 + (i : Int))))) H' Q')
    (q : ∀ D H2, H D = none → Same H H2 → H2 D = some (.lst []) → Q (.ref D) H2) : IR1 [.int (n : Int)] H (LcB (gName j) tt te vs σ Q) := by
  refine ⟨(n : Int), rfl, ?_, ?_, ?_⟩
  · have : (0 : Int) ≤ 2 ^ 62 := by decide
    omega
  · have : (100000 : Int) < 2 ^ 62 := by decide
    omega
  · intro D hD
    rw [Int.toNat_natCast]
    refine lc_range (lo := 0) (n := n) (fun i H' => Same H H' ∧ H' D = some (.lst [])) ⟨sm_new hD _, upd_same⟩ (fun i H' hi p => ⟨hw _, ?_⟩) fun H' p => q D H' hD p.1 p.2
    refine h i H' _ hi p.1 fun H'' g => ?_
    exact i_f rfl ⟨p.1.trans g, g _ _ p.2⟩
theorem flat_one {α : Type} : ∀ (n : Nat) (x : α), (List.replicate n [x]).flatten = List.replicate n x
  | 0, _ => rfl
  | n + 1, x => by rw [List.replicate_succ, List.flatten_cons, flat_one n x]; rfl
theorem l_rep {p : Addr} {n : Nat} {x : V} {H : Hp} {Q : VK} (h : H p = some (.lst [x])) (hn : n ≤ 100000) (q : ∀ (l : Addr) (H' : Hp), H l = none → Same H H' → H' l = some (.lst (List.replicate n x)) → Q (.ref l) H') : rRep (.ref p) (.int (n : Int)) H Q := by
  have e : (List.replicate ((n : Int)).toNat [x]).flatten = List.replicate n x := by
    rw [Int.toNat_natCast]
    exact flat_one n x
  refine ⟨p, (n : Int), [x], rfl, rfl, h, ?_, ?_, ?_, fun l hl => ?_⟩
  · have : (-(2 ^ 63) : Int) < 0 := by decide
    omega
  · have : (100000 : Int) < 2 ^ 63 := by decide
    omega
  · rw [Int.toNat_natCast]
    exact Nat.le_trans (show 1 * n ≤ 100000 by omega) (by decide)
  · rw [e]
    exact q l _ hl (sm_new hl _) upd_same
end J

namespace J
open PySem L2
/-! conditions -/
inductive Cond where
  | look (i : Nat)
  | not (c : Cond)
  | bin (a : Bool) (l r : Cond)
  deriving DecidableEq
def wd : Bool → Str
  | true => "and"
  | false => "or"
def Cond.deep : Cond → Nat
  | .look _ => 0
  | .not c => c.deep + 1
  | .bin _ l r => max l.deep r.deep + 1
def Cond.looks : Cond → Nat
  | .look _ => 1
  | .not c => c.looks
  | .bin _ l r => l.looks + r.looks
def Cond.ok : Cond → Prop
  | .look i => i < 8
  | .not c => c.ok
  | .bin _ l r => l.ok ∧ r.ok
def vn (k : Nat) : V := .int (k : Int)
def bi (b : Bool) : Int := if b then 1 else 0
def vb (b : Bool) : V := .int (bi b)
/-- a condition at a value -/
inductive CA (H : Hp) : V → Cond → Prop
  | look {p : Addr} {i : Nat} : H p = some (.tup [.str "look", vn i]) → CA H (.ref p) (.look i)
  | not {p : Addr} {v : V} {c : Cond} : H p = some (.tup [.str "not", v]) → CA H v c → CA H (.ref p) (.not c)
  | bin {p : Addr} {a : Bool} {v u : V} {c d : Cond} : H p = some (.tup [.str (wd a), v, u]) → CA H v c → CA H u d → CA H (.ref p) (.bin a c d)
theorem CA.tups {H H' : Hp} (g : Tups H H') {v : V} {c : Cond} (h : CA H v c) : CA H' v c := by
  induction h with
  | look e => exact .look (g _ _ e)
  | not e _ ih => exact .not (g _ _ e) ih
  | bin e _ _ i1 i2 => exact .bin (g _ _ e) i1 i2
theorem CA.mono {H H' : Hp} (g : Same H H') {v : V} {c : Cond} (h : CA H v c) : CA H' v c := h.tups (Same.tups g)
/-- what a condition comes to, and the looks -/
def ev (ws : List Bool) : Cond → Bool × List Nat
  | .look i => (ws.getD i false, [i])
  | .not c => (!(ev ws c).1, (ev ws c).2)
  | .bin a l r => if (ev ws l).1 = a then ((ev ws r).1, (ev ws l).2 ++ (ev ws r).2) else ev ws l
theorem ev_len (ws : List Bool) (c : Cond) : (ev ws c).2.length ≤ c.looks := by
  induction c with
  | look i => exact Nat.le_refl _
  | not c ih => exact ih
  | bin a l r i1 i2 =>
    unfold ev Cond.looks
    split
    · simp only [List.length_append]; omega
    · omega
theorem looks_deep (c : Cond) : c.looks ≤ 2 ^ c.deep := by
  induction c with
  | look i => exact Nat.le_refl _
  | not c ih => exact Nat.le_trans ih (Nat.pow_le_pow_right (by decide) (Nat.le_succ _))
  | bin a l r i1 i2 =>
    unfold Cond.looks Cond.deep
    have h1 := Nat.pow_le_pow_right (n := 2) (by decide) (Nat.le_max_left l.deep r.deep)
    have h2 := Nat.pow_le_pow_right (n := 2) (by decide) (Nat.le_max_right l.deep r.deep)
    rw [Nat.pow_succ]; omega
theorem bi_not (b : Bool) : 1 - bi b = bi (!b) := by cases b <;> rfl
theorem at_map {α : Type} {f : α → V} {ws : List α} {i : Nat} {d : α} (h : i < ws.length) : atI (ws.map f) (i : Int) = some (f (ws.getD i d)) := by
  refine atI_nat ?_
  rw [List.getElem?_map, List.getD_eq_getElem?_getD, List.getElem?_eq_getElem h]
  rfl
/-- worths at a value -/
def WA (H : Hp) (v : V) (ws : List Bool) : Prop := ∃ a, v = .ref a ∧ H a = some (.tup (ws.map vb)) ∧ ws.length = 8
theorem WA.tups {H H' : Hp} (g : Tups H H') {v : V} {ws : List Bool} (h : WA H v ws) : WA H' v ws := by
  obtain ⟨a, e, q, l⟩ := h
  exact ⟨a, e, g _ _ q, l⟩
theorem WA.mono {H H' : Hp} (g : Same H H') {v : V} {ws : List Bool} (h : WA H v ws) : WA H' v ws := h.tups (Same.tups g)
/-- (a worth, things looked at): a tuple, with a list that is new -/
def Told (H H' : Hp) (v : V) (x : Bool × List Nat) : Prop := ∃ p l, v = .ref p ∧ H l = none ∧ H' p = some (.tup [vb x.1, .ref l]) ∧ H' l = some (.lst (x.2.map vn))
theorem told_mk {H H' : Hp} {p l : Addr} {x : Bool × List Nat} (hp : H' p = some (.tup [vb x.1, .ref l])) (hl : H' l = some (.lst (x.2.map vn))) (h0 : H l = none) : Told H H' (.ref p) x := ⟨p, l, rfl, h0, hp, hl⟩
def wts (n : Nat) : List Bool := [128, 64, 32, 16, 8, 4, 2, 1].map fun d => n / d % 2 == 1
end J

namespace J
open PySem L2
/-! data -/
theorem dp_ints {K : PySem.W.Frag} {H : Hp} : ∀ ns : List Int, DpAll K H (ns.map V.int) (ns.map PyData.int)
  | [] => .nil
  | n :: r => .cons (.int n) (dp_ints r)
theorem dp_vn {K : PySem.W.Frag} {H : Hp} : ∀ ns : List Nat, DpAll K H (ns.map vn) (ns.map fun (k : Nat) => PyData.int (k : Int))
  | [] => .nil
  | n :: r => .cons (.int n) (dp_vn r)
theorem lay_ints : ∀ ns : List Int, PyData.canLayAll0 (ns.map PyData.int) = true
  | [] => rfl
  | n :: r => by
    show (true && PyData.canLayAll0 (r.map PyData.int)) = true
    rw [lay_ints r]; rfl
theorem dep_ints : ∀ ns : List Int, PyData.depthAll (ns.map PyData.int) = 0
  | [] => rfl
  | n :: r => by
    show max _ (PyData.depthAll (r.map PyData.int)) = 0
    rw [dep_ints r]; rfl
theorem shaped_ints (ns : List Int) : SeqAt.shaped (.list (ns.map PyData.int)) = true := by
  show (PyData.canLayAll0 (ns.map PyData.int) && decide (PyData.depthAll (ns.map PyData.int) + 1 ≤ 64)) = true
  rw [lay_ints, dep_ints]; rfl
theorem lay_vn : ∀ ns : List Nat, PyData.canLayAll0 (ns.map fun (k : Nat) => PyData.int (k : Int)) = true
  | [] => rfl
  | n :: r => by
    show (true && PyData.canLayAll0 (r.map fun (k : Nat) => PyData.int (k : Int))) = true
    rw [lay_vn r]; rfl
theorem dep_vn : ∀ ns : List Nat, PyData.depthAll (ns.map fun (k : Nat) => PyData.int (k : Int)) = 0
  | [] => rfl
  | n :: r => by
    show max _ (PyData.depthAll (r.map fun (k : Nat) => PyData.int (k : Int))) = 0
    rw [dep_vn r]; rfl
theorem Dp.mono {K : PySem.W.Frag} {H H' : Hp} (g : Same H H') : ∀ {v : V} {d : PyData}, Dp K H v d → Dp K H' v d := by
  intro v d h
  refine Dp.rec (motive_1 := fun v d _ => Dp K H' v d) (motive_2 := fun vs ds _ => DpAll K H' vs ds) ?_ ?_ ?_ ?_ ?_ ?_ ?_ ?_ h
  · exact .non
  · intro b; exact .bl b
  · intro i; exact .int i
  · intro x; exact .str x
  · intro a xs ds hl _ ih; exact .lst (sm_l g hl) ih
  · intro a xs ds hl _ ih; exact .tup (sm_t g hl) ih
  · exact .nil
  · intro v vs d ds _ _ i1 i2; exact .cons i1 i2
/-! one object may change -/
def But (p : Addr) (H H' : Hp) : Prop := ∀ a o, a ≠ p → H a = some o → H' a = some o
theorem but_upd {H : Hp} {p : Addr} {o : HO} : But p H (upd H p o) := fun a u n h => by rw [upd_ne n]; exact h
theorem l_setL' {K : PySem.W.Frag} {H : Hp} {p : Addr} {xs : List V} {k : Int} {i : Nat} {y : V} {Q' : Hp → Prop} (h : H p = some (.lst xs)) (hk : ixN xs.length k = some i) (q : ∀ H', But p H H' → H' p = some (.lst (xs.set i y)) → Q' H') : rSetL (.ref p) (.int k) y H Q' := l_setL h hk (q _ but_upd upd_same)
theorem l_append' {H : Hp} {p : Addr} {xs : List V} {y : V} {Q : VK} (h : H p = some (.lst xs)) (hn : xs.length < 100000) (q : ∀ H', But p H H' → H' p = some (.lst (xs ++ [y])) → Q .non H') : rAppend (.ref p) [y] H Q := l_append h hn (q _ but_upd upd_same)
theorem l_pop0' {H : Hp} {p : Addr} {xs : List V} {x : V} {Q : VK} (h : H p = some (.lst (x :: xs))) (q : ∀ H', But p H H' → H' p = some (.lst xs) → Q x H') : rPopAt (.ref p) [.int 0] H Q := l_pop0 h (q _ but_upd upd_same)
/-! the box: [numbers, stirred] -/
structure Bx (H : Hp) (b l : Addr) (ns : List Int) (s : Int) : Prop where
  ne : b ≠ l
  hb : H b = some (.lst [.ref l, .int s])
  hl : H l = some (.lst (ns.map V.int))
  s0 : 0 ≤ s
  s1 : s < 2147483647
  n63 : ns.length ≤ 63
/-- all but the box stands -/
def Fr (b l : Addr) (H H' : Hp) : Prop := ∀ a o, a ≠ b → a ≠ l → H a = some o → H' a = some o
theorem Fr.of {b l : Addr} {H H' : Hp} (g : Same H H') : Fr b l H H' := fun a o _ _ h => g a o h
theorem Fr.b {b l : Addr} {H H' : Hp} (g : But b H H') : Fr b l H H' := fun a o n _ h => g a o n h
theorem Fr.l {b l : Addr} {H H' : Hp} (g : But l H H') : Fr b l H H' := fun a o _ n h => g a o n h
theorem Fr.refl {b l : Addr} (H : Hp) : Fr b l H H := fun _ _ _ _ h => h
theorem Fr.trans {b l : Addr} {H H1 H2 : Hp} (x : Fr b l H H1) (y : Fr b l H1 H2) : Fr b l H H2 := fun a o n m h => y a o n m (x a o n m h)
theorem Fr.at {b l a : Addr} {H H' : Hp} {o : HO} (g : Fr b l H H') (n : a ≠ b) (m : a ≠ l) (h : H a = some o) : H' a = some o := g a o n m h
theorem Bx.tups {H H' : Hp} {b l : Addr} {ns : List Int} {s : Int} (x : Bx H b l ns s) (g : Fr b l H H') : Tups H H' := fun a xs h => g a _ (ne_of h x.hb (by intro e; cases e)) (ne_of h x.hl (by intro e; cases e)) h
theorem Bx.same {H H' : Hp} {b l : Addr} {ns : List Int} {s : Int} (x : Bx H b l ns s) (g : Same H H') : Bx H' b l ns s := ⟨x.ne, g _ _ x.hb, g _ _ x.hl, x.s0, x.s1, x.n63⟩
/-! data of some height -/
def okd : Nat → PyData → Prop
  | 0, _ => False
  | n + 1, .list ds => ds.length ≤ 1000 ∧ ∀ x ∈ ds, okd n x
  | n + 1, .tuple ds => ds.length ≤ 1000 ∧ ∀ x ∈ ds, okd n x
  | _ + 1, .dict _ => False
  | _ + 1, _ => True
theorem DpAll.len {K : PySem.W.Frag} {H : Hp} : ∀ {xs : List V} {ds : List PyData}, DpAll K H xs ds → xs.length = ds.length
  | _, _, .nil => rfl
  | _, _, .cons _ t => by rw [List.length_cons, List.length_cons, DpAll.len t]
theorem DpAll.get {K : PySem.W.Frag} {H : Hp} : ∀ {xs : List V} {ds : List PyData} {i : Nat}, DpAll K H xs ds → i < ds.length → ∃ x d, xs[i]? = some x ∧ ds[i]? = some d ∧ Dp K H x d
  | _, _, _, .nil, h => absurd h (Nat.not_lt_zero _)
  | _, _, 0, .cons a _, _ => ⟨_, _, rfl, rfl, a⟩
  | _, _, i + 1, .cons _ t, h => by
    obtain ⟨x, d, h1, h2, h3⟩ := DpAll.get (i := i) t (Nat.lt_of_succ_lt_succ h)
    exact ⟨x, d, h1, h2, h3⟩
theorem ty_sqL {K : PySem.W.Frag} {H : Hp} {a : Addr} {xs : List V} (h : SqL K H a xs) : TyX K H (.ref a) (.type "list") := by
  rcases h with (h | ⟨o, h⟩) | ⟨o, its, n, h, c, _⟩
  · exact .base (.lst h)
  · exact .base (.frz h)
  · exact .kList h c
theorem ty_sqT {K : PySem.W.Frag} {H : Hp} {a : Addr} {xs : List V} (h : SqT K H a xs) : TyX K H (.ref a) (.type "tuple") := by
  rcases h with (h | ⟨o, h⟩) | ⟨o, its, n, h, c, _⟩
  · exact .base (.tup h)
  · exact .fTuple h
  · exact .kTuple h c
theorem l_ixSL {K : PySem.W.Frag} {H : Hp} {Q : VK} {p : Addr} {xs : List V} {k : Int} {v : V} (ht : SqL K H p xs) (ha : atI xs k = some v) (h : Q v H) : rIx K (.ref p) (.int k) H Q := .inl ⟨p, xs, k, v, rfl, rfl, ht, ha, h⟩
theorem l_ixST {K : PySem.W.Frag} {H : Hp} {Q : VK} {p : Addr} {xs : List V} {k : Int} {v : V} (ht : SqT K H p xs) (ha : atI xs k = some v) (h : Q v H) : rIx K (.ref p) (.int k) H Q := .inr (.inl ⟨p, xs, k, v, rfl, rfl, ht, ha, h⟩)
theorem But.tups {p : Addr} {H H' : Hp} {xs : List V} (g : But p H H') (h : H p = some (.lst xs)) : Tups H H' := fun a ys e => g a _ (fun z => by subst z; rw [h] at e; cases e) e
theorem Bx.but {p b l : Addr} {H H' : Hp} {ns : List Int} {s : Int} (x : Bx H b l ns s) (g : But p H H') (n1 : b ≠ p) (n2 : l ≠ p) : Bx H' b l ns s := ⟨x.ne, g _ _ n1 x.hb, g _ _ n2 x.hl, x.s0, x.s1, x.n63⟩
/-- what is told, as data -/
def dTold (x : Bool × List Nat) : PyData := .tuple [.int (bi x.1), .list (x.2.map fun (k : Nat) => PyData.int (k : Int))]
theorem dp_told {K : PySem.W.Frag} {H H' : Hp} {v : V} {x : Bool × List Nat} (h : Told H H' v x) : Dp K H' v (dTold x) := by
  obtain ⟨p, l, rfl, h0, hp, hl⟩ := h
  exact .tup (SqT.of hp) (.cons (.int _) (.cons (.lst (SqL.of hl) (dp_vn _)) .nil))
theorem lay_told (x : Bool × List Nat) : (dTold x).canLay0 = true := by
  show (true && ((PyData.canLayAll0 (x.2.map fun (k : Nat) => PyData.int (k : Int))) && true)) = true
  rw [lay_vn]; rfl
theorem shaped_told (x : Bool × List Nat) : SeqAt.shaped (dTold x) = true := by
  show ((dTold x).canLay0 && decide ((max 0 (max (PyData.depthAll (x.2.map fun (k : Nat) => PyData.int (k : Int)) + 1) 0)) + 1 ≤ 64)) = true
  rw [lay_told, dep_vn]; rfl
theorem ok_told {x : Bool × List Nat} (h : x.2.length ≤ 1000) : okd 3 (dTold x) := by
  refine ⟨by show 2 ≤ 1000; decide, fun y hy => ?_⟩
  rcases List.mem_cons.mp hy with rfl | hy
  · trivial
  · obtain rfl := List.mem_singleton.mp hy
    refine ⟨by rw [List.length_map]; exact h, fun z hz => ?_⟩
    obtain ⟨k, _, rfl⟩ := List.mem_map.mp hz
    trivial
theorem l_reverse' {H : Hp} {p : Addr} {xs : List V} {Q : VK} (h : H p = some (.lst xs)) (q : ∀ H', But p H H' → H' p = some (.lst xs.reverse) → Q .non H') : rReverse (.ref p) [] H Q := ⟨p, xs, rfl, rfl, h, q _ but_upd upd_same⟩
theorem But.of {p : Addr} {H H' : Hp} (g : Same H H') : But p H H' := fun a o _ h => g a o h
theorem But.refl {p : Addr} (H : Hp) : But p H H := fun _ _ _ h => h
theorem But.trans {p : Addr} {H H1 H2 : Hp} (x : But p H H1) (y : But p H1 H2) : But p H H2 := fun a o n h => y a o n (x a o n h)
theorem Fr.mut {b l D : Addr} {H H' : Hp} {o : HO} (f : Fr b l H H') (h : H D = none) : Fr b l H (upd H' D o) := fun a u n m e => by
  rw [upd_ne (ne_of_none e h)]
  exact f a u n m e
theorem Fr.fresh {b l D : Addr} {H H' : Hp} (f : Fr b l H H') (hb : D ≠ b) (hl : D ≠ l) (h : H' D = none) : H D = none := by
  cases e : H D with
  | none => rfl
  | some o => rw [f D o hb hl e] at h; cases h
/-- [e for i in range(n)], e draws from the box; every item is such as P says -/
theorem lcR_draw {σ : St} {H : Hp} {Q : VK} {te : TE} {j n : Nat} {vs : List Nat} {b l : Addr} {ns : List Int} {s : Int} (P : V → Prop) (hx : Bx H b l ns s) (hw : ∀ x, wipe ((wipe σ vs).set j (some x)) vs = wipe σ vs) (hl : n ≤ 100000)
    (h : ∀ (i : Nat) H' ns' s' (Q' : VK), i < n → Fr b l H H' → Bx H' b l ns' s' → (∀ y H'' ns'' s'', P y → Fr b l H' H'' → Bx H'' b l ns'' s'' → Q' y H'') → te ((wipe σ vs).set j (some (.int (0 + (i : Int))))) H' Q')
    (q : ∀ D ys H2 ns2 s2, H D = none → Fr b l H H2 → Bx H2 b l ns2 s2 → ys.length = n → (∀ y ∈ ys, P y) → H2 D = some (.lst ys) → Q (.ref D) H2) : IR1 [.int (n : Int)] H (LcB (gName j) tYes te vs σ Q) := by
  refine ⟨(n : Int), rfl, ?_, ?_, ?_⟩
  · have : (0 : Int) ≤ 2 ^ 62 := by decide
    omega
  · have : (100000 : Int) < 2 ^ 62 := by decide
    omega
  · intro D hD
    rw [Int.toNat_natCast]
    have nb : D ≠ b := (ne_of_none hx.hb hD).symm
    have nl : D ≠ l := (ne_of_none hx.hl hD).symm
    refine lc_range (lo := 0) (n := n) (fun i H' => ∃ ys ns' s', Fr b l H H' ∧ Bx H' b l ns' s' ∧ H' D = some (.lst ys) ∧ ys.length = i ∧ ∀ y ∈ ys, P y) ⟨[], ns, s, Fr.of (sm_new hD _), hx.same (sm_new hD _), upd_same, rfl, fun _ h => by cases h⟩ (fun i H' hi p => ⟨hw _, ?_⟩) fun H' p => ?_
    · obtain ⟨ys, ns', s', f, x, e, hn, hp⟩ := p
      refine h i H' ns' s' _ hi f x fun y H'' ns'' s'' py f2 x2 => ?_
      refine ⟨ys, f2.at nb nl e, Nat.lt_of_lt_of_le (show ys.length < 100001 by omega) (by decide), ys ++ [y], ns'', s'', (f.trans f2).mut hD, ⟨x2.ne, ?_, ?_, x2.s0, x2.s1, x2.n63⟩, upd_same, by rw [List.length_append, hn]; rfl, fun z hz => ?_⟩
      · rw [upd_ne nb.symm]; exact x2.hb
      · rw [upd_ne nl.symm]; exact x2.hl
      · rcases List.mem_append.mp hz with hz | hz
        · exact hp z hz
        · rw [List.mem_singleton.mp hz]; exact py
    · obtain ⟨ys, ns', s', f, x, e, hn, hp⟩ := p
      exact q D ys H' ns' s' hD f x hn hp e
/-- [e for x in a tuple], every item's value related, by what stands in tuples -/
theorem lcT_rel {K : PySem.W.Frag} {σ : St} {H : Hp} {Q : VK} {te : TE} {j : Nat} {vs : List Nat} {a : Addr} {xs : List V} (R : Nat → V → Hp → Prop) (mono : ∀ i y H H', Tups H H' → R i y H → R i y H') (hw : ∀ x, wipe ((wipe σ vs).set j (some x)) vs = wipe σ vs) (ht : SqT K H a xs) (hl : xs.length ≤ 100000)
    (h : ∀ (i : Nat) (x : V) H' (Q' : VK), xs[i]? = some x → Same H H' → (∀ y H'', Same H' H'' → R i y H'' → Q' y H'') → te ((wipe σ vs).set j (some x)) H' Q')
    (q : ∀ D ys H2, H D = none → Same H H2 → H2 D = some (.lst ys) → ys.length = xs.length → (∀ i y, ys[i]? = some y → R i y H2) → Q (.ref D) H2) : IT K (.ref a) H (LcB (gName j) tYes te vs σ Q) :=
  ⟨a, rfl, ⟨xs, ht⟩, fun D hD => by
    refine lc_tup (K := K) (a := a) (xs := xs) (fun i H' => ∃ ys, Same H H' ∧ H' D = some (.lst ys) ∧ ys.length = i ∧ i ≤ xs.length ∧ ∀ k y, ys[k]? = some y → R k y H') ⟨[], sm_new hD _, upd_same, rfl, Nat.zero_le _, fun k y e => by cases e⟩ (fun i H' _ ⟨_, g, _⟩ => sm_t g ht) (fun i x H' hx p => ⟨hw x, ?_⟩) fun H' ⟨ys, g, e, n, _, r⟩ => q D ys H' hD g e n r
    obtain ⟨ys, g, e, n, n2, r⟩ := p
    have hi := (List.getElem?_eq_some_iff.mp hx).1
    refine h i x H' _ hx g fun y H'' g2 ry => ?_
    have tp : Tups H'' (upd H'' D (.lst (ys ++ [y]))) := but_upd.tups (g2 _ _ e)
    refine ⟨ys, g2 _ _ e, Nat.lt_of_lt_of_le (show ys.length < 100001 by omega) (by decide), ys ++ [y], sm_mut (g.trans g2) hD, upd_same, by rw [List.length_append, n]; rfl, hi, fun k z hz => mono _ _ _ _ tp ?_⟩
    by_cases hk : k < ys.length
    · rw [List.getElem?_append_left hk] at hz
      exact mono _ _ _ _ (Same.tups g2) (r k z hz)
    · rw [List.getElem?_append_right (by omega)] at hz
      have hk2 : k - ys.length = 0 := by
        have := (List.getElem?_eq_some_iff.mp hz).1
        have : ([y] : List V).length = 1 := rfl
        omega
      rw [hk2] at hz
      obtain rfl := Option.some.inj hz
      have : k = i := by omega
      rw [this]
      exact ry⟩
/-! tuples joined, the written swap of and, or -/
theorem l_catT1 {K : PySem.W.Frag} {H : Hp} {Q : VK} {p r : Addr} {xs ys : List V} (hp : SqT K H p xs) (hr : SqT K H r ys) (hx : xs ≠ []) (hy : ys ≠ []) (hn : xs.length + ys.length ≤ 100000) (q : ∀ (l : Addr) (H' : Hp), H l = none → Same H H' → H' l = some (.tup (xs ++ ys)) → Q (.ref l) H') : rCatT K (.ref p) (.ref r) H Q :=
  ⟨p, r, xs, ys, rfl, rfl, hp, hr, hx, Nat.le_trans hn (by decide), fun e => absurd e hy, fun _ l hl => q l _ hl (sm_new hl _) upd_same⟩
theorem l_catT0 {K : PySem.W.Frag} {H : Hp} {Q : VK} {p r : Addr} {xs : List V} (hp : SqT K H p xs) (hr : SqT K H r []) (hx : xs ≠ []) (hn : xs.length ≤ 100000) (q : Q (.ref p) H) : rCatT K (.ref p) (.ref r) H Q :=
  ⟨p, r, xs, [], rfl, rfl, hp, hr, hx, Nat.le_trans hn (by decide), fun _ => q, fun e => absurd rfl e⟩
def swapD : List (Key × V) := [(Sum.inr "and", .str "or"), (Sum.inr "or", .str "and")]
theorem swap_merge : mergeK [] swapD = swapD := by decide +kernel
theorem swap_at (a : Bool) : valV swapD (Sum.inr (wd a)) = some (.str (wd (!a))) := by cases a <;> decide +kernel
theorem l_swapD {σ : St} {H : Hp} {Q : VK} (q : ∀ (p : Addr) (H' : Hp), H p = none → Same H H' → H' p = some (.dK swapD) → Q (.ref p) H') : tDisp [(tC (.str "and"), tC (.str "or")), (tC (.str "or"), tC (.str "and"))] σ H Q := fun p hp =>
  show upd H p (.dK []) p = some (.dK []) ∧ _ from ⟨upd_same, swapD, rfl, by decide, by rw [upd_upd, swap_merge]; exact q p _ hp (sm_new hp _) upd_same⟩
theorem l_dget {td ty : TE} {σ : St} {H : Hp} {Q : VK} (h : td σ H fun x H1 => ty σ H1 fun y H2 => ∃ a v, x = .ref a ∧ DGet H2 a y (some v) ∧ Q v H2) : tDGet td ty σ H Q := h
theorem l_dgetS {H : Hp} {G : V → Prop} {d : Addr} {a : Bool} (h : H d = some (.dK swapD)) (q : G (.str (wd (!a)))) : ∃ a' v, V.ref d = .ref a' ∧ DGet H a' (.str (wd a)) (some v) ∧ G v :=
  ⟨d, _, rfl, by have e := DGet.k (k := Sum.inr (wd a)) h; rw [swap_at] at e; exact e, q⟩
end J

namespace J
open PySem L2
/-! data of tuples -/
mutual
inductive TD (H : Hp) : V → PyData → Prop
  | non : TD H .non .none
  | bl (b : Bool) : TD H (.bl b) (.bool b)
  | int (i : Int) : TD H (.int i) (.int i)
  | str (x : Str) : TD H (.str x) (.str x)
  | tup {a : Addr} {xs : List V} {ds : List PyData} : H a = some (.tup xs) → TDA H xs ds → TD H (.ref a) (.tuple ds)
inductive TDA (H : Hp) : List V → List PyData → Prop
  | nil : TDA H [] []
  | cons {v : V} {vs : List V} {d : PyData} {ds : List PyData} : TD H v d → TDA H vs ds → TDA H (v :: vs) (d :: ds)
end
theorem TD.tups {H H' : Hp} (g : Tups H H') {v : V} {d : PyData} (h : TD H v d) : TD H' v d := by
  refine TD.rec (motive_1 := fun v d _ => TD H' v d) (motive_2 := fun vs ds _ => TDA H' vs ds) ?_ ?_ ?_ ?_ ?_ ?_ ?_ h
  · exact .non
  · intro b; exact .bl b
  · intro i; exact .int i
  · intro x; exact .str x
  · intro a xs ds e _ ih; exact .tup (g _ _ e) ih
  · exact .nil
  · intro v vs d ds _ _ i1 i2; exact .cons i1 i2
theorem TDA.tups {H H' : Hp} (g : Tups H H') : ∀ {vs : List V} {ds : List PyData}, TDA H vs ds → TDA H' vs ds
  | _, _, .nil => .nil
  | _, _, .cons a t => .cons (a.tups g) (TDA.tups g t)
theorem TD.mono {H H' : Hp} (g : Same H H') {v : V} {d : PyData} (h : TD H v d) : TD H' v d := h.tups (Same.tups g)
theorem TDA.mono {H H' : Hp} (g : Same H H') {vs : List V} {ds : List PyData} (h : TDA H vs ds) : TDA H' vs ds := h.tups (Same.tups g)
theorem TD.dp {K : PySem.W.Frag} {H : Hp} {v : V} {d : PyData} (h : TD H v d) : Dp K H v d := by
  refine TD.rec (motive_1 := fun v d _ => Dp K H v d) (motive_2 := fun vs ds _ => DpAll K H vs ds) ?_ ?_ ?_ ?_ ?_ ?_ ?_ h
  · exact .non
  · intro b; exact .bl b
  · intro i; exact .int i
  · intro x; exact .str x
  · intro a xs ds e _ ih; exact .tup (SqT.of e) ih
  · exact .nil
  · intro v vs d ds _ _ i1 i2; exact .cons i1 i2
theorem TDA.dp {K : PySem.W.Frag} {H : Hp} : ∀ {vs : List V} {ds : List PyData}, TDA H vs ds → DpAll K H vs ds
  | _, _, .nil => .nil
  | _, _, .cons a t => .cons a.dp (TDA.dp t)
theorem TDA.len {H : Hp} : ∀ {vs : List V} {ds : List PyData}, TDA H vs ds → vs.length = ds.length
  | _, _, .nil => rfl
  | _, _, .cons _ t => by rw [List.length_cons, List.length_cons, TDA.len t]
theorem TDA.append {H : Hp} : ∀ {vs us : List V} {ds es : List PyData}, TDA H vs ds → TDA H us es → TDA H (vs ++ us) (ds ++ es)
  | _, _, _, _, .nil, h => h
  | _, _, _, _, .cons a t, h => .cons a (TDA.append t h)
theorem TDA.get {H : Hp} : ∀ {vs : List V} {ds : List PyData} {i : Nat} {d : PyData}, TDA H vs ds → ds[i]? = some d → ∃ v, vs[i]? = some v ∧ TD H v d
  | _, _, 0, _, .cons a _, h => ⟨_, rfl, by cases h; exact a⟩
  | _, _, i + 1, _, .cons _ t, h => TDA.get (i := i) t h
theorem TDA.getV {H : Hp} : ∀ {vs : List V} {ds : List PyData} {i : Nat} {v : V}, TDA H vs ds → vs[i]? = some v → ∃ d, ds[i]? = some d ∧ TD H v d
  | _, _, 0, _, .cons a _, h => ⟨_, rfl, by cases h; exact a⟩
  | _, _, i + 1, _, .cons _ t, h => TDA.getV (i := i) t h
theorem TDA.take {H : Hp} : ∀ {vs : List V} {ds : List PyData} (n : Nat), TDA H vs ds → TDA H (vs.take n) (ds.take n)
  | _, _, 0, _ => .nil
  | _, _, _ + 1, .nil => .nil
  | _, _, n + 1, .cons a t => .cons a (TDA.take n t)
theorem TDA.drop {H : Hp} : ∀ {vs : List V} {ds : List PyData} (n : Nat), TDA H vs ds → TDA H (vs.drop n) (ds.drop n)
  | _, _, 0, h => h
  | _, _, _ + 1, .nil => .nil
  | _, _, n + 1, .cons _ t => TDA.drop n t
/-- what stands in a tuple -/
theorem TD.at {H : Hp} {v : V} {ds : List PyData} (h : TD H v (.tuple ds)) : ∃ a xs, v = .ref a ∧ H a = some (.tup xs) ∧ TDA H xs ds := by
  cases h with
  | tup e h => exact ⟨_, _, rfl, e, h⟩
theorem atI_get {α : Type} {xs : List α} {i : Nat} {v : α} (h : xs[i]? = some v) : atI xs (i : Int) = some v := atI_nat h
/-! conditions as data -/
def cdata : Cond → PyData
  | .look i => .tuple [.str "look", .int (i : Int)]
  | .not c => .tuple [.str "not", cdata c]
  | .bin a l r => .tuple [.str (wd a), cdata l, cdata r]
theorem CA.td {H : Hp} {v : V} {c : Cond} (h : CA H v c) : TD H v (cdata c) := by
  induction h with
  | look e => exact .tup e (.cons (.str _) (.cons (.int _) .nil))
  | not e _ ih => exact .tup e (.cons (.str _) (.cons ih .nil))
  | bin e _ _ i1 i2 => exact .tup e (.cons (.str _) (.cons i1 (.cons i2 .nil)))
theorem wd_inj {a b : Bool} (h : wd a = wd b) : a = b := by
  cases a <;> cases b <;> first | rfl | (exact absurd h (by decide +kernel))
theorem TD.ca {H : Hp} : ∀ {c : Cond} {v : V}, TD H v (cdata c) → CA H v c
  | .look i, v, h => by
    obtain ⟨a, xs, rfl, e, t⟩ := h.at
    cases t with
    | cons h1 t => cases t with
      | cons h2 t => cases t; cases h1; cases h2; exact .look e
  | .not c, v, h => by
    obtain ⟨a, xs, rfl, e, t⟩ := h.at
    cases t with
    | cons h1 t => cases t with
      | cons h2 t => cases t; cases h1; exact .not e (TD.ca h2)
  | .bin b l r, v, h => by
    obtain ⟨a, xs, rfl, e, t⟩ := h.at
    cases t with
    | cons h1 t => cases t with
      | cons h2 t => cases t with
        | cons h3 t => cases t; cases h1; exact .bin e (TD.ca h2) (TD.ca h3)
/-! pairs, exchanges -/
def Cond.pairs : Cond → Nat
  | .look _ => 0
  | .not c => c.pairs
  | .bin _ l r => 1 + l.pairs + r.pairs
theorem pairs_looks (c : Cond) : c.pairs + 1 = c.looks := by
  induction c with
  | look i => rfl
  | not c ih => exact ih
  | bin a l r i1 i2 => unfold Cond.pairs Cond.looks; omega
def exch : Cond → List Bool → Cond
  | .look i, _ => .look i
  | .not c, ts => .not (exch c ts)
  | .bin a l r, ts => if ts.getD 0 false then .bin a (exch r (ts.drop (1 + l.pairs))) (exch l ((ts.drop 1).take l.pairs)) else .bin a (exch l ((ts.drop 1).take l.pairs)) (exch r (ts.drop (1 + l.pairs)))
theorem exch_ok : ∀ (c : Cond) (ts : List Bool), c.ok → (exch c ts).ok
  | .look _, _, h => h
  | .not c, ts, h => exch_ok c ts h
  | .bin a l r, ts, h => by
    unfold exch
    split
    · exact ⟨exch_ok r _ h.2, exch_ok l _ h.1⟩
    · exact ⟨exch_ok l _ h.1, exch_ok r _ h.2⟩
theorem exch_deep : ∀ (c : Cond) (ts : List Bool), (exch c ts).deep = c.deep
  | .look _, _ => rfl
  | .not c, ts => congrArg (· + 1) (exch_deep c ts)
  | .bin a l r, ts => by
    unfold exch
    split
    · show max (exch r _).deep (exch l _).deep + 1 = max l.deep r.deep + 1
      rw [exch_deep r, exch_deep l, Nat.max_comm]
    · show max (exch l _).deep (exch r _).deep + 1 = max l.deep r.deep + 1
      rw [exch_deep r, exch_deep l]
theorem exch_looks : ∀ (c : Cond) (ts : List Bool), (exch c ts).looks = c.looks
  | .look _, _ => rfl
  | .not c, ts => exch_looks c ts
  | .bin a l r, ts => by
    unfold exch
    split
    · show (exch r _).looks + (exch l _).looks = l.looks + r.looks
      rw [exch_looks r, exch_looks l, Nat.add_comm]
    · show (exch l _).looks + (exch r _).looks = l.looks + r.looks
      rw [exch_looks r, exch_looks l]
/-! slices -/
theorem cut_lo {xs : List V} {i : Nat} (h : i ≤ xs.length) : cutV xs (some (i : Int)) none = xs.drop i := by
  unfold cutV
  rw [HT.sIx_nat, Nat.min_eq_left h, HT.sIx_none]
  exact List.take_of_length_le (by rw [List.length_drop]; exact Nat.le_refl _)
theorem cut_lohi {xs : List V} {i j : Nat} (h : i ≤ xs.length) (h2 : j ≤ xs.length) : cutV xs (some (i : Int)) (some (j : Int)) = (xs.drop i).take (j - i) := by
  unfold cutV
  rw [HT.sIx_nat, HT.sIx_nat, Nat.min_eq_left h, Nat.min_eq_left h2]
theorem cut_hi {xs : List V} {j : Nat} (h2 : j ≤ xs.length) : cutV xs none (some (j : Int)) = xs.take j := by
  unfold cutV
  rw [HT.sIx_nat, HT.sIx_none, Nat.min_eq_left h2]
  rfl
theorem exch_zero : ∀ (c : Cond) (ts : List Bool), (∀ b ∈ ts, b = false) → exch c ts = c
  | .look _, _, _ => rfl
  | .not c, ts, h => congrArg Cond.not (exch_zero c ts h)
  | .bin a l r, ts, h => by
    have h0 : ts.getD 0 false = false := by
      cases ts with
      | nil => rfl
      | cons b t => exact h b List.mem_cons_self
    unfold exch
    rw [h0, if_neg Bool.false_ne_true, exch_zero l _ (fun b hb => h b (List.mem_of_mem_drop (List.mem_of_mem_take hb))), exch_zero r _ (fun b hb => h b (List.mem_of_mem_drop hb))]
theorem exch_pairs (c : Cond) (ts : List Bool) : (exch c ts).pairs = c.pairs := by
  have h1 := pairs_looks c
  have h2 := pairs_looks (exch c ts)
  rw [exch_looks] at h2
  omega
end J

namespace J
open PySem L2
/-! codes -/
inductive Row where
  | look (t : Nat) (w : Bool) (to : Nat)
  | fin (b : Bool)
  deriving DecidableEq
def rowD : Row → PyData
  | .look t w to => .tuple [.str "look", .int (t : Int), .int (bi w), .int (to : Int)]
  | .fin b => .tuple [.str "end", .int (bi b)]
/-- where one may go on -/
def Row.okAt (n : Nat) (i : Nat) : Row → Prop
  | .look t _ to => t < 8 ∧ i + 2 < n ∧ i < to ∧ to < n
  | .fin _ => n ≤ i + 2
def okRows (rows : List Row) : Prop := 2 ≤ rows.length ∧ rows.length ≤ 1000 ∧ ∀ (i : Nat) (r : Row), rows[i]? = some r → Row.okAt rows.length i r
def runM (rows : List Row) (ws : List Bool) : Nat → Nat → Bool × List Nat × Nat
  | 0, _ => (false, [], 0)
  | f + 1, i => match rows[i]? with
    | some (.look t w to) => (fun (r : Bool × List Nat × Nat) => (r.1, t :: r.2.1, (if ws.getD t false == w then 1 else 0) + r.2.2)) (runM rows ws f (if ws.getD t false == w then to else i + 1))
    | some (.fin b) => (b, [], 0)
    | none => (false, [], 0)
theorem runM_more {rows : List Row} {ws : List Bool} (h : okRows rows) : ∀ (f i : Nat), i < rows.length → rows.length ≤ f + i → runM rows ws f i = runM rows ws (rows.length - i) i := by
  suffices hs : ∀ (m f i : Nat), rows.length - i ≤ m → i < rows.length → rows.length ≤ f + i → runM rows ws f i = runM rows ws (rows.length - i) i from fun f i h1 h2 => hs _ f i (Nat.le_refl _) h1 h2
  intro m
  induction m with
  | zero => intro f i h1 h2; omega
  | succ m ih =>
    intro f i h1 h2 h3
    obtain ⟨f', rfl⟩ : ∃ f', f = f' + 1 := ⟨f - 1, by omega⟩
    obtain ⟨g', hg⟩ : ∃ g', rows.length - i = g' + 1 := ⟨rows.length - i - 1, by omega⟩
    rw [hg]
    have hr : rows[i]? = some (rows[i]'h2) := List.getElem?_eq_getElem h2
    have hk := h.2.2 i _ hr
    unfold runM
    rw [hr]
    cases e : rows[i]'h2 with
    | fin b => rfl
    | look t w to =>
      rw [e] at hk
      obtain ⟨_, h5, h6, h7⟩ := hk
      show (fun (r : Bool × List Nat × Nat) => (r.1, t :: r.2.1, (if ws.getD t false == w then 1 else 0) + r.2.2)) (runM rows ws f' (if ws.getD t false == w then to else i + 1)) = (fun (r : Bool × List Nat × Nat) => (r.1, t :: r.2.1, (if ws.getD t false == w then 1 else 0) + r.2.2)) (runM rows ws g' (if ws.getD t false == w then to else i + 1))
      congr 1
      by_cases c : (ws.getD t false == w) = true
      · rw [if_pos c, ih f' to (by omega) h7 (by omega), ih g' to (by omega) h7 (by omega)]
      · rw [if_neg c, ih f' (i + 1) (by omega) (by omega) (by omega), ih g' (i + 1) (by omega) (by omega) (by omega)]
/-- what run tells -/
def runC (rows : List Row) (ws : List Bool) : Bool × List Nat × Nat := runM rows ws rows.length 0
/-- one row further -/
theorem runM_look {rows : List Row} {ws : List Bool} (h : okRows rows) {i t to : Nat} {w : Bool} (hr : rows[i]? = some (.look t w to)) :
    runM rows ws (rows.length - i) i = ((runM rows ws (rows.length - (if ws.getD t false == w then to else i + 1)) (if ws.getD t false == w then to else i + 1)).1, t :: (runM rows ws (rows.length - (if ws.getD t false == w then to else i + 1)) (if ws.getD t false == w then to else i + 1)).2.1, (if ws.getD t false == w then 1 else 0) + (runM rows ws (rows.length - (if ws.getD t false == w then to else i + 1)) (if ws.getD t false == w then to else i + 1)).2.2) := by
  have hi := (List.getElem?_eq_some_iff.mp hr).1
  obtain ⟨_, h5, h6, h7⟩ := h.2.2 i _ hr
  obtain ⟨g', hg⟩ : ∃ g', rows.length - i = g' + 1 := ⟨rows.length - i - 1, by omega⟩
  rw [hg]
  conv => lhs; unfold runM
  rw [hr]
  show ((runM rows ws g' (if ws.getD t false == w then to else i + 1)).1, t :: (runM rows ws g' (if ws.getD t false == w then to else i + 1)).2.1, (if ws.getD t false == w then 1 else 0) + (runM rows ws g' (if ws.getD t false == w then to else i + 1)).2.2) = _
  have e : runM rows ws g' (if ws.getD t false == w then to else i + 1) = runM rows ws (rows.length - (if ws.getD t false == w then to else i + 1)) (if ws.getD t false == w then to else i + 1) := by
    split
    · exact runM_more h g' to h7 (by omega)
    · exact runM_more h g' (i + 1) (by omega) (by omega)
  rw [e]
theorem runM_fin {rows : List Row} {ws : List Bool} {i : Nat} {b : Bool} (hr : rows[i]? = some (.fin b)) : runM rows ws (rows.length - i) i = (b, [], 0) := by
  have hi := (List.getElem?_eq_some_iff.mp hr).1
  obtain ⟨g', hg⟩ : ∃ g', rows.length - i = g' + 1 := ⟨rows.length - i - 1, by omega⟩
  rw [hg]
  unfold runM
  rw [hr]
theorem sm_but {H H' H'' : Hp} {p : Addr} (e : Same H H') (g : But p H' H'') (h : H p = none) : Same H H'' := fun a o ha => g a o (ne_of_none ha h) (e a o ha)
/-- (worth, looks, jumps): a tuple, its list new -/
def RTold (H H' : Hp) (v : V) (x : Bool × List Nat × Nat) : Prop := ∃ p l, v = .ref p ∧ H l = none ∧ H' p = some (.tup [vb x.1, .ref l, vn x.2.2]) ∧ H' l = some (.lst (x.2.1.map vn))
theorem rtold_mk {H H' : Hp} {p l : Addr} {x : Bool × List Nat × Nat} (hp : H' p = some (.tup [vb x.1, .ref l, vn x.2.2])) (hl : H' l = some (.lst (x.2.1.map vn))) (h0 : H l = none) : RTold H H' (.ref p) x := ⟨p, l, rfl, h0, hp, hl⟩
theorem RTold.back {H H1 H2 : Hp} {v : V} {x : Bool × List Nat × Nat} (g : Same H H1) (h : RTold H1 H2 v x) : RTold H H2 v x := by
  obtain ⟨p, l, rfl, h0, hp, hq⟩ := h
  exact ⟨p, l, rfl, g.free h0, hp, hq⟩
/-- rows at a list -/
def RA (K : PySem.W.Frag) (H : Hp) (p : Addr) (rows : List Row) : Prop := ∃ rs, SqL K H p rs ∧ TDA H rs (rows.map rowD)
theorem RA.mono {K : PySem.W.Frag} {H H' : Hp} {p : Addr} {rows : List Row} (g : Same H H') (h : RA K H p rows) : RA K H' p rows := by
  obtain ⟨rs, h1, h2⟩ := h
  exact ⟨rs, sm_l g h1, h2.mono g⟩
theorem RA.get {K : PySem.W.Frag} {H : Hp} {p : Addr} {rows : List Row} {i : Nat} {r : Row} (h : RA K H p rows) (hr : rows[i]? = some r) : ∃ rs v, SqL K H p rs ∧ atI rs (i : Int) = some v ∧ TD H v (rowD r) := by
  obtain ⟨rs, h1, h2⟩ := h
  obtain ⟨v, hv, ht⟩ := h2.get (i := i) (d := rowD r) (by rw [List.getElem?_map, hr]; rfl)
  exact ⟨rs, v, h1, atI_nat hv, ht⟩
theorem row_look {H : Hp} {v : V} {t to : Nat} {w : Bool} (h : TD H v (rowD (.look t w to))) : ∃ a, v = .ref a ∧ H a = some (.tup [.str "look", vn t, vb w, vn to]) := by
  obtain ⟨a, xs, rfl, e, t⟩ := h.at
  cases t with
  | cons h1 t => cases t with
    | cons h2 t => cases t with
      | cons h3 t => cases t with
        | cons h4 t => cases t; cases h1; cases h2; cases h3; cases h4; exact ⟨a, rfl, e⟩
theorem row_fin {H : Hp} {v : V} {b : Bool} (h : TD H v (rowD (.fin b))) : ∃ a, v = .ref a ∧ H a = some (.tup [.str "end", vb b]) := by
  obtain ⟨a, xs, rfl, e, t⟩ := h.at
  cases t with
  | cons h1 t => cases t with
    | cons h2 t => cases t; cases h1; cases h2; exact ⟨a, rfl, e⟩
theorem row_look_mk {H : Hp} {a : Addr} {t to : Nat} {w : Bool} (h : H a = some (.tup [.str "look", vn t, vb w, vn to])) : TD H (.ref a) (rowD (.look t w to)) := .tup h (.cons (.str _) (.cons (.int _) (.cons (.int _) (.cons (.int _) .nil))))
theorem row_fin_mk {H : Hp} {a : Addr} {b : Bool} (h : H a = some (.tup [.str "end", vb b])) : TD H (.ref a) (rowD (.fin b)) := .tup h (.cons (.str _) (.cons (.int _) .nil))
end J
namespace J
open PySem L2
/-! what is due behind each look -/
def dueM : Cond → Nat → Nat → Nat → List (Nat × Nat × Nat)
  | .look i, _, y, n => [(i, y, n)]
  | .not c, b, y, n => dueM c b n y
  | .bin a l r, b, y, n => (if a then dueM l b (b + l.looks) n else dueM l b y (b + l.looks)) ++ dueM r (b + l.looks) y n
theorem dueM_len : ∀ (c : Cond) (b y n : Nat), (dueM c b y n).length = c.looks
  | .look _, _, _, _ => rfl
  | .not c, b, y, n => dueM_len c b n y
  | .bin a l r, b, y, n => by
    unfold dueM Cond.looks
    rw [List.length_append, dueM_len r]
    cases a
    · rw [if_neg Bool.false_ne_true, dueM_len l]
    · rw [if_pos rfl, dueM_len l]
def tri (x : Nat × Nat × Nat) : PyData := .tuple [.int (x.1 : Int), .int (x.2.1 : Int), .int (x.2.2 : Int)]
def rowsM : Nat → List (Nat × Nat × Nat) → List Row
  | _, [] => []
  | k, x :: r => (if x.2.1 = k + 1 then .look x.1 false x.2.2 else .look x.1 true x.2.1) :: rowsM (k + 1) r
theorem rowsM_len : ∀ (k : Nat) (l : List (Nat × Nat × Nat)), (rowsM k l).length = l.length
  | _, [] => rfl
  | k, x :: r => congrArg (· + 1) (rowsM_len (k + 1) r)
theorem rowsM_app : ∀ (k : Nat) (l m : List (Nat × Nat × Nat)), rowsM k (l ++ m) = rowsM k l ++ rowsM (k + l.length) m
  | _, [], _ => rfl
  | k, x :: r, m => by
    show _ :: rowsM (k + 1) (r ++ m) = _ :: (rowsM (k + 1) r ++ rowsM (k + (r.length + 1)) m)
    rw [rowsM_app (k + 1) r m, Nat.add_assoc, Nat.add_comm 1]
def codeM (c : Cond) (f : Bool) : List Row := rowsM 0 (dueM c 0 (if f then c.looks else c.looks + 1) (if f then c.looks + 1 else c.looks)) ++ [.fin f, .fin (!f)]
theorem codeM_len (c : Cond) (f : Bool) : (codeM c f).length = c.looks + 2 := by
  unfold codeM
  rw [List.length_append, rowsM_len, dueM_len]
  rfl
/-- rows at a list that is new -/
def RN (H H' : Hp) (v : V) (rows : List Row) : Prop := ∃ l vs, v = .ref l ∧ H l = none ∧ H' l = some (.lst vs) ∧ TDA H' vs (rows.map rowD)
theorem RN.back {H H1 H2 : Hp} {v : V} {rows : List Row} (g : Same H H1) (h : RN H1 H2 v rows) : RN H H2 v rows := by
  obtain ⟨l, vs, e, h0, h1, h2⟩ := h
  exact ⟨l, vs, e, g.free h0, h1, h2⟩
theorem RN.ra {K : PySem.W.Frag} {H H' : Hp} {v : V} {rows : List Row} (h : RN H H' v rows) : ∃ l, v = .ref l ∧ H l = none ∧ RA K H' l rows := by
  obtain ⟨l, vs, e, h0, h1, h2⟩ := h
  exact ⟨l, e, h0, vs, SqL.of h1, h2⟩
end J
namespace J
open PySem L2
/-! small facts of values -/
theorem vb1 (b : Bool) : decide (vb b = V.int 1) = b := by cases b <;> decide
theorem vbb (a b : Bool) : decide (vb a = vb b) = (a == b) := by cases a <;> cases b <;> decide
theorem vnn {a b : Nat} : decide (vn a = V.int ((b : Int) + 1)) = decide (a = b + 1) := by
  by_cases h : a = b + 1
  · rw [decide_eq_true h, decide_eq_true]
    rw [h]
    exact congrArg V.int (by omega)
  · rw [decide_eq_false h, decide_eq_false]
    intro e
    have := V.int.inj e
    omega
end J
namespace J
open PySem L2
theorem dp_rows {K : PySem.W.Frag} {H : Hp} {l : Addr} {vs : List V} {rows : List Row} (e : H l = some (.lst vs)) (t : TDA H vs (rows.map rowD)) : Dp K H (.ref l) (.list (rows.map rowD)) := .lst (SqL.of e) t.dp
theorem ok_row (r : Row) : okd 2 (rowD r) := by
  cases r with
  | look t w to =>
    refine ⟨by show 4 ≤ 1000; decide, fun x hx => ?_⟩
    rcases List.mem_cons.mp hx with rfl | hx
    · trivial
    · rcases List.mem_cons.mp hx with rfl | hx
      · trivial
      · rcases List.mem_cons.mp hx with rfl | hx
        · trivial
        · obtain rfl := List.mem_singleton.mp hx
          trivial
  | fin b =>
    refine ⟨by show 2 ≤ 1000; decide, fun x hx => ?_⟩
    rcases List.mem_cons.mp hx with rfl | hx
    · trivial
    · obtain rfl := List.mem_singleton.mp hx
      trivial
theorem ok_rows {rows : List Row} (h : rows.length ≤ 1000) : okd 3 (.list (rows.map rowD)) := by
  refine ⟨by rw [List.length_map]; exact h, fun x hx => ?_⟩
  obtain ⟨r, _, rfl⟩ := List.mem_map.mp hx
  exact ok_row r
theorem str_look : PyData.strOk ("look" : Str) = true := by decide +kernel
theorem str_end : PyData.strOk ("end" : Str) = true := by decide +kernel
theorem lay_row (r : Row) : (rowD r).canLay0 = true := by
  cases r with
  | look t w to =>
    show (PyData.strOk ("look" : Str) && (true && (true && (true && true)))) = true
    rw [str_look]; rfl
  | fin b =>
    show (PyData.strOk ("end" : Str) && (true && true)) = true
    rw [str_end]; rfl
theorem lay_rows : ∀ rows : List Row, PyData.canLayAll0 (rows.map rowD) = true
  | [] => rfl
  | r :: rs => by
    show ((rowD r).canLay0 && PyData.canLayAll0 (rs.map rowD)) = true
    rw [lay_row, lay_rows rs]; rfl
theorem dep_row (r : Row) : (rowD r).depth = 1 := by
  cases r with
  | look t w to => rfl
  | fin b => rfl
theorem dep_rows : ∀ rows : List Row, PyData.depthAll (rows.map rowD) ≤ 1
  | [] => Nat.zero_le _
  | r :: rs => by
    show max (rowD r).depth (PyData.depthAll (rs.map rowD)) ≤ 1
    rw [dep_row]
    have := dep_rows rs
    omega
theorem shaped_rows (rows : List Row) : SeqAt.shaped (.list (rows.map rowD)) = true := by
  show (PyData.canLayAll0 (rows.map rowD) && decide (PyData.depthAll (rows.map rowD) + 1 ≤ 64)) = true
  have := dep_rows rows
  rw [lay_rows, decide_eq_true (by omega)]; rfl
end J
namespace J
open PySem L2
/-- rows at a tracked list -/
def RT (H : Hp) (l : Addr) (rows : List Row) : Prop := ∃ vs, H l = some (.lst vs) ∧ TDA H vs (rows.map rowD)
theorem RT.ra {K : PySem.W.Frag} {H : Hp} {l : Addr} {rows : List Row} (h : RT H l rows) : RA K H l rows := by
  obtain ⟨vs, h1, h2⟩ := h
  exact ⟨vs, SqL.of h1, h2⟩
theorem RT.mono {H H' : Hp} {l : Addr} {rows : List Row} (g : Same H H') (h : RT H l rows) : RT H' l rows := by
  obtain ⟨vs, h1, h2⟩ := h
  exact ⟨vs, g _ _ h1, h2.mono g⟩
theorem RT.but {H H' : Hp} {l p : Addr} {rows : List Row} (g : But p H H') (tp : Tups H H') (n : l ≠ p) (h : RT H l rows) : RT H' l rows := by
  obtain ⟨vs, h1, h2⟩ := h
  exact ⟨vs, g _ _ n h1, h2.tups tp⟩
theorem RN.rt {H H' : Hp} {v : V} {rows : List Row} (h : RN H H' v rows) : ∃ l, v = .ref l ∧ H l = none ∧ RT H' l rows := by
  obtain ⟨l, vs, e, h0, h1, h2⟩ := h
  exact ⟨l, e, h0, vs, h1, h2⟩
end J

namespace J
open PySem L2
/-! a condition's code comes to what the condition comes to -/
theorem ev_bin (ws : List Bool) (a : Bool) (l r : Cond) : ev ws (.bin a l r) = if (ev ws l).1 = a then ((ev ws r).1, (ev ws l).2 ++ (ev ws r).2) else ev ws l := rfl
theorem looks_pos (c : Cond) : 0 < c.looks := by
  have := pairs_looks c
  omega
def EntOk (M k : Nat) (x : Nat × Nat × Nat) : Prop := x.1 < 8 ∧ (x.2.1 = k + 1 ∨ x.2.2 = k + 1) ∧ x.2.1 ≠ x.2.2 ∧ k < x.2.1 ∧ k < x.2.2 ∧ x.2.1 ≤ M ∧ x.2.2 ≤ M
theorem due_ent : ∀ (c : Cond) (b y n M : Nat), c.ok → (y = b + c.looks ∨ n = b + c.looks) → y ≠ n → b + c.looks ≤ y → b + c.looks ≤ n → y ≤ M → n ≤ M → ∀ (j : Nat) (x : Nat × Nat × Nat), (dueM c b y n)[j]? = some x → EntOk M (b + j) x
  | .look i, b, y, n, M, ho, h1, h2, h3, h4, h5, h6, j, x, hx => by
    unfold dueM at hx
    unfold Cond.looks at h1 h3 h4
    cases j with
    | zero =>
      obtain rfl := Option.some.inj hx
      exact ⟨ho, h1, h2, by show b + 0 < y; omega, by show b + 0 < n; omega, h5, h6⟩
    | succ j => cases hx
  | .not c, b, y, n, M, ho, h1, h2, h3, h4, h5, h6, j, x, hx => due_ent c b n y M ho h1.symm h2.symm h4 h3 h6 h5 j x hx
  | .bin a l r, b, y, n, M, ho, h1, h2, h3, h4, h5, h6, j, x, hx => by
    have hr := looks_pos r
    have hl := looks_pos l
    unfold Cond.looks at h1 h3 h4
    unfold dueM at hx
    have hlen : (if a = true then dueM l b (b + l.looks) n else dueM l b y (b + l.looks)).length = l.looks := by cases a <;> exact dueM_len _ _ _ _
    by_cases hj : j < l.looks
    · rw [List.getElem?_append_left (by omega)] at hx
      cases a
      · exact due_ent l b y (b + l.looks) M ho.1 (.inr rfl) (by omega) (by omega) (by omega) h5 (by omega) j x hx
      · exact due_ent l b (b + l.looks) n M ho.1 (.inl rfl) (by omega) (by omega) (by omega) (by omega) h6 j x hx
    · rw [List.getElem?_append_right (by omega), hlen] at hx
      have := due_ent r (b + l.looks) y n M ho.2 (by omega) h2 (by omega) (by omega) h5 h6 (j - l.looks) x hx
      rw [show b + l.looks + (j - l.looks) = b + j by omega] at this
      exact this
def entRow (k : Nat) (x : Nat × Nat × Nat) : Row := if x.2.1 = k + 1 then .look x.1 false x.2.2 else .look x.1 true x.2.1
theorem rowsM_get : ∀ (k : Nat) (l : List (Nat × Nat × Nat)) (j : Nat), (rowsM k l)[j]? = (l[j]?).map (entRow (k + j))
  | _, [], _ => rfl
  | k, x :: r, 0 => rfl
  | k, x :: r, j + 1 => by
    show (rowsM (k + 1) r)[j]? = (r[j]?).map (entRow (k + (j + 1)))
    rw [rowsM_get (k + 1) r j, show k + 1 + j = k + (j + 1) by omega]
theorem ent_row {M k : Nat} {x : Nat × Nat × Nat} (h : EntOk M k x) : ∃ w to, entRow k x = .look x.1 w to ∧ x.1 < 8 ∧ k + 1 < to ∧ to ≤ M ∧ ∀ b : Bool, (if b == w then to else k + 1) = if b then x.2.1 else x.2.2 := by
  obtain ⟨h8, h1, h2, h3, h4, h5, h6⟩ := h
  unfold entRow
  by_cases e : x.2.1 = k + 1
  · rw [if_pos e]
    refine ⟨false, x.2.2, rfl, h8, by omega, h6, fun b => ?_⟩
    cases b
    · rfl
    · show k + 1 = x.2.1
      omega
  · rw [if_neg e]
    refine ⟨true, x.2.1, rfl, h8, by omega, h5, fun b => ?_⟩
    cases b
    · show k + 1 = x.2.2
      omega
    · rfl
/-- the code's rows -/
theorem codeM_at (c : Cond) (f : Bool) (ho : c.ok) (i : Nat) (r : Row) (h : (codeM c f)[i]? = some r) :
    (i < c.looks ∧ ∃ t w to, r = .look t w to ∧ t < 8 ∧ i + 1 < to ∧ to < c.looks + 2) ∨ (i = c.looks ∧ r = .fin f) ∨ (i = c.looks + 1 ∧ r = .fin (!f)) := by
  unfold codeM at h
  have hl : (rowsM 0 (dueM c 0 (if f then c.looks else c.looks + 1) (if f then c.looks + 1 else c.looks))).length = c.looks := by rw [rowsM_len, dueM_len]
  by_cases hi : i < c.looks
  · rw [List.getElem?_append_left (by omega), rowsM_get] at h
    left
    refine ⟨hi, ?_⟩
    cases hd : (dueM c 0 (if f then c.looks else c.looks + 1) (if f then c.looks + 1 else c.looks))[i]? with
    | none => rw [hd] at h; cases h
    | some x =>
      rw [hd] at h
      obtain rfl := Option.some.inj h
      have he : EntOk (c.looks + 1) (0 + i) x := due_ent c 0 _ _ (c.looks + 1) ho (by cases f <;> simp) (by cases f <;> simp) (by cases f <;> simp) (by cases f <;> simp) (by cases f <;> simp) (by cases f <;> simp) i x hd
      obtain ⟨w, to, e, h8, h1, h2, _⟩ := ent_row he
      exact ⟨x.1, w, to, e, h8, by omega, by omega⟩
  · right
    rw [List.getElem?_append_right (by omega), hl] at h
    obtain ⟨k, hk⟩ : ∃ k, i - c.looks = k := ⟨_, rfl⟩
    rw [hk] at h
    match k, h with
    | 0, h => exact .inl ⟨by omega, (Option.some.inj h).symm⟩
    | 1, h => exact .inr ⟨by omega, (Option.some.inj h).symm⟩
    | k + 2, h => cases h
theorem codeM_ok (c : Cond) (f : Bool) (ho : c.ok) (hk : c.looks ≤ 900) : okRows (codeM c f) := by
  have hl := codeM_len c f
  refine ⟨by omega, by omega, fun i r h => ?_⟩
  rw [hl]
  rcases codeM_at c f ho i r h with ⟨h1, t, w, to, rfl, h2, h3, h4⟩ | ⟨h1, rfl⟩ | ⟨h1, rfl⟩
  · exact ⟨h2, by omega, by omega, h4⟩
  · show c.looks + 2 ≤ i + 2
    omega
  · show c.looks + 2 ≤ i + 2
    omega
theorem run_part {rows : List Row} {ws : List Bool} (hok : okRows rows) : ∀ (c : Cond) (b y n : Nat), c.ok → (y = b + c.looks ∨ n = b + c.looks) → y ≠ n → b + c.looks ≤ y → b + c.looks ≤ n →
    (∀ j, j < c.looks → rows[b + j]? = (rowsM b (dueM c b y n))[j]?) →
    ∃ j : Nat, j ≤ (ev ws c).2.length ∧ runM rows ws (rows.length - b) b = ((runM rows ws (rows.length - (if (ev ws c).1 then y else n)) (if (ev ws c).1 then y else n)).1, (ev ws c).2 ++ (runM rows ws (rows.length - (if (ev ws c).1 then y else n)) (if (ev ws c).1 then y else n)).2.1, j + (runM rows ws (rows.length - (if (ev ws c).1 then y else n)) (if (ev ws c).1 then y else n)).2.2)
  | .look i, b, y, n, ho, h1, h2, h3, h4, hr => by
    have h0 := hr 0 (by unfold Cond.looks; decide)
    rw [rowsM_get] at h0
    have he : EntOk (max y n) (b + 0) (i, y, n) := due_ent (.look i) b y n (max y n) ho h1 h2 h3 h4 (Nat.le_max_left _ _) (Nat.le_max_right _ _) 0 _ rfl
    obtain ⟨w, to, e, _, _, _, hg⟩ := ent_row he
    have h0' : rows[b]? = some (.look i w to) := by rw [← e]; exact h0
    have hl := runM_look (ws := ws) hok h0'
    have hg' : (if ws.getD i false == w then to else b + 1) = if ws.getD i false then y else n := hg (ws.getD i false)
    rw [hg'] at hl
    refine ⟨if ws.getD i false == w then 1 else 0, ?_, hl⟩
    show (if ws.getD i false == w then 1 else 0) ≤ 1
    split <;> decide
  | .not c, b, y, n, ho, h1, h2, h3, h4, hr => by
    obtain ⟨j, hj, e⟩ := run_part (ws := ws) hok c b n y ho h1.symm h2.symm h4 h3 hr
    refine ⟨j, hj, ?_⟩
    have e2 : (if (ev ws c).1 then n else y) = if (ev ws c.not).1 then y else n := by
      show _ = if (!(ev ws c).1) = true then y else n
      cases (ev ws c).1 <;> rfl
    rw [e2] at e
    exact e
  | .bin a l r, b, y, n, ho, h1, h2, h3, h4, hr => by
    have hrp := looks_pos r
    have hlp := looks_pos l
    unfold Cond.looks at h1 h3 h4
    have hsplit : ∀ (A : List (Nat × Nat × Nat)), A.length = l.looks → dueM (.bin a l r) b y n = A ++ dueM r (b + l.looks) y n →
        (∀ j, j < l.looks → rows[b + j]? = (rowsM b A)[j]?) ∧ ∀ j, j < r.looks → rows[b + l.looks + j]? = (rowsM (b + l.looks) (dueM r (b + l.looks) y n))[j]? := by
      intro A hA hd
      rw [hd, rowsM_app] at hr
      constructor
      · intro j hj
        have := hr j (by show j < l.looks + r.looks; omega)
        rw [List.getElem?_append_left (by rw [rowsM_len]; omega)] at this
        exact this
      · intro j hj
        have := hr (l.looks + j) (by show l.looks + j < l.looks + r.looks; omega)
        rw [List.getElem?_append_right (by rw [rowsM_len]; omega), rowsM_len, hA, Nat.add_sub_cancel_left, ← Nat.add_assoc] at this
        exact this
    cases a
    · obtain ⟨hL, hR⟩ := hsplit (dueM l b y (b + l.looks)) (dueM_len _ _ _ _) rfl
      obtain ⟨j1, hj1, e1⟩ := run_part (ws := ws) hok l b y (b + l.looks) ho.1 (.inr rfl) (by omega) (by omega) (by omega) hL
      obtain ⟨j2, hj2, e2⟩ := run_part (ws := ws) hok r (b + l.looks) y n ho.2 (by omega) h2 (by omega) (by omega) hR
      cases hx : (ev ws l).1
      · have ee : ev ws (.bin false l r) = ((ev ws r).1, (ev ws l).2 ++ (ev ws r).2) := by rw [ev_bin, if_pos hx]
        rw [hx, if_neg Bool.false_ne_true, e2] at e1
        rw [ee]
        refine ⟨j1 + j2, by show j1 + j2 ≤ ((ev ws l).2 ++ (ev ws r).2).length; rw [List.length_append]; omega, ?_⟩
        rw [e1, List.append_assoc, Nat.add_assoc]
      · have ee : ev ws (.bin false l r) = ev ws l := by rw [ev_bin, if_neg (by rw [hx]; decide)]
        rw [ee]
        refine ⟨j1, hj1, ?_⟩
        rw [hx] at e1 ⊢
        exact e1
    · obtain ⟨hL, hR⟩ := hsplit (dueM l b (b + l.looks) n) (dueM_len _ _ _ _) rfl
      obtain ⟨j1, hj1, e1⟩ := run_part (ws := ws) hok l b (b + l.looks) n ho.1 (.inl rfl) (by omega) (by omega) (by omega) hL
      obtain ⟨j2, hj2, e2⟩ := run_part (ws := ws) hok r (b + l.looks) y n ho.2 (by omega) h2 (by omega) (by omega) hR
      cases hx : (ev ws l).1
      · have ee : ev ws (.bin true l r) = ev ws l := by rw [ev_bin, if_neg (by rw [hx]; decide)]
        rw [ee]
        refine ⟨j1, hj1, ?_⟩
        rw [hx] at e1 ⊢
        exact e1
      · have ee : ev ws (.bin true l r) = ((ev ws r).1, (ev ws l).2 ++ (ev ws r).2) := by rw [ev_bin, if_pos hx]
        rw [hx, if_pos rfl, e2] at e1
        rw [ee]
        refine ⟨j1 + j2, by show j1 + j2 ≤ ((ev ws l).2 ++ (ev ws r).2).length; rw [List.length_append]; omega, ?_⟩
        rw [e1, List.append_assoc, Nat.add_assoc]
/-- POINT 8 -/
theorem run_code (c : Cond) (f : Bool) (ws : List Bool) (ho : c.ok) (hk : c.looks ≤ 900) : ∃ j : Nat, j ≤ (ev ws c).2.length ∧ runC (codeM c f) ws = ((ev ws c).1, (ev ws c).2, j) := by
  have hok := codeM_ok c f ho hk
  have hl := codeM_len c f
  obtain ⟨j, hj, e⟩ := run_part (ws := ws) hok c 0 (if f then c.looks else c.looks + 1) (if f then c.looks + 1 else c.looks) ho (by cases f <;> simp) (by cases f <;> simp) (by cases f <;> simp) (by cases f <;> simp) (by
    intro j hj
    unfold codeM
    rw [Nat.zero_add, List.getElem?_append_left (by rw [rowsM_len, dueM_len]; exact hj)])
  refine ⟨j, hj, ?_⟩
  have h0 : (codeM c f)[c.looks]? = some (.fin f) := by
    unfold codeM
    rw [List.getElem?_append_right (by rw [rowsM_len, dueM_len]; omega), rowsM_len, dueM_len, Nat.sub_self]
    rfl
  have h1 : (codeM c f)[c.looks + 1]? = some (.fin (!f)) := by
    unfold codeM
    rw [List.getElem?_append_right (by rw [rowsM_len, dueM_len]; omega), rowsM_len, dueM_len, Nat.add_sub_cancel_left]
    rfl
  have hfin : runM (codeM c f) ws ((codeM c f).length - (if (ev ws c).1 then (if f then c.looks else c.looks + 1) else (if f then c.looks + 1 else c.looks))) (if (ev ws c).1 then (if f then c.looks else c.looks + 1) else (if f then c.looks + 1 else c.looks)) = ((ev ws c).1, [], 0) := by
    cases hx : (ev ws c).1 <;> cases f
    · exact runM_fin h0
    · exact runM_fin h1
    · exact runM_fin h1
    · exact runM_fin h0
  rw [hfin, List.append_nil] at e
  unfold runC
  rw [← Nat.sub_zero (codeM c f).length, e]
  rfl
end J
namespace J
open PySem L2
/-- a code as the document has it -/
def GoodCode (rows : List Row) : Prop := ∃ (ls : List Row) (f : Bool), rows = ls ++ [.fin f, .fin (!f)] ∧ ls.length ≤ 38 ∧ ∀ (i : Nat) (r : Row), ls[i]? = some r → ∃ t w to, r = .look t w to ∧ t < 8 ∧ i < to ∧ to < ls.length + 2
theorem codeM_good (c : Cond) (f : Bool) (ho : c.ok) (hk : c.looks ≤ 38) : GoodCode (codeM c f) := by
  refine ⟨_, f, rfl, by rw [rowsM_len, dueM_len]; exact hk, fun i r h => ?_⟩
  rw [rowsM_len, dueM_len]
  have hi : i < c.looks := by
    have := (List.getElem?_eq_some_iff.mp h).1
    rw [rowsM_len, dueM_len] at this
    exact this
  have h2 : (codeM c f)[i]? = some r := by
    unfold codeM
    rw [List.getElem?_append_left (by rw [rowsM_len, dueM_len]; exact hi)]
    exact h
  rcases codeM_at c f ho i r h2 with ⟨_, t, w, to, e, h3, h4, h5⟩ | ⟨h1, _⟩ | ⟨h1, _⟩
  · exact ⟨t, w, to, e, h3, by omega, h5⟩
  · omega
  · omega
theorem GoodCode.ok {rows : List Row} (h : GoodCode rows) : okRows rows := by
  obtain ⟨ls, f, rfl, hl, hr⟩ := h
  have hlen : (ls ++ [Row.fin f, Row.fin (!f)]).length = ls.length + 2 := by rw [List.length_append]; rfl
  refine ⟨by omega, by omega, fun i r hi => ?_⟩
  rw [hlen]
  by_cases h1 : i < ls.length
  · rw [List.getElem?_append_left h1] at hi
    obtain ⟨t, w, to, rfl, h2, h3, h4⟩ := hr i r hi
    exact ⟨h2, by omega, h3, h4⟩
  · rw [List.getElem?_append_right (by omega)] at hi
    obtain ⟨k, hk⟩ : ∃ k, i - ls.length = k := ⟨_, rfl⟩
    rw [hk] at hi
    match k, hi with
    | 0, hi =>
      obtain rfl := Option.some.inj hi
      show ls.length + 2 ≤ i + 2
      omega
    | 1, hi =>
      obtain rfl := Option.some.inj hi
      show ls.length + 2 ≤ i + 2
      omega
    | k + 2, hi => cases hi
/-- what is told of a run, as data -/
def rTold (x : Bool × List Nat × Nat) : PyData := .tuple [.int (bi x.1), .list (x.2.1.map fun (k : Nat) => PyData.int (k : Int)), .int (x.2.2 : Int)]
theorem dp_rtold {K : PySem.W.Frag} {H H' : Hp} {v : V} {x : Bool × List Nat × Nat} (h : RTold H H' v x) : Dp K H' v (rTold x) := by
  obtain ⟨p, l, rfl, h0, hp, hl⟩ := h
  exact .tup (SqT.of hp) (.cons (.int _) (.cons (.lst (SqL.of hl) (dp_vn _)) (.cons (.int _) .nil)))
theorem lay_rtold (x : Bool × List Nat × Nat) : (rTold x).canLay0 = true := by
  show (true && ((PyData.canLayAll0 (x.2.1.map fun (k : Nat) => PyData.int (k : Int))) && (true && true))) = true
  rw [lay_vn]; rfl
theorem shaped_rtold (x : Bool × List Nat × Nat) : SeqAt.shaped (rTold x) = true := by
  show ((rTold x).canLay0 && decide ((max 0 (max (PyData.depthAll (x.2.1.map fun (k : Nat) => PyData.int (k : Int)) + 1) (max 0 0))) + 1 ≤ 64)) = true
  rw [lay_rtold, dep_vn]; rfl
end J

namespace J
open PySem L2
/-! counted over all worths -/
def sumN (n : Nat) (g : Nat → Nat) : Nat := match n with
  | 0 => 0
  | n + 1 => sumN n g + g n
def tmsN (ch : List Nat) (ws : List Bool) : Nat → Nat
  | 0 => 1
  | n + 1 => tmsN ch ws n * (if ws.getD n false then ch.getD n 0 else 100 - ch.getD n 0)
def looksM (ch : List Nat) (c : Cond) : Nat := sumN 256 fun n => tmsN ch (wts n) 8 * (ev (wts n) c).2.length
def jumpsM (ch : List Nat) (f : Bool) (c : Cond) : Nat := sumN 256 fun n => tmsN ch (wts n) 8 * (runC (codeM c f) (wts n)).2.2
theorem tmsN_le (ch : List Nat) (ws : List Bool) (h : ∀ x ∈ ch, x ≤ 100) : ∀ n, tmsN ch ws n ≤ 100 ^ n
  | 0 => Nat.le_refl _
  | n + 1 => by
    unfold tmsN
    rw [Nat.pow_succ]
    refine Nat.mul_le_mul (tmsN_le ch ws h n) ?_
    split
    · rw [List.getD_eq_getElem?_getD]
      cases e : ch[n]? with
      | none => exact Nat.zero_le _
      | some x => exact h x (List.mem_of_getElem? e)
    · omega
/-- chances at a value -/
def ChA (H : Hp) (v : V) (ch : List Nat) : Prop := ∃ a, v = .ref a ∧ H a = some (.tup (ch.map vn)) ∧ ch.length = 8 ∧ ∀ x ∈ ch, x ≤ 100
theorem ChA.tups {H H' : Hp} (g : Tups H H') {v : V} {ch : List Nat} (h : ChA H v ch) : ChA H' v ch := by
  obtain ⟨a, e, q, l⟩ := h
  exact ⟨a, e, g _ _ q, l⟩
theorem ChA.mono {H H' : Hp} (g : Same H H') {v : V} {ch : List Nat} (h : ChA H v ch) : ChA H' v ch := h.tups (Same.tups g)
theorem vals_vn : ∀ {ys : List V}, (∀ y ∈ ys, ∃ k : Nat, y = vn k ∧ k ≤ 100) → ∃ ch : List Nat, ys = ch.map vn ∧ ∀ x ∈ ch, x ≤ 100
  | [], _ => ⟨[], rfl, fun _ h => by cases h⟩
  | y :: r, h => by
    obtain ⟨k, rfl, hk⟩ := h y List.mem_cons_self
    obtain ⟨ch, rfl, hc⟩ := vals_vn (ys := r) fun z hz => h z (List.mem_cons_of_mem _ hz)
    exact ⟨k :: ch, rfl, fun x hx => by
      rcases List.mem_cons.mp hx with rfl | hx
      · exact hk
      · exact hc x hx⟩
theorem vals_vb : ∀ {ys : List V}, (∀ y ∈ ys, ∃ b : Bool, y = vb b) → ∃ ts : List Bool, ys = ts.map vb
  | [], _ => ⟨[], rfl⟩
  | y :: r, h => by
    obtain ⟨b, rfl⟩ := h y List.mem_cons_self
    obtain ⟨ts, rfl⟩ := vals_vb (ys := r) fun z hz => h z (List.mem_cons_of_mem _ hz)
    exact ⟨b :: ts, rfl⟩
theorem lay_cond : ∀ c : Cond, (cdata c).canLay0 = true
  | .look i => by
    show (PyData.strOk ("look" : Str) && (true && true)) = true
    rw [str_look]; rfl
  | .not c => by
    show (PyData.strOk ("not" : Str) && ((cdata c).canLay0 && true)) = true
    rw [lay_cond c, show PyData.strOk ("not" : Str) = true by decide +kernel]; rfl
  | .bin a l r => by
    show (PyData.strOk (wd a) && ((cdata l).canLay0 && ((cdata r).canLay0 && true))) = true
    rw [lay_cond l, lay_cond r, show PyData.strOk (wd a) = true by cases a <;> decide +kernel]; rfl
theorem ok_cond : ∀ (c : Cond) (n : Nat), c.deep + 2 ≤ n → okd n (cdata c)
  | .look i, n + 2, _ => by
    refine ⟨by show 2 ≤ 1000; decide, fun x hx => ?_⟩
    rcases List.mem_cons.mp hx with rfl | hx
    · trivial
    · obtain rfl := List.mem_singleton.mp hx
      trivial
  | .not c, n + 1, h => by
    have h' : c.deep + 1 + 2 ≤ n + 1 := h
    refine ⟨by show 2 ≤ 1000; decide, fun x hx => ?_⟩
    rcases List.mem_cons.mp hx with rfl | hx
    · obtain ⟨m, rfl⟩ : ∃ m, n = m + 1 := ⟨n - 1, by omega⟩
      trivial
    · obtain rfl := List.mem_singleton.mp hx
      exact ok_cond c n (by omega)
  | .bin a l r, n + 1, h => by
    have h' : max l.deep r.deep + 1 + 2 ≤ n + 1 := h
    refine ⟨by show 3 ≤ 1000; decide, fun x hx => ?_⟩
    rcases List.mem_cons.mp hx with rfl | hx
    · obtain ⟨m, rfl⟩ : ∃ m, n = m + 1 := ⟨n - 1, by omega⟩
      trivial
    · rcases List.mem_cons.mp hx with rfl | hx
      · exact ok_cond l n (by omega)
      · obtain rfl := List.mem_singleton.mp hx
        exact ok_cond r n (by omega)
theorem dep_cond : ∀ c : Cond, (cdata c).depth ≤ c.deep + 1
  | .look i => Nat.le_refl _
  | .not c => by
    show max 0 (max (cdata c).depth 0) + 1 ≤ c.deep + 1 + 1
    have := dep_cond c
    omega
  | .bin a l r => by
    show max 0 (max (cdata l).depth (max (cdata r).depth 0)) + 1 ≤ max l.deep r.deep + 1 + 1
    have := dep_cond l
    have := dep_cond r
    omega
theorem shaped_cond {c : Cond} (h : c.deep ≤ 40) : SeqAt.shaped (cdata c) = true := by
  show ((cdata c).canLay0 && decide ((cdata c).depth ≤ 64)) = true
  have := dep_cond c
  rw [lay_cond, decide_eq_true (by omega)]; rfl
end J

namespace J
open PySem L2
/-! what parts two conditions -/
def unlike (c d : Cond) (n : Nat) : Bool := !decide (ev (wts n) c = ev (wts n) d)
def partM (c d : Cond) : Nat → Option Nat
  | 0 => none
  | n + 1 => match partM c d n with
    | some m => some m
    | none => if unlike c d n then some n else none
def sameM (c d : Cond) : Nat → Bool
  | 0 => true
  | n + 1 => sameM c d n && ((ev (wts n) c).1 == (ev (wts n) d).1)
theorem unlike_comm (c d : Cond) (n : Nat) : unlike c d n = unlike d c n := by
  unfold unlike
  by_cases h : ev (wts n) c = ev (wts n) d
  · rw [decide_eq_true h, decide_eq_true h.symm]
  · rw [decide_eq_false h, decide_eq_false fun e => h e.symm]
theorem partM_comm (c d : Cond) : ∀ n, partM c d n = partM d c n
  | 0 => rfl
  | n + 1 => by
    unfold partM
    rw [partM_comm c d n, unlike_comm]
theorem eqv_vn : ∀ l m : List Nat, PyData.eqvAll (l.map fun (k : Nat) => PyData.int (k : Int)) (m.map fun (k : Nat) => PyData.int (k : Int)) = decide (l = m)
  | [], [] => rfl
  | [], _ :: _ => rfl
  | _ :: _, [] => rfl
  | a :: l, b :: m => by
    show ((a : Int) == (b : Int) && PyData.eqvAll (l.map _) (m.map _)) = decide (a :: l = b :: m)
    rw [eqv_vn l m]
    by_cases h : a = b
    · subst h
      by_cases h2 : l = m
      · subst h2; simp
      · rw [decide_eq_false h2, decide_eq_false fun e => h2 (List.cons.inj e).2, Bool.and_false]
    · rw [decide_eq_false (show ¬ a :: l = b :: m from fun e => h (List.cons.inj e).1)]
      have : ((a : Int) == (b : Int)) = false := by
        rw [beq_eq_false_iff_ne]
        omega
      rw [this, Bool.false_and]
theorem eqv_told (x y : Bool × List Nat) : PyData.eqv (dTold x) (dTold y) = decide (x = y) := by
  obtain ⟨a, l⟩ := x
  obtain ⟨b, m⟩ := y
  show (bi a == bi b && (PyData.eqvAll (l.map _) (m.map _) && true)) = decide ((a, l) = (b, m))
  rw [eqv_vn, Bool.and_true]
  by_cases h2 : l = m
  · subst h2
    cases a <;> cases b <;> simp [bi]
  · rw [decide_eq_false h2, decide_eq_false fun e => h2 (Prod.mk.inj e).2, Bool.and_false]
/-- a telling, its list tracked -/
def TT (H : Hp) (v : V) (x : Bool × List Nat) : Prop := ∃ p l, v = .ref p ∧ H p = some (.tup [vb x.1, .ref l]) ∧ H l = some (.lst (x.2.map vn))
theorem TT.mono {H H' : Hp} {v : V} {x : Bool × List Nat} (g : Same H H') (h : TT H v x) : TT H' v x := by
  obtain ⟨p, l, rfl, h1, h2⟩ := h
  exact ⟨p, l, rfl, g _ _ h1, g _ _ h2⟩
theorem Told.tt {H H' : Hp} {v : V} {x : Bool × List Nat} (h : Told H H' v x) : TT H' v x := by
  obtain ⟨p, l, e, _, h1, h2⟩ := h
  exact ⟨p, l, e, h1, h2⟩
theorem TT.dp {K : PySem.W.Frag} {H : Hp} {v : V} {x : Bool × List Nat} (h : TT H v x) : Dp K H v (dTold x) := by
  obtain ⟨p, l, rfl, hp, hl⟩ := h
  exact .tup (SqT.of hp) (.cons (.int _) (.cons (.lst (SqL.of hl) (dp_vn _)) .nil))
def wdata (ws : List Bool) : PyData := .tuple (ws.map fun b => PyData.int (bi b))
theorem wa_dp {K : PySem.W.Frag} {H : Hp} {v : V} {ws : List Bool} (h : WA H v ws) : Dp K H v (wdata ws) := by
  obtain ⟨a, rfl, e, h8⟩ := h
  refine .tup (SqT.of e) ?_
  clear e h8
  induction ws with
  | nil => exact .nil
  | cons b r ih => exact .cons (.int _) ih
/-- None, or (worths, telling, telling) -/
def DueAt (H : Hp) (v : V) (o : Option Nat) (c d : Cond) : Prop := match o with
  | none => v = .non
  | some n => ∃ p u t1 t2, v = .ref p ∧ H p = some (.tup [u, t1, t2]) ∧ WA H u (wts n) ∧ TT H t1 (ev (wts n) c) ∧ TT H t2 (ev (wts n) d)
theorem DueAt.mono {H H' : Hp} {v : V} {o : Option Nat} {c d : Cond} (g : Same H H') (h : DueAt H v o c d) : DueAt H' v o c d := by
  cases o with
  | none => exact h
  | some n =>
    obtain ⟨p, u, t1, t2, e, h1, h2, h3, h4⟩ := h
    exact ⟨p, u, t1, t2, e, g _ _ h1, h2.mono g, h3.mono g, h4.mono g⟩
def dueD (o : Option Nat) (c d : Cond) : PyData := match o with
  | none => .none
  | some n => .tuple [wdata (wts n), dTold (ev (wts n) c), dTold (ev (wts n) d)]
theorem DueAt.dp {K : PySem.W.Frag} {H : Hp} {v : V} {o : Option Nat} {c d : Cond} (h : DueAt H v o c d) : Dp K H v (dueD o c d) := by
  cases o with
  | none =>
    obtain rfl := h
    exact .non
  | some n =>
    obtain ⟨p, u, t1, t2, rfl, h1, h2, h3, h4⟩ := h
    exact .tup (SqT.of h1) (.cons (wa_dp h2) (.cons h3.dp (.cons h4.dp .nil)))
theorem okd_more : ∀ (n : Nat) (d : PyData), okd n d → okd (n + 1) d
  | 0, _, h => h.elim
  | n + 1, .list ds, h => ⟨h.1, fun x hx => okd_more n x (h.2 x hx)⟩
  | n + 1, .tuple ds, h => ⟨h.1, fun x hx => okd_more n x (h.2 x hx)⟩
  | _ + 1, .dict _, h => h
  | _ + 1, .none, _ => trivial
  | _ + 1, .bool _, _ => trivial
  | _ + 1, .int _, _ => trivial
  | _ + 1, .str _, _ => trivial
theorem ok_due {o : Option Nat} {c d : Cond} (h1 : c.looks ≤ 1000) (h2 : d.looks ≤ 1000) : okd 4 (dueD o c d) := by
  cases o with
  | none => trivial
  | some n =>
    refine ⟨by show 3 ≤ 1000; decide, fun x hx => ?_⟩
    rcases List.mem_cons.mp hx with rfl | hx
    · refine ⟨by rw [List.length_map]; show 8 ≤ 1000; decide, fun y hy => ?_⟩
      obtain ⟨b, _, rfl⟩ := List.mem_map.mp hy
      trivial
    · rcases List.mem_cons.mp hx with rfl | hx
      · exact ok_told (Nat.le_trans (ev_len _ c) h1)
      · obtain rfl := List.mem_singleton.mp hx
        exact ok_told (Nat.le_trans (ev_len _ d) h2)
/-- what parting tells: its lists new -/
def PTold (H H' : Hp) (v : V) (o : Option Nat) (c d : Cond) : Prop := match o with
  | none => v = .non
  | some n => ∃ p u t1 t2, v = .ref p ∧ H' p = some (.tup [u, t1, t2]) ∧ WA H' u (wts n) ∧ Told H H' t1 (ev (wts n) c) ∧ Told H H' t2 (ev (wts n) d)
theorem PTold.due {H H' : Hp} {v : V} {o : Option Nat} {c d : Cond} (h : PTold H H' v o c d) : DueAt H' v o c d := by
  cases o with
  | none => exact h
  | some n =>
    obtain ⟨p, u, t1, t2, e, h1, h2, h3, h4⟩ := h
    exact ⟨p, u, t1, t2, e, h1, h2, h3.tt, h4.tt⟩
/-! two names at once -/
theorem l_par {i j : Nat} {ta : TA} {nx bk ct : L2.St → Hp → Prop} {rt : VK} {σ : L2.St} {H : Hp} (h : ta σ H fun vs H1 => ∃ v w, vs = [v, w] ∧ nx ((σ.set i (some v)).set j (some w)) H1) : tPar i j ta (Ends.mk nx rt bk ct) σ H := h
theorem l_two {v w : V} {G : V → V → Prop} (h : G v w) : ∃ v' w', [v, w] = [v', w'] ∧ G v' w' := ⟨v, w, rfl, h⟩
end J

namespace J
open PySem L2
/-! ands for ors with nots about looks -/
def dualM : Cond → Cond
  | .look i => .not (.look i)
  | .not c => .not (dualM c)
  | .bin a l r => .bin (!a) (dualM l) (dualM r)
theorem dual_looks : ∀ c : Cond, (dualM c).looks = c.looks
  | .look _ => rfl
  | .not c => dual_looks c
  | .bin a l r => by
    show (dualM l).looks + (dualM r).looks = l.looks + r.looks
    rw [dual_looks l, dual_looks r]
theorem dual_ok : ∀ c : Cond, c.ok → (dualM c).ok
  | .look _, h => h
  | .not c, h => dual_ok c h
  | .bin a l r, h => ⟨dual_ok l h.1, dual_ok r h.2⟩
theorem dual_deep : ∀ c : Cond, (dualM c).deep ≤ c.deep + 1
  | .look _ => Nat.le_refl _
  | .not c => Nat.succ_le_succ (dual_deep c)
  | .bin a l r => by
    show max (dualM l).deep (dualM r).deep + 1 ≤ max l.deep r.deep + 1 + 1
    have := dual_deep l
    have := dual_deep r
    omega
theorem ev_dual (ws : List Bool) : ∀ c : Cond, ev ws (dualM c) = (!(ev ws c).1, (ev ws c).2)
  | .look _ => rfl
  | .not c => by
    show (!(ev ws (dualM c)).1, (ev ws (dualM c)).2) = (!(!(ev ws c).1), (ev ws c).2)
    rw [ev_dual ws c]
  | .bin a l r => by
    show (if (ev ws (dualM l)).1 = !a then ((ev ws (dualM r)).1, (ev ws (dualM l)).2 ++ (ev ws (dualM r)).2) else ev ws (dualM l)) = (!(ev ws (.bin a l r)).1, (ev ws (.bin a l r)).2)
    rw [ev_bin, ev_dual ws l, ev_dual ws r]
    obtain ⟨x, y⟩ := ev ws l
    cases a <;> cases x <;> rfl
theorem ev_contrary (ws : List Bool) (c : Cond) : ev ws (.not (dualM c)) = ev ws c := by
  show (!(ev ws (dualM c)).1, (ev ws (dualM c)).2) = ev ws c
  rw [ev_dual]
  cases e : ev ws c with
  | mk a b => rw [Bool.not_not]
theorem due_dual : ∀ (c : Cond) (b y n : Nat), dueM (dualM c) b y n = dueM c b n y
  | .look _, _, _, _ => rfl
  | .not c, b, y, n => due_dual c b n y
  | .bin a l r, b, y, n => by
    unfold dualM dueM
    rw [dual_looks, due_dual l, due_dual l, due_dual r]
    cases a <;> rfl
def lookRows (c : Cond) (f : Bool) : List Row := rowsM 0 (dueM c 0 (if f then c.looks else c.looks + 1) (if f then c.looks + 1 else c.looks))
theorem code_split (c : Cond) (f : Bool) : codeM c f = lookRows c f ++ [.fin f, .fin (!f)] := rfl
theorem lookRows_len (c : Cond) (f : Bool) : (lookRows c f).length = c.looks := by
  unfold lookRows
  rw [rowsM_len, dueM_len]
theorem code_contrary (c : Cond) (f : Bool) : codeM (.not (dualM c)) f = codeM c f := by
  have e : (Cond.not (dualM c)).looks = c.looks := dual_looks c
  unfold codeM
  rw [e]
  show rowsM 0 (dueM (dualM c) 0 _ _) ++ _ = _
  rw [due_dual]
theorem look_not (c : Cond) (f : Bool) : lookRows (.not c) (!f) = lookRows c f := by
  unfold lookRows
  show rowsM 0 (dueM c 0 (if (!f) = true then c.looks + 1 else c.looks) (if (!f) = true then c.looks else c.looks + 1)) = _
  cases f <;> rfl
/-! other numbers -/
def mapC (f : Nat → Nat) : Cond → Cond
  | .look i => .look (f i)
  | .not c => .not (mapC f c)
  | .bin a l r => .bin a (mapC f l) (mapC f r)
theorem map_looks (f : Nat → Nat) : ∀ c : Cond, (mapC f c).looks = c.looks
  | .look _ => rfl
  | .not c => map_looks f c
  | .bin a l r => by
    show (mapC f l).looks + (mapC f r).looks = l.looks + r.looks
    rw [map_looks f l, map_looks f r]
theorem map_deep (f : Nat → Nat) : ∀ c : Cond, (mapC f c).deep = c.deep
  | .look _ => rfl
  | .not c => congrArg (· + 1) (map_deep f c)
  | .bin a l r => by
    show max (mapC f l).deep (mapC f r).deep + 1 = max l.deep r.deep + 1
    rw [map_deep f l, map_deep f r]
theorem map_ok {f : Nat → Nat} (hf : ∀ i, i < 8 → f i < 8) : ∀ c : Cond, c.ok → (mapC f c).ok
  | .look i, h => hf i h
  | .not c, h => map_ok hf c h
  | .bin a l r, h => ⟨map_ok hf l h.1, map_ok hf r h.2⟩
theorem ev_map {f : Nat → Nat} {ws us : List Bool} (h : ∀ i, i < 8 → us.getD i false = ws.getD (f i) false) : ∀ c : Cond, c.ok → ev ws (mapC f c) = ((ev us c).1, (ev us c).2.map f)
  | .look i, ho => by
    show (ws.getD (f i) false, [f i]) = (us.getD i false, [f i])
    rw [h i ho]
  | .not c, ho => by
    show (!(ev ws (mapC f c)).1, (ev ws (mapC f c)).2) = _
    rw [ev_map h c ho]
    rfl
  | .bin a l r, ho => by
    show (if (ev ws (mapC f l)).1 = a then ((ev ws (mapC f r)).1, (ev ws (mapC f l)).2 ++ (ev ws (mapC f r)).2) else ev ws (mapC f l)) = ((ev us (.bin a l r)).1, (ev us (.bin a l r)).2.map f)
    rw [ev_bin, ev_map h l ho.1, ev_map h r ho.2]
    show (if (ev us l).1 = a then _ else _) = _
    by_cases e : (ev us l).1 = a
    · rw [if_pos e, if_pos e, List.map_append]
    · rw [if_neg e, if_neg e]
def mapR (f : Nat → Nat) : Row → Row
  | .look t w to => .look (f t) w to
  | .fin b => .fin b
theorem due_map (f : Nat → Nat) : ∀ (c : Cond) (b y n : Nat), dueM (mapC f c) b y n = (dueM c b y n).map fun x => (f x.1, x.2)
  | .look _, _, _, _ => rfl
  | .not c, b, y, n => due_map f c b n y
  | .bin a l r, b, y, n => by
    unfold mapC dueM
    rw [map_looks, due_map f l, due_map f l, due_map f r, List.map_append]
    cases a <;> rfl
theorem rows_map (f : Nat → Nat) : ∀ (k : Nat) (l : List (Nat × Nat × Nat)), rowsM k (l.map fun x => (f x.1, x.2)) = (rowsM k l).map (mapR f)
  | _, [] => rfl
  | k, x :: r => by
    show (if x.2.1 = k + 1 then Row.look (f x.1) false x.2.2 else Row.look (f x.1) true x.2.1) :: rowsM (k + 1) (r.map _) = mapR f (if x.2.1 = k + 1 then .look x.1 false x.2.2 else .look x.1 true x.2.1) :: (rowsM (k + 1) r).map (mapR f)
    rw [rows_map f (k + 1) r]
    congr 1
    split <;> rfl
theorem code_map (f : Nat → Nat) (c : Cond) (b : Bool) : codeM (mapC f c) b = (codeM c b).map (mapR f) := by
  unfold codeM
  rw [map_looks, due_map, rows_map, List.map_append]
  rfl
theorem runM_map {f : Nat → Nat} {ws us : List Bool} (h : ∀ i, i < 8 → us.getD i false = ws.getD (f i) false) {rows : List Row} (hr : ∀ (i : Nat) (t : Nat) (w : Bool) (to : Nat), rows[i]? = some (.look t w to) → t < 8) : ∀ (k i : Nat), runM (rows.map (mapR f)) ws k i = ((runM rows us k i).1, (runM rows us k i).2.1.map f, (runM rows us k i).2.2)
  | 0, _ => rfl
  | k + 1, i => by
    unfold runM
    rw [List.getElem?_map]
    cases e : rows[i]? with
    | none => rfl
    | some r =>
      cases r with
      | fin b => rfl
      | look t w to =>
        have h8 := hr i t w to e
        show (fun (r : Bool × List Nat × Nat) => (r.1, f t :: r.2.1, (if ws.getD (f t) false == w then 1 else 0) + r.2.2)) (runM (rows.map (mapR f)) ws k (if ws.getD (f t) false == w then to else i + 1)) = _
        rw [← h t h8, runM_map h hr k]
        rfl
theorem runC_map {f : Nat → Nat} {ws us : List Bool} (h : ∀ i, i < 8 → us.getD i false = ws.getD (f i) false) {rows : List Row} (hr : okRows rows) : runC (rows.map (mapR f)) ws = ((runC rows us).1, (runC rows us).2.1.map f, (runC rows us).2.2) := by
  unfold runC
  rw [List.length_map]
  exact runM_map h (fun i t w to e => (hr.2.2 i _ e).1) _ _
/-! a turn of the things: all worths once each -/
def pw (nm : List Nat) (ws : List Bool) : List Bool := nm.map fun j => ws.getD j false
theorem pw_get {nm : List Nat} {ws : List Bool} {i : Nat} (h : i < nm.length) : (pw nm ws).getD i false = ws.getD (nm.getD i 0) false := by
  unfold pw
  rw [List.getD_eq_getElem?_getD, List.getElem?_map, List.getD_eq_getElem?_getD (l := nm), List.getElem?_eq_getElem h]
  rfl
def allW : List (List Bool) := (List.range 256).map wts
theorem allW_nodup : allW.Nodup := by decide +kernel
theorem mem_all {l : List Bool} (h : l.length = 8) : l ∈ allW := by
  match l, h with
  | [a, b, c, d, e, f, g, i], _ =>
    have : ∀ a b c d e f g i : Bool, [a, b, c, d, e, f, g, i] ∈ allW := by decide +kernel
    exact this a b c d e f g i
theorem wts_len (n : Nat) : (wts n).length = 8 := rfl
theorem all_len {l : List Bool} (h : l ∈ allW) : l.length = 8 := by
  obtain ⟨n, _, rfl⟩ := List.mem_map.mp h
  rfl
theorem perm_sub {α : Type} [DecidableEq α] : ∀ {l m : List α}, l.Nodup → (∀ x ∈ l, x ∈ m) → l.length = m.length → l.Perm m
  | [], m, _, _, hl => by
    obtain rfl : m = [] := List.length_eq_zero_iff.mp hl.symm
    exact List.Perm.nil
  | a :: r, m, hn, hs, hl => by
    have ha := hs a List.mem_cons_self
    have pe := List.perm_cons_erase ha
    obtain ⟨h1, h2⟩ := List.nodup_cons.mp hn
    refine (List.Perm.cons a (perm_sub (m := m.erase a) h2 (fun x hx => ?_) ?_)).trans pe.symm
    · refine (List.mem_erase_of_ne ?_).mpr (hs x (List.mem_cons_of_mem _ hx))
      rintro rfl
      exact h1 hx
    · rw [List.length_erase_of_mem ha, ← hl]
      rfl
theorem pw_inj {nm : List Nat} (hp : nm.Perm (List.range 8)) {a b : List Bool} (ha : a.length = 8) (hb : b.length = 8) (e : pw nm a = pw nm b) : a = b := by
  refine List.ext_getElem (by omega) fun i h1 h2 => ?_
  have hi : i ∈ nm := hp.mem_iff.mpr (List.mem_range.mpr (by omega))
  have := List.map_inj_left.mp e i hi
  rw [List.getD_eq_getElem?_getD, List.getD_eq_getElem?_getD, List.getElem?_eq_getElem h1, List.getElem?_eq_getElem h2] at this
  exact this
theorem nodup_map {α β : Type} {f : α → β} : ∀ {l : List α}, l.Nodup → (∀ x ∈ l, ∀ y ∈ l, f x = f y → x = y) → (l.map f).Nodup
  | [], _, _ => List.nodup_nil
  | a :: r, hn, hi => by
    obtain ⟨h1, h2⟩ := List.nodup_cons.mp hn
    refine List.nodup_cons.mpr ⟨fun h => ?_, nodup_map h2 fun x hx y hy => hi x (List.mem_cons_of_mem _ hx) y (List.mem_cons_of_mem _ hy)⟩
    obtain ⟨y, hy, e⟩ := List.mem_map.mp h
    have := hi y (List.mem_cons_of_mem _ hy) a List.mem_cons_self e
    subst this
    exact h1 hy
theorem pw_all {nm : List Nat} (hp : nm.Perm (List.range 8)) : (allW.map (pw nm)).Perm allW := by
  refine perm_sub (nodup_map allW_nodup fun x hx y hy e => pw_inj hp (all_len hx) (all_len hy) e) (fun x hx => ?_) (List.length_map ..)
  obtain ⟨y, _, rfl⟩ := List.mem_map.mp hx
  refine mem_all ?_
  unfold pw
  rw [List.length_map, hp.length_eq]
  rfl
def sumL : List Nat → Nat
  | [] => 0
  | a :: r => a + sumL r
theorem sumL_perm {l m : List Nat} (h : l.Perm m) : sumL l = sumL m := by
  induction h with
  | nil => rfl
  | cons a _ ih => exact congrArg (a + ·) ih
  | swap a b l =>
    show b + (a + sumL l) = a + (b + sumL l)
    omega
  | trans _ _ i1 i2 => exact i1.trans i2
theorem sumL_app : ∀ l m : List Nat, sumL (l ++ m) = sumL l + sumL m
  | [], m => (Nat.zero_add _).symm
  | a :: r, m => by
    show a + sumL (r ++ m) = a + sumL r + sumL m
    rw [sumL_app r m, Nat.add_assoc]
theorem sumN_eq (g : Nat → Nat) : ∀ n, sumN n g = sumL ((List.range n).map g)
  | 0 => rfl
  | n + 1 => by
    rw [List.range_succ, List.map_append, sumL_app, ← sumN_eq g n]
    rfl
theorem sum_turn {nm : List Nat} (hp : nm.Perm (List.range 8)) (A : List Bool → Nat) : (sumN 256 fun n => A (pw nm (wts n))) = sumN 256 fun n => A (wts n) := by
  have e : ∀ B : List Bool → Nat, (sumN 256 fun n => B (wts n)) = sumL (allW.map B) := fun B => by
    rw [sumN_eq]
    unfold allW
    rw [List.map_map]
    rfl
  rw [e A, e fun ws => A (pw nm ws), ← sumL_perm ((pw_all hp).map A), List.map_map]
  rfl
def prodL (F : Nat → Nat) : List Nat → Nat
  | [] => 1
  | a :: r => prodL F r * F a
theorem prodL_perm {F : Nat → Nat} {l m : List Nat} (h : l.Perm m) : prodL F l = prodL F m := by
  induction h with
  | nil => rfl
  | cons a _ ih => exact congrArg (· * F a) ih
  | swap a b l =>
    show prodL F l * F a * F b = prodL F l * F b * F a
    rw [Nat.mul_assoc, Nat.mul_comm (F a), ← Nat.mul_assoc]
  | trans _ _ i1 i2 => exact i1.trans i2
theorem prodL_app {F : Nat → Nat} : ∀ l m : List Nat, prodL F (l ++ m) = prodL F m * prodL F l
  | [], m => (Nat.mul_one _).symm
  | a :: r, m => by
    show prodL F (r ++ m) * F a = prodL F m * (prodL F r * F a)
    rw [prodL_app r m, Nat.mul_assoc]
def tmF (ch : List Nat) (ws : List Bool) (j : Nat) : Nat := if ws.getD j false then ch.getD j 0 else 100 - ch.getD j 0
theorem tmsN_eq (ch : List Nat) (ws : List Bool) : ∀ n, tmsN ch ws n = prodL (tmF ch ws) (List.range n)
  | 0 => rfl
  | n + 1 => by
    rw [List.range_succ, prodL_app, ← tmsN_eq ch ws n]
    show tmsN ch ws n * tmF ch ws n = 1 * tmF ch ws n * tmsN ch ws n
    rw [Nat.one_mul, Nat.mul_comm]
theorem prodL_map {F G : Nat → Nat} (f : Nat → Nat) : ∀ {l : List Nat}, (∀ t ∈ l, F (f t) = G t) → prodL F (l.map f) = prodL G l
  | [], _ => rfl
  | a :: r, h => by
    show prodL F (r.map f) * F (f a) = prodL G r * G a
    rw [prodL_map f fun t ht => h t (List.mem_cons_of_mem _ ht), h a List.mem_cons_self]
theorem list_getD {nm : List Nat} (h : nm.length = 8) : nm = (List.range 8).map fun t => nm.getD t 0 := by
  refine List.ext_getElem (by rw [List.length_map, List.length_range]; exact h) fun i h1 h2 => ?_
  rw [List.getElem_map, List.getElem_range, List.getD_eq_getElem?_getD, List.getElem?_eq_getElem h1]
  rfl
theorem tms_turn {nm : List Nat} (hp : nm.Perm (List.range 8)) {ch th : List Nat} (h : ∀ t, t < 8 → th.getD (nm.getD t 0) 0 = ch.getD t 0) (ws : List Bool) : tmsN th ws 8 = tmsN ch (pw nm ws) 8 := by
  have hl : nm.length = 8 := hp.length_eq
  rw [tmsN_eq, tmsN_eq, ← prodL_perm hp]
  conv => lhs; rw [list_getD hl]
  refine prodL_map _ fun t ht => ?_
  have ht8 := List.mem_range.mp ht
  unfold tmF
  rw [pw_get (by omega), h t ht8]
theorem sumN_congr {g f : Nat → Nat} (h : ∀ n, g n = f n) (n : Nat) : sumN n g = sumN n f := by
  rw [funext h]
theorem looks_turn {nm : List Nat} (hp : nm.Perm (List.range 8)) {ch th : List Nat} (h : ∀ t, t < 8 → th.getD (nm.getD t 0) 0 = ch.getD t 0) {c : Cond} (ho : c.ok) : looksM th (mapC (fun i => nm.getD i 0) c) = looksM ch c := by
  unfold looksM
  rw [← sum_turn hp fun ws => tmsN ch ws 8 * (ev ws c).2.length]
  refine sumN_congr (fun n => ?_) _
  have hl : nm.length = 8 := hp.length_eq
  rw [tms_turn hp h, ev_map (us := pw nm (wts n)) (fun i hi => pw_get (by omega)) c ho, List.length_map]
theorem jumps_turn {nm : List Nat} (hp : nm.Perm (List.range 8)) {ch th : List Nat} (h : ∀ t, t < 8 → th.getD (nm.getD t 0) 0 = ch.getD t 0) {c : Cond} (f : Bool) (ho : c.ok) (hk : c.looks ≤ 900) : jumpsM th f (mapC (fun i => nm.getD i 0) c) = jumpsM ch f c := by
  unfold jumpsM
  rw [← sum_turn hp fun ws => tmsN ch ws 8 * (runC (codeM c f) ws).2.2]
  refine sumN_congr (fun n => ?_) _
  have hl : nm.length = 8 := hp.length_eq
  rw [tms_turn hp h, code_map, runC_map (us := pw nm (wts n)) (fun i hi => pw_get (by omega)) (codeM_ok c f ho hk)]
/-! the place of a number among the names -/
theorem nm_nodup {nm : List Nat} (hp : nm.Perm (List.range 8)) : nm.Nodup := hp.nodup_iff.mpr List.nodup_range
theorem nm_lt {nm : List Nat} (hp : nm.Perm (List.range 8)) {t : Nat} (ht : t < 8) : nm.getD t 0 < 8 := by
  have hl : nm.length = 8 := hp.length_eq
  rw [List.getD_eq_getElem?_getD, List.getElem?_eq_getElem (show t < nm.length by omega)]
  exact List.mem_range.mp (hp.mem_iff.mp (List.getElem_mem _))
theorem idx_lt {nm : List Nat} (hp : nm.Perm (List.range 8)) {t : Nat} (ht : t < 8) : nm.idxOf t < 8 := by
  have hl : nm.length = 8 := hp.length_eq
  have := List.idxOf_lt_length_of_mem (hp.mem_iff.mpr (List.mem_range.mpr ht))
  omega
theorem nm_idx {nm : List Nat} (hp : nm.Perm (List.range 8)) {t : Nat} (ht : t < 8) : nm.getD (nm.idxOf t) 0 = t := by
  have h : nm.idxOf t < nm.length := List.idxOf_lt_length_of_mem (hp.mem_iff.mpr (List.mem_range.mpr ht))
  rw [List.getD_eq_getElem?_getD, List.getElem?_eq_getElem h, List.getElem_idxOf h]
  rfl
theorem nm_ne {nm : List Nat} (hp : nm.Perm (List.range 8)) {t m : Nat} (ht : t < 8) (hm : m < nm.idxOf t) : nm.getD m 0 ≠ t := fun e => by
  have hl : nm.length = 8 := hp.length_eq
  have h := idx_lt hp ht
  rw [← nm_idx hp ht] at e
  have := (List.getD_inj (fallback := 0) (by omega) (by omega) (nm_nodup hp)).mp e
  omega
theorem idx_nm {nm : List Nat} (hp : nm.Perm (List.range 8)) {t : Nat} (ht : t < 8) : nm.idxOf (nm.getD t 0) = t := by
  have hl : nm.length = 8 := hp.length_eq
  have h8 := nm_lt hp ht
  have h := idx_lt hp h8
  exact (List.getD_inj (fallback := 0) (by omega) (by omega) (nm_nodup hp)).mp (nm_idx hp h8)
theorem erase_perm : ∀ {l : List Nat} {i : Nat}, i < l.length → (l.getD i 0 :: l.eraseIdx i).Perm l
  | a :: r, 0, _ => List.Perm.refl _
  | a :: r, i + 1, h => by
    have ih := erase_perm (l := r) (i := i) (Nat.lt_of_succ_lt_succ h)
    show (r.getD i 0 :: a :: r.eraseIdx i).Perm (a :: r)
    exact (List.Perm.swap a (r.getD i 0) (r.eraseIdx i)).trans (List.Perm.cons a ih)
theorem pop_perm {done left : List Nat} {i : Nat} (h : i < left.length) : ((done ++ [left.getD i 0]) ++ left.eraseIdx i).Perm (done ++ left) := by
  rw [List.append_assoc]
  exact List.Perm.append_left done (erase_perm h)
theorem erase_map : ∀ {l : List Nat} {i : Nat}, (l.map vn).eraseIdx i = (l.eraseIdx i).map vn
  | [], _ => rfl
  | a :: r, 0 => rfl
  | a :: r, i + 1 => congrArg (vn a :: ·) (erase_map (l := r) (i := i))
theorem l_popAt {H : Hp} {p : Addr} {xs : List Nat} {i : Nat} {Q : VK} (h : H p = some (.lst (xs.map vn))) (hi : i < xs.length) (hl : xs.length ≤ 1000) (q : ∀ H', But p H H' → H' p = some (.lst ((xs.eraseIdx i).map vn)) → Q (vn (xs.getD i 0)) H') : rPopAt (.ref p) [.int (i : Int)] H Q := by
  refine ⟨p, xs.map vn, (i : Int), i, vn (xs.getD i 0), rfl, rfl, h, ?_, ?_, ?_, ?_, ?_⟩
  · have : (-(2 ^ 63) : Int) ≤ 0 := by decide
    omega
  · have : (1000 : Int) < 2 ^ 63 := by decide
    omega
  · rw [List.length_map]
    show (if (decide (0 ≤ (if (i : Int) < 0 then (i : Int) + (xs.length : Int) else (i : Int))) && decide ((if (i : Int) < 0 then (i : Int) + (xs.length : Int) else (i : Int)) < (xs.length : Int))) = true then some (if (i : Int) < 0 then (i : Int) + (xs.length : Int) else (i : Int)).toNat else none) = some i
    rw [if_neg (show ¬ ((i : Int) < 0) by omega), decide_eq_true (show (0 : Int) ≤ (i : Int) by omega), decide_eq_true (show (i : Int) < (xs.length : Int) by omega)]
    rfl
  · rw [List.getElem?_map, List.getElem?_eq_getElem hi, List.getD_eq_getElem?_getD, List.getElem?_eq_getElem hi]
    rfl
  · rw [erase_map]
    exact q _ but_upd upd_same
/-- [e for i in range(n)], by an invariant that stands a store at a new place -/
theorem lcR_inv {σ : St} {H : Hp} {Q : VK} {te : TE} {j n : Nat} {vs : List Nat} (J : Nat → List V → Hp → Prop) (hw : ∀ x, wipe ((wipe σ vs).set j (some x)) vs = wipe σ vs) (hl : n ≤ 100000)
    (h0 : ∀ H', Same H H' → J 0 [] H') (keep : ∀ i ys (D : Addr) H' o, H D = none → J i ys H' → J i ys (upd H' D o)) (len : ∀ i ys H', J i ys H' → ys.length = i)
    (h : ∀ (i : Nat) (D : Addr) ys H' (Q' : VK), i < n → H D = none → J i ys H' → H' D = some (.lst ys) → (∀ y H'', J (i + 1) (ys ++ [y]) H'' → H'' D = some (.lst ys) → Q' y H'') → te ((wipe σ vs).set j (some (.int (0 + (i : Int))))) H' Q')
    (q : ∀ D ys H2, H D = none → J n ys H2 → H2 D = some (.lst ys) → Q (.ref D) H2) : IR1 [.int (n : Int)] H (LcB (gName j) tYes te vs σ Q) := by
  refine ⟨(n : Int), rfl, ?_, ?_, ?_⟩
  · have : (0 : Int) ≤ 2 ^ 62 := by decide
    omega
  · have : (100000 : Int) < 2 ^ 62 := by decide
    omega
  · intro D hD
    rw [Int.toNat_natCast]
    refine lc_range (lo := 0) (n := n) (fun i H' => ∃ ys, J i ys H' ∧ H' D = some (.lst ys)) ⟨[], h0 _ (sm_new hD _), upd_same⟩ (fun i H' hi p => ⟨hw _, ?_⟩) fun H' p => ?_
    · obtain ⟨ys, jj, e⟩ := p
      refine h i D ys H' _ hi hD jj e fun y H'' j2 e2 => ?_
      have hn := len _ _ _ jj
      refine ⟨ys, e2, Nat.lt_of_lt_of_le (show ys.length < 100001 by omega) (by decide), ys ++ [y], keep _ _ _ _ _ hD j2, upd_same⟩
    · obtain ⟨ys, jj, e⟩ := p
      exact q D ys H' hD jj e
theorem lcRm {σ : St} {H : Hp} {Q : VK} {te : TE} {j n : Nat} {vs : List Nat} (F : Nat → V) (hw : ∀ x, wipe ((wipe σ vs).set j (some x)) vs = wipe σ vs) (hl : n ≤ 100000)
    (h : ∀ (i : Nat) H' (Q' : VK), i < n → Same H H' → (∀ H'', Same H' H'' → Q' (F i) H'') → te ((wipe σ vs).set j (some (.int (i : Int)))) H' Q')
    (q : ∀ D H2, H D = none → Same H H2 → H2 D = some (.lst ((List.range n).map F)) → Q (.ref D) H2) : IR1 [.int (n : Int)] H (LcB (gName j) tYes te vs σ Q) := by
  refine lcR (ys := (List.range n).map F) hw hl ⟨?_, fun i x y H' Q' hx hy g k => ?_⟩ q
  · unfold irs
    rw [List.length_map, List.length_map]
  · have hi : i < n := by
      have := (List.getElem?_eq_some_iff.mp hx).1
      unfold irs at this
      rw [List.length_map, List.length_range] at this
      exact this
    rw [irs_at hi] at hx
    obtain rfl := Option.some.inj hx
    rw [List.getElem?_map, List.getElem?_range hi] at hy
    obtain rfl : F i = y := Option.some.inj hy
    rw [Int.zero_add]
    exact h i H' Q' hi g k
theorem lcLm {K : PySem.W.Frag} {σ : St} {H : Hp} {Q : VK} {te : TE} {j : Nat} {vs : List Nat} {a : Addr} {l : List Nat} (F : Nat → V) (hw : ∀ x, wipe ((wipe σ vs).set j (some x)) vs = wipe σ vs) (ht : SqL K H a (l.map vn)) (hl : l.length ≤ 100000)
    (h : ∀ (k : Nat) H' (Q' : VK), k ∈ l → Same H H' → (∀ H'', Same H' H'' → Q' (F k) H'') → te ((wipe σ vs).set j (some (vn k))) H' Q')
    (q : ∀ D H2, H D = none → Same H H2 → H2 D = some (.lst (l.map F)) → Q (.ref D) H2) : IL K (.ref a) H (LcB (gName j) tYes te vs σ Q) := by
  refine lcL (ys := l.map F) hw ht (by rw [List.length_map]; exact hl) ⟨?_, fun i x y H' Q' hx hy g k => ?_⟩ q
  · rw [List.length_map, List.length_map]
  · rw [List.getElem?_map] at hx hy
    cases e : l[i]? with
    | none => rw [e] at hx; cases hx
    | some m =>
      rw [e] at hx hy
      obtain rfl : vn m = x := Option.some.inj hx
      obtain rfl : F m = y := Option.some.inj hy
      exact h m H' Q' (List.mem_of_getElem? e) g k
theorem pw_range {nm : List Nat} (hl : nm.length = 8) (ws : List Bool) : (List.range 8).map (fun t => vb (ws.getD (nm.getD t 0) false)) = (pw nm ws).map vb := by
  unfold pw
  conv => rhs; rw [list_getD hl]
  rw [List.map_map, List.map_map]
  rfl
theorem RT.fr {b l lr : Addr} {H H' : Hp} {rows : List Row} (f : Fr b l H H') (tp : Tups H H') (n1 : lr ≠ b) (n2 : lr ≠ l) (h : RT H lr rows) : RT H' lr rows := by
  obtain ⟨vs, h1, h2⟩ := h
  exact ⟨vs, f.at n1 n2 h1, h2.tups tp⟩
theorem ev_lt (ws : List Bool) : ∀ c : Cond, c.ok → ∀ t ∈ (ev ws c).2, t < 8
  | .look i, ho, t, h => by
    obtain rfl := List.mem_singleton.mp h
    exact ho
  | .not c, ho, t, h => ev_lt ws c ho t h
  | .bin a l r, ho, t, h => by
    rw [ev_bin] at h
    split at h
    · rcases List.mem_append.mp h with h | h
      · exact ev_lt ws l ho.1 t h
      · exact ev_lt ws r ho.2 t h
    · exact ev_lt ws l ho.1 t h
theorem part_same {c d : Cond} (h : ∀ ws, ev ws c = ev ws d) : ∀ n, partM c d n = none
  | 0 => rfl
  | n + 1 => by
    unfold partM
    rw [part_same h n]
    show (if unlike c d n then some n else none) = none
    unfold unlike
    rw [h, decide_eq_true rfl]
    rfl
theorem same_not (c : Cond) : ∀ n, sameM c (.not c) (n + 1) = false
  | 0 => by
    show (true && ((ev (wts 0) c).1 == !(ev (wts 0) c).1)) = false
    cases (ev (wts 0) c).1 <;> rfl
  | n + 1 => by
    show (sameM c (.not c) (n + 1) && _) = false
    rw [same_not c n]
    rfl
theorem cut_2 {vs : List V} {k : Nat} (h : vs.length = k + 2) : cutV vs none (some (-2)) = vs.take k := by
  unfold cutV
  rw [HT.sIx_none, h]
  show (vs.drop 0).take (((-2 : Int) + ((k + 2 : Nat) : Int)).toNat - 0) = vs.take k
  rw [List.drop_zero, Nat.sub_zero]
  congr 1
  omega
theorem l_listRg {σ : St} {H : Hp} {Q : VK} {n : Nat} (hn : n ≤ 10000) (q : ∀ p H', H p = none → Same H H' → H' p = some (.lst ((List.range n).map vn)) → Q (.ref p) H') : tLstRg (tRg1 (tC (.int (n : Int)))) σ H Q := by
  refine ⟨(n : Int), rfl, ⟨?_, ?_, ?_, ?_, ?_⟩, fun p hp => ?_⟩
  · decide
  · decide
  · have : (-(2 ^ 62) : Int) ≤ 0 := by decide
    omega
  · have : (10000 : Int) < 2 ^ 62 := by decide
    omega
  · have : (10000 : Nat) ≤ 2 ^ 24 := by decide
    omega
  · refine q p _ hp (sm_new hp _) ?_
    rw [upd_same]
    unfold rgV
    rw [Int.sub_zero, Int.toNat_natCast]
    congr 2
    refine List.map_congr_left fun i _ => ?_
    rw [Int.zero_add]
    rfl
end J

namespace J
open PySem L2
theorem lcR_invD {σ : St} {H : Hp} {Q : VK} {te : TE} {j n : Nat} {vs : List Nat} (J : Addr → Nat → List V → Hp → Prop) (hw : ∀ x, wipe ((wipe σ vs).set j (some x)) vs = wipe σ vs) (hl : n ≤ 100000)
    (h0 : ∀ D H', H D = none → Same H H' → J D 0 [] H') (keep : ∀ i ys (D : Addr) H' o, H D = none → J D i ys H' → J D i ys (upd H' D o)) (len : ∀ D i ys H', J D i ys H' → ys.length = i)
    (h : ∀ (i : Nat) (D : Addr) ys H' (Q' : VK), i < n → H D = none → J D i ys H' → H' D = some (.lst ys) → (∀ y H'', J D (i + 1) (ys ++ [y]) H'' → H'' D = some (.lst ys) → Q' y H'') → te ((wipe σ vs).set j (some (.int (0 + (i : Int))))) H' Q')
    (q : ∀ D ys H2, H D = none → J D n ys H2 → H2 D = some (.lst ys) → Q (.ref D) H2) : IR1 [.int (n : Int)] H (LcB (gName j) tYes te vs σ Q) := by
  refine ⟨(n : Int), rfl, ?_, ?_, ?_⟩
  · have : (0 : Int) ≤ 2 ^ 62 := by decide
    omega
  · have : (100000 : Int) < 2 ^ 62 := by decide
    omega
  · intro D hD
    rw [Int.toNat_natCast]
    refine lc_range (lo := 0) (n := n) (fun i H' => ∃ ys, J D i ys H' ∧ H' D = some (.lst ys)) ⟨[], h0 D _ hD (sm_new hD _), upd_same⟩ (fun i H' hi p => ⟨hw _, ?_⟩) fun H' p => ?_
    · obtain ⟨ys, jj, e⟩ := p
      refine h i D ys H' _ hi hD jj e fun y H'' j2 e2 => ?_
      have hn := len _ _ _ _ jj
      refine ⟨ys, e2, Nat.lt_of_lt_of_le (show ys.length < 100001 by omega) (by decide), ys ++ [y], keep _ _ _ _ _ hD j2, upd_same⟩
    · obtain ⟨ys, jj, e⟩ := p
      exact q D ys H' hD jj e
theorem ev_exch (ws : List Bool) : ∀ (c : Cond) (ts : List Bool), (ev ws (exch c ts)).1 = (ev ws c).1
  | .look _, _ => rfl
  | .not c, ts => by
    show (!(ev ws (exch c ts)).1) = !(ev ws c).1
    rw [ev_exch ws c]
  | .bin a l r, ts => by
    have hb : ∀ x y : Cond, (ev ws (.bin a x y)).1 = if (ev ws x).1 = a then (ev ws y).1 else (ev ws x).1 := fun x y => by
      rw [ev_bin]
      split <;> rfl
    rw [hb l r]
    unfold exch
    split
    · rw [hb, ev_exch ws r, ev_exch ws l]
      cases a <;> cases (ev ws l).1 <;> cases (ev ws r).1 <;> rfl
    · rw [hb, ev_exch ws r, ev_exch ws l]
theorem same_exch (c : Cond) (ts : List Bool) : ∀ n, sameM c (exch c ts) n = true
  | 0 => rfl
  | n + 1 => by
    show (sameM c (exch c ts) n && ((ev (wts n) c).1 == (ev (wts n) (exch c ts)).1)) = true
    rw [same_exch c ts n, ev_exch, beq_self_eq_true]
    rfl
/-! the least, and of several the first -/
def lexB : List Bool → List Bool → Bool
  | [], _ => true
  | _ :: _, [] => false
  | a :: r, b :: s => if a = b then lexB r s else b
def BestL (ch : List Nat) (c : Cond) (ts : List Bool) : Prop := ts.length = c.pairs ∧ ∀ us : List Bool, us.length = c.pairs → looksM ch (exch c ts) < looksM ch (exch c us) ∨ looksM ch (exch c ts) = looksM ch (exch c us) ∧ lexB ts us = true
def BestJ (ch : List Nat) (c : Cond) (ts : List Bool) (f : Bool) : Prop := ts.length = c.pairs ∧ ∀ (us : List Bool) (g : Bool), us.length = c.pairs → jumpsM ch f (exch c ts) < jumpsM ch g (exch c us) ∨ jumpsM ch f (exch c ts) = jumpsM ch g (exch c us) ∧ (ts ≠ us ∧ lexB ts us = true ∨ ts = us ∧ (f = true → g = true))
theorem BestL.le {ch : List Nat} {c : Cond} {ts us : List Bool} (h : BestL ch c ts) (hu : us.length = c.pairs) : looksM ch (exch c ts) ≤ looksM ch (exch c us) := by
  rcases h.2 us hu with h | h
  · omega
  · omega
theorem BestJ.le {ch : List Nat} {c : Cond} {ts us : List Bool} {f g : Bool} (h : BestJ ch c ts f) (hu : us.length = c.pairs) : jumpsM ch f (exch c ts) ≤ jumpsM ch g (exch c us) := by
  rcases h.2 us g hu with h | h
  · omega
  · omega
/-- what fewest_looks, fewest_jumps tell: their lists new -/
def FL (H H' : Hp) (v : V) (ch : List Nat) (c : Cond) : Prop := ∃ p t ts, v = .ref p ∧ H t = none ∧ H' p = some (.tup [.int (looksM ch (exch c ts) : Int), .ref t]) ∧ H' t = some (.lst (ts.map vb)) ∧ BestL ch c ts
def FJ (H H' : Hp) (v : V) (ch : List Nat) (c : Cond) : Prop := ∃ p t ts f, v = .ref p ∧ H t = none ∧ H' p = some (.tup [.int (jumpsM ch f (exch c ts) : Int), .ref t, vb f]) ∧ H' t = some (.lst (ts.map vb)) ∧ BestJ ch c ts f
/-- one exchange more or less -/
def flipT (ts : List Bool) (i : Nat) : List Bool := ts.take i ++ [!ts.getD i false] ++ ts.drop (i + 1)
theorem flip_len {ts : List Bool} {i : Nat} (h : i < ts.length) : (flipT ts i).length = ts.length := by
  unfold flipT
  rw [List.length_append, List.length_append, List.length_take, List.length_drop, Nat.min_eq_left (by omega)]
  show i + 1 + (ts.length - (i + 1)) = ts.length
  omega
theorem flip_vb {ts : List Bool} {i : Nat} (h : i < ts.length) : (cutV (ts.map vb) none (some (i : Int)) ++ [V.int (1 - bi (ts.getD i false))]) ++ cutV (ts.map vb) (some ((i : Int) + 1)) none = (flipT ts i).map vb := by
  rw [cut_hi (by rw [List.length_map]; omega), show ((i : Int) + 1) = ((i + 1 : Nat) : Int) from rfl, cut_lo (by rw [List.length_map]; omega)]
  unfold flipT
  rw [List.map_append, List.map_append, List.map_take, List.map_drop]
  cases ts.getD i false <;> rfl
end J

namespace J
open PySem L2
def Good (c : Cond) : Prop := c.ok ∧ c.deep ≤ 10 ∧ c.looks ≤ 12
/-! x += e -/
section
variable {K : PySem.W.Frag} {w : World} {σ : St} {H : Hp} {Q : VK} {nx bk ct : St → Hp → Prop} {rt : VK} {te : TE} {i : Nat}
theorem l_aug {ti : TIp} {x : V} (e : σ[i]? = some (some x)) (h : te σ H fun y H1 => ti x y H1 fun z H2 => nx (σ.set i (some z)) H2) : tAug i te ti (Ends.mk nx rt bk ct) σ H := ⟨x, e, h⟩
theorem l_ipI {f : Int → Int → Int} {a b : Int} (h : Q (.int (f a b)) H) : ipI f (.int a) (.int b) H Q := ⟨a, b, rfl, rfl, h⟩
theorem l_catA {p r : Addr} {xs : List V} {y : V} (hp : H p = some (.tup xs)) (hr : H r = some (.tup [y])) (hn : xs.length ≤ 1000) (q : ∀ (l : Addr) (H' : Hp), Same H H' → H' l = some (.tup (xs ++ [y])) → Q (.ref l) H') : rCatA K (.ref p) (.ref r) H Q := by
  refine ⟨p, r, xs, [y], rfl, rfl, SqT.of hp, SqT.of hr, Nat.le_trans (show xs.length + 1 ≤ 100000 by omega) (by decide), fun e => ?_, fun _ e => absurd e (List.cons_ne_nil _ _), fun _ _ l hl => q l _ (sm_new hl _) upd_same⟩
  subst e
  exact q r _ (Same.refl _) hr
theorem l_listT {p : Addr} {xs : List V} (h : SqT K H p xs) (q : ∀ (l : Addr) (H' : Hp), H l = none → Same H H' → H' l = some (.lst xs) → Q (.ref l) H') : rListOf K [.ref p] H Q := ⟨p, xs, rfl, .inr h, fun l hl => q l _ hl (sm_new hl _) upd_same⟩
theorem yes_t {F : Bool → Hp → Prop} (h : F true H) : tYes σ H F := h
/-- zip of two tuples -/
def IZ (K : PySem.W.Frag) (vs : List V) (H : Hp) (R : It → Hp → Prop) : Prop := ∃ a b xs ys, vs = [.ref a, .ref b] ∧ ((SqL K H a xs ∧ SqL K H b ys ∧ R (Itz K a b) H) ∨ (SqT K H a xs ∧ SqT K H b ys ∧ R (RZ.ItzT K a b) H))
theorem l_iZip {ta : TA} {R : It → Hp → Prop} (h : ta σ H fun vs H1 => IZ K vs H1 R) : RZ.iZipA K ta σ H R := h
theorem forZ {a b : Addr} {xs ys : List V} {g : TG} {tb : TS} (hl : xs.length = ys.length) (ha : SqT K H a xs) (hb : SqT K H b ys) (Pv : Nat → St → Hp → Prop) (h0 : Pv 0 σ H) (hq : ∀ i σ' H', Pv i σ' H' → Same H H')
    (hs : ∀ (i : Nat) (x y : V) (T : Addr) σ' H' H'', xs[i]? = some x → ys[i]? = some y → Pv i σ' H' → Same H' H'' → H'' T = some (.tup [x, y]) → g (.ref T) σ' H'' fun σ2 H2 => tb (Ends.mk (Pv (i + 1)) rt nx (Pv (i + 1))) σ2 H2)
    (hd : ∀ σ' H', Pv xs.length σ' H' → nx σ' H') : IZ K [.ref a, .ref b] H (ForB g tb (Ends.mk nx rt bk ct) σ) :=
  ⟨a, b, xs, ys, rfl, .inr ⟨ha, hb, RZ.for_zipT (D := Ends.mk nx rt bk ct) hl Pv h0 (fun i σ' H' p => ⟨sm_t (hq i σ' H' p) ha, sm_t (hq i σ' H' p) hb⟩) (fun i x y T σ' H' hx hy p hT => hs i x y T σ' H' _ hx hy p (sm_new hT _) upd_same) hd⟩⟩
end
/-! bits, all of some length -/
def bitsM : Nat → List (List Bool)
  | 0 => [[]]
  | n + 1 => (bitsM n).flatMap fun b => [b ++ [false], b ++ [true]]
theorem bits8 : bitsM 8 = (List.range 256).map wts := by decide +kernel
theorem flat_at {α β : Type} (f g : α → β) : ∀ (l : List α) (i : Nat), ((l.flatMap fun b => [f b, g b])[2 * i]? = (l[i]?).map f) ∧ ((l.flatMap fun b => [f b, g b])[2 * i + 1]? = (l[i]?).map g)
  | [], i => ⟨rfl, rfl⟩
  | x :: r, 0 => ⟨rfl, rfl⟩
  | x :: r, i + 1 => by
    have := flat_at f g r i
    exact this
theorem flat_len {α β : Type} (f g : α → β) : ∀ (l : List α), (l.flatMap fun b => [f b, g b]).length = 2 * l.length
  | [] => rfl
  | x :: r => by
    show (r.flatMap fun b => [f b, g b]).length + 1 + 1 = 2 * (r.length + 1)
    rw [flat_len f g r]; omega
theorem bitsM_len : ∀ n, (bitsM n).length = 2 ^ n
  | 0 => rfl
  | n + 1 => by
    unfold bitsM
    rw [flat_len, bitsM_len n, Nat.pow_succ, Nat.mul_comm]
theorem bitsM_mem : ∀ (n : Nat) (b : List Bool), b ∈ bitsM n → b.length = n
  | 0, b, h => by obtain rfl := List.mem_singleton.mp h; rfl
  | n + 1, b, h => by
    obtain ⟨x, hx, hb⟩ := List.mem_flatMap.mp h
    have := bitsM_mem n x hx
    rcases List.mem_cons.mp hb with rfl | hb
    · rw [List.length_append, this]; rfl
    · obtain rfl := List.mem_singleton.mp hb
      rw [List.length_append, this]; rfl
theorem bitsM_all : ∀ (b : List Bool) , b ∈ bitsM b.length := by
  have hs : ∀ (n : Nat) (b : List Bool), b.length = n → b ∈ bitsM n := by
    intro n
    induction n with
    | zero => intro b h; obtain rfl := List.length_eq_zero_iff.mp h; exact List.mem_singleton.mpr rfl
    | succ n ih =>
      intro b h
      have hne : b ≠ [] := by intro e; subst e; cases h
      have hd : b = b.dropLast ++ [b.getLast hne] := (List.dropLast_concat_getLast hne).symm
      have hl : b.dropLast.length = n := by rw [List.length_dropLast, h]; rfl
      refine List.mem_flatMap.mpr ⟨b.dropLast, ih _ hl, ?_⟩
      rw [hd]
      cases b.getLast hne
      · rw [List.dropLast_concat]; exact List.mem_cons_self
      · rw [List.dropLast_concat]; exact List.mem_cons_of_mem _ (List.mem_singleton.mpr rfl)
  exact fun b => hs _ b rfl
/-- tuples of bits at values -/
def BTA (H : Hp) (v : V) (b : List Bool) : Prop := ∃ a, v = .ref a ∧ H a = some (.tup (b.map vb))
theorem BTA.tups {H H' : Hp} (g : Tups H H') {v : V} {b : List Bool} (h : BTA H v b) : BTA H' v b := by
  obtain ⟨a, e, h⟩ := h
  exact ⟨a, e, g _ _ h⟩
def BT (H : Hp) (vs : List V) (bs : List (List Bool)) : Prop := vs.length = bs.length ∧ ∀ (i : Nat) (y : V), vs[i]? = some y → ∃ b, bs[i]? = some b ∧ BTA H y b
theorem BT.tups {H H' : Hp} (g : Tups H H') {vs : List V} {bs : List (List Bool)} (h : BT H vs bs) : BT H' vs bs :=
  ⟨h.1, fun i y e => by obtain ⟨b, e1, e2⟩ := h.2 i y e; exact ⟨b, e1, e2.tups g⟩⟩
theorem BT.mono {H H' : Hp} (g : Same H H') {vs : List V} {bs : List (List Bool)} (h : BT H vs bs) : BT H' vs bs := h.tups (Same.tups g)
theorem BT.get {H : Hp} {vs : List V} {bs : List (List Bool)} {i : Nat} {y : V} (h : BT H vs bs) (e : vs[i]? = some y) : ∃ b, bs[i]? = some b ∧ BTA H y b := h.2 i y e
def Lc2B (g : TG) (tt : L2.TT) (wi1 : TI) (g1 : TG) (tt1 : L2.TT) (te : TE) (vs vs1 : List Nat) (σ : St) (Q : VK) : It → Hp → Prop := fun J H1 => ∀ D, H1 D = none → ∃ W : Nat → Nat → Hp → Prop, (∃ m, W 0 m (upd H1 D (.lst []))) ∧ ∀ i m H, W i m H →
  (J.stop i H ∧ Q (.ref D) H) ∨ (J.go i H ∧ ∃ Nx : Hp → Prop, (∀ H', Nx H' → ∃ m', m' < m ∧ W (i + 1) m' H') ∧ ∀ x H', J.yld i H x H' → g x (wipe σ vs) H' fun σ2 H2 => wipe σ2 vs = wipe σ vs ∧ tt σ2 H2 fun b H3 =>
    if b = true then wi1 σ2 H3 fun J1 H4 => ∃ W1 : Nat → Nat → Hp → Prop, (∃ m, W1 0 m H4) ∧ ∀ j k H, W1 j k H →
      (J1.stop j H ∧ Nx H) ∨ (J1.go j H ∧ ∃ Nx1 : Hp → Prop, (∀ H', Nx1 H' → ∃ k', k' < k ∧ W1 (j + 1) k' H') ∧ ∀ x H', J1.yld j H x H' → g1 x (wipe σ2 vs1) H' fun σ3 H5 => wipe σ3 vs1 = wipe σ2 vs1 ∧ tt1 σ3 H5 fun b H6 =>
        if b = true then te σ3 H6 fun y H7 => ∃ acc, H7 D = some (.lst acc) ∧ acc.length < sizeLine ∧ Nx1 (upd H7 D (.lst (acc ++ [y]))) else Nx1 H6)
    else Nx H3)
theorem l_lc2 {wi wi1 : TI} {g g1 : TG} {tt tt1 : L2.TT} {te : TE} {vs vs1 : List Nat} {σ : St} {H : Hp} {Q : VK} (h : wi σ H (Lc2B g tt wi1 g1 tt1 te vs vs1 σ Q)) : tLc2 wi g tt wi1 g1 tt1 te vs vs1 σ H Q := h
/-- [e for x in a list for b in (0, 1)], every item's value related, by what stands in tuples -/
theorem lc2_rel {K : PySem.W.Frag} {σ : St} {H : Hp} {Q : VK} {te : TE} {j j1 : Nat} {vs vs1 : List Nat} {a : Addr} {xs : List V} (E : Nat → V → Hp → Prop) (mono : ∀ m y H H', Tups H H' → E m y H → E m y H') (ht : SqL K H a xs) (hl : xs.length ≤ 40000)
    (hw0 : ∀ x, wipe ((wipe σ vs).set j (some x)) vs = wipe σ vs) (hw1 : ∀ x y, wipe ((wipe ((wipe σ vs).set j (some x)) vs1).set j1 (some y)) vs1 = wipe ((wipe σ vs).set j (some x)) vs1)
    (h : ∀ (i : Nat) (x : V) (b : Bool) H' (Q' : VK), xs[i]? = some x → Same H H' → (∀ y H'', Same H' H'' → E (2 * i + b.toNat) y H'' → Q' y H'') → te ((wipe ((wipe σ vs).set j (some x)) vs1).set j1 (some (vb b))) H' Q')
    (q : ∀ D ys H2, H D = none → Same H H2 → H2 D = some (.lst ys) → ys.length = 2 * xs.length → (∀ m y, ys[m]? = some y → E m y H2) → Q (.ref D) H2) :
    IL K (.ref a) H (Lc2B (gName j) tYes (iTup K (tTup (tCons (tC (.int 0)) (tCons (tC (.int 1)) tNil)))) (gName j1) tYes te vs vs1 σ Q) := by
  refine ⟨a, rfl, ⟨xs, ht⟩, fun D hD => ?_⟩
  let Pv : Nat → Hp → Prop := fun k H' => ∃ ys, Same H H' ∧ H' D = some (.lst ys) ∧ ys.length = k ∧ ∀ m y, ys[m]? = some y → E m y H'
  refine ⟨fun i m H' => m = xs.length - i ∧ i ≤ xs.length ∧ Pv (2 * i) H', ⟨xs.length, by simp, Nat.zero_le _, [], sm_new hD _, upd_same, rfl, fun m y e => by cases e⟩, ?_⟩
  rintro i m H' ⟨rfl, hi, p⟩
  have qt : SqL K H' a xs := sm_l p.choose_spec.1 ht
  by_cases hlt : i < xs.length
  · refine .inr ⟨⟨xs, xs[i], qt, by simp [hlt]⟩, Pv (2 * (i + 1)), fun H' p' => ⟨xs.length - (i + 1), by omega, rfl, hlt, p'⟩, fun x H'' y => ?_⟩
    obtain ⟨e, y⟩ := y
    subst e
    have hx := y xs qt
    show wipe _ vs = _ ∧ _
    refine ⟨hw0 x, ?_⟩
    refine yes_t ?_
    show ite _ _ _
    rw [if_pos rfl]
    refine l_iTup (l_tup (l_cons (l_c (l_cons (l_c (l_nil (l_new (by decide) fun t H4 nt g4 e4 => ?_)))))))
    refine ⟨t, rfl, ⟨_, SqT.of e4⟩, ?_⟩
    refine ⟨fun k m H' => m = 2 - k ∧ k ≤ 2 ∧ Pv (2 * i + k) H' ∧ H' t = some (.tup [.int 0, .int 1]), ⟨2, rfl, by omega, ?_, e4⟩, ?_⟩
    · obtain ⟨ys, s1, s2, s3, s4⟩ := p
      exact ⟨ys, s1.trans g4, g4 _ _ s2, s3, fun m y e => mono _ _ _ _ (Same.tups g4) (s4 m y e)⟩
    rintro k m H5 ⟨rfl, hk, p5, e5⟩
    by_cases hk2 : k < 2
    · obtain ⟨b, hb, hbk⟩ : ∃ b : Bool, [V.int 0, V.int 1][k]? = some (vb b) ∧ b.toNat = k := by
        obtain rfl | rfl : k = 0 ∨ k = 1 := by omega
        · exact ⟨false, rfl, rfl⟩
        · exact ⟨true, rfl, rfl⟩
      refine .inr ⟨⟨_, _, SqT.of e5, hb⟩, fun H' => Pv (2 * i + (k + 1)) H' ∧ H' t = some (.tup [.int 0, .int 1]), fun H' p' => ⟨2 - (k + 1), by omega, rfl, hk2, p'⟩, fun z H6 y6 => ?_⟩
      obtain ⟨e, y6⟩ := y6
      subst e
      have hz := y6 _ (SqT.of e5)
      rw [hb] at hz
      obtain rfl := Option.some.inj hz
      show wipe _ vs1 = _ ∧ _
      refine ⟨hw1 x _, ?_⟩
      refine yes_t ?_
      show ite _ _ _
      rw [if_pos rfl]
      obtain ⟨ys, s1, s2, s3, s4⟩ := p5
      refine h i x b _ _ hx s1 fun y H7 g7 ey => ?_
      have tp : Tups H7 (upd H7 D (.lst (ys ++ [y]))) := but_upd.tups (g7 _ _ s2)
      have nt : t ≠ D := ne_of e5 s2 (by intro z; cases z)
      refine ⟨ys, g7 _ _ s2, Nat.lt_of_lt_of_le (show ys.length < 100001 by omega) (by decide), ⟨ys ++ [y], sm_mut (s1.trans g7) hD, upd_same, by rw [List.length_append, s3]; rfl, fun m z hz => mono _ _ _ _ tp ?_⟩, by rw [upd_ne nt]; exact g7 _ _ e5⟩
      by_cases hm : m < ys.length
      · rw [List.getElem?_append_left hm] at hz
        exact mono _ _ _ _ (Same.tups g7) (s4 m z hz)
      · rw [List.getElem?_append_right (by omega)] at hz
        have hm2 : m - ys.length = 0 := by
          have := (List.getElem?_eq_some_iff.mp hz).1
          have : ([y] : List V).length = 1 := rfl
          omega
        rw [hm2] at hz
        obtain rfl := Option.some.inj hz
        have : m = 2 * i + b.toNat := by omega
        rw [this]
        exact ey
    · have : k = 2 := by omega
      subst this
      exact .inl ⟨⟨_, SqT.of e5, Nat.le_refl 2⟩, p5⟩
  · have e : i = xs.length := by omega
    subst e
    obtain ⟨ys, s1, s2, s3, s4⟩ := p
    exact .inl ⟨⟨xs, qt, Nat.le_refl _⟩, q D ys H' hD s1 s2 s3 s4⟩
/-- [e for x, y in a list of pairs], every item's value known -/
theorem lcL2 {K : PySem.W.Frag} {σ : St} {H : Hp} {Q : VK} {te : TE} {j j1 : Nat} {vs : List Nat} {a : Addr} {xs ys : List V} {n : Nat} (hn : xs.length = n) (hy : ys.length = n) (hw : ∀ x y, wipe (((wipe σ vs).set j (some x)).set j1 (some y)) vs = wipe σ vs) (ht : SqL K H a xs) (hl : n ≤ 100000)
    (P : ∀ (i : Nat) (v : V), xs[i]? = some v → ∃ t x y, v = .ref t ∧ H t = some (.tup [x, y]))
    (h : ∀ (i : Nat) (x y z : V) (t : Addr) H' (Q' : VK), xs[i]? = some (.ref t) → H t = some (.tup [x, y]) → ys[i]? = some z → Same H H' → (∀ H'', Same H' H'' → Q' z H'') → te (((wipe σ vs).set j (some x)).set j1 (some y)) H' Q')
    (q : ∀ D H2, H D = none → Same H H2 → H2 D = some (.lst ys) → Q (.ref D) H2) :
    IL K (.ref a) H (LcB (gTup K 2 (gCons (gName j) (gCons (gName j1) gNil))) tYes te vs σ Q) :=
  ⟨a, rfl, ⟨xs, ht⟩, fun D hD => lc_list (K := K) (a := a) (xs := xs) (fun i H' => Same H H' ∧ H' D = some (.lst (ys.take i))) ⟨sm_new hD _, upd_same⟩ (fun i H' _ p => sm_l p.1 ht)
    (fun i v H' hx p => by
      obtain ⟨t, x, y, rfl, e⟩ := P i v hx
      refine l_gtup (SqT.of (p.1 _ _ e)) rfl (l_gcons (l_name (l_gcons (l_name (l_gnil ?_)))))
      refine ⟨hw x y, yes_t ?_⟩
      show ite _ _ _
      rw [if_pos rfl]
      have hi := (List.getElem?_eq_some_iff.mp hx).1
      obtain ⟨z, hz⟩ : ∃ z, ys[i]? = some z := ⟨ys[i]'(by omega), List.getElem?_eq_getElem _⟩
      refine h i x y z t _ _ hx e hz p.1 fun H'' g => ?_
      refine ⟨ys.take i, g _ _ p.2, ?_, sm_mut (p.1.trans g) hD, ?_⟩
      · rw [List.length_take]
        exact Nat.lt_of_le_of_lt (Nat.le_trans (Nat.min_le_left _ _) (Nat.le_trans (Nat.le_of_lt hi) (show xs.length ≤ 100000 by omega))) (by decide)
      · rw [upd_same, take_snoc hz])
    fun H' p => q D H' hD p.1 (by have e := p.2; rw [hn, ← hy, List.take_length] at e; exact e)⟩
end J

namespace J
open PySem PySem.W PySem.SeqAt PyProof.Rows L2
section
variable {prog : Program} {w : World} {A : Around} {E : Value → Shared → Prop} {s : Shared}
theorem min_list_at {l : Addr} {vs : Array Value} {x : PyData} {xs : List PyData} {as : List Addr} {Q : Value → Shared → Prop} (hh : A.handled = none) (hl : s.heap.IsList l vs) (hr : ReadsAll s.heap vs.toList (x :: xs) as) (ha : AlikeAll (x :: xs)) (hu : A.units + 1 + PyData.depthAll (x :: xs) < cLine)
    (h : ∀ (i : Nat) v h' tk, vs[i]? = some v → (x :: xs).getD i .none = minD x xs → (∀ b o, s.heap.get? b = some o → h'.get? b = some o) → Q v { s with heap := h', toks := tk }) :
    wpAny (model prog w) A (call (.builtin "min") [.ref l]) Q E s := by
  have hn : vs.size = xs.length + 1 := readsAll_len hr
  refine call_min_walkH (iter_listW (A := A.in1) hh hl fun s₂ e W st hfp hw hk => ?_)
  refine ⟨_, _, _, _, _, _, _, s.heap, _, rfl, W, st, hfp, by omega, hw, hk, cmpIn_lt (A := A.in1) hr ha (by show A.units + 1 + _ < _; exact hu), fun v s' hP m => ?_⟩
  obtain ⟨h', tk, rfl, hk'⟩ := moved_old e rfl m
  have e1 : vs.size - 1 = xs.length := by omega
  have e2 := (argBest_fold dataLt PyData.none x xs xs.length (Nat.le_refl _)).2
  rw [List.take_length] at e2
  rw [e1] at hP
  exact h _ v h' tk hP e2 hk'
end
/-- min of a list of alike data -/
def rMinD (K : PySem.W.Frag) : List V → Hp → VK → Prop := fun vs H Q => ∃ (a : Addr) (xs : List V) (x : PyData) (ds : List PyData), vs = [V.ref a] ∧ SqL K H a xs ∧ DpAll K H xs (x :: ds) ∧ AlikeAll (x :: ds) ∧ PyData.depthAll (x :: ds) ≤ 60 ∧
  ∀ (i : Nat) (v : V), xs[i]? = some v → (x :: ds).getD i .none = minD x ds → Q v H
theorem cr_minD {X : Cx} (hc : X.calm = true) (hu : X.A.units + 64 < cLine) : CallR X (.builtin "min") (rMinD X.K) := by
  intro pins s σ H vs us Q I r h
  obtain ⟨a, xs, x, ds, rfl, hs, hd, ha, hp, q⟩ := h
  obtain ⟨its, rv, hl, _⟩ := I.list hs
  rw [Vals.ref1 r]
  obtain ⟨as, hr⟩ := Dp.readsAll I (x :: ds) xs its hd rv
  refine min_list_at (I.ok.hd hc) hl.isList (by simpa using hr) ha (by omega) fun i v h' tk hv he hk => ?_
  have hv' : its[i]? = some v := by simpa using hv
  cases hx : xs[i]? with
  | none =>
    have := rv.none_of hx
    rw [hv'] at this
    cases this
  | some y =>
    obtain ⟨u, hu1, ru⟩ := rv.get hx
    rw [hv'] at hu1
    obtain rfl := Option.some.inj hu1
    exact ⟨y, H, I.kept hk, ru, q i y hx he⟩
/-! the order -/
def lexS : List Bool → List Bool → Bool
  | [], [] => false
  | [], _ :: _ => true
  | _ :: _, [] => false
  | a :: r, b :: s => if a = b then lexS r s else b
theorem lexS_asym : ∀ a b, lexS a b = true → lexS b a = false
  | [], [], h => by cases h
  | [], _ :: _, _ => rfl
  | _ :: _, [], h => by cases h
  | a :: r, b :: s, h => by
    unfold lexS at h ⊢
    by_cases e : a = b
    · subst e
      rw [if_pos rfl] at h ⊢
      exact lexS_asym r s h
    · rw [if_neg e] at h
      rw [if_neg fun z => e z.symm]
      subst h
      cases a
      · rfl
      · exact absurd rfl e
theorem lexS_tr : ∀ x y z, lexS y x = false → lexS z y = false → lexS z x = false
  | [], [], z, _, h => h
  | [], _ :: _, [], h1, h2 => by cases h2
  | [], _ :: _, _ :: _, h1, h2 => rfl
  | _ :: _, [], _, h1, _ => by cases h1
  | _ :: _, _ :: _, [], _, h2 => by cases h2
  | a :: r, b :: s, c :: t, h1, h2 => by
    unfold lexS at h1 h2 ⊢
    by_cases e1 : b = a
    · subst e1
      rw [if_pos rfl] at h1
      by_cases e2 : c = b
      · subst e2
        rw [if_pos rfl] at h2 ⊢
        exact lexS_tr r s t h1 h2
      · rw [if_neg e2] at h2 ⊢
        exact h2
    · rw [if_neg e1] at h1
      subst h1
      by_cases e2 : c = b
      · subst e2
        rw [if_neg e1]
      · rw [if_neg e2] at h2
        subst h2
        cases c
        · exact absurd rfl e2
        · rw [if_neg (by decide)]
theorem lexS_B : ∀ ts us : List Bool, ts.length = us.length → lexS us ts = false → lexB ts us = true
  | [], _, _, _ => rfl
  | _ :: _, [], h, _ => by cases h
  | a :: r, b :: s, hl, h => by
    unfold lexS at h
    unfold lexB
    by_cases e : a = b
    · subst e
      rw [if_pos rfl] at h ⊢
      exact lexS_B r s (Nat.succ.inj hl) h
    · rw [if_neg fun z => e z.symm] at h
      rw [if_neg e]
      subst h
      cases b
      · exact absurd rfl e
      · rfl
theorem lexS_eq : ∀ ts us : List Bool, lexS us ts = false → lexS ts us = false → ts = us
  | [], [], _, _ => rfl
  | [], _ :: _, _, h => by cases h
  | _ :: _, [], h, _ => by cases h
  | a :: r, b :: s, h1, h2 => by
    unfold lexS at h1 h2
    by_cases e : a = b
    · subst e
      rw [if_pos rfl] at h1 h2
      rw [lexS_eq r s h1 h2]
    · rw [if_neg fun z => e z.symm] at h1
      rw [if_neg e] at h2
      rw [h1, h2] at e
      exact absurd rfl e
abbrev KL := Nat × List Bool
abbrev KJ := Nat × List Bool × Bool
def ltL (x y : KL) : Bool := decide (x.1 < y.1) || (decide (x.1 = y.1) && lexS x.2 y.2)
def ltJ (x y : KJ) : Bool := decide (x.1 < y.1) || (decide (x.1 = y.1) && (lexS x.2.1 y.2.1 || (decide (x.2.1 = y.2.1) && (!x.2.2 && y.2.2))))
theorem ltL_no {x y : KL} : ltL x y = false ↔ y.1 < x.1 ∨ (y.1 = x.1 ∧ lexS x.2 y.2 = false) := by
  unfold ltL
  by_cases h1 : x.1 < y.1
  · rw [decide_eq_true h1]; simp; omega
  · rw [decide_eq_false h1]
    by_cases h2 : x.1 = y.1
    · rw [decide_eq_true h2]; simp [h2]
    · rw [decide_eq_false h2]; simp; omega
theorem ltJ_no {x y : KJ} : ltJ x y = false ↔ y.1 < x.1 ∨ (y.1 = x.1 ∧ lexS x.2.1 y.2.1 = false ∧ (x.2.1 = y.2.1 → x.2.2 = true ∨ y.2.2 = false)) := by
  unfold ltJ
  by_cases h1 : x.1 < y.1
  · rw [decide_eq_true h1]; simp; omega
  · rw [decide_eq_false h1]
    by_cases h2 : x.1 = y.1
    · rw [decide_eq_true h2]
      have h3 : ¬ y.1 < x.1 := by omega
      by_cases h4 : x.2.1 = y.2.1
      · rw [decide_eq_true h4]; simp [h2, h3, h4]; intro _; cases x.2.2 <;> simp
      · rw [decide_eq_false h4]; simp [h2, h3, h4]
    · rw [decide_eq_false h2]; simp; omega
theorem trL (x y z : KL) (h1 : ltL y x = false) (h2 : ltL z y = false) : ltL z x = false := by
  rw [ltL_no] at *
  rcases h1 with h1 | ⟨e1, h1⟩ <;> rcases h2 with h2 | ⟨e2, h2⟩
  · exact .inl (by omega)
  · exact .inl (by omega)
  · exact .inl (by omega)
  · exact .inr ⟨by omega, lexS_tr _ _ _ h1 h2⟩
theorem trJ (x y z : KJ) (h1 : ltJ y x = false) (h2 : ltJ z y = false) : ltJ z x = false := by
  rw [ltJ_no] at *
  rcases h1 with h1 | ⟨e1, h1, k1⟩ <;> rcases h2 with h2 | ⟨e2, h2, k2⟩
  · exact .inl (by omega)
  · exact .inl (by omega)
  · exact .inl (by omega)
  · refine .inr ⟨by omega, lexS_tr _ _ _ h1 h2, fun e => ?_⟩
    have ey : y.2.1 = x.2.1 := by
      rw [e] at h2
      exact (lexS_eq x.2.1 y.2.1 h1 h2).symm
    rcases k2 (e.trans ey.symm) with k | k
    · exact .inl k
    · rcases k1 ey with k' | k'
      · rw [k] at k'; cases k'
      · exact .inr k'
theorem asymL (x y : KL) (h : ltL x y = true) : ltL y x = false := by
  cases e : ltL y x with
  | false => rfl
  | true =>
    unfold ltL at h e
    simp at h e
    rcases h with h | ⟨h1, h2⟩ <;> rcases e with e | ⟨e1, e2⟩
    · omega
    · omega
    · omega
    · rw [lexS_asym _ _ h2] at e2; cases e2
theorem asymJ (x y : KJ) (h : ltJ x y = true) : ltJ y x = false := by
  cases e : ltJ y x with
  | false => rfl
  | true =>
    unfold ltJ at h e
    simp at h e
    rcases h with h | ⟨h1, h2⟩ <;> rcases e with e | ⟨e1, e2⟩
    · omega
    · omega
    · omega
    · rcases h2 with h2 | ⟨h3, h4, h5⟩ <;> rcases e2 with e2 | ⟨e3, e4, e5⟩
      · rw [lexS_asym _ _ h2] at e2; cases e2
      · rw [e3] at h2; have := lexS_asym _ _ h2; rw [this] at h2; cases h2
      · rw [h3] at e2; have := lexS_asym _ _ e2; rw [this] at e2; cases e2
      · rw [h4] at e5; cases e5
theorem fold_least {α : Type} {lt : α → α → Bool} (tr : ∀ x y z, lt y x = false → lt z y = false → lt z x = false) (asym : ∀ x y, lt x y = true → lt y x = false) : ∀ (xs : List α) (x : α),
    xs.foldl (fun a y => if lt y a then y else a) x ∈ x :: xs ∧ ∀ y ∈ x :: xs, lt y (xs.foldl (fun a y => if lt y a then y else a) x) = false
  | [], x => ⟨List.mem_cons_self, fun y hy => by
      rw [List.mem_singleton.mp hy]
      show lt x x = false
      cases e : lt x x with
      | false => rfl
      | true => rw [asym x x e] at e; cases e⟩
  | z :: xs, x => by
    rw [List.foldl_cons]
    by_cases h : lt z x = true
    · rw [if_pos h]
      obtain ⟨m1, m2⟩ := fold_least tr asym xs z
      refine ⟨List.mem_cons_of_mem _ m1, fun y hy => ?_⟩
      rcases List.mem_cons.mp hy with rfl | hy
      · exact tr _ _ _ (m2 z List.mem_cons_self) (asym _ _ h)
      · exact m2 y hy
    · rw [if_neg h]
      obtain ⟨m1, m2⟩ := fold_least tr asym xs x
      refine ⟨?_, fun y hy => ?_⟩
      · rcases List.mem_cons.mp m1 with m1 | m1
        · rw [m1]; exact List.mem_cons_self
        · exact List.mem_cons_of_mem _ (List.mem_cons_of_mem _ m1)
      · rcases List.mem_cons.mp hy with rfl | hy
        · exact m2 _ List.mem_cons_self
        · rcases List.mem_cons.mp hy with rfl | hy
          · exact tr _ _ _ (m2 x List.mem_cons_self) (by cases e : lt y x with | false => rfl | true => exact absurd e h)
          · exact m2 y (List.mem_cons_of_mem _ hy)
/-! as data -/
def bd (ts : List Bool) : List PyData := ts.map fun b => PyData.int (bi b)
def eL (x : KL) : PyData := .tuple [.int (x.1 : Int), .list (bd x.2)]
def eJ (x : KJ) : PyData := .tuple [.int (x.1 : Int), .list (bd x.2.1), .int (bi x.2.2)]
theorem alike_bd : ∀ ts us : List Bool, alikeAll (bd ts) (bd us) = true
  | [], _ => by unfold bd; rw [List.map_nil]; unfold alikeAll; rfl
  | _ :: _, [] => by unfold bd; rw [List.map_nil, List.map_cons]; unfold alikeAll; rfl
  | a :: r, b :: s => by
    show alikeAll (PyData.int (bi a) :: bd r) (PyData.int (bi b) :: bd s) = true
    rw [alikeAll, alike_bd r s]
    simp [alike]
theorem eqv_bd : ∀ ts us : List Bool, PyData.eqvAll (bd ts) (bd us) = decide (ts = us)
  | [], [] => rfl
  | [], _ :: _ => rfl
  | _ :: _, [] => rfl
  | a :: r, b :: s => by
    show (bi a == bi b && PyData.eqvAll (bd r) (bd s)) = _
    rw [eqv_bd r s]
    by_cases h : r = s
    · subst h; cases a <;> cases b <;> simp [bi]
    · rw [decide_eq_false h, decide_eq_false (fun e => h (List.cons.inj e).2), Bool.and_false]
theorem dlt_int (a b : Int) : dataLt (.int a) (.int b) = decide (a < b) := by
  show PyProof.Rows.lexLt itemOrd [.inl a] [.inl b] = _
  by_cases h : a = b
  · subst h
    rw [lex_self (O := itemOrd) (.inl a) [] []]
    rw [decide_eq_false (by omega)]; rfl
  · rw [lex_diff (O := itemOrd) (by intro e; exact h (Sum.inl.inj e))]; rfl
theorem dlt_bd : ∀ ts us : List Bool, dataLt (.list (bd ts)) (.list (bd us)) = lexS ts us
  | [], [] => by
    show PyProof.Rows.lexLt itemOrd [.inl 0] [.inl 0] = false
    rw [lex_self (O := itemOrd) (.inl 0) [] []]; rfl
  | [], b :: s => by
    show PyProof.Rows.lexLt itemOrd [.inl 0] (.inl 1 :: _) = true
    rw [lex_diff (O := itemOrd) (by decide)]; rfl
  | a :: r, [] => by
    show PyProof.Rows.lexLt itemOrd (.inl 1 :: _) [.inl 0] = false
    rw [lex_diff (O := itemOrd) (by decide)]; rfl
  | a :: r, b :: s => by
    have ih := dlt_bd r s
    unfold lexS
    show PyProof.Rows.lexLt itemOrd (keyToksAll (.int (bi a) :: bd r)) (keyToksAll (.int (bi b) :: bd s)) = _
    by_cases h : a = b
    · subst h
      rw [if_pos rfl, dataLt_all_yes (by simp [alike]) (by show (bi a == bi a) = true; simp)]
      exact ih
    · rw [if_neg h, dataLt_all_no (by simp [alike]) (by show (bi a == bi b) = false; cases a <;> cases b <;> simp [bi] at h ⊢), dlt_int]
      cases a <;> cases b <;> first | rfl | exact absurd rfl h
theorem lt_nil2 : PyProof.Rows.lexLt itemOrd (keyToksAll []) (keyToksAll []) = false := by
  show PyProof.Rows.lexLt itemOrd [.inl 0] [.inl 0] = false
  rw [lex_self (O := itemOrd) (.inl 0) [] []]; rfl
theorem alike_l (ts us : List Bool) : alike (.list (bd ts)) (.list (bd us)) = true := by
  unfold alike; exact alike_bd ts us
theorem dlt_L (x y : KL) : dataLt (eL x) (eL y) = ltL x y := by
  obtain ⟨n, ts⟩ := x
  obtain ⟨m, us⟩ := y
  show PyProof.Rows.lexLt itemOrd (keyToksAll [.int (n : Int), .list (bd ts)]) (keyToksAll [.int (m : Int), .list (bd us)]) = _
  unfold ltL
  by_cases h : n = m
  · subst h
    rw [dataLt_all_yes (by simp [alike]) (by show ((n : Int) == (n : Int)) = true; simp), decide_eq_false (Nat.lt_irrefl _), decide_eq_true rfl, Bool.false_or, Bool.true_and]
    by_cases h2 : ts = us
    · subst h2
      rw [dataLt_all_yes (alike_l ts ts) (by show PyData.eqvAll (bd ts) (bd ts) = true; rw [eqv_bd]; exact decide_eq_true rfl), lt_nil2]
      cases e : lexS ts ts with
      | false => rfl
      | true => rw [lexS_asym _ _ e] at e; cases e
    · rw [dataLt_all_no (alike_l ts us) (by show PyData.eqvAll (bd ts) (bd us) = false; rw [eqv_bd]; exact decide_eq_false h2), dlt_bd]
  · rw [dataLt_all_no (by simp [alike]) (by show ((n : Int) == (m : Int)) = false; rw [beq_eq_false_iff_ne]; omega), dlt_int, decide_eq_false h, Bool.false_and, Bool.or_false]
    by_cases h2 : n < m
    · rw [decide_eq_true h2, decide_eq_true (by omega)]
    · rw [decide_eq_false h2, decide_eq_false (by omega)]
theorem dlt_J (x y : KJ) : dataLt (eJ x) (eJ y) = ltJ x y := by
  obtain ⟨n, ts, f⟩ := x
  obtain ⟨m, us, g⟩ := y
  show PyProof.Rows.lexLt itemOrd (keyToksAll [.int (n : Int), .list (bd ts), .int (bi f)]) (keyToksAll [.int (m : Int), .list (bd us), .int (bi g)]) = _
  unfold ltJ
  by_cases h : n = m
  · subst h
    rw [dataLt_all_yes (by simp [alike]) (by show ((n : Int) == (n : Int)) = true; simp), decide_eq_false (Nat.lt_irrefl _), decide_eq_true rfl, Bool.false_or, Bool.true_and]
    by_cases h2 : ts = us
    · subst h2
      rw [dataLt_all_yes (alike_l ts ts) (by show PyData.eqvAll (bd ts) (bd ts) = true; rw [eqv_bd]; exact decide_eq_true rfl), decide_eq_true rfl, Bool.true_and]
      have e0 : lexS ts ts = false := by
        cases e : lexS ts ts with
        | false => rfl
        | true => rw [lexS_asym _ _ e] at e; cases e
      show _ = (lexS ts ts || (!f && g))
      rw [e0, Bool.false_or]
      by_cases h3 : f = g
      · subst h3
        rw [dataLt_all_yes (by simp [alike]) (by show (bi f == bi f) = true; simp), lt_nil2]
        cases f <;> rfl
      · rw [dataLt_all_no (by simp [alike]) (by show (bi f == bi g) = false; cases f <;> cases g <;> simp [bi] at h3 ⊢), dlt_int]
        cases f <;> cases g <;> first | rfl | exact absurd rfl h3
    · rw [dataLt_all_no (alike_l ts us) (by show PyData.eqvAll (bd ts) (bd us) = false; rw [eqv_bd]; exact decide_eq_false h2), dlt_bd, decide_eq_false h2, Bool.false_and, Bool.or_false]
  · rw [dataLt_all_no (by simp [alike]) (by show ((n : Int) == (m : Int)) = false; rw [beq_eq_false_iff_ne]; omega), dlt_int, decide_eq_false h, Bool.false_and, Bool.or_false]
    by_cases h2 : n < m
    · rw [decide_eq_true h2, decide_eq_true (by omega)]
    · rw [decide_eq_false h2, decide_eq_false (by omega)]
theorem fold_map {α : Type} (e : α → PyData) (lt : α → α → Bool) (h : ∀ x y, dataLt (e x) (e y) = lt x y) : ∀ (xs : List α) (x : α), minD (e x) (xs.map e) = e (xs.foldl (fun a y => if lt y a then y else a) x)
  | [], _ => rfl
  | z :: xs, x => by
    have ih := fold_map e lt h xs
    show minD (if dataLt (e z) (e x) then e z else e x) (xs.map e) = e (xs.foldl _ (if lt z x then z else x))
    rw [h]
    split
    · exact ih z
    · exact ih x
/-! sorted, of lists of bits -/
def rSortedD (K : PySem.W.Frag) : List V → Hp → VK → Prop := fun vs H Q => ∃ (a : Addr) (bs : List (V × List Bool)), vs = [V.ref a] ∧ SqL K H a (bs.map Prod.fst) ∧ (∀ b ∈ bs, Dp K H b.1 (.list (bd b.2))) ∧ bs.length ≤ 1000 ∧
  ∀ (cs : List (V × List Bool)) (p : Addr), cs.Perm bs → H p = none → Q (.ref p) (upd H p (.lst (cs.map Prod.fst)))
theorem each_fst : ∀ {bs : List (V × List Bool)} {us : List Value}, Vals (bs.map Prod.fst) us → EachIs (fun v (b : V × List Bool) => RelV b.1 v) us bs
  | [], _, r => by cases r; exact .nil
  | b :: bs, _, r => by
    cases r with
    | cons h t => exact .cons h (each_fst t)
theorem fst_each : ∀ {bs : List (V × List Bool)} {us : List Value}, EachIs (fun v (b : V × List Bool) => RelV b.1 v) us bs → Vals (bs.map Prod.fst) us
  | _, _, .nil => .nil
  | _, _, .cons h t => .cons h (fst_each t)
theorem dep_bds : ∀ ts : List Bool, PyData.depthAll (bd ts) = 0
  | [] => rfl
  | b :: r => by
    show max 0 (PyData.depthAll (bd r)) = 0
    rw [dep_bds r]; rfl
theorem each_reads {X : Cx} {pins : List (Addr × Obj)} {σ : L2.St} {H : Hp} {s : Shared} (I : Inv X pins σ H s) : ∀ {bs : List (V × List Bool)} {us : List Value}, EachIs (fun v (b : V × List Bool) => RelV b.1 v) us bs → (∀ b ∈ bs, Dp X.K H b.1 (.list (bd b.2))) → EachIs (fun v (b : V × List Bool) => ∃ as, Reads s.heap v (.list (bd b.2)) as) us bs
  | _, _, .nil, _ => .nil
  | _, _, .cons h t, hd => .cons (Dp.reads I _ _ _ (hd _ List.mem_cons_self) h) (each_reads I t fun b hb => hd b (List.mem_cons_of_mem _ hb))
theorem cr_sortedD {X : Cx} (hu : X.A.units + 64 < cLine) : CallR X (.builtin "sorted") (rSortedD X.K) := by
  intro pins s σ H vs us Q I r h
  obtain ⟨a, bs, rfl, hs, hd, hl, q⟩ := h
  obtain ⟨its, rv, hL, hz⟩ := I.list hs
  rw [Vals.ref1 r]
  have hsz : bs.length ≤ sizeLine := Nat.le_trans (show bs.length ≤ 100000 by omega) (by decide)
  refine sorted_data (enc := fun b : V × List Bool => PyData.list (bd b.2)) hL.isList (each_fst rv) (each_reads I (each_fst rv) hd) (AllAlike.of fun b b' => alike_l b.2 b'.2) (Sortable.others fun b => ⟨PyData.noConfusion, fun xs => PyData.noConfusion⟩) hsz (fun b _ => ?_) fun out hlen eo => ?_
  · show X.A.units + 2 + (PyData.depthAll (bd b.2) + 1) < cLine
    rw [dep_bds]
    omega
  · obtain ⟨ep, he'⟩ := PyProof.Rows.sortedAll_at s.heap its out.toArray
    refine ⟨.ref _, upd H (s.heap.objs.size + 1) (.lst ((bs.mergeSort (dataLe false fun b : V × List Bool => PyData.list (bd b.2))).map Prod.fst)), I.laid (t' := s.toks) (fun _ _ => PyProof.Rows.sortedAll_old) (Nat.le_succ _) ⟨?_, out, ep, fst_each eo, he'⟩, rfl, q _ _ (List.mergeSort_perm _ _) (I.hok.fresh (Nat.le_succ _))⟩
    rw [List.length_map, (List.mergeSort_perm _ _).length_eq]
    exact hsz
theorem dp_bds {K : PySem.W.Frag} {H : Hp} : ∀ ts : List Bool, DpAll K H (ts.map vb) (bd ts)
  | [] => .nil
  | b :: r => .cons (.int _) (dp_bds r)
theorem lcL_invD {K : PySem.W.Frag} {σ : L2.St} {H : Hp} {Q : VK} {te : TE} {j : Nat} {vs : List Nat} {a : Addr} {xs : List V} (J : Addr → Nat → List V → Hp → Prop) (hw : ∀ x, wipe ((wipe σ vs).set j (some x)) vs = wipe σ vs) (ht : SqL K H a xs) (hl : xs.length ≤ 100000)
    (st : ∀ D i ys H', J D i ys H' → Same H H') (h0 : ∀ D H', H D = none → Same H H' → J D 0 [] H') (keep : ∀ i ys (D : Addr) H' o, H D = none → J D i ys H' → J D i ys (upd H' D o)) (len : ∀ D i ys H', J D i ys H' → ys.length = i)
    (h : ∀ (i : Nat) (x : V) (D : Addr) ys H' (Q' : VK), xs[i]? = some x → H D = none → J D i ys H' → H' D = some (.lst ys) → (∀ y H'', J D (i + 1) (ys ++ [y]) H'' → H'' D = some (.lst ys) → Q' y H'') → te ((wipe σ vs).set j (some x)) H' Q')
    (q : ∀ D ys H2, H D = none → J D xs.length ys H2 → H2 D = some (.lst ys) → Q (.ref D) H2) : IL K (.ref a) H (LcB (gName j) tYes te vs σ Q) :=
  ⟨a, rfl, ⟨xs, ht⟩, fun D hD => by
    refine lc_list (K := K) (a := a) (xs := xs) (fun i H' => ∃ ys, J D i ys H' ∧ H' D = some (.lst ys)) ⟨[], h0 D _ hD (sm_new hD _), upd_same⟩ (fun i H' _ ⟨ys, jj, _⟩ => sm_l (st _ _ _ _ jj) ht) (fun i x H' hx p => ⟨hw x, ?_⟩) fun H' ⟨ys, jj, e⟩ => q D ys H' hD jj e
    obtain ⟨ys, jj, e⟩ := p
    have hi := (List.getElem?_eq_some_iff.mp hx).1
    refine h i x D ys H' _ hx hD jj e fun y H'' j2 e2 => ?_
    have hn := len _ _ _ _ jj
    exact ⟨ys, e2, Nat.lt_of_lt_of_le (show ys.length < 100001 by omega) (by decide), ys ++ [y], keep _ _ _ _ _ hD j2, upd_same⟩⟩
end J

namespace J
open PySem PySem.Spec PyProof.Rows L2
/-! for i, c in enumerate(s), s a text -/
def ItES (x : Str) : It := ⟨fun i _ => i < x.cps.size, fun i H v H' => ∃ T c, v = .ref T ∧ H T = none ∧ H' = upd H T (.tup [.int (i : Nat), .str ⟨#[c]⟩]) ∧ x.cps[i]? = some c, fun i _ => x.cps.size ≤ i⟩
theorem turn_enumS {P : Program} {w : World} {K : PySem.W.Frag} {elts : List Expr} {kk : Nat} {tpos : Pos} (e it : Addr) (x : Str) (t : Tok) (ty : String) (hty : ty = "str_ascii_iterator" ∨ ty = "str_iterator") :
    Turn P w K (.Tuple elts kk tpos) (ItES x) [e, it] e (fun i h => (∃ old, IsEnum h e it ((i : Nat) : Int) old) ∧ h.IsStrIter it ty x t i ∧ e ≠ it ∧ i ≤ x.cps.size) where
  mem := by simp
  obj := fun i h st b hb => by
    obtain ⟨⟨old, he⟩, ⟨o, ho, hc, hd⟩, _⟩ := st
    have e' : b = e ∨ b = it := by simpa using hb
    rcases e' with z | z
    · rw [z]; exact ⟨_, he, fun v q => nomatch q⟩
    · rw [z]; exact ⟨o, ho, fun v q => by rw [hd] at q; cases q⟩
  keep := fun i h h' st k => let ⟨⟨old, he⟩, ⟨o, ho, r⟩, hne, hle⟩ := st; ⟨⟨old, k e (by simp) _ he⟩, ⟨o, k it (by simp) o ho, r⟩, hne, hle⟩
  item := by
    intro X hP hw hK hc i pins s σ H E I hf st hg
    subst hP hw hK
    obtain ⟨⟨old, he⟩, hit, hne, hle⟩ := st
    have hel : e < s.heap.objs.size := Heap.lt_size he
    have hil : it < s.heap.objs.size := by obtain ⟨_, q, _⟩ := hit; exact Heap.lt_size q
    have D : Draws X.prog X.w X.A.in1 it [it] x.cps.size (fun i v => ∃ c u, x.cps[i]? = some c ∧ v = .str ⟨#[c]⟩ u) (fun i h => h.IsStrIter it ty x t i) := by
      rcases hty with z | z
      · rw [z]; exact Draws.strAscii (by exact I.ok.hd hc) it x t
      · rw [z]; exact Draws.strWide (by exact I.ok.hd hc) it x t
    have hef : e ∉ [it] := by simpa using hne
    refine wpAny_pyNext_enum_itemD D he hit hg hne hef fun v h' tk hv ho hit' hT hsz hk => ?_
    obtain ⟨c, u, hcx, rfl⟩ := hv
    refine ⟨_, rfl, wpAny_letOwnedTupleGo_enum (s := { s with heap := h', toks := tk + 1 }) ho fun h'' he' sb => ?_⟩
    have hT2 : h''.get? s.heap.objs.size = some { cls := .type "tuple", data := .seq #[.int i tk, .str ⟨#[c]⟩ u] } := (sb.2 _ (Nat.ne_of_gt hel)).trans hT
    have new : ObjOk X.prog X.w (upd H s.heap.objs.size (.tup [.int (i : Nat), .str ⟨#[c]⟩])) h'' s.heap.objs.size (.tup [.int (i : Nat), .str ⟨#[c]⟩]) :=
      ⟨by show 2 ≤ sizeLine; decide, [.int i tk, .str ⟨#[c]⟩ u], .cons ⟨_, rfl⟩ (.cons ⟨_, rfl⟩ .nil), ⟨_, hT2, rfl, _, rfl⟩⟩
    have I1 : Inv X pins σ (upd H s.heap.objs.size (.tup [.int (i : Nat), .str ⟨#[c]⟩])) { s with heap := h'', toks := tk + 1 } :=
      I.turnedNew (ch := [e, it]) (fun b ob hb q => (sb.2 b (fun z => hb (by simp [z]))).trans (hk b ob (fun z => hb (by simp [z])) (fun z => hb (by simp [z])) q)) hf (Nat.le_refl _) new
    have hit2 : h''.IsStrIter it ty x t (i + 1) := by
      obtain ⟨o, ho2, r⟩ := hit'
      exact ⟨o, (sb.2 it (Ne.symm hne)).trans ho2, r⟩
    refine ⟨.ref s.heap.objs.size, _, I1, rfl, ⟨_, c, rfl, I.hok.fresh (Nat.le_refl _), rfl, hcx⟩, ⟨⟨.str ⟨#[c]⟩ u, ?_⟩, hit2, hne, hg⟩, fun b hb => ?_⟩
    · have e1 : ((i + 1 : Nat) : Int) = (i : Int) + 1 := by omega
      rw [e1]; exact he'
    · have hb' : b < s.heap.objs.size := by
        have e' : b = e ∨ b = it := by simpa using hb
        rcases e' with z | z
        · rw [z]; exact hel
        · rw [z]; exact hil
      rw [upd_ne (Nat.ne_of_lt hb')]
      exact (hf b hb).1
  done := by
    intro X hP hw hK hc i pins s σ H E I hf st hg
    subst hP hw hK
    obtain ⟨⟨old, he⟩, hit, hne, hle⟩ := st
    obtain ⟨f0, f1, f2, f3, f4, f5⟩ := hf it (by simp)
    have hge : x.cps.size ≤ i := hg
    obtain rfl : i = x.cps.size := Nat.le_antisymm hle hge
    have D : Draws X.prog X.w X.A.in1 it [it] x.cps.size (fun i v => ∃ c u, x.cps[i]? = some c ∧ v = .str ⟨#[c]⟩ u) (fun i h => h.IsStrIter it ty x t i) := by
      rcases hty with z | z
      · rw [z]; exact Draws.strAscii (by exact I.ok.hd hc) it x t
      · rw [z]; exact Draws.strWide (by exact I.ok.hd hc) it x t
    exact wpAny_pyNext_enum_endD D he hit fun h' eb => ⟨rfl, I.turned (t' := s.toks) (fun b o hb q => eb b o hb q) f0 f1 f3 f4 f5⟩
  self := fun A i s Q E st h => let ⟨⟨_, he⟩, _⟩ := st; wpAny_pyIter_enum he h
def iEnumS (ta : TA) : TI := fun σ H R => ta σ H fun vs H1 => ∃ x, vs = [.str x] ∧ R (ItES x) H1
theorem pi_enumS {X : Cx} {e : Expr} {ta : TA} {p pos tpos : Pos} {elts : List Expr} {kk : Nat} (hg : Gl X "enumerate") (hm : X.mg "enumerate" = none) (ha : PA X [e] ta) (hs : starEach [e] X.env = [(false, eval e X.env)] := by rfl) :
    PI X (.Tuple elts kk tpos) (.Call (.Name "enumerate" p) [e] [] pos) (iEnumS ta) := by
  refine ⟨fun pins s σ H R I h => ?_⟩
  refine Call_ (ld_blt I hg hm boot_enumerate (PyProof.Rows.callWith_type1 (thn (ha.run pos pins s σ H _ I h) fun us s1 ⟨vs, H1, I1, r1, q1⟩ => ?_) hs rfl))
  obtain ⟨x, ex, q⟩ := q1
  subst ex
  cases r1 with
  | cons r rr =>
    cases rr
    obtain ⟨t, rfl⟩ := r
    refine call_enumerate_str fun h' he hit hsz hk => wpAny_pyIter_enum he ?_
    have I2 : Inv X pins σ H1 { s1 with heap := h' } := I1.kept (t' := s1.toks) hk
    refine ⟨s1.heap.objs.size + 1, [s1.heap.objs.size + 1, s1.heap.objs.size], _, _, H1, rfl, I2, turn_enumS (s1.heap.objs.size + 1) s1.heap.objs.size x t (strIterType x) (by unfold strIterType; split <;> first | exact .inl rfl | exact .inr rfl), ⟨⟨.none, he⟩, hit, Nat.succ_ne_self _, Nat.zero_le _⟩, fun b hb => ?_, q⟩
    have e' : b = s1.heap.objs.size + 1 ∨ b = s1.heap.objs.size := by simpa using hb
    have hle : s1.heap.objs.size ≤ b := by
      rcases e' with z | z
      · rw [z]; exact Nat.le_add_right _ _
      · rw [z]; exact Nat.le_refl _
    exact I1.fpOk hle (I1.hok.fresh hle)
/-! k in d, d a written dict -/
def KHas (K : PySem.W.Frag) (w : World) (a : Addr) (x : Str) (b : Bool) : Prop := ∃ es n r, K.lookup a = some ⟨.type "dict", none, .dict es n, #[]⟩ ∧ PySem.W.KeysLit w.params es.toList ∧ (a == sysModules) = false ∧ PySem.W.nsIn K a x = some r ∧ r.isSome = b
def rInKD (K : PySem.W.Frag) (w : World) : R2 := fun x y H Q => ∃ z p b, x = .str z ∧ y = .ref p ∧ KHas K w p z b ∧ Q (.bl b) H
theorem op_inKD {X : Cx} : OpR X (compareOp .In) (rInKD X.K X.w) := by
  intro pins s σ H x y v u Q I rx ry h
  obtain ⟨z, p, b, rfl, rfl, ⟨es, n, r, hl, hk, low, e, eb⟩, q⟩ := h
  obtain ⟨t, rfl⟩ := rx
  obtain rfl : u = Value.ref p := ry
  have hm := PySem.W.mapOf_K (prog := X.prog) (w := X.w) I.kIn hl hk
  refine wpAny_in_of (strKind_is X.prog X.w z t) low hm ?_
  rw [PySem.W.find_K hl e, eb]
  exact ⟨.bl b, H, I.tok _, rfl, q⟩
def tJoin (ts : List TE) : TE := fun σ H Q => tJs ts Str.empty σ H fun out H1 => Q (.str out) H1
def rInSign : R2 := fun x y H Q => ∃ (c : Nat) (z : Str), x = .str ⟨#[c]⟩ ∧ y = .str z ∧ Q (.bl (decide (c ∈ z.cps.toList))) H
/-- s.index(t), there -/
def rIndexS : V → List V → Hp → VK → Prop := fun x xs H Q => ∃ (a b : Str) (k : Nat), x = .str a ∧ xs = [.str b] ∧ Txt.index0 a b = some k ∧ Q (.int (k : Nat)) H
theorem mt_indexS {X : Cx} : MtR X "str.index" rIndexS := by
  intro pins s σ H x xs v us Q I rx rs h
  obtain ⟨a, b, k, rfl, rfl, e, w⟩ := h
  obtain ⟨t, rfl⟩ := rx
  cases rs with
  | cons r1 rs =>
    cases rs
    obtain ⟨u, rfl⟩ := r1
    cases q : Builtin.Str.occurrences a b 0 a.length 1 with
    | nil =>
      unfold Txt.index0 at e
      rw [q] at e
      cases e
    | cons k' rest =>
      unfold Txt.index0 at e
      rw [q] at e
      obtain rfl : k' = k := Option.some.inj e
      exact PySem.SC.index q ⟨.int (k' : Nat), H, I.tok _, ⟨_, rfl⟩, w⟩
end J

local macro_rules | `(tactic| tm_at "dec") => `(tactic| first | decide | exact of_decide_eq_true rfl | omega)
local macro_rules | `(tactic| tm_at "hp") => `(tactic| first
  | assumption
  | exact L2.Same.refl _
  | (refine' L2.Same.free (by assumption) ?k1; (case k1 => tm_at "hp"))
  | (refine' J.Fr.at (by assumption) ?k1 ?k2 ?k3; (case k1 => assumption); (case k2 => assumption); (case k3 => tm_at "hp"))
  | (refine' L2.SqT.of ?k1; (case k1 => tm_at "hp"))
  | (refine' L2.SqL.of ?k1; (case k1 => tm_at "hp"))
  | (refine' J.sm_ap (by assumption) ?k1; (case k1 => tm_at "hp"))
  | (refine' J.CA.mono (by assumption) ?k1; (case k1 => tm_at "hp"))
  | (refine' J.WA.mono (by assumption) ?k1; (case k1 => tm_at "hp"))
  | (refine' J.sm_t (by assumption) ?k1; (case k1 => tm_at "hp"))
  | (refine' J.sm_l (by assumption) ?k1; (case k1 => tm_at "hp"))
  | (refine' J.sm_tr (by assumption) ?k1; (case k1 => tm_at "hp")))
local macro_rules | `(tactic| tm_at "r") => `(tactic| first | exact rfl | decide +kernel | exact decide_eq_true (by omega) | exact decide_eq_false (by omega))
local macro_rules | `(tactic| tm_at "ty") => `(tactic| first | exact J.ty_int | exact J.ty_bl | exact J.ty_str | exact J.ty_non | exact J.ty_sqL (by assumption) | exact J.ty_sqT (by assumption) | (refine' J.ty_tup ?k1; (case k1 => tm_at "hp")) | (refine' J.ty_lst ?k1; (case k1 => tm_at "hp")))
local macro_rules | `(tactic| tm_at "j1") => `(tactic| first
  | with_reducible refine J.l_seq ?_
  | with_reducible refine J.l_asg ?_
  | with_reducible refine J.l_par ?_
  | with_reducible refine J.l_two ?_
  | with_reducible refine J.l_op ?_
  | ((with_reducible refine' J.l_var ?k1 ?_); (case k1 => exact rfl))
  | with_reducible refine J.l_c ?_
  | with_reducible refine J.l_name ?_
  | ((with_reducible refine' J.l_ixT ?k1 ?k2 ?_); (case k1 => tm_at "hp"); (case k2 => first | exact rfl | exact J.at0))
  | ((with_reducible refine' J.l_ixL ?k1 ?k2 ?_); (case k1 => tm_at "hp"); (case k2 => first | exact rfl | exact J.at0))
  | with_reducible refine J.l_ifS ?_
  | with_reducible refine J.l_test ?_
  | with_reducible refine J.l_tB ?_
  | with_reducible refine J.l_bl ?_
  | ((with_reducible refine' J.l_eq ?k1 ?_); (case k1 => exact rfl))
  | ((with_reducible refine' J.l_ne ?k1 ?_); (case k1 => exact rfl))
  | ((with_reducible refine' J.i_t ?k1 ?_); (case k1 => tm_at "r"))
  | ((with_reducible refine' J.i_f ?k1 ?_); (case k1 => tm_at "r"))
  | with_reducible refine J.l_ret ?_
  | with_reducible refine J.l_retN ?_
  | with_reducible refine J.l_next ?_
  | with_reducible refine J.l_brk ?_
  | with_reducible refine J.l_cnt ?_
  | with_reducible refine J.l_drop ?_
  | ((with_reducible refine' J.l_aug ?k1 ?_); (case k1 => exact rfl))
  | with_reducible refine J.l_ipI ?_
  | with_reducible refine J.l_iZip ?_
  | with_reducible refine J.l_un ?_
  | with_reducible refine J.l_I0 ?_
  | ((with_reducible refine' J.l_I ?k1 ?_); (case k1 => first | assumption | tm_at "dec" | exact Or.inr (by decide) | exact (by decide) | exact ⟨by decide, by decide⟩ | exact ⟨by omega, by omega⟩ | exact (show (0 : Int) < _ by decide)))
  | with_reducible refine J.l_U ?_
  | with_reducible refine J.l_and ?_
  | with_reducible refine J.l_or ?_
  | with_reducible refine J.l_not ?_
  | with_reducible refine J.l_andV ?_
  | with_reducible refine J.l_orV ?_
  | with_reducible refine J.l_notV ?_
  | with_reducible refine J.l_if ?_
  | with_reducible refine J.l_chain ?_
  | with_reducible refine J.l_nil ?_
  | with_reducible refine J.l_cons ?_
  | with_reducible refine J.l_tup ?_
  | with_reducible refine J.l_lst ?_
  | ((with_reducible refine' J.l_new ?k1 ?_); (case k1 => (tm_at "dec")); intro _ _ _ _ _)
  | with_reducible refine J.l_CB ?_
  | ((with_reducible refine' J.l_swapD ?_); intro _ _ _ _ _)
  | with_reducible refine J.l_dget ?_
  | ((with_reducible refine' J.l_dgetS ?k1 ?_); (case k1 => tm_at "hp"))
  | with_reducible refine J.l_lc ?_
  | with_reducible refine J.l_lc2 ?_
  | with_reducible refine J.l_for ?_
  | with_reducible refine J.l_iTup ?_
  | with_reducible refine J.l_iList ?_
  | with_reducible refine J.l_iRng1 ?_
  | with_reducible refine J.l_iRng2 ?_
  | with_reducible refine J.l_bm ?_
  | ((with_reducible refine' J.l_isi (b := true) (L2.ClsV.ty _) ?k1 (L2.kit_ty ?k2) ?_); (case k1 => tm_at "ty"); (case k2 => decide +kernel))
  | ((with_reducible refine' J.l_isi (b := false) (L2.ClsV.ty _) ?k1 (L2.kit_ty ?k2) ?_); (case k1 => tm_at "ty"); (case k2 => decide +kernel))
  | with_reducible refine J.l_bm0 ?_
  | ((with_reducible refine' J.l_ty ?k1 ?_); (case k1 => tm_at "hp"))
  | with_reducible refine J.l_call ?_
  | with_reducible refine J.l_sl ?_
  | with_reducible refine J.l_noPart ?_
  | with_reducible refine J.l_part ?_
  | with_reducible refine J.l_isInt ?_
  | ((with_reducible refine' J.l_gtup ?k1 ?k2 ?_); (case k1 => tm_at "hp"); (case k2 => exact rfl))
  | with_reducible refine J.l_gnil ?_
  | with_reducible refine J.l_gcons ?_
  | with_reducible refine J.l_gsub ?_
  | ((with_reducible refine' J.l_slT ?k1 ?k2 ?_); (case k1 => tm_at "hp"); (case k2 => tm_at "dec"); intro _ _ _ _ _)
  | ((with_reducible refine' J.l_slL ?k1 ?_); (case k1 => tm_at "hp"); intro _ _ _ _ _)
  | ((with_reducible refine' J.l_cat ?k1 ?k2 ?k3 ?_); (case k1 => tm_at "hp"); (case k2 => tm_at "hp"); (case k3 => (tm_at "dec")); intro _ _ _ _ _)
  | ((with_reducible refine' J.l_in ?k1 ?k2 ?k3 ?_); (case k1 => tm_at "hp"); (case k2 => exact rfl); (case k3 => exact rfl))
  | ((with_reducible refine' J.l_lenT ?k1 ?_); (case k1 => tm_at "hp"))
  | ((with_reducible refine' J.l_lenL ?k1 ?_); (case k1 => tm_at "hp"))
  | with_reducible refine J.l_intB ?_
  | with_reducible refine J.l_intI ?_
  | with_reducible refine J.l_isNone ?_
  | with_reducible refine J.l_notNone ?_
  | ((with_reducible refine' J.l_ixD ?k1 ?_); (case k1 => assumption))
  | ((with_reducible refine' J.l_listL ?k1 ?_); (case k1 => tm_at "hp"); intro _ _ _ _ _)
  | ((with_reducible refine' J.l_listT ?k1 ?_); (case k1 => tm_at "hp"); intro _ _ _ _ _)
  | ((with_reducible refine' J.l_tupleL ?k1 ?_); (case k1 => tm_at "hp"); intro _ _ _ _ _))
local macro_rules | `(tactic| tm_at "j") => `(tactic| repeat tm_at "j1")
local macro_rules | `(tactic| tm_at "lnz1") => `(tactic| first | (rename_i h; obtain ⟨e, _⟩ := h; subst e; exact rfl) | (rename_i h; obtain ⟨_, h⟩ := h; tm_at "lnz1"))
local macro_rules | `(tactic| tm_at "lnz") => `(tactic| (intro vs H Q E h; tm_at "lnz1"))

namespace J
open PySem L2
def t_law_begun (K : PySem.W.Frag) (w : World) : TS :=
  tSeq (tAsg (tC (.int 0)) (gName 1))
  (tSeq (tFor (iList K (tVar 0)) (gName 2) (tAsg (tOp (rI (fun _ j => 0 < j) fun i j => .int (i % j)) (tOp (rI0 fun i j => .int (i + j)) (tOp (rI0 fun i j => .int (i + j)) (tOp (rI CMul fun i j => .int (i * j)) (tVar 1) (tC (.int 48271))) (tOp (rI CMul fun i j => .int (i * j)) (tVar 2) (tC (.int 69621)))) (tC (.int 11))) (tC (.int 2147483647))) (gName 1)))
  (tRet (tLst (tCons (tCB (rListOf K) (tCons (tVar 0) (tNil))) (tCons (tOp (rI CMul fun i j => .int (i * j)) (tVar 1) (tCB (rInt1) (tCons (tOp (rI0 fun i j => .bl (decide (j < i))) (tCB (rLen K) (tCons (tVar 0) (tNil))) (tC (.int 2))) (tNil)))) (tNil))))))

def t_law_take (K : PySem.W.Frag) (w : World) : TS :=
  tSeq (tIfS (tTest (tOp (rEqD K) (tOp (rIxL K) (tVar 0) (tC (.int 0))) (tLst (tNil)))) (tSeq (tAsg (tOp (rI (fun _ j => 0 < j) fun i j => .int (i % j)) (tOp (rI CMul fun i j => .int (i * j)) (tOp (rIxL K) (tVar 0) (tC (.int 1))) (tC (.int 48271))) (tC (.int 2147483647))) (gSub (tVar 0) (tC (.int 1)) rSetL))
  (tRet (tOp (rI (fun _ j => 0 < j) fun i j => .int (i % j)) (tOp (rI CDiv fun i j => .int (i / j)) (tOp (rIxL K) (tVar 0) (tC (.int 1))) (tC (.int 7))) (tVar 1)))) (tNext))
  (tSeq (tAsg (tOp (rIxL K) (tOp (rIxL K) (tVar 0) (tC (.int 0))) (tC (.int 0))) (gName 2))
  (tSeq (tAsg (tOp (rI CDiv fun i j => .int (i / j)) (tVar 2) (tVar 1)) (gSub (tOp (rIxL K) (tVar 0) (tC (.int 0))) (tC (.int 0)) rSetL))
  (tSeq (tIfS (tOr (tTest (tOp (rEq) (tOp (rIxL K) (tOp (rIxL K) (tVar 0) (tC (.int 0))) (tC (.int 0))) (tC (.int 0)))) (tTest (tOp (rEq) (tOp (rIxL K) (tOp (rIxL K) (tVar 0) (tC (.int 0))) (tC (.int 0))) (tUn (rU fun i => .int (-i)) (tC (.int 1)))))) (tDrop (tBM K "list" (rPopAt) (tOp (rIxL K) (tVar 0) (tC (.int 0))) (tCons (tC (.int 0)) (tNil)))) (tNext))
  (tRet (tOp (rI (fun _ j => 0 < j) fun i j => .int (i % j)) (tVar 2) (tVar 1))))))

def t_law_part (K : PySem.W.Frag) (w : World) (sp_law_take : Sp) (sp_law_bare : Sp) : TS :=
  tSeq (tIfS (tTest (tOp (rEq) (tCall sp_law_take [] E0 (tCons (tVar 0) (tCons (tC (.int 5)) (tNil)))) (tC (.int 1)))) (tRet (tTup (tCons (tC (.str "not")) (tCons (tCall sp_law_bare [] E0 (tCons (tVar 0) (tCons (tVar 1) (tCons (tVar 2) (tNil))))) (tNil))))) (tNext))
  (tRet (tCall sp_law_bare [] E0 (tCons (tVar 0) (tCons (tVar 1) (tCons (tVar 2) (tNil))))))

def t_law_bare (K : PySem.W.Frag) (w : World) (sp_law_take : Sp) (sp_law_part : Sp) : TS :=
  tSeq (tIfS (tTest (tOp (rEq) (tVar 1) (tC (.int 1)))) (tRet (tTup (tCons (tC (.str "look")) (tCons (tOp (rIxL K) (tVar 2) (tCall sp_law_take [] E0 (tCons (tVar 0) (tCons (tCB (rLen K) (tCons (tVar 2) (tNil))) (tNil))))) (tNil))))) (tNext))
  (tSeq (tAsg (tOp (rIxL K) (tLst (tCons (tC (.int 1)) (tCons (tOp (rI0 fun i j => .int (i - j)) (tVar 1) (tC (.int 1))) (tCons (tOp (rI0 fun i j => .int (i + j)) (tC (.int 1)) (tCall sp_law_take [] E0 (tCons (tVar 0) (tCons (tOp (rI0 fun i j => .int (i - j)) (tVar 1) (tC (.int 1))) (tNil))))) (tCons (tOp (rI CDiv fun i j => .int (i / j)) (tVar 1) (tC (.int 2))) (tNil)))))) (tCall sp_law_take [] E0 (tCons (tVar 0) (tCons (tC (.int 4)) (tNil))))) (gName 3))
  (tSeq (tAsg (tOp (rIxL K) (tLst (tCons (tC (.str "and")) (tCons (tC (.str "or")) (tNil)))) (tCall sp_law_take [] E0 (tCons (tVar 0) (tCons (tC (.int 2)) (tNil))))) (gName 4))
  (tRet (tTup (tCons (tVar 4) (tCons (tCall sp_law_part [] E0 (tCons (tVar 0) (tCons (tVar 3) (tCons (tVar 2) (tNil))))) (tCons (tCall sp_law_part [] E0 (tCons (tVar 0) (tCons (tOp (rI0 fun i j => .int (i - j)) (tVar 1) (tVar 3)) (tCons (tVar 2) (tNil))))) (tNil))))))))

def t_law_deep (K : PySem.W.Frag) (w : World) (sp_law_deep : Sp) : TS :=
  tRet (tIf (tTest (tOp (rEq) (tOp (rIxT K) (tVar 0) (tC (.int 0))) (tC (.str "look")))) (tC (.int 0)) (tOp (rI0 fun i j => .int (i + j)) (tC (.int 1)) (tCB (rMax K) (tCons (tLc (iTup K (tSl (rSlT K) (tVar 0) (tPart (tC (.int 1))) (tNoPart))) (gName 1) (tYes) (tCall sp_law_deep [] E0 (tCons (tVar 1) (tNil))) [1]) (tNil)))))

def t_law_condition (K : PySem.W.Frag) (w : World) (sp_law_take : Sp) (sp_law_part : Sp) (sp_law_deep : Sp) : TS :=
  tSeq (tAsg (tOp (rIxL K) (tLst (tCons (tLst (tCons (tC (.int 0)) (tCons (tC (.int 1)) (tCons (tC (.int 2)) (tNil))))) (tCons (tLst (tCons (tC (.int 0)) (tCons (tC (.int 1)) (tCons (tC (.int 2)) (tCons (tC (.int 3)) (tCons (tC (.int 4)) (tCons (tC (.int 5)) (tCons (tC (.int 6)) (tCons (tC (.int 7)) (tNil)))))))))) (tCons (tLst (tCons (tC (.int 5)) (tCons (tC (.int 7)) (tNil)))) (tNil))))) (tCall sp_law_take [] E0 (tCons (tVar 0) (tCons (tC (.int 3)) (tNil))))) (gName 2))
  (tSeq (tAsg (tCall sp_law_part [] E0 (tCons (tVar 0) (tCons (tOp (rI0 fun i j => .int (i + j)) (tC (.int 1)) (tCall sp_law_take [] E0 (tCons (tVar 0) (tCons (tVar 1) (tNil))))) (tCons (tVar 2) (tNil))))) (gName 3))
  (tSeq (tWhile (tTest (tOp (rI0 fun i j => .bl (decide (j < i))) (tCall sp_law_deep [] E0 (tCons (tVar 3) (tNil))) (tC (.int 10)))) (tAsg (tOp (rIxT K) (tVar 3) (tC (.int 1))) (gName 3)))
  (tRet (tVar 3))))

def t_law_worths (K : PySem.W.Frag) (w : World) : TS :=
  tRet (tCB (rTupleOf K) (tCons (tOp (rCat) (tLst (tCons (tOp (rI (fun _ j => 0 < j) fun i j => .int (i % j)) (tOp (rI CDiv fun i j => .int (i / j)) (tVar 0) (tC (.int 128))) (tC (.int 2))) (tNil))) (tLc (iRng1 (tCons (tC (.int 7)) (tNil))) (gName 1) (tYes) (tOp (rI (fun _ j => 0 < j) fun i j => .int (i % j)) (tOp (rI CDiv fun i j => .int (i / j)) (tVar 0) (tOp (rIxL K) (tLst (tCons (tC (.int 64)) (tCons (tC (.int 32)) (tCons (tC (.int 16)) (tCons (tC (.int 8)) (tCons (tC (.int 4)) (tCons (tC (.int 2)) (tCons (tC (.int 1)) (tNil))))))))) (tVar 1))) (tC (.int 2))) [1])) (tNil)))

def t_law_run (K : PySem.W.Frag) (w : World) : TS :=
  tSeq (tAsg (tC (.int 0)) (gName 2))
  (tSeq (tAsg (tLst (tNil)) (gName 3))
  (tSeq (tAsg (tC (.int 0)) (gName 4))
  (tSeq (tWhile (tTest (tOp (rEq) (tCB (rLen K) (tCons (tOp (rIxL K) (tVar 0) (tVar 2)) (tNil))) (tC (.int 4)))) (tSeq (tDrop (tBM K "list" (rAppend) (tVar 3) (tCons (tOp (rIxT K) (tOp (rIxL K) (tVar 0) (tVar 2)) (tC (.int 1))) (tNil))))
  (tSeq (tAsg (tOp (rEq) (tOp (rIxT K) (tVar 1) (tOp (rIxT K) (tOp (rIxL K) (tVar 0) (tVar 2)) (tC (.int 1)))) (tOp (rIxT K) (tOp (rIxL K) (tVar 0) (tVar 2)) (tC (.int 2)))) (gName 5))
  (tSeq (tAsg (tOp (rI0 fun i j => .int (i + j)) (tVar 4) (tCB (rInt1) (tCons (tVar 5) (tNil)))) (gName 4))
  (tAsg (tIf (tB (tVar 5)) (tOp (rIxT K) (tOp (rIxL K) (tVar 0) (tVar 2)) (tC (.int 3))) (tOp (rI0 fun i j => .int (i + j)) (tVar 2) (tC (.int 1)))) (gName 2))))))
  (tRet (tTup (tCons (tOp (rIxT K) (tOp (rIxL K) (tVar 0) (tVar 2)) (tC (.int 1))) (tCons (tVar 3) (tCons (tVar 4) (tNil)))))))))

def t_law_dual (K : PySem.W.Frag) (w : World) (sp_law_dual : Sp) : TS :=
  tSeq (tIfS (tTest (tOp (rEq) (tOp (rIxT K) (tVar 0) (tC (.int 0))) (tC (.str "look")))) (tRet (tTup (tCons (tC (.str "not")) (tCons (tVar 0) (tNil))))) (tNext))
  (tSeq (tIfS (tTest (tOp (rEq) (tOp (rIxT K) (tVar 0) (tC (.int 0))) (tC (.str "not")))) (tRet (tTup (tCons (tC (.str "not")) (tCons (tCall sp_law_dual [] E0 (tCons (tOp (rIxT K) (tVar 0) (tC (.int 1))) (tNil))) (tNil))))) (tNext))
  (tRet (tTup (tCons (tDGet (tDisp [(tC (.str "and"), tC (.str "or")), (tC (.str "or"), tC (.str "and"))]) (tOp (rIxT K) (tVar 0) (tC (.int 0)))) (tCons (tCall sp_law_dual [] E0 (tCons (tOp (rIxT K) (tVar 0) (tC (.int 1))) (tNil))) (tCons (tCall sp_law_dual [] E0 (tCons (tOp (rIxT K) (tVar 0) (tC (.int 2))) (tNil))) (tNil)))))))

def t_law_named (K : PySem.W.Frag) (w : World) (sp_law_named : Sp) : TS :=
  tSeq (tIfS (tTest (tOp (rEq) (tOp (rIxT K) (tVar 0) (tC (.int 0))) (tC (.str "look")))) (tRet (tTup (tCons (tC (.str "look")) (tCons (tOp (rIxL K) (tVar 1) (tOp (rIxT K) (tVar 0) (tC (.int 1)))) (tNil))))) (tNext))
  (tRet (tOp (rCatT K) (tTup (tCons (tOp (rIxT K) (tVar 0) (tC (.int 0))) (tNil))) (tCB (rTupleOf K) (tCons (tLc (iTup K (tSl (rSlT K) (tVar 0) (tPart (tC (.int 1))) (tNoPart))) (gName 2) (tYes) (tCall sp_law_named [] E0 (tCons (tVar 2) (tCons (tVar 1) (tNil)))) [2]) (tNil)))))
def t_check_condition (K : PySem.W.Frag) (w : World) (sp_count_looks : Sp) : TS :=
  tIfS (tTest (tOp (rI0 fun i j => .bl (decide (j < i))) (tCall sp_count_looks [] E0 (tCons (tVar 0) (tCons (tC (.int 0)) (tNil)))) (tC (.int 12)))) (tNever) (tNext)

def t_count_looks (K : PySem.W.Frag) (w : World) (sp_has_form : Sp) (sp_count_looks : Sp) : TS :=
  tSeq (tIfS (tTest (tOp (rI0 fun i j => .bl (decide (j < i))) (tVar 1) (tC (.int 10)))) (tNever) (tNext))
  (tSeq (tIfS (tNot (tB (tCall sp_has_form [] E0 (tCons (tVar 0) (tNil))))) (tNever) (tNext))
  (tSeq (tIfS (tTest (tOp (rEq) (tOp (rIxT K) (tVar 0) (tC (.int 0))) (tC (.str "look")))) (tRet (tC (.int 1))) (tNext))
  (tRet (tCB (rSum K) (tCons (tLc (iTup K (tSl (rSlT K) (tVar 0) (tPart (tC (.int 1))) (tNoPart))) (gName 2) (tYes) (tCall sp_count_looks [] E0 (tCons (tVar 2) (tCons (tOp (rI0 fun i j => .int (i + j)) (tVar 1) (tC (.int 1))) (tNil)))) [2]) (tNil))))))

def t_has_form (K : PySem.W.Frag) (w : World) (sp_is_number_up_to : Sp) : TS :=
  tSeq (tIfS (tOr (tNot (tB (tCB (rIsi K) (tCons (tVar 0) (tCons (tC (.ty "tuple")) (tNil)))))) (tTest (tOp (rEq) (tCB (rLen K) (tCons (tVar 0) (tNil))) (tC (.int 0))))) (tRet (tC (.bl false))) (tNext))
  (tSeq (tAsg (tOp (rIxT K) (tVar 0) (tC (.int 0))) (gName 1))
  (tSeq (tIfS (tTest (tOp (rEq) (tVar 1) (tC (.str "look")))) (tRet (tAndV (tOp (rEq) (tCB (rLen K) (tCons (tVar 0) (tNil))) (tC (.int 2))) (tCall sp_is_number_up_to [] E0 (tCons (tOp (rIxT K) (tVar 0) (tC (.int 1))) (tCons (tOp (rI0 fun i j => .int (i - j)) (tC (.int 8)) (tC (.int 1))) (tNil)))))) (tNext))
  (tSeq (tIfS (tTest (tOp (rEq) (tVar 1) (tC (.str "not")))) (tRet (tOp (rEq) (tCB (rLen K) (tCons (tVar 0) (tNil))) (tC (.int 2)))) (tNext))
  (tRet (tAndV (tOp (rIn K false) (tVar 1) (tTup (tCons (tC (.str "and")) (tCons (tC (.str "or")) (tNil))))) (tOp (rEq) (tCB (rLen K) (tCons (tVar 0) (tNil))) (tC (.int 3))))))))

def t_is_number_up_to (K : PySem.W.Frag) (w : World) : TS :=
  tSeq (tIfS (tOr (tB (tCB (rIsi K) (tCons (tVar 0) (tCons (tC (.ty "bool")) (tNil))))) (tNot (tB (tCB (rIsi K) (tCons (tVar 0) (tCons (tC (.ty "int")) (tNil))))))) (tRet (tC (.bl false))) (tNext))
  (tRet (tChain (rI0 fun i j => .bl (decide (i ≤ j))) (rI0 fun i j => .bl (decide (i ≤ j))) (tC (.int 0)) (tVar 0) (tVar 1)))

def t_are_numbers_up_to_T (K : PySem.W.Frag) (w : World) (sp_is_number_up_to : Sp) : TS :=
  tRet (tAndV (tOp (rEq) (tCB (rLen K) (tCons (tVar 0) (tNil))) (tVar 1)) (tCB (rAll K) (tCons (tLc (iTup K (tVar 0)) (gName 3) (tYes) (tCall sp_is_number_up_to [] E0 (tCons (tVar 3) (tCons (tVar 2) (tNil)))) [3]) (tNil))))

def t_are_numbers_up_to_L (K : PySem.W.Frag) (w : World) (sp_is_number_up_to : Sp) : TS :=
  tRet (tAndV (tOp (rEq) (tCB (rLen K) (tCons (tVar 0) (tNil))) (tVar 1)) (tCB (rAll K) (tCons (tLc (iList K (tVar 0)) (gName 3) (tYes) (tCall sp_is_number_up_to [] E0 (tCons (tVar 3) (tCons (tVar 2) (tNil)))) [3]) (tNil))))

def t_are_bits (K : PySem.W.Frag) (w : World) (sp_are_numbers_up_to : Sp) : TS :=
  tRet (tCall sp_are_numbers_up_to [] E0 (tCons (tVar 0) (tCons (tVar 1) (tCons (tC (.int 1)) (tNil)))))

def t_all_bits_1 (K : PySem.W.Frag) (w : World) : TS :=
  tFor (iRng1 (tCons (tVar 0) (tNil))) (gName 2) (tAsg (tLc2 (iList K (tVar 1)) (gName 3) tYes (iTup K (tTup (tCons (tC (.int 0)) (tCons (tC (.int 1)) (tNil))))) (gName 4) tYes (tOp (rCatA K) (tVar 3) (tTup (tCons (tVar 4) (tNil)))) [3, 4] [4]) (gName 1))
def t_all_bits (K : PySem.W.Frag) (w : World) : TS :=
  tSeq (tAsg (tLst (tCons (tTup (tNil)) (tNil))) (gName 1))
  (tSeq (t_all_bits_1 K w)
  (tRet (tVar 1)))

def t_meant (K : PySem.W.Frag) (w : World) (sp_check_condition : Sp) (sp_check_worths : Sp) (sp_outcome : Sp) : TS :=
  tSeq (tDrop (tCall sp_check_condition [] E0 (tCons (tVar 0) (tNil))))
  (tSeq (tDrop (tCall sp_check_worths [] E0 (tCons (tVar 1) (tNil))))
  (tRet (tCall sp_outcome [] E0 (tCons (tVar 0) (tCons (tVar 1) (tNil))))))

def t_check_worths (K : PySem.W.Frag) (w : World) (sp_are_bits : Sp) : TS :=
  tIfS (tNot (tB (tCall sp_are_bits [] E0 (tCons (tVar 0) (tCons (tC (.int 8)) (tNil)))))) (tNever) (tNext)

def t_outcome (K : PySem.W.Frag) (w : World) (a_GOES_ON : Addr) (sp_outcome : Sp) : TS :=
  tSeq (tAsg (tOp (rIxT K) (tVar 0) (tC (.int 0))) (gName 2))
  (tSeq (tIfS (tTest (tOp (rEq) (tVar 2) (tC (.str "look")))) (tSeq (tAsg (tOp (rIxT K) (tVar 0) (tC (.int 1))) (gName 3))
  (tRet (tTup (tCons (tOp (rIxT K) (tVar 1) (tVar 3)) (tCons (tLst (tCons (tVar 3) (tNil))) (tNil)))))) (tNext))
  (tSeq (tAsg (tCall sp_outcome [] E0 (tCons (tOp (rIxT K) (tVar 0) (tC (.int 1))) (tCons (tVar 1) (tNil)))) (gTup K 2 (gCons (gName 4) (gCons (gName 5) (gNil)))))
  (tSeq (tIfS (tTest (tOp (rEq) (tVar 2) (tC (.str "not")))) (tRet (tTup (tCons (tOp (rI0 fun i j => .int (i - j)) (tC (.int 1)) (tVar 4)) (tCons (tVar 5) (tNil))))) (tNext))
  (tSeq (tIfS (tTest (tOp (rNe) (tVar 4) (tOp (rIxD K w) (tC (.ref a_GOES_ON)) (tVar 2)))) (tRet (tTup (tCons (tVar 4) (tCons (tVar 5) (tNil))))) (tNext))
  (tSeq (tAsg (tCall sp_outcome [] E0 (tCons (tOp (rIxT K) (tVar 0) (tC (.int 2))) (tCons (tVar 1) (tNil)))) (gTup K 2 (gCons (gName 6) (gCons (gName 7) (gNil)))))
  (tRet (tTup (tCons (tVar 6) (tCons (tOp (rCat) (tVar 5) (tVar 7)) (tNil))))))))))

def t_coded (K : PySem.W.Frag) (w : World) (sp_check_condition : Sp) (sp_check_first : Sp) (sp_code_of : Sp) : TS :=
  tSeq (tDrop (tCall sp_check_condition [] E0 (tCons (tVar 0) (tNil))))
  (tSeq (tDrop (tCall sp_check_first [] E0 (tCons (tVar 1) (tNil))))
  (tRet (tCall sp_code_of [] E0 (tCons (tVar 0) (tCons (tVar 1) (tNil))))))

def t_run (K : PySem.W.Frag) (w : World) (sp_check_code : Sp) (sp_check_worths : Sp) (sp_outcome_of_rows : Sp) : TS :=
  tSeq (tDrop (tCall sp_check_code [] E0 (tCons (tVar 0) (tNil))))
  (tSeq (tDrop (tCall sp_check_worths [] E0 (tCons (tVar 1) (tNil))))
  (tRet (tCall sp_outcome_of_rows [] E0 (tCons (tVar 0) (tCons (tVar 1) (tNil))))))

def t_check_first (K : PySem.W.Frag) (w : World) (sp_is_number_up_to : Sp) : TS :=
  tIfS (tNot (tB (tCall sp_is_number_up_to [] E0 (tCons (tVar 0) (tCons (tC (.int 1)) (tNil)))))) (tNever) (tNext)

def t_code_of (K : PySem.W.Frag) (w : World) (sp_count_looks : Sp) (sp_rows_of : Sp) : TS :=
  tSeq (tAsg (tCall sp_count_looks [] E0 (tCons (tVar 0) (tCons (tC (.int 0)) (tNil)))) (gName 2))
  (tSeq (tAsg (tLst (tCons (tVar 2) (tCons (tVar 2) (tNil)))) (gName 3))
  (tSeq (tAsg (tOp (rI0 fun i j => .int (i + j)) (tVar 2) (tC (.int 1))) (gSub (tVar 3) (tOp (rI0 fun i j => .int (i - j)) (tC (.int 1)) (tVar 1)) rSetL))
  (tRet (tOp (rCat) (tCall sp_rows_of [] E0 (tCons (tVar 0) (tCons (tC (.int 0)) (tCons (tVar 3) (tNil))))) (tLst (tCons (tTup (tCons (tC (.str "end")) (tCons (tVar 1) (tNil)))) (tCons (tTup (tCons (tC (.str "end")) (tCons (tOp (rI0 fun i j => .int (i - j)) (tC (.int 1)) (tVar 1)) (tNil)))) (tNil))))))))

def t_rows_of (K : PySem.W.Frag) (w : World) (a_GOES_ON : Addr) (sp_look_row : Sp) (sp_rows_of : Sp) (sp_count_looks : Sp) : TS :=
  tSeq (tAsg (tOp (rIxT K) (tVar 0) (tC (.int 0))) (gName 3))
  (tSeq (tIfS (tTest (tOp (rEq) (tVar 3) (tC (.str "look")))) (tRet (tLst (tCons (tCall sp_look_row [] E0 (tCons (tOp (rIxT K) (tVar 0) (tC (.int 1))) (tCons (tVar 1) (tCons (tVar 2) (tNil))))) (tNil)))) (tNext))
  (tSeq (tIfS (tTest (tOp (rEq) (tVar 3) (tC (.str "not")))) (tRet (tCall sp_rows_of [] E0 (tCons (tOp (rIxT K) (tVar 0) (tC (.int 1))) (tCons (tVar 1) (tCons (tLst (tCons (tOp (rIxL K) (tVar 2) (tC (.int 1))) (tCons (tOp (rIxL K) (tVar 2) (tC (.int 0))) (tNil)))) (tNil)))))) (tNext))
  (tSeq (tAsg (tOp (rI0 fun i j => .int (i + j)) (tVar 1) (tCall sp_count_looks [] E0 (tCons (tOp (rIxT K) (tVar 0) (tC (.int 1))) (tCons (tC (.int 0)) (tNil))))) (gName 4))
  (tSeq (tAsg (tCB (rListOf K) (tCons (tVar 2) (tNil))) (gName 5))
  (tSeq (tAsg (tVar 4) (gSub (tVar 5) (tOp (rIxD K w) (tC (.ref a_GOES_ON)) (tVar 3)) rSetL))
  (tRet (tOp (rCat) (tCall sp_rows_of [] E0 (tCons (tOp (rIxT K) (tVar 0) (tC (.int 1))) (tCons (tVar 1) (tCons (tVar 5) (tNil))))) (tCall sp_rows_of [] E0 (tCons (tOp (rIxT K) (tVar 0) (tC (.int 2))) (tCons (tVar 4) (tCons (tVar 2) (tNil))))))))))))

def t_look_row (K : PySem.W.Frag) (w : World) : TS :=
  tSeq (tAsg (tIf (tTest (tOp (rEq) (tOp (rIxL K) (tVar 2) (tC (.int 0))) (tOp (rI0 fun i j => .int (i + j)) (tVar 1) (tC (.int 1))))) (tC (.int 1)) (tC (.int 0))) (gName 3))
  (tRet (tTup (tCons (tC (.str "look")) (tCons (tVar 0) (tCons (tVar 3) (tCons (tOp (rIxL K) (tVar 2) (tVar 3)) (tNil)))))))

def t_check_code_1 (K : PySem.W.Frag) (w : World) (sp_can_be : Sp) : TS :=
  tFor (iRng1 (tCons (tCB (rLen K) (tCons (tVar 0) (tNil))) (tNil))) (gName 1) (tIfS (tOr (tTest (tOp (rEq) (tVar 1) (tC (.int 40)))) (tNot (tB (tCall sp_can_be [] E0 (tCons (tVar 0) (tCons (tVar 1) (tNil))))))) (tNever) (tNext))
def t_check_code (K : PySem.W.Frag) (w : World) (sp_can_be : Sp) : TS :=
  tSeq (tIfS (tTest (tOp (rI0 fun i j => .bl (decide (i < j))) (tCB (rLen K) (tCons (tVar 0) (tNil))) (tC (.int 2)))) (tNever) (tNext))
  (t_check_code_1 K w sp_can_be)

def t_can_be (K : PySem.W.Frag) (w : World) (sp_is_look : Sp) (sp_is_end : Sp) : TS :=
  tSeq (tAsg (tOp (rI0 fun i j => .int (i - j)) (tCB (rLen K) (tCons (tVar 0) (tNil))) (tC (.int 1))) (gName 2))
  (tSeq (tAsg (tOp (rIxL K) (tVar 0) (tVar 1)) (gName 3))
  (tSeq (tIfS (tTest (tOp (rI0 fun i j => .bl (decide (i < j))) (tVar 1) (tOp (rI0 fun i j => .int (i - j)) (tVar 2) (tC (.int 1))))) (tRet (tCall sp_is_look [] E0 (tCons (tVar 3) (tCons (tVar 1) (tCons (tVar 2) (tNil)))))) (tNext))
  (tSeq (tIfS (tTest (tOp (rI0 fun i j => .bl (decide (i < j))) (tVar 1) (tVar 2))) (tRet (tCall sp_is_end [] E0 (tCons (tVar 3) (tNil)))) (tNext))
  (tRet (tAndV (tCall sp_is_end [] E0 (tCons (tVar 3) (tNil))) (tOp (rNe) (tOp (rIxT K) (tVar 3) (tC (.int 1))) (tOp (rIxT K) (tOp (rIxL K) (tVar 0) (tOp (rI0 fun i j => .int (i - j)) (tVar 2) (tC (.int 1)))) (tC (.int 1)))))))))

def t_is_look (K : PySem.W.Frag) (w : World) (sp_is_number_up_to : Sp) : TS :=
  tSeq (tIfS (tOr (tTest (tOp (rNe) (tCB (rLen K) (tCons (tVar 0) (tNil))) (tC (.int 4)))) (tTest (tOp (rNe) (tOp (rIxT K) (tVar 0) (tC (.int 0))) (tC (.str "look"))))) (tRet (tC (.bl false))) (tNext))
  (tSeq (tAsg (tVar 0) (gTup K 4 (gCons (gName 3) (gCons (gName 4) (gCons (gName 5) (gCons (gName 6) (gNil)))))))
  (tSeq (tIfS (tOr (tNot (tB (tCall sp_is_number_up_to [] E0 (tCons (tVar 4) (tCons (tOp (rI0 fun i j => .int (i - j)) (tC (.int 8)) (tC (.int 1))) (tNil)))))) (tNot (tB (tCall sp_is_number_up_to [] E0 (tCons (tVar 5) (tCons (tC (.int 1)) (tNil))))))) (tRet (tC (.bl false))) (tNext))
  (tRet (tAndV (tCall sp_is_number_up_to [] E0 (tCons (tVar 6) (tCons (tVar 2) (tNil)))) (tOp (rI0 fun i j => .bl (decide (j < i))) (tVar 6) (tVar 1))))))

def t_is_end (K : PySem.W.Frag) (w : World) (sp_is_number_up_to : Sp) : TS :=
  tRet (tAndV (tOp (rEq) (tCB (rLen K) (tCons (tVar 0) (tNil))) (tC (.int 2))) (tAndV (tOp (rEq) (tOp (rIxT K) (tVar 0) (tC (.int 0))) (tC (.str "end"))) (tCall sp_is_number_up_to [] E0 (tCons (tOp (rIxT K) (tVar 0) (tC (.int 1))) (tCons (tC (.int 1)) (tNil))))))

def t_outcome_of_rows_1 (K : PySem.W.Frag) (w : World) : TS :=
  tWhile (tTest (tOp (rEq) (tOp (rIxT K) (tOp (rIxL K) (tVar 0) (tVar 2)) (tC (.int 0))) (tC (.str "look")))) (tSeq (tAsg (tOp (rIxL K) (tVar 0) (tVar 2)) (gTup K 4 (gCons (gName 5) (gCons (gName 6) (gCons (gName 7) (gCons (gName 8) (gNil)))))))
  (tSeq (tDrop (tBM K "list" (rAppend) (tVar 3) (tCons (tVar 6) (tNil))))
  (tIfS (tTest (tOp (rEq) (tOp (rIxT K) (tVar 1) (tVar 6)) (tVar 7))) (tSeq (tAsg (tVar 8) (gName 2))
  (tAug 4 (tC (.int 1)) (ipI fun i j => i + j))) (tAug 2 (tC (.int 1)) (ipI fun i j => i + j)))))
def t_outcome_of_rows (K : PySem.W.Frag) (w : World) : TS :=
  tSeq (tAsg (tC (.int 0)) (gName 2))
  (tSeq (tAsg (tLst (tNil)) (gName 3))
  (tSeq (tAsg (tC (.int 0)) (gName 4))
  (tSeq (t_outcome_of_rows_1 K w)
  (tRet (tTup (tCons (tOp (rIxT K) (tOp (rIxL K) (tVar 0) (tVar 2)) (tC (.int 1))) (tCons (tVar 3) (tCons (tVar 4) (tNil)))))))))

def t_looks (K : PySem.W.Frag) (w : World) (sp_check_condition : Sp) (sp_check_chances : Sp) (sp_likely_worths : Sp) (sp_looks_in_all : Sp) : TS :=
  tSeq (tDrop (tCall sp_check_condition [] E0 (tCons (tVar 0) (tNil))))
  (tSeq (tDrop (tCall sp_check_chances [] E0 (tCons (tVar 1) (tNil))))
  (tRet (tCall sp_looks_in_all [] E0 (tCons (tVar 0) (tCons (tCall sp_likely_worths [] E0 (tCons (tVar 1) (tNil))) (tNil))))))

def t_jumps (K : PySem.W.Frag) (w : World) (sp_check_condition : Sp) (sp_check_first : Sp) (sp_check_chances : Sp) (sp_likely_worths : Sp) (sp_jumps_in_all : Sp) : TS :=
  tSeq (tDrop (tCall sp_check_condition [] E0 (tCons (tVar 0) (tNil))))
  (tSeq (tDrop (tCall sp_check_first [] E0 (tCons (tVar 1) (tNil))))
  (tSeq (tDrop (tCall sp_check_chances [] E0 (tCons (tVar 2) (tNil))))
  (tRet (tCall sp_jumps_in_all [] E0 (tCons (tVar 0) (tCons (tVar 1) (tCons (tCall sp_likely_worths [] E0 (tCons (tVar 2) (tNil))) (tNil))))))))

def t_check_chances (K : PySem.W.Frag) (w : World) (sp_are_numbers_up_to : Sp) : TS :=
  tIfS (tNot (tB (tCall sp_are_numbers_up_to [] E0 (tCons (tVar 0) (tCons (tC (.int 8)) (tCons (tC (.int 100)) (tNil))))))) (tNever) (tNext)

def t_likely_worths (K : PySem.W.Frag) (w : World) (sp_all_bits : Sp) (sp_times_of : Sp) : TS :=
  tRet (tLc (iList K (tCall sp_all_bits [] E0 (tCons (tC (.int 8)) (tNil)))) (gName 1) (tYes) (tTup (tCons (tVar 1) (tCons (tCall sp_times_of [] E0 (tCons (tVar 1) (tCons (tVar 0) (tNil)))) (tNil)))) [1])

def t_times_of_1 (K : PySem.W.Frag) (w : World) : TS :=
  tFor (RZ.iZipA K (tCons (tVar 0) (tCons (tVar 1) (tNil)))) (gTup K 2 (gCons (gName 3) (gCons (gName 4) (gNil)))) (tAug 2 (tIf (tTest (tOp (rEq) (tVar 3) (tC (.int 1)))) (tVar 4) (tOp (rI0 fun i j => .int (i - j)) (tC (.int 100)) (tVar 4))) (rI CMul fun i j => .int (i * j)))
def t_times_of (K : PySem.W.Frag) (w : World) : TS :=
  tSeq (tAsg (tC (.int 1)) (gName 2))
  (tSeq (t_times_of_1 K w)
  (tRet (tVar 2)))

def t_looks_in_all (K : PySem.W.Frag) (w : World) (sp_outcome : Sp) : TS :=
  tRet (tCB (rSum K) (tCons (tLc (iList K (tVar 1)) (gTup K 2 (gCons (gName 2) (gCons (gName 3) (gNil)))) (tYes) (tOp (rI CMul fun i j => .int (i * j)) (tCB (rLen K) (tCons (tOp (rIxT K) (tCall sp_outcome [] E0 (tCons (tVar 0) (tCons (tVar 2) (tNil)))) (tC (.int 1))) (tNil))) (tVar 3)) [2, 3]) (tNil)))

def t_jumps_in_all (K : PySem.W.Frag) (w : World) (sp_code_of : Sp) (sp_outcome_of_rows : Sp) : TS :=
  tSeq (tAsg (tCall sp_code_of [] E0 (tCons (tVar 0) (tCons (tVar 1) (tNil)))) (gName 3))
  (tRet (tCB (rSum K) (tCons (tLc (iList K (tVar 2)) (gTup K 2 (gCons (gName 4) (gCons (gName 5) (gNil)))) (tYes) (tOp (rI CMul fun i j => .int (i * j)) (tOp (rIxT K) (tCall sp_outcome_of_rows [] E0 (tCons (tVar 3) (tCons (tVar 4) (tNil)))) (tC (.int 2))) (tVar 5)) [4, 5]) (tNil))))

def t_parting (K : PySem.W.Frag) (w : World) (sp_check_condition : Sp) (sp_all_bits : Sp) (sp_outcome : Sp) : TS :=
  tSeq (tDrop (tCall sp_check_condition [] E0 (tCons (tVar 0) (tNil))))
  (tSeq (tDrop (tCall sp_check_condition [] E0 (tCons (tVar 1) (tNil))))
  (tSeq (tFor (iList K (tCall sp_all_bits [] E0 (tCons (tC (.int 8)) (tNil)))) (gName 2) (tSeq (tAsg (tCall sp_outcome [] E0 (tCons (tVar 0) (tCons (tVar 2) (tNil)))) (gName 3))
  (tSeq (tAsg (tCall sp_outcome [] E0 (tCons (tVar 1) (tCons (tVar 2) (tNil)))) (gName 4))
  (tIfS (tTest (tOp (rNeD K) (tVar 3) (tVar 4))) (tRet (tTup (tCons (tVar 2) (tCons (tVar 3) (tCons (tVar 4) (tNil)))))) (tNext)))))
  (tRet (tC .non))))

def t_alike (K : PySem.W.Frag) (w : World) (sp_parting : Sp) : TS :=
  tRet (tOp (rIsNone) (tCall sp_parting [] E0 (tCons (tVar 0) (tCons (tVar 1) (tNil)))) (tC .non))

def t_like_worth (K : PySem.W.Frag) (w : World) (sp_check_condition : Sp) (sp_all_bits : Sp) (sp_outcome : Sp) : TS :=
  tSeq (tDrop (tCall sp_check_condition [] E0 (tCons (tVar 0) (tNil))))
  (tSeq (tDrop (tCall sp_check_condition [] E0 (tCons (tVar 1) (tNil))))
  (tRet (tCB (rAll K) (tCons (tLc (iList K (tCall sp_all_bits [] E0 (tCons (tC (.int 8)) (tNil)))) (gName 2) (tYes) (tOp (rEq) (tOp (rIxT K) (tCall sp_outcome [] E0 (tCons (tVar 0) (tCons (tVar 2) (tNil)))) (tC (.int 0))) (tOp (rIxT K) (tCall sp_outcome [] E0 (tCons (tVar 1) (tCons (tVar 2) (tNil)))) (tC (.int 0)))) [2]) (tNil)))))
def t_law_1 (K : PySem.W.Frag) (w : World) (sp_law_begun : Sp) (sp_law_condition : Sp) (sp_law_deep : Sp) (sp_law_dual : Sp) (sp_alike : Sp) (sp_like_worth : Sp) (sp_law_take : Sp) (sp_law_named : Sp) (sp_looks : Sp) (sp_coded : Sp) (sp_jumps : Sp) (sp_law_worths : Sp) (sp_run : Sp) (sp_meant : Sp) : TS :=
  tWhile (tTest (tOp (rI0 fun i j => .bl (decide (j < i))) (tCall sp_law_deep [] E0 (tCons (tVar 3) (tNil))) (tC (.int 8)))) (tAsg (tOp (rIxT K) (tVar 3) (tC (.int 1))) (gName 3))
def t_law_2 (K : PySem.W.Frag) (w : World) (sp_law_begun : Sp) (sp_law_condition : Sp) (sp_law_deep : Sp) (sp_law_dual : Sp) (sp_alike : Sp) (sp_like_worth : Sp) (sp_law_take : Sp) (sp_law_named : Sp) (sp_looks : Sp) (sp_coded : Sp) (sp_jumps : Sp) (sp_law_worths : Sp) (sp_run : Sp) (sp_meant : Sp) : TS :=
  tFor (iRng1 (tCons (tC (.int 8)) (tNil))) (gName 13) (tSeq (tAsg (tCall sp_law_worths [] E0 (tCons (tCall sp_law_take [] E0 (tCons (tVar 1) (tCons (tC (.int 256)) (tNil)))) (tNil))) (gName 14))
  (tSeq (tAsg (tCall sp_run [] E0 (tCons (tVar 12) (tCons (tCB (rTupleOf K) (tCons (tLc (iRng1 (tCons (tC (.int 8)) (tNil))) (gName 7) (tYes) (tOp (rIxT K) (tVar 14) (tOp (rIxL K) (tVar 6) (tVar 7))) [7]) (tNil))) (tNil)))) (gName 15))
  (tSeq (tAsg (tTup (tCons (tOp (rIxT K) (tVar 15) (tC (.int 0))) (tCons (tLc (iList K (tOp (rIxT K) (tVar 15) (tC (.int 1)))) (gName 7) (tYes) (tOp (rIxL K) (tVar 6) (tVar 7)) [7]) (tCons (tOp (rIxT K) (tVar 15) (tC (.int 2))) (tNil))))) (gName 16))
  (tIfS (tOr (tTest (tOp (rNeD K) (tCall sp_run [] E0 (tCons (tCall sp_coded [] E0 (tCons (tVar 8) (tCons (tVar 11) (tNil)))) (tCons (tVar 14) (tNil)))) (tVar 16))) (tTest (tOp (rNeD K) (tCall sp_meant [] E0 (tCons (tVar 8) (tCons (tVar 14) (tNil)))) (tSl (rSlT K) (tVar 16) (tNoPart) (tPart (tC (.int 2))))))) (tRet (tC (.bl false))) (tNext)))))
def t_law_3 (K : PySem.W.Frag) (w : World) (sp_law_begun : Sp) (sp_law_condition : Sp) (sp_law_deep : Sp) (sp_law_dual : Sp) (sp_alike : Sp) (sp_like_worth : Sp) (sp_law_take : Sp) (sp_law_named : Sp) (sp_looks : Sp) (sp_coded : Sp) (sp_jumps : Sp) (sp_law_worths : Sp) (sp_run : Sp) (sp_meant : Sp) : TS :=
  tFor (iRng1 (tCons (tC (.int 2)) (tNil))) (gName 11) (tSeq (tAsg (tCall sp_coded [] E0 (tCons (tVar 3) (tCons (tVar 11) (tNil)))) (gName 12))
  (tSeq (tIfS (tOr (tTest (tOp (rNeD K) (tSl (rSlL K) (tCall sp_coded [] E0 (tCons (tTup (tCons (tC (.str "not")) (tCons (tVar 3) (tNil)))) (tCons (tOp (rI0 fun i j => .int (i - j)) (tC (.int 1)) (tVar 11)) (tNil)))) (tNoPart) (tPart (tUn (rU fun i => .int (-i)) (tC (.int 2))))) (tSl (rSlL K) (tVar 12) (tNoPart) (tPart (tUn (rU fun i => .int (-i)) (tC (.int 2))))))) (tTest (tOp (rNeD K) (tCall sp_coded [] E0 (tCons (tVar 4) (tCons (tVar 11) (tNil)))) (tVar 12)))) (tRet (tC (.bl false))) (tNext))
  (tSeq (tIfS (tTest (tOp (rNe) (tCall sp_jumps [] E0 (tCons (tVar 3) (tCons (tVar 11) (tCons (tVar 9) (tNil))))) (tCall sp_jumps [] E0 (tCons (tVar 8) (tCons (tVar 11) (tCons (tVar 10) (tNil))))))) (tRet (tC (.bl false))) (tNext))
  (t_law_2 K w sp_law_begun sp_law_condition sp_law_deep sp_law_dual sp_alike sp_like_worth sp_law_take sp_law_named sp_looks sp_coded sp_jumps sp_law_worths sp_run sp_meant))))
def t_law_4 (K : PySem.W.Frag) (w : World) (sp_law_begun : Sp) (sp_law_condition : Sp) (sp_law_deep : Sp) (sp_law_dual : Sp) (sp_alike : Sp) (sp_like_worth : Sp) (sp_law_take : Sp) (sp_law_named : Sp) (sp_looks : Sp) (sp_coded : Sp) (sp_jumps : Sp) (sp_law_worths : Sp) (sp_run : Sp) (sp_meant : Sp) : TS :=
  tFor (iRng1 (tCons (tC (.int 2)) (tNil))) (gName 2) (tSeq (tAsg (tCall sp_law_condition [] E0 (tCons (tVar 1) (tCons (tC (.int 10)) (tNil)))) (gName 3))
  (tSeq (t_law_1 K w sp_law_begun sp_law_condition sp_law_deep sp_law_dual sp_alike sp_like_worth sp_law_take sp_law_named sp_looks sp_coded sp_jumps sp_law_worths sp_run sp_meant)
  (tSeq (tAsg (tTup (tCons (tC (.str "not")) (tCons (tCall sp_law_dual [] E0 (tCons (tVar 3) (tNil))) (tNil)))) (gName 4))
  (tSeq (tIfS (tOr (tNot (tB (tCall sp_alike [] E0 (tCons (tVar 3) (tCons (tVar 4) (tNil)))))) (tOr (tNot (tB (tCall sp_alike [] E0 (tCons (tVar 3) (tCons (tTup (tCons (tC (.str "not")) (tCons (tTup (tCons (tC (.str "not")) (tCons (tVar 3) (tNil)))) (tNil)))) (tNil)))))) (tB (tCall sp_like_worth [] E0 (tCons (tVar 3) (tCons (tTup (tCons (tC (.str "not")) (tCons (tVar 3) (tNil)))) (tNil))))))) (tRet (tC (.bl false))) (tNext))
  (tSeq (tAsg (tLstRg (tRg1 (tC (.int 8)))) (gName 5))
  (tSeq (tAsg (tLc (iRng1 (tCons (tC (.int 8)) (tNil))) (gName 7) (tYes) (tBM K "list" (rPopAt) (tVar 5) (tCons (tCall sp_law_take [] E0 (tCons (tVar 1) (tCons (tCB (rLen K) (tCons (tVar 5) (tNil))) (tNil)))) (tNil))) [7]) (gName 6))
  (tSeq (tAsg (tCall sp_law_named [] E0 (tCons (tVar 3) (tCons (tVar 6) (tNil)))) (gName 8))
  (tSeq (tAsg (tCB (rTupleOf K) (tCons (tLc (iRng1 (tCons (tC (.int 8)) (tNil))) (gName 7) (tYes) (tCall sp_law_take [] E0 (tCons (tVar 1) (tCons (tC (.int 101)) (tNil)))) [7]) (tNil))) (gName 9))
  (tSeq (tAsg (tCB (rTupleOf K) (tCons (tLc (iRng1 (tCons (tC (.int 8)) (tNil))) (gName 7) (tYes) (tOp (rIxT K) (tVar 9) (tBM K "list" (rIndex K) (tVar 6) (tCons (tVar 7) (tNil)))) [7]) (tNil))) (gName 10))
  (tSeq (tIfS (tTest (tOp (rNe) (tCall sp_looks [] E0 (tCons (tVar 3) (tCons (tVar 9) (tNil)))) (tCall sp_looks [] E0 (tCons (tVar 8) (tCons (tVar 10) (tNil)))))) (tRet (tC (.bl false))) (tNext))
  (t_law_3 K w sp_law_begun sp_law_condition sp_law_deep sp_law_dual sp_alike sp_like_worth sp_law_take sp_law_named sp_looks sp_coded sp_jumps sp_law_worths sp_run sp_meant)))))))))))
def t_law (K : PySem.W.Frag) (w : World) (sp_law_begun : Sp) (sp_law_condition : Sp) (sp_law_deep : Sp) (sp_law_dual : Sp) (sp_alike : Sp) (sp_like_worth : Sp) (sp_law_take : Sp) (sp_law_named : Sp) (sp_looks : Sp) (sp_coded : Sp) (sp_jumps : Sp) (sp_law_worths : Sp) (sp_run : Sp) (sp_meant : Sp) : TS :=
  tSeq (tAsg (tCall sp_law_begun [] E0 (tCons (tVar 0) (tNil))) (gName 1))
  (tSeq (t_law_4 K w sp_law_begun sp_law_condition sp_law_deep sp_law_dual sp_alike sp_like_worth sp_law_take sp_law_named sp_looks sp_coded sp_jumps sp_law_worths sp_run sp_meant)
  (tRet (tC (.bl true))))

def top (i : Nat) : Stmt := PySem.Challenge.pw_jumpsay_k12_whole_nots_and_other_things.main.body.getD i (.Pass ⟨0, 0, 0, 0⟩)
abbrev s_check_condition : Stmt := top 11
theorem sc_check_condition : FnScope ["condition"] ["condition"] (defScope s_check_condition) := ⟨rfl, rfl, rfl, by decide +kernel, rfl, by decide +kernel, by decide +kernel⟩

abbrev s_count_looks : Stmt := top 12
theorem sc_count_looks : FnScope ["condition", "around", "side"] ["condition", "around"] (defScope s_count_looks) := ⟨rfl, rfl, rfl, by decide +kernel, rfl, by decide +kernel, by decide +kernel⟩

abbrev s_has_form : Stmt := top 13
theorem sc_has_form : FnScope ["condition", "word"] ["condition"] (defScope s_has_form) := ⟨rfl, rfl, rfl, by decide +kernel, rfl, by decide +kernel, by decide +kernel⟩

abbrev s_is_number_up_to : Stmt := top 14
theorem sc_is_number_up_to : FnScope ["value", "most"] ["value", "most"] (defScope s_is_number_up_to) := ⟨rfl, rfl, rfl, by decide +kernel, rfl, by decide +kernel, by decide +kernel⟩

abbrev s_are_numbers_up_to : Stmt := top 15
theorem sc_are_numbers_up_to : FnScope ["values", "many", "most", "value"] ["values", "many", "most"] (defScope s_are_numbers_up_to) := ⟨rfl, rfl, rfl, by decide +kernel, rfl, by decide +kernel, by decide +kernel⟩

abbrev s_are_bits : Stmt := top 16
theorem sc_are_bits : FnScope ["values", "many"] ["values", "many"] (defScope s_are_bits) := ⟨rfl, rfl, rfl, by decide +kernel, rfl, by decide +kernel, by decide +kernel⟩

abbrev s_all_bits : Stmt := top 17
theorem sc_all_bits : FnScope ["many", "told", "_", "bits", "bit"] ["many"] (defScope s_all_bits) := ⟨rfl, rfl, rfl, by decide +kernel, rfl, by decide +kernel, by decide +kernel⟩

abbrev s_meant : Stmt := top 20
theorem sc_meant : FnScope ["condition", "worths"] ["condition", "worths"] (defScope s_meant) := ⟨rfl, rfl, rfl, by decide +kernel, rfl, by decide +kernel, by decide +kernel⟩

abbrev s_check_worths : Stmt := top 21
theorem sc_check_worths : FnScope ["worths"] ["worths"] (defScope s_check_worths) := ⟨rfl, rfl, rfl, by decide +kernel, rfl, by decide +kernel, by decide +kernel⟩

abbrev s_outcome : Stmt := top 22
theorem sc_outcome : FnScope ["condition", "worths", "word", "thing", "worth", "looks", "second", "more"] ["condition", "worths"] (defScope s_outcome) := ⟨rfl, rfl, rfl, by decide +kernel, rfl, by decide +kernel, by decide +kernel⟩

abbrev s_coded : Stmt := top 25
theorem sc_coded : FnScope ["condition", "first"] ["condition", "first"] (defScope s_coded) := ⟨rfl, rfl, rfl, by decide +kernel, rfl, by decide +kernel, by decide +kernel⟩

abbrev s_run : Stmt := top 26
theorem sc_run : FnScope ["rows", "worths"] ["rows", "worths"] (defScope s_run) := ⟨rfl, rfl, rfl, by decide +kernel, rfl, by decide +kernel, by decide +kernel⟩

abbrev s_check_first : Stmt := top 27
theorem sc_check_first : FnScope ["first"] ["first"] (defScope s_check_first) := ⟨rfl, rfl, rfl, by decide +kernel, rfl, by decide +kernel, by decide +kernel⟩

abbrev s_code_of : Stmt := top 28
theorem sc_code_of : FnScope ["condition", "first", "behind", "dues"] ["condition", "first"] (defScope s_code_of) := ⟨rfl, rfl, rfl, by decide +kernel, rfl, by decide +kernel, by decide +kernel⟩

abbrev s_rows_of : Stmt := top 29
theorem sc_rows_of : FnScope ["condition", "start", "dues", "word", "middle", "first_dues"] ["condition", "start", "dues"] (defScope s_rows_of) := ⟨rfl, rfl, rfl, by decide +kernel, rfl, by decide +kernel, by decide +kernel⟩

abbrev s_look_row : Stmt := top 30
theorem sc_look_row : FnScope ["thing", "place", "dues", "when"] ["thing", "place", "dues"] (defScope s_look_row) := ⟨rfl, rfl, rfl, by decide +kernel, rfl, by decide +kernel, by decide +kernel⟩

abbrev s_check_code : Stmt := top 31
theorem sc_check_code : FnScope ["rows", "place"] ["rows"] (defScope s_check_code) := ⟨rfl, rfl, rfl, by decide +kernel, rfl, by decide +kernel, by decide +kernel⟩

abbrev s_can_be : Stmt := top 32
theorem sc_can_be : FnScope ["rows", "place", "last", "row"] ["rows", "place"] (defScope s_can_be) := ⟨rfl, rfl, rfl, by decide +kernel, rfl, by decide +kernel, by decide +kernel⟩

abbrev s_is_look : Stmt := top 33
theorem sc_is_look : FnScope ["row", "place", "last", "_", "thing", "when", "to"] ["row", "place", "last"] (defScope s_is_look) := ⟨rfl, rfl, rfl, by decide +kernel, rfl, by decide +kernel, by decide +kernel⟩

abbrev s_is_end : Stmt := top 34
theorem sc_is_end : FnScope ["row"] ["row"] (defScope s_is_end) := ⟨rfl, rfl, rfl, by decide +kernel, rfl, by decide +kernel, by decide +kernel⟩

abbrev s_outcome_of_rows : Stmt := top 35
theorem sc_outcome_of_rows : FnScope ["rows", "worths", "at", "looks", "jumps", "_", "thing", "when", "to"] ["rows", "worths"] (defScope s_outcome_of_rows) := ⟨rfl, rfl, rfl, by decide +kernel, rfl, by decide +kernel, by decide +kernel⟩

abbrev s_looks : Stmt := top 38
theorem sc_looks : FnScope ["condition", "chances"] ["condition", "chances"] (defScope s_looks) := ⟨rfl, rfl, rfl, by decide +kernel, rfl, by decide +kernel, by decide +kernel⟩

abbrev s_jumps : Stmt := top 39
theorem sc_jumps : FnScope ["condition", "first", "chances"] ["condition", "first", "chances"] (defScope s_jumps) := ⟨rfl, rfl, rfl, by decide +kernel, rfl, by decide +kernel, by decide +kernel⟩

abbrev s_check_chances : Stmt := top 40
theorem sc_check_chances : FnScope ["chances"] ["chances"] (defScope s_check_chances) := ⟨rfl, rfl, rfl, by decide +kernel, rfl, by decide +kernel, by decide +kernel⟩

abbrev s_likely_worths : Stmt := top 41
theorem sc_likely_worths : FnScope ["chances", "worths"] ["chances"] (defScope s_likely_worths) := ⟨rfl, rfl, rfl, by decide +kernel, rfl, by decide +kernel, by decide +kernel⟩

abbrev s_times_of : Stmt := top 42
theorem sc_times_of : FnScope ["worths", "chances", "times", "worth", "chance"] ["worths", "chances"] (defScope s_times_of) := ⟨rfl, rfl, rfl, by decide +kernel, rfl, by decide +kernel, by decide +kernel⟩

abbrev s_looks_in_all : Stmt := top 43
theorem sc_looks_in_all : FnScope ["condition", "likely", "worths", "times"] ["condition", "likely"] (defScope s_looks_in_all) := ⟨rfl, rfl, rfl, by decide +kernel, rfl, by decide +kernel, by decide +kernel⟩

abbrev s_jumps_in_all : Stmt := top 44
theorem sc_jumps_in_all : FnScope ["condition", "first", "likely", "rows", "worths", "times"] ["condition", "first", "likely"] (defScope s_jumps_in_all) := ⟨rfl, rfl, rfl, by decide +kernel, rfl, by decide +kernel, by decide +kernel⟩

abbrev s_parting : Stmt := top 46
theorem sc_parting : FnScope ["one", "other", "worths", "told_of_one", "told_of_other"] ["one", "other"] (defScope s_parting) := ⟨rfl, rfl, rfl, by decide +kernel, rfl, by decide +kernel, by decide +kernel⟩

abbrev s_alike : Stmt := top 47
theorem sc_alike : FnScope ["one", "other"] ["one", "other"] (defScope s_alike) := ⟨rfl, rfl, rfl, by decide +kernel, rfl, by decide +kernel, by decide +kernel⟩

abbrev s_like_worth : Stmt := top 48
theorem sc_like_worth : FnScope ["one", "other", "worths"] ["one", "other"] (defScope s_like_worth) := ⟨rfl, rfl, rfl, by decide +kernel, rfl, by decide +kernel, by decide +kernel⟩

abbrev s_law_begun : Stmt := top 50
theorem sc_law_begun : FnScope ["_law_script", "_law_stirred", "_law_cell"] ["_law_script"] (defScope s_law_begun) := ⟨rfl, rfl, rfl, by decide +kernel, rfl, by decide +kernel, by decide +kernel⟩

abbrev s_law_take : Stmt := top 51
theorem sc_law_take : FnScope ["_law_box", "_law_many", "_law_number"] ["_law_box", "_law_many"] (defScope s_law_take) := ⟨rfl, rfl, rfl, by decide +kernel, rfl, by decide +kernel, by decide +kernel⟩

abbrev s_law_part : Stmt := top 52
theorem sc_law_part : FnScope ["_law_box", "_law_many", "_law_things"] ["_law_box", "_law_many", "_law_things"] (defScope s_law_part) := ⟨rfl, rfl, rfl, by decide +kernel, rfl, by decide +kernel, by decide +kernel⟩

abbrev s_law_bare : Stmt := top 53
theorem sc_law_bare : FnScope ["_law_box", "_law_many", "_law_things", "_law_left", "_law_word"] ["_law_box", "_law_many", "_law_things"] (defScope s_law_bare) := ⟨rfl, rfl, rfl, by decide +kernel, rfl, by decide +kernel, by decide +kernel⟩

abbrev s_law_deep : Stmt := top 54
theorem sc_law_deep : FnScope ["_law_part_here", "_law_one"] ["_law_part_here"] (defScope s_law_deep) := ⟨rfl, rfl, rfl, by decide +kernel, rfl, by decide +kernel, by decide +kernel⟩

abbrev s_law_condition : Stmt := top 55
theorem sc_law_condition : FnScope ["_law_box", "_law_most", "_law_things", "_law_part_here"] ["_law_box", "_law_most"] (defScope s_law_condition) := ⟨rfl, rfl, rfl, by decide +kernel, rfl, by decide +kernel, by decide +kernel⟩

abbrev s_law_worths : Stmt := top 57
theorem sc_law_worths : FnScope ["_law_number", "_law_k"] ["_law_number"] (defScope s_law_worths) := ⟨rfl, rfl, rfl, by decide +kernel, rfl, by decide +kernel, by decide +kernel⟩

abbrev s_law_dual : Stmt := top 58
theorem sc_law_dual : FnScope ["_law_part_here"] ["_law_part_here"] (defScope s_law_dual) := ⟨rfl, rfl, rfl, by decide +kernel, rfl, by decide +kernel, by decide +kernel⟩

abbrev s_law_named : Stmt := top 59
theorem sc_law_named : FnScope ["_law_part_here", "_law_names", "_law_one"] ["_law_part_here", "_law_names"] (defScope s_law_named) := ⟨rfl, rfl, rfl, by decide +kernel, rfl, by decide +kernel, by decide +kernel⟩

abbrev s_law : Stmt := top 60
theorem sc_law : FnScope ["_law_script", "_law_box", "_law_turn", "_law_part_here", "_law_contrary", "_law_left", "_law_names", "_law_thing", "_law_other", "_law_chances", "_law_theirs", "_law_first", "_law_rows", "_law_again", "_law_worths_here", "_law_told", "_law_named_here"] ["_law_script"] (defScope s_law) := ⟨rfl, rfl, rfl, by decide +kernel, rfl, by decide +kernel, by decide +kernel⟩

structure Tx (P : Program) (K : PySem.W.Frag) (mg : Str → Option Value) (w : World) where
  f_check_condition : Addr
  d_check_condition : FuncData
  F_check_condition : Fun K "check_condition" "check_condition" s_check_condition f_check_condition d_check_condition
  m_check_condition : mg "check_condition" = some (.ref f_check_condition)
  b_check_condition : Binds K d_check_condition ["condition"] []
  f_count_looks : Addr
  d_count_looks : FuncData
  F_count_looks : Fun K "count_looks" "count_looks" s_count_looks f_count_looks d_count_looks
  m_count_looks : mg "count_looks" = some (.ref f_count_looks)
  b_count_looks : Binds K d_count_looks ["condition", "around"] []
  f_has_form : Addr
  d_has_form : FuncData
  F_has_form : Fun K "has_form" "has_form" s_has_form f_has_form d_has_form
  m_has_form : mg "has_form" = some (.ref f_has_form)
  b_has_form : Binds K d_has_form ["condition"] []
  f_is_number_up_to : Addr
  d_is_number_up_to : FuncData
  F_is_number_up_to : Fun K "is_number_up_to" "is_number_up_to" s_is_number_up_to f_is_number_up_to d_is_number_up_to
  m_is_number_up_to : mg "is_number_up_to" = some (.ref f_is_number_up_to)
  b_is_number_up_to : Binds K d_is_number_up_to ["value", "most"] []
  f_are_numbers_up_to : Addr
  d_are_numbers_up_to : FuncData
  F_are_numbers_up_to : Fun K "are_numbers_up_to" "are_numbers_up_to" s_are_numbers_up_to f_are_numbers_up_to d_are_numbers_up_to
  m_are_numbers_up_to : mg "are_numbers_up_to" = some (.ref f_are_numbers_up_to)
  b_are_numbers_up_to : Binds K d_are_numbers_up_to ["values", "many", "most"] []
  f_are_bits : Addr
  d_are_bits : FuncData
  F_are_bits : Fun K "are_bits" "are_bits" s_are_bits f_are_bits d_are_bits
  m_are_bits : mg "are_bits" = some (.ref f_are_bits)
  b_are_bits : Binds K d_are_bits ["values", "many"] []
  f_all_bits : Addr
  d_all_bits : FuncData
  F_all_bits : Fun K "all_bits" "all_bits" s_all_bits f_all_bits d_all_bits
  m_all_bits : mg "all_bits" = some (.ref f_all_bits)
  b_all_bits : Binds K d_all_bits ["many"] []
  f_meant : Addr
  d_meant : FuncData
  F_meant : Fun K "meant" "meant" s_meant f_meant d_meant
  m_meant : mg "meant" = some (.ref f_meant)
  b_meant : Binds K d_meant ["condition", "worths"] []
  f_check_worths : Addr
  d_check_worths : FuncData
  F_check_worths : Fun K "check_worths" "check_worths" s_check_worths f_check_worths d_check_worths
  m_check_worths : mg "check_worths" = some (.ref f_check_worths)
  b_check_worths : Binds K d_check_worths ["worths"] []
  f_outcome : Addr
  d_outcome : FuncData
  F_outcome : Fun K "outcome" "outcome" s_outcome f_outcome d_outcome
  m_outcome : mg "outcome" = some (.ref f_outcome)
  b_outcome : Binds K d_outcome ["condition", "worths"] []
  f_coded : Addr
  d_coded : FuncData
  F_coded : Fun K "coded" "coded" s_coded f_coded d_coded
  m_coded : mg "coded" = some (.ref f_coded)
  b_coded : Binds K d_coded ["condition", "first"] []
  f_run : Addr
  d_run : FuncData
  F_run : Fun K "run" "run" s_run f_run d_run
  m_run : mg "run" = some (.ref f_run)
  b_run : Binds K d_run ["rows", "worths"] []
  f_check_first : Addr
  d_check_first : FuncData
  F_check_first : Fun K "check_first" "check_first" s_check_first f_check_first d_check_first
  m_check_first : mg "check_first" = some (.ref f_check_first)
  b_check_first : Binds K d_check_first ["first"] []
  f_code_of : Addr
  d_code_of : FuncData
  F_code_of : Fun K "code_of" "code_of" s_code_of f_code_of d_code_of
  m_code_of : mg "code_of" = some (.ref f_code_of)
  b_code_of : Binds K d_code_of ["condition", "first"] []
  f_rows_of : Addr
  d_rows_of : FuncData
  F_rows_of : Fun K "rows_of" "rows_of" s_rows_of f_rows_of d_rows_of
  m_rows_of : mg "rows_of" = some (.ref f_rows_of)
  b_rows_of : Binds K d_rows_of ["condition", "start", "dues"] []
  f_look_row : Addr
  d_look_row : FuncData
  F_look_row : Fun K "look_row" "look_row" s_look_row f_look_row d_look_row
  m_look_row : mg "look_row" = some (.ref f_look_row)
  b_look_row : Binds K d_look_row ["thing", "place", "dues"] []
  f_check_code : Addr
  d_check_code : FuncData
  F_check_code : Fun K "check_code" "check_code" s_check_code f_check_code d_check_code
  m_check_code : mg "check_code" = some (.ref f_check_code)
  b_check_code : Binds K d_check_code ["rows"] []
  f_can_be : Addr
  d_can_be : FuncData
  F_can_be : Fun K "can_be" "can_be" s_can_be f_can_be d_can_be
  m_can_be : mg "can_be" = some (.ref f_can_be)
  b_can_be : Binds K d_can_be ["rows", "place"] []
  f_is_look : Addr
  d_is_look : FuncData
  F_is_look : Fun K "is_look" "is_look" s_is_look f_is_look d_is_look
  m_is_look : mg "is_look" = some (.ref f_is_look)
  b_is_look : Binds K d_is_look ["row", "place", "last"] []
  f_is_end : Addr
  d_is_end : FuncData
  F_is_end : Fun K "is_end" "is_end" s_is_end f_is_end d_is_end
  m_is_end : mg "is_end" = some (.ref f_is_end)
  b_is_end : Binds K d_is_end ["row"] []
  f_outcome_of_rows : Addr
  d_outcome_of_rows : FuncData
  F_outcome_of_rows : Fun K "outcome_of_rows" "outcome_of_rows" s_outcome_of_rows f_outcome_of_rows d_outcome_of_rows
  m_outcome_of_rows : mg "outcome_of_rows" = some (.ref f_outcome_of_rows)
  b_outcome_of_rows : Binds K d_outcome_of_rows ["rows", "worths"] []
  f_looks : Addr
  d_looks : FuncData
  F_looks : Fun K "looks" "looks" s_looks f_looks d_looks
  m_looks : mg "looks" = some (.ref f_looks)
  b_looks : Binds K d_looks ["condition", "chances"] []
  f_jumps : Addr
  d_jumps : FuncData
  F_jumps : Fun K "jumps" "jumps" s_jumps f_jumps d_jumps
  m_jumps : mg "jumps" = some (.ref f_jumps)
  b_jumps : Binds K d_jumps ["condition", "first", "chances"] []
  f_check_chances : Addr
  d_check_chances : FuncData
  F_check_chances : Fun K "check_chances" "check_chances" s_check_chances f_check_chances d_check_chances
  m_check_chances : mg "check_chances" = some (.ref f_check_chances)
  b_check_chances : Binds K d_check_chances ["chances"] []
  f_likely_worths : Addr
  d_likely_worths : FuncData
  F_likely_worths : Fun K "likely_worths" "likely_worths" s_likely_worths f_likely_worths d_likely_worths
  m_likely_worths : mg "likely_worths" = some (.ref f_likely_worths)
  b_likely_worths : Binds K d_likely_worths ["chances"] []
  f_times_of : Addr
  d_times_of : FuncData
  F_times_of : Fun K "times_of" "times_of" s_times_of f_times_of d_times_of
  m_times_of : mg "times_of" = some (.ref f_times_of)
  b_times_of : Binds K d_times_of ["worths", "chances"] []
  f_looks_in_all : Addr
  d_looks_in_all : FuncData
  F_looks_in_all : Fun K "looks_in_all" "looks_in_all" s_looks_in_all f_looks_in_all d_looks_in_all
  m_looks_in_all : mg "looks_in_all" = some (.ref f_looks_in_all)
  b_looks_in_all : Binds K d_looks_in_all ["condition", "likely"] []
  f_jumps_in_all : Addr
  d_jumps_in_all : FuncData
  F_jumps_in_all : Fun K "jumps_in_all" "jumps_in_all" s_jumps_in_all f_jumps_in_all d_jumps_in_all
  m_jumps_in_all : mg "jumps_in_all" = some (.ref f_jumps_in_all)
  b_jumps_in_all : Binds K d_jumps_in_all ["condition", "first", "likely"] []
  f_parting : Addr
  d_parting : FuncData
  F_parting : Fun K "parting" "parting" s_parting f_parting d_parting
  m_parting : mg "parting" = some (.ref f_parting)
  b_parting : Binds K d_parting ["one", "other"] []
  f_alike : Addr
  d_alike : FuncData
  F_alike : Fun K "alike" "alike" s_alike f_alike d_alike
  m_alike : mg "alike" = some (.ref f_alike)
  b_alike : Binds K d_alike ["one", "other"] []
  f_like_worth : Addr
  d_like_worth : FuncData
  F_like_worth : Fun K "like_worth" "like_worth" s_like_worth f_like_worth d_like_worth
  m_like_worth : mg "like_worth" = some (.ref f_like_worth)
  b_like_worth : Binds K d_like_worth ["one", "other"] []
  f_law_begun : Addr
  d_law_begun : FuncData
  F_law_begun : Fun K "_law_begun" "_law_begun" s_law_begun f_law_begun d_law_begun
  m_law_begun : mg "_law_begun" = some (.ref f_law_begun)
  b_law_begun : Binds K d_law_begun ["_law_script"] []
  f_law_take : Addr
  d_law_take : FuncData
  F_law_take : Fun K "_law_take" "_law_take" s_law_take f_law_take d_law_take
  m_law_take : mg "_law_take" = some (.ref f_law_take)
  b_law_take : Binds K d_law_take ["_law_box", "_law_many"] []
  f_law_part : Addr
  d_law_part : FuncData
  F_law_part : Fun K "_law_part" "_law_part" s_law_part f_law_part d_law_part
  m_law_part : mg "_law_part" = some (.ref f_law_part)
  b_law_part : Binds K d_law_part ["_law_box", "_law_many", "_law_things"] []
  f_law_bare : Addr
  d_law_bare : FuncData
  F_law_bare : Fun K "_law_bare" "_law_bare" s_law_bare f_law_bare d_law_bare
  m_law_bare : mg "_law_bare" = some (.ref f_law_bare)
  b_law_bare : Binds K d_law_bare ["_law_box", "_law_many", "_law_things"] []
  f_law_deep : Addr
  d_law_deep : FuncData
  F_law_deep : Fun K "_law_deep" "_law_deep" s_law_deep f_law_deep d_law_deep
  m_law_deep : mg "_law_deep" = some (.ref f_law_deep)
  b_law_deep : Binds K d_law_deep ["_law_part_here"] []
  f_law_condition : Addr
  d_law_condition : FuncData
  F_law_condition : Fun K "_law_condition" "_law_condition" s_law_condition f_law_condition d_law_condition
  m_law_condition : mg "_law_condition" = some (.ref f_law_condition)
  b_law_condition : Binds K d_law_condition ["_law_box", "_law_most"] []
  f_law_worths : Addr
  d_law_worths : FuncData
  F_law_worths : Fun K "_law_worths" "_law_worths" s_law_worths f_law_worths d_law_worths
  m_law_worths : mg "_law_worths" = some (.ref f_law_worths)
  b_law_worths : Binds K d_law_worths ["_law_number"] []
  f_law_dual : Addr
  d_law_dual : FuncData
  F_law_dual : Fun K "_law_dual" "_law_dual" s_law_dual f_law_dual d_law_dual
  m_law_dual : mg "_law_dual" = some (.ref f_law_dual)
  b_law_dual : Binds K d_law_dual ["_law_part_here"] []
  f_law_named : Addr
  d_law_named : FuncData
  F_law_named : Fun K "_law_named" "_law_named" s_law_named f_law_named d_law_named
  m_law_named : mg "_law_named" = some (.ref f_law_named)
  b_law_named : Binds K d_law_named ["_law_part_here", "_law_names"] []
  f_law : Addr
  d_law : FuncData
  F_law : Fun K "law" "law" s_law f_law d_law
  m_law : mg "law" = some (.ref f_law)
  b_law : Binds K d_law ["_law_script"] []
  n_sum : mg "sum" = none
  n_tuple : mg "tuple" = none
  n_isinstance : mg "isinstance" = none
  n_len : mg "len" = none
  n_bool : mg "bool" = none
  n_int : mg "int" = none
  n_all : mg "all" = none
  n_range : mg "range" = none
  n_list : mg "list" = none
  n_zip : mg "zip" = none
  n_max : mg "max" = none
  u_MOST_LOOKS : Tok
  c_MOST_LOOKS : mg "MOST_LOOKS" = some (.int 12 u_MOST_LOOKS)
  u_MOST_AROUND : Tok
  c_MOST_AROUND : mg "MOST_AROUND" = some (.int 10 u_MOST_AROUND)
  u_THINGS : Tok
  c_THINGS : mg "THINGS" = some (.int 8 u_THINGS)
  a_GOES_ON : Addr
  c_GOES_ON : mg "GOES_ON" = some (.ref a_GOES_ON)
  k_GOES_ON_0 : KDct K w a_GOES_ON "and" (.int 1)
  k_GOES_ON_1 : KDct K w a_GOES_ON "or" (.int 0)
  u_MOST_ROWS : Tok
  c_MOST_ROWS : mg "MOST_ROWS" = some (.int 40 u_MOST_ROWS)
  u_HUNDRED : Tok
  c_HUNDRED : mg "HUNDRED" = some (.int 100 u_HUNDRED)

/-! what the program's defs promise, of good conditions, codes, worths, chances -/
def spLaw (K : PySem.W.Frag) : Sp := fun vs H Q _ => ∃ (a : Addr) (ns : List Int), vs = [.ref a] ∧ SqL K H a (ns.map V.int) ∧ ns.length ≤ 63 ∧ ∀ H', Q (.bl true) H'
def spCoded : Sp := fun vs H Q _ => ∃ v c, ∃ f : Bool, vs = [v, vb f] ∧ CA H v c ∧ c.ok ∧ c.deep ≤ 10 ∧ c.looks ≤ 12 ∧ ∀ v' H', Same H H' → RN H H' v' (codeM c f) → Q v' H'
def spRunP (K : PySem.W.Frag) : Sp := fun vs H Q _ => ∃ p u, ∃ rows : List Row, ∃ ws : List Bool, vs = [.ref p, u] ∧ RA K H p rows ∧ GoodCode rows ∧ WA H u ws ∧ ∀ v' H', Same H H' → RTold H H' v' (runC rows ws) → Q v' H'
def spMeant : Sp := fun vs H Q _ => ∃ v u c ws, vs = [v, u] ∧ CA H v c ∧ c.ok ∧ c.deep ≤ 10 ∧ c.looks ≤ 12 ∧ WA H u ws ∧ ∀ v' H', Same H H' → Told H H' v' (ev ws c) → Q v' H'
def spTurned (K : PySem.W.Frag) : Sp := fun vs H Q _ => ∃ v c p, ∃ ts : List Bool, vs = [v, .ref p] ∧ CA H v c ∧ c.ok ∧ c.deep ≤ 10 ∧ c.looks ≤ 12 ∧ SqL K H p (ts.map vb) ∧ ts.length = c.pairs ∧ ∀ v' H', Same H H' → CA H' v' (exch c ts) → Q v' H'
def spLooksP : Sp := fun vs H Q _ => ∃ v u c ch, vs = [v, u] ∧ CA H v c ∧ c.ok ∧ c.deep ≤ 10 ∧ c.looks ≤ 12 ∧ ChA H u ch ∧ ∀ H', Same H H' → Q (.int (looksM ch c : Int)) H'
def spJumpsP : Sp := fun vs H Q _ => ∃ v u c ch, ∃ f : Bool, vs = [v, vb f, u] ∧ CA H v c ∧ c.ok ∧ c.deep ≤ 10 ∧ c.looks ≤ 12 ∧ ChA H u ch ∧ ∀ H', Same H H' → Q (.int (jumpsM ch f c : Int)) H'
def spParting : Sp := fun vs H Q _ => ∃ v u c d, vs = [v, u] ∧ CA H v c ∧ CA H u d ∧ Good c ∧ Good d ∧ ∀ v' H', Same H H' → PTold H H' v' (partM c d 256) c d → Q v' H'
def spAlikeP : Sp := fun vs H Q _ => ∃ v u c d, vs = [v, u] ∧ CA H v c ∧ CA H u d ∧ Good c ∧ Good d ∧ ∀ H', Same H H' → Q (.bl (partM c d 256).isNone) H'
def spLike : Sp := fun vs H Q _ => ∃ v u c d, vs = [v, u] ∧ CA H v c ∧ CA H u d ∧ Good c ∧ Good d ∧ ∀ H', Same H H' → Q (.bl (sameM c d 256)) H'
def spFL : Sp := fun vs H Q _ => ∃ v u c ch, vs = [v, u] ∧ CA H v c ∧ c.ok ∧ c.deep ≤ 10 ∧ c.looks ≤ 12 ∧ c.pairs ≤ 6 ∧ ChA H u ch ∧ ∀ v' H', Same H H' → FL H H' v' ch c → Q v' H'
def spFJ : Sp := fun vs H Q _ => ∃ v u c ch, vs = [v, u] ∧ CA H v c ∧ c.ok ∧ c.deep ≤ 10 ∧ c.looks ≤ 12 ∧ c.pairs ≤ 6 ∧ ChA H u ch ∧ ∀ v' H', Same H H' → FJ H H' v' ch c → Q v' H'

/-- a draw: some number of m -/
def spTake : Sp := fun vs H Q _ => ∃ b l ns s, ∃ m : Int, vs = [.ref b, .int m] ∧ Bx H b l ns s ∧ 0 < m ∧ m < 1000000 ∧ ∀ (r : Int) ns' s' H', Fr b l H H' → Bx H' b l ns' s' → 0 ≤ r → r < m → Q (.int r) H'
theorem pure_take {K : PySem.W.Frag} {w : World} (vs : List V) (H : Hp) (Q : VK) (E : XK) (h : spTake vs H Q E) :
    t_law_take K w (Ends.mk (fun _ H' => Q .non H') Q (fun _ _ => False) (fun _ _ => False)) (start ["_law_box", "_law_many", "_law_number"] vs) H := by
  obtain ⟨b, l, ns, s, m, rfl, x, m0, m1, q⟩ := h
  have hb := x.hb
  have hl := x.hl
  have s0 := x.s0
  have s1 := x.s1
  have n63 := x.n63
  unfold t_law_take
  tm_at "j"
  rename_i p H1 np g1 e1
  have x1 := x.same g1
  refine l_eqD (.lst (by tm_at "hp") (dp_ints ns)) (.lst (by tm_at "hp") .nil) (shaped_ints ns) rfl ?_
  cases ns with
  | nil =>
    rw [show PyData.eqv (.list (([] : List Int).map PyData.int)) (.list []) = true from rfl]
    tm_at "j"
    refine l_setL' (K := K) x1.hb rfl fun H2 g2 e2 => ?_
    tm_at "j"
    refine q _ _ _ _ ((Fr.of g1).trans (Fr.b g2)) ⟨x.ne, e2, g2 _ _ x.ne.symm x1.hl, ?_, ?_, by decide⟩ ?_ ?_
    · exact Int.emod_nonneg _ (by decide)
    · exact Int.emod_lt_of_pos _ (by decide)
    · exact Int.emod_nonneg _ (by omega)
    · exact Int.emod_lt_of_pos _ m0
  | cons n r =>
    rw [show PyData.eqv (.list ((n :: r).map PyData.int)) (.list []) = false from rfl]
    have hl1 : H1 l = some (.lst (.int n :: r.map V.int)) := x1.hl
    have hb1 := x1.hb
    have f0 : 0 ≤ n % m := Int.emod_nonneg _ (by omega)
    have f1 : n % m < m := Int.emod_lt_of_pos _ m0
    tm_at "j"
    refine l_setL' (K := K) hl1 (ix0 (by simp)) fun H2 g2 e2 => ?_
    have hb2 : H2 b = some (.lst [.ref l, .int s]) := g2 _ _ x.ne hb1
    have e2' : H2 l = some (.lst (.int (n / m) :: r.map V.int)) := e2
    have fr2 : Fr b l H H2 := (Fr.of g1).trans (Fr.l g2)
    tm_at "j"
    refine i_b (fun e => ?_) (fun e => ?_)
    · tm_at "j"
      refine l_pop0' e2' fun H3 g3 e3 => ?_
      tm_at "j"
      refine q _ r s _ (fr2.trans (Fr.l g3)) ⟨x.ne, g3 _ _ x.ne hb2, e3, s0, s1, ?_⟩ f0 f1
      have : (n :: r).length = r.length + 1 := rfl
      omega
    · tm_at "j"
      refine i_b (fun e => ?_) (fun e => ?_)
      · tm_at "j"
        refine l_pop0' e2' fun H3 g3 e3 => ?_
        tm_at "j"
        refine q _ r s _ (fr2.trans (Fr.l g3)) ⟨x.ne, g3 _ _ x.ne hb2, e3, s0, s1, ?_⟩ f0 f1
        have : (n :: r).length = r.length + 1 := rfl
        omega
      · tm_at "j"
        exact q _ (n / m :: r) s _ fr2 ⟨x.ne, hb2, e2', s0, s1, n63⟩ f0 f1

theorem wd_at {r : Int} (h0 : 0 ≤ r) (h1 : r < 2) : ∃ a, atI [V.str "and", V.str "or"] r = some (.str (wd a)) := by
  obtain rfl | rfl : r = 0 ∨ r = 1 := by omega
  · exact ⟨true, rfl⟩
  · exact ⟨false, rfl⟩
theorem left_at {r u : Int} {m : Nat} (hm : 2 ≤ m) (u0 : 0 ≤ u) (u1 : u < (m : Int) - 1) (h0 : 0 ≤ r) (h1 : r < 4) : ∃ k : Nat, atI [V.int 1, V.int ((m : Int) - 1), V.int (1 + u), V.int ((m : Int) / 2)] r = some (.int (k : Int)) ∧ 1 ≤ k ∧ k + 1 ≤ m := by
  obtain rfl | rfl | rfl | rfl : r = 0 ∨ r = 1 ∨ r = 2 ∨ r = 3 := by omega
  · exact ⟨1, rfl, by omega, by omega⟩
  · refine ⟨m - 1, ?_, by omega, by omega⟩
    rw [show ((m - 1 : Nat) : Int) = (m : Int) - 1 by omega]; rfl
  · refine ⟨(1 + u).toNat, ?_, by omega, by omega⟩
    rw [show (((1 + u).toNat : Nat) : Int) = 1 + u by omega]; rfl
  · refine ⟨m / 2, ?_, by omega, by omega⟩
    rw [show ((m / 2 : Nat) : Int) = (m : Int) / 2 by omega]; rfl
def spPB (x n : Nat) : Sp := fun vs H Q _ => ∃ b l ns s, ∃ m : Nat, ∃ t, ∃ ts : List Nat, vs = [.ref b, .int (m : Int), .ref t] ∧ Bx H b l ns s ∧ 1 ≤ m ∧ m ≤ n ∧ n ≤ 20 ∧ t ≠ b ∧ t ≠ l ∧ H t = some (.lst (ts.map vn)) ∧ 0 < ts.length ∧ ts.length ≤ 8 ∧ (∀ i ∈ ts, i < 8) ∧
  ∀ v c ns' s' H', Fr b l H H' → Bx H' b l ns' s' → CA H' v c → c.ok → c.looks = m → c.deep + x ≤ 2 * m → Q v H'
theorem pure_part {K : PySem.W.Frag} {w : World} {n : Nat} (vs : List V) (H : Hp) (Q : VK) (E : XK) (h : spPB 1 n vs H Q E) :
    t_law_part K w spTake (spPB 2 n) (Ends.mk (fun _ H' => Q .non H') Q (fun _ _ => False) (fun _ _ => False)) (start ["_law_box", "_law_many", "_law_things"] vs) H := by
  obtain ⟨b, l, ns, s, m, t, ts, rfl, x, m1, mn, n20, tb, tl, ht, t0, t8, ti, q⟩ := h
  unfold t_law_part
  tm_at "j"
  refine ⟨b, l, ns, s, 5, rfl, x, by decide, by decide, fun r ns1 s1 H1 f1 x1 r0 r1 => ?_⟩
  tm_at "j"
  have ht1 : H1 t = some (.lst (ts.map vn)) := f1.at tb tl ht
  refine i_b (fun e => ?_) (fun e => ?_)
  · tm_at "j"
    refine ⟨b, l, ns1, s1, m, t, ts, rfl, x1, m1, mn, n20, tb, tl, ht1, t0, t8, ti, fun v c ns2 s2 H2 f2 x2 hc ho hk hd => ?_⟩
    tm_at "j"
    rename_i p H3 np g3 e3
    exact q _ (.not c) ns2 s2 _ ((f1.trans f2).trans (Fr.of g3)) (x2.same g3) (.not e3 (hc.mono g3)) ho hk (by show c.deep + 1 + 1 ≤ 2 * m; omega)
  · tm_at "j"
    refine ⟨b, l, ns1, s1, m, t, ts, rfl, x1, m1, mn, n20, tb, tl, ht1, t0, t8, ti, fun v c ns2 s2 H2 f2 x2 hc ho hk hd => ?_⟩
    tm_at "j"
    exact q _ c ns2 s2 _ (f1.trans f2) x2 hc ho hk (by omega)
theorem pure_bare {K : PySem.W.Frag} {w : World} {n : Nat} (vs : List V) (H : Hp) (Q : VK) (E : XK) (h : spPB 2 (n + 1) vs H Q E) :
    t_law_bare K w spTake (spPB 1 n) (Ends.mk (fun _ H' => Q .non H') Q (fun _ _ => False) (fun _ _ => False)) (start ["_law_box", "_law_many", "_law_things", "_law_left", "_law_word"] vs) H := by
  obtain ⟨b, l, ns, s, m, t, ts, rfl, x, m1, mn, n20, tb, tl, ht, t0, t8, ti, q⟩ := h
  unfold t_law_bare
  tm_at "j"
  refine i_b (fun e => ?_) (fun e => ?_)
  · have em : (m : Int) = 1 := V.int.inj (of_decide_eq_true e)
    have em1 : m = 1 := by omega
    tm_at "j"
    have hlen : (ts.map vn).length = ts.length := List.length_map _
    refine ⟨b, l, ns, s, _, rfl, x, by omega, by omega, fun r ns1 s1 H1 f1 x1 r0 r1 => ?_⟩
    rw [hlen] at r1
    have ht1 : H1 t = some (.lst (ts.map vn)) := f1.at tb tl ht
    obtain ⟨k, rfl⟩ : ∃ k : Nat, r = (k : Int) := ⟨r.toNat, by omega⟩
    have hk : k < ts.length := by omega
    refine l_ixL (by tm_at "hp") (at_map (d := 0) hk) ?_
    tm_at "j"
    rename_i p H2 np g2 e2
    refine q _ (.look (ts.getD k 0)) ns1 s1 _ (f1.trans (Fr.of g2)) (x1.same g2) (.look e2) ?_ (by rw [em1]; rfl) (by rw [em1]; exact Nat.le_refl _)
    show ts.getD k 0 < 8
    refine ti _ ?_
    rw [List.getD_eq_getElem?_getD, List.getElem?_eq_getElem hk]
    exact List.getElem_mem hk
  · have em : ¬ (m : Int) = 1 := fun z => by
      have := of_decide_eq_false e
      exact this (congrArg V.int z)
    tm_at "j"
    refine ⟨b, l, ns, s, _, rfl, x, by omega, by omega, fun u ns1 s1 H1 f1 x1 u0 u1 => ?_⟩
    tm_at "j"
    rename_i p2 H2 np2 g2 e2
    have x2 := x1.same g2
    refine ⟨b, l, ns1, s1, 4, rfl, x2, by decide, by decide, fun r ns3 s3 H3 f3 x3 r0 r1 => ?_⟩
    have e3 := f3.at (ne_of_none x1.hb np2).symm (ne_of_none x1.hl np2).symm e2
    obtain ⟨k, hk, k1, k2⟩ := left_at (r := r) (u := u) (m := m) (by omega) u0 (by omega) r0 r1
    refine l_ixL (by tm_at "hp") hk ?_
    tm_at "j"
    rename_i p4 H4 np4 g4 e4
    have x4 := x3.same g4
    refine ⟨b, l, ns3, s3, 2, rfl, x4, by decide, by decide, fun r2 ns5 s5 H5 f5 x5 r20 r21 => ?_⟩
    have e5 := f5.at (ne_of_none x3.hb np4).symm (ne_of_none x3.hl np4).symm e4
    obtain ⟨a, ha⟩ := wd_at r20 r21
    refine l_ixL (by tm_at "hp") ha ?_
    tm_at "j"
    have f05 : Fr b l H H5 := (((f1.trans (Fr.of g2)).trans f3).trans (Fr.of g4)).trans f5
    refine ⟨b, l, ns5, s5, k, t, ts, rfl, x5, k1, by omega, by omega, tb, tl, f05.at tb tl ht, t0, t8, ti, fun v1 c1 ns6 s6 H6 f6 x6 hc1 ho1 hk1 hd1 => ?_⟩
    tm_at "j"
    refine ⟨b, l, ns6, s6, m - k, t, ts, ?_, x6, by omega, by omega, by omega, tb, tl, (f05.trans f6).at tb tl ht, t0, t8, ti, fun v2 c2 ns7 s7 H7 f7 x7 hc2 ho2 hk2 hd2 => ?_⟩
    · rw [show ((m - k : Nat) : Int) = (m : Int) - (k : Int) by omega]
    tm_at "j"
    rename_i p8 H8 np8 g8 e8
    have hc1' : CA H8 v1 c1 := (hc1.tups (x6.tups f7)).mono g8
    refine q _ (.bin a c1 c2) ns7 s7 _ (((f05.trans f6).trans f7).trans (Fr.of g8)) (x7.same g8) (.bin e8 hc1' (hc2.mono g8)) ⟨ho1, ho2⟩ ?_ ?_
    · show c1.looks + c2.looks = m
      omega
    · show max c1.deep c2.deep + 1 + 2 ≤ 2 * m
      omega

def spDeep (n : Nat) : Sp := fun vs H Q _ => ∃ v c, vs = [v] ∧ CA H v c ∧ c.deep < n ∧ n ≤ 60 ∧ ∀ H', Same H H' → Q (.int (c.deep : Int)) H'
theorem pure_deep {K : PySem.W.Frag} {w : World} {n : Nat} (vs : List V) (H : Hp) (Q : VK) (E : XK) (h : spDeep (n + 1) vs H Q E) :
    t_law_deep K w (spDeep n) (Ends.mk (fun _ H' => Q .non H') Q (fun _ _ => False) (fun _ _ => False)) (start ["_law_part_here", "_law_one"] vs) H := by
  obtain ⟨v, c, rfl, hc, hn, n60, q⟩ := h
  unfold t_law_deep
  cases hc with
  | look e =>
    tm_at "j"
    exact q _ (Same.refl _)
  | not e hc =>
    rename_i v1 c1
    have hn1 : c1.deep + 1 < n + 1 := hn
    tm_at "j"
    refine lcT (xs := [v1]) (ys := [.int (c1.deep : Int)]) (fun _ => rfl) (by tm_at "hp") (by tm_at "dec") ⟨rfl, ?_⟩ ?_
    · intro i x y H' Q' hx hy g k
      rcases i with _ | i
      · obtain rfl : v1 = x := Option.some.inj hx
        obtain rfl := Option.some.inj hy
        tm_at "j"
        exact ⟨v1, c1, rfl, by tm_at "hp", by omega, by omega, k⟩
      · cases hx
    · intro D H2 hD g e2
      tm_at "j"
      refine l_max (ns := [(c1.deep : Int)]) (by tm_at "hp") (by tm_at "dec") ?_
      intro mx hm hle
      obtain rfl : mx = (c1.deep : Int) := by simpa using hm
      tm_at "j"
      rw [show (1 : Int) + (c1.deep : Int) = (((c1.not).deep : Nat) : Int) by show (1 : Int) + _ = ((c1.deep + 1 : Nat) : Int); omega]
      exact q _ (by tm_at "hp")
  | bin e h1 h2 =>
    rename_i a v1 v2 c1 c2
    have hn1 : max c1.deep c2.deep + 1 < n + 1 := hn
    cases a <;> (
      tm_at "j"
      refine lcT (xs := [v1, v2]) (ys := [.int (c1.deep : Int), .int (c2.deep : Int)]) (fun _ => rfl) (by tm_at "hp") (by tm_at "dec") ⟨rfl, ?_⟩ ?_
      · intro i x y H' Q' hx hy g k
        rcases i with _ | _ | i
        · obtain rfl : v1 = x := Option.some.inj hx
          obtain rfl := Option.some.inj hy
          tm_at "j"
          exact ⟨v1, c1, rfl, by tm_at "hp", by omega, by omega, k⟩
        · obtain rfl : v2 = x := Option.some.inj hx
          obtain rfl := Option.some.inj hy
          tm_at "j"
          exact ⟨v2, c2, rfl, by tm_at "hp", by omega, by omega, k⟩
        · cases hx
      · intro D H2 hD g e2
        tm_at "j"
        refine l_max (ns := [(c1.deep : Int), (c2.deep : Int)]) (by tm_at "hp") (by tm_at "dec") ?_
        intro mx hm hle
        have l1 := hle c1.deep (by simp)
        have l2 := hle c2.deep (by simp)
        have em : mx = ((max c1.deep c2.deep : Nat) : Int) := by
          rcases List.mem_cons.mp hm with e0 | hm
          · omega
          · have := List.mem_singleton.mp hm
            omega
        subst em
        tm_at "j"
        have e3 : (1 : Int) + ((max c1.deep c2.deep : Nat) : Int) = ((max c1.deep c2.deep + 1 : Nat) : Int) := by omega
        rw [e3]
        exact q _ (by tm_at "hp"))
/-! _law_condition -/
/-- a condition of at most mx looks -/
def spCond : Sp := fun vs H Q _ => ∃ b l ns s, ∃ mx : Nat, vs = [.ref b, .int (mx : Int)] ∧ Bx H b l ns s ∧ 1 ≤ mx ∧ mx ≤ 20 ∧
  ∀ v c ns' s' H', Fr b l H H' → Bx H' b l ns' s' → CA H' v c → c.ok → c.looks ≤ mx → c.deep ≤ 10 → Q v H'
theorem things_at {t1 t2 t3 : Addr} {H : Hp} {r : Int} (h1 : H t1 = some (.lst [.int 0, .int 1, .int 2])) (h2 : H t2 = some (.lst [.int 0, .int 1, .int 2, .int 3, .int 4, .int 5, .int 6, .int 7])) (h3 : H t3 = some (.lst [.int 5, .int 7])) (r0 : 0 ≤ r) (r1 : r < 3) :
    ∃ t, ∃ ts : List Nat, atI [V.ref t1, V.ref t2, V.ref t3] r = some (.ref t) ∧ H t = some (.lst (ts.map vn)) ∧ 0 < ts.length ∧ ts.length ≤ 8 ∧ ∀ i ∈ ts, i < 8 := by
  obtain rfl | rfl | rfl : r = 0 ∨ r = 1 ∨ r = 2 := by omega
  · exact ⟨t1, [0, 1, 2], rfl, h1, by decide, by decide, by decide⟩
  · exact ⟨t2, [0, 1, 2, 3, 4, 5, 6, 7], rfl, h2, by decide, by decide, by decide⟩
  · exact ⟨t3, [5, 7], rfl, h3, by decide, by decide, by decide⟩
/-- the value in a condition's first place, one step down -/
theorem down {H : Hp} {v : V} {c : Cond} (h : CA H v c) (hd : 0 < c.deep) : ∃ p xs v1 c1, v = .ref p ∧ H p = some (.tup xs) ∧ atI xs 1 = some v1 ∧ CA H v1 c1 ∧ c1.deep < c.deep ∧ c1.looks ≤ c.looks ∧ (c.ok → c1.ok) := by
  cases h with
  | look e => exact absurd hd (Nat.lt_irrefl 0)
  | not e hc => exact ⟨_, _, _, _, rfl, e, rfl, hc, Nat.lt_succ_self _, Nat.le_refl _, id⟩
  | bin e h1 h2 => exact ⟨_, _, _, _, rfl, e, rfl, h1, Nat.lt_succ_of_le (Nat.le_max_left _ _), Nat.le_add_right _ _, fun h => h.1⟩
theorem pure_condition {K : PySem.W.Frag} {w : World} (vs : List V) (H : Hp) (Q : VK) (E : XK) (h : spCond vs H Q E) :
    t_law_condition K w spTake (spPB 1 20) (spDeep 60) (Ends.mk (fun _ H' => Q .non H') Q (fun _ _ => False) (fun _ _ => False)) (start ["_law_box", "_law_most", "_law_things", "_law_part_here"] vs) H := by
  obtain ⟨b, l, ns, s, mx, rfl, x, m1, m20, q⟩ := h
  unfold t_law_condition
  tm_at "j"
  rename_i p1 H1 n1 g1 e1 p2 H2 n2 g2 e2 p3 H3 n3 g3 e3 p4 H4 n4 g4 e4
  have x1 := x.same g1
  have x2 := x1.same g2
  have x3 := x2.same g3
  have x4 := x3.same g4
  refine ⟨b, l, ns, s, 3, rfl, x4, by decide, by decide, fun r ns5 s5 H5 f5 x5 r0 r1 => ?_⟩
  have e15 := f5.at (ne_of_none x.hb n1).symm (ne_of_none x.hl n1).symm (g4 _ _ (g3 _ _ (g2 _ _ e1)))
  have e25 := f5.at (ne_of_none x1.hb n2).symm (ne_of_none x1.hl n2).symm (g4 _ _ (g3 _ _ e2))
  have e35 := f5.at (ne_of_none x2.hb n3).symm (ne_of_none x2.hl n3).symm (g4 _ _ e3)
  have e45 := f5.at (ne_of_none x3.hb n4).symm (ne_of_none x3.hl n4).symm e4
  obtain ⟨t, ts, hat, ht, t0, t8, ti⟩ := things_at e15 e25 e35 r0 r1
  have tb : t ≠ b := by
    intro z
    subst z
    rw [x5.hb] at ht
    match ts, ht with
    | [], h => cases h
    | _ :: _, h => cases h
  have tl : t ≠ l := by
    intro z
    rcases (show t = p1 ∨ t = p2 ∨ t = p3 from by
      obtain rfl | rfl | rfl : r = 0 ∨ r = 1 ∨ r = 2 := by omega
      · exact Or.inl (V.ref.inj (Option.some.inj hat)).symm
      · exact Or.inr (Or.inl (V.ref.inj (Option.some.inj hat)).symm)
      · exact Or.inr (Or.inr (V.ref.inj (Option.some.inj hat)).symm)) with y | y | y
    · exact ne_of_none x.hl n1 (z.symm.trans y)
    · exact ne_of_none x1.hl n2 (z.symm.trans y)
    · exact ne_of_none x2.hl n3 (z.symm.trans y)
  have f05 : Fr b l H H5 := (Fr.of (((g1.trans g2).trans g3).trans g4)).trans f5
  refine l_ixL (by tm_at "hp") hat ?_
  tm_at "j"
  refine ⟨b, l, ns5, s5, _, rfl, x5, by omega, by omega, fun r2 ns6 s6 H6 f6 x6 r20 r21 => ?_⟩
  tm_at "j"
  refine ⟨b, l, ns6, s6, (1 + r2).toNat, t, ts, ?_, x6, by omega, by omega, by decide, tb, tl, f6.at tb tl ht, t0, t8, ti, fun v c ns7 s7 H7 f7 x7 hc ho hk hd => ?_⟩
  · rw [show (((1 + r2).toNat : Nat) : Int) = 1 + r2 by omega]
  have f07 := (f05.trans f6).trans f7
  tm_at "j"
  refine l_whileN (fun m σ' H' => ∃ v c, Same H7 H' ∧ σ' = [some (.ref b), some (.int (mx : Int)), some (.ref t), some v] ∧ CA H' v c ∧ c.ok ∧ c.looks ≤ mx ∧ c.deep ≤ 40 ∧ c.deep = m) c.deep ⟨v, c, Same.refl _, rfl, hc, ho, by omega, by omega, rfl⟩ ?_
  rintro m σ' H' ⟨v, c, g7, rfl, hc, ho, hk, hd, rfl⟩
  tm_at "j"
  refine ⟨v, c, rfl, hc, by omega, by decide, fun H8 g8 => ?_⟩
  tm_at "j"
  refine wb (fun e => ?_) (fun e => ?_)
  · have h10 := of_decide_eq_true e
    obtain ⟨p, xs, v1, c1, rfl, ep, ev1, hc1, hd1, hk1, ho1⟩ := down hc (by omega)
    tm_at "j"
    refine l_ixT (by tm_at "hp") ev1 ?_
    tm_at "j"
    exact ⟨c1.deep, hd1, v1, c1, by tm_at "hp", rfl, by tm_at "hp", ho1 ho, by omega, by omega, rfl⟩
  · have h10 := of_decide_eq_false e
    tm_at "j"
    have g78 := g7.trans g8
    exact q _ c ns7 s7 _ (f07.trans (Fr.of g78)) (x7.same g78) (hc.mono g8) ho hk (by omega)

/-! _law_dual, _law_named -/
def spDual (n : Nat) : Sp := fun vs H Q _ => ∃ v c, vs = [v] ∧ CA H v c ∧ c.deep < n ∧ ∀ v' H', Same H H' → CA H' v' (dualM c) → Q v' H'
theorem pure_dual {K : PySem.W.Frag} {w : World} {n : Nat} (vs : List V) (H : Hp) (Q : VK) (E : XK) (h : spDual (n + 1) vs H Q E) :
    t_law_dual K w (spDual n) (Ends.mk (fun _ H' => Q .non H') Q (fun _ _ => False) (fun _ _ => False)) (start ["_law_part_here"] vs) H := by
  obtain ⟨v, c, rfl, hc, hn, q⟩ := h
  unfold t_law_dual
  cases hc with
  | look e =>
    tm_at "j"
    rename_i p H1 np g1 e1
    exact q _ _ g1 (.not e1 (.look (g1 _ _ e)))
  | not e hc =>
    rename_i v1 c1
    have hn1 : c1.deep + 1 < n + 1 := hn
    tm_at "j"
    refine ⟨v1, c1, rfl, hc, by omega, fun v' H1 g1 hc1 => ?_⟩
    tm_at "j"
    rename_i p H2 np g2 e2
    exact q _ _ (g1.trans g2) (.not e2 (hc1.mono g2))
  | bin e h1 h2 =>
    rename_i a v1 v2 c1 c2
    have hn1 : max c1.deep c2.deep + 1 < n + 1 := hn
    have hw : decide (V.str (wd a) = V.str "not") = false := by cases a <;> decide +kernel
    have hl : decide (V.str (wd a) = V.str "look") = false := by cases a <;> decide +kernel
    tm_at "j"
    rw [hl]
    tm_at "j"
    rw [hw]
    tm_at "j"
    rename_i p1 H1 np1 g1 e1
    refine ⟨v1, c1, rfl, h1.mono g1, by omega, fun v3 H2 g2 hc1 => ?_⟩
    tm_at "j"
    refine ⟨v2, c2, rfl, (h2.mono g1).mono g2, by omega, fun v4 H3 g3 hc2 => ?_⟩
    tm_at "j"
    rename_i p4 H4 np4 g4 e4
    exact q _ _ (((g1.trans g2).trans g3).trans g4) (.bin e4 ((hc1.mono g3).mono g4) (hc2.mono g4))
def spNamed (K : PySem.W.Frag) (n : Nat) : Sp := fun vs H Q _ => ∃ v c p, ∃ nm : List Nat, vs = [v, .ref p] ∧ CA H v c ∧ c.ok ∧ SqL K H p (nm.map vn) ∧ nm.length = 8 ∧ c.deep < n ∧ ∀ v' H', Same H H' → CA H' v' (mapC (fun i => nm.getD i 0) c) → Q v' H'
theorem pure_named {K : PySem.W.Frag} {w : World} {n : Nat} (vs : List V) (H : Hp) (Q : VK) (E : XK) (h : spNamed K (n + 1) vs H Q E) :
    t_law_named K w (spNamed K n) (Ends.mk (fun _ H' => Q .non H') Q (fun _ _ => False) (fun _ _ => False)) (start ["_law_part_here", "_law_names", "_law_one"] vs) H := by
  obtain ⟨v, c, p, nm, rfl, hc, ho, hp, hl8, hn, q⟩ := h
  unfold t_law_named
  cases hc with
  | look e =>
    rename_i i
    have hi : i < 8 := ho
    tm_at "j"
    refine l_ixL hp (at_map (d := 0) (show i < nm.length by omega)) ?_
    tm_at "j"
    rename_i p1 H1 np g1 e1
    exact q _ _ g1 (.look e1)
  | not e hc =>
    rename_i v1 c1
    have hn1 : c1.deep + 1 < n + 1 := hn
    tm_at "j"
    rename_i p1 H1 n1 g1 e1 p2 H2 n2 g2 e2
    refine lcT_rel (xs := [v1]) (fun _ y H' => CA H' y (mapC (fun i => nm.getD i 0) c1)) (fun _ _ _ _ g h => h.tups g) (fun _ => rfl) (by tm_at "hp") (by tm_at "dec") ?_ ?_
    · intro i x H' Q' hx g k
      rcases i with _ | i
      · obtain rfl : v1 = x := Option.some.inj hx
        tm_at "j"
        exact ⟨v1, c1, p, nm, rfl, by tm_at "hp", ho, by tm_at "hp", hl8, by omega, k⟩
      · cases hx
    · intro D ys H3 nD g3 e3 hlen hr
      obtain ⟨y, rfl⟩ : ∃ y, ys = [y] := by
        match ys, hlen with
        | [y], _ => exact ⟨y, rfl⟩
      have hy := hr 0 y rfl
      tm_at "j"
      rename_i p4 H4 n4 g4 e4
      refine l_catT1 (by tm_at "hp") (by tm_at "hp") (by intro z; cases z) (by intro z; cases z) (by show 1 + 1 ≤ 100000; decide) fun l H5 n5 g5 e5 => ?_
      exact q _ _ ((((g1.trans g2).trans g3).trans g4).trans g5) (.not e5 ((hy.mono g4).mono g5))
  | bin e h1 h2 =>
    rename_i a v1 v2 c1 c2
    have hn1 : max c1.deep c2.deep + 1 < n + 1 := hn
    have hl : decide (V.str (wd a) = V.str "look") = false := by cases a <;> decide +kernel
    tm_at "j"
    rw [hl]
    tm_at "j"
    rename_i p1 H1 n1 g1 e1 p2 H2 n2 g2 e2
    refine lcT_rel (xs := [v1, v2]) (fun i y H' => CA H' y (mapC (fun i => nm.getD i 0) (if i = 0 then c1 else c2))) (fun _ _ _ _ g h => h.tups g) (fun _ => rfl) (by tm_at "hp") (by tm_at "dec") ?_ ?_
    · intro i x H' Q' hx g k
      rcases i with _ | _ | i
      · obtain rfl : v1 = x := Option.some.inj hx
        tm_at "j"
        exact ⟨v1, c1, p, nm, rfl, by tm_at "hp", ho.1, by tm_at "hp", hl8, by omega, k⟩
      · obtain rfl : v2 = x := Option.some.inj hx
        tm_at "j"
        exact ⟨v2, c2, p, nm, rfl, by tm_at "hp", ho.2, by tm_at "hp", hl8, by omega, k⟩
      · cases hx
    · intro D ys H3 nD g3 e3 hlen hr
      obtain ⟨y, z, rfl⟩ : ∃ y z, ys = [y, z] := by
        match ys, hlen with
        | [y, z], _ => exact ⟨y, z, rfl⟩
      have hy := hr 0 y rfl
      have hz := hr 1 z rfl
      tm_at "j"
      rename_i p4 H4 n4 g4 e4
      refine l_catT1 (by tm_at "hp") (by tm_at "hp") (by intro z; cases z) (by intro z; cases z) (by show 1 + 2 ≤ 100000; decide) fun l H5 n5 g5 e5 => ?_
      exact q _ _ ((((g1.trans g2).trans g3).trans g4).trans g5) (.bin e5 ((hy.mono g4).mono g5) ((hz.mono g4).mono g5))

/-! _law_worths -/
def spWts : Sp := fun vs H Q _ => ∃ n : Nat, vs = [.int (n : Int)] ∧ ∀ v H', Same H H' → WA H' v (wts n) → Q v H'
theorem bit_eq (n d : Nat) : (n : Int) / (d : Int) % 2 = bi (n / d % 2 == 1) := by
  have e : (n : Int) / (d : Int) % 2 = ((n / d % 2 : Nat) : Int) := by rw [Int.natCast_emod, Int.natCast_ediv]; rfl
  rw [e]
  have h : n / d % 2 < 2 := Nat.mod_lt _ (by decide)
  obtain h0 | h0 : n / d % 2 = 0 ∨ n / d % 2 = 1 := by omega
  · rw [h0]; rfl
  · rw [h0]; rfl
theorem pure_wts {K : PySem.W.Frag} {w : World} (vs : List V) (H : Hp) (Q : VK) (E : XK) (h : spWts vs H Q E) :
    t_law_worths K w (Ends.mk (fun _ H' => Q .non H') Q (fun _ _ => False) (fun _ _ => False)) (start ["_law_number", "_law_k"] vs) H := by
  obtain ⟨n, rfl, q⟩ := h
  unfold t_law_worths
  tm_at "j"
  refine lcR (n := 7) (ys := [64, 32, 16, 8, 4, 2, 1].map fun (d : Nat) => V.int ((n : Int) / (d : Int) % 2)) (fun _ => rfl) (by decide) ⟨rfl, ?_⟩ ?_
  · intro i x y H' Q' hx hy g k
    rcases i with _ | _ | _ | _ | _ | _ | _ | i
    case _ => (obtain rfl : V.int (0 + 0) = x := Option.some.inj hx); (obtain rfl := Option.some.inj hy); tm_at "j"; exact k _ (by tm_at "hp")
    case _ => (obtain rfl : V.int (0 + 1) = x := Option.some.inj hx); (obtain rfl := Option.some.inj hy); tm_at "j"; exact k _ (by tm_at "hp")
    case _ => (obtain rfl : V.int (0 + 2) = x := Option.some.inj hx); (obtain rfl := Option.some.inj hy); tm_at "j"; exact k _ (by tm_at "hp")
    case _ => (obtain rfl : V.int (0 + 3) = x := Option.some.inj hx); (obtain rfl := Option.some.inj hy); tm_at "j"; exact k _ (by tm_at "hp")
    case _ => (obtain rfl : V.int (0 + 4) = x := Option.some.inj hx); (obtain rfl := Option.some.inj hy); tm_at "j"; exact k _ (by tm_at "hp")
    case _ => (obtain rfl : V.int (0 + 5) = x := Option.some.inj hx); (obtain rfl := Option.some.inj hy); tm_at "j"; exact k _ (by tm_at "hp")
    case _ => (obtain rfl : V.int (0 + 6) = x := Option.some.inj hx); (obtain rfl := Option.some.inj hy); tm_at "j"; exact k _ (by tm_at "hp")
    case _ => cases hx
  · intro D H2 hD g e2
    tm_at "j"
    refine q _ _ (by tm_at "hp") ⟨_, rfl, ?_, rfl⟩
    have e := bit_eq n
    have e3 : ([V.int ((n : Int) / 128 % 2)] ++ [64, 32, 16, 8, 4, 2, 1].map fun (d : Nat) => V.int ((n : Int) / (d : Int) % 2)) = (wts n).map vb := by
      show [V.int ((n : Int) / 128 % 2), V.int ((n : Int) / 64 % 2), V.int ((n : Int) / 32 % 2), V.int ((n : Int) / 16 % 2), V.int ((n : Int) / 8 % 2), V.int ((n : Int) / 4 % 2), V.int ((n : Int) / 2 % 2), V.int ((n : Int) / 1 % 2)] =
        [vb (n / 128 % 2 == 1), vb (n / 64 % 2 == 1), vb (n / 32 % 2 == 1), vb (n / 16 % 2 == 1), vb (n / 8 % 2 == 1), vb (n / 4 % 2 == 1), vb (n / 2 % 2 == 1), vb (n / 1 % 2 == 1)]
      unfold vb
      rw [← e 128, ← e 64, ← e 32, ← e 16, ← e 8, ← e 4, ← e 2, ← e 1]
      rfl
    rw [← e3]
    tm_at "hp"

/-! _law_begun -/
def spBegun (K : PySem.W.Frag) : Sp := fun vs H Q _ => ∃ a ns, vs = [.ref a] ∧ SqL K H a (ns.map V.int) ∧ ns.length ≤ 63 ∧ ∀ b l s H', Same H H' → Bx H' b l ns s → H b = none → H l = none → Q (.ref b) H'
theorem pure_begun {K : PySem.W.Frag} {w : World} (vs : List V) (H : Hp) (Q : VK) (E : XK) (h : spBegun K vs H Q E) :
    t_law_begun K w (Ends.mk (fun _ H' => Q .non H') Q (fun _ _ => False) (fun _ _ => False)) (start ["_law_script", "_law_stirred", "_law_cell"] vs) H := by
  obtain ⟨a, ns, rfl, ha, n63, q⟩ := h
  unfold t_law_begun
  tm_at "j"
  refine forL (fun i σ' H' => H' = H ∧ ∃ s o, σ' = [some (.ref a), some (.int s), o] ∧ 0 ≤ s ∧ s < 2147483647) ⟨rfl, 0, none, rfl, by decide, by decide⟩ ha ?_ ?_ ?_
  · rintro i σ' H' hi ⟨rfl, _⟩
    exact ha
  · rintro i x σ' H' hx ⟨rfl, s, o, rfl, s0, s1⟩
    rw [List.getElem?_map] at hx
    cases hn : ns[i]? with
    | none => rw [hn] at hx; cases hx
    | some n =>
      rw [hn] at hx
      obtain rfl : V.int n = x := Option.some.inj hx
      tm_at "j"
      exact ⟨rfl, _, _, rfl, Int.emod_nonneg _ (by decide), Int.emod_lt_of_pos _ (by decide)⟩
  · rintro σ' H' ⟨rfl, s, o, rfl, s0, s1⟩
    tm_at "j"
    have hk : (-(2 ^ 64) < (if decide (2 < (((ns.map V.int).length : Nat) : Int)) = true then (1 : Int) else 0)) ∧ (if decide (2 < (((ns.map V.int).length : Nat) : Int)) = true then (1 : Int) else 0) < 2 ^ 64 ∧ 0 ≤ s * (if decide (2 < (((ns.map V.int).length : Nat) : Int)) = true then (1 : Int) else 0) ∧ s * (if decide (2 < (((ns.map V.int).length : Nat) : Int)) = true then (1 : Int) else 0) < 2147483647 := by
      split
      · exact ⟨by decide, by decide, by omega, by omega⟩
      · exact ⟨by decide, by decide, by omega, by omega⟩
    refine l_I (Or.inr ⟨hk.1, hk.2.1⟩) ?_
    tm_at "j"
    rename_i l H1 n1 g1 e1 b H2 n2 g2 e2
    exact q b l _ _ (g1.trans g2) ⟨fun z => ne_of_none e1 n2 z.symm, e2, g2 _ _ e1, hk.2.2.1, hk.2.2.2, n63⟩ (g1.free n2) n1

/-! k12: the law itself -/
section
variable {K : PySem.W.Frag} {w : World}
abbrev SC (K : PySem.W.Frag) (w : World) (t : (K : PySem.W.Frag) → (w : World) → Sp → Sp → Sp → Sp → Sp → Sp → Sp → Sp → Sp → Sp → Sp → Sp → Sp → Sp → TS) : TS := t K w (spBegun K) spCond (spDeep 60) (spDual 30) spAlikeP spLike spTake (spNamed K 30) spLooksP spCoded spJumpsP spWts (spRunP K) spMeant
/-- down to depth 8 -/
theorem k12_1 {H : Hp} {v : V} {c : Cond} {o0 o1 o2 o4 o5 o6 o7 o8 o9 o10 o11 o12 o13 o14 o15 o16 : Option V} {nx bk ct : St → Hp → Prop} {rt : VK} (hc : CA H v c) (ho : c.ok) (hd : c.deep ≤ 40) (hk : c.looks ≤ 12)
    (q : ∀ v' c' H', Same H H' → CA H' v' c' → c'.ok → c'.looks ≤ 12 → c'.deep ≤ 8 → nx [o0, o1, o2, some v', o4, o5, o6, o7, o8, o9, o10, o11, o12, o13, o14, o15, o16] H') :
    SC K w t_law_1 (Ends.mk nx rt bk ct) [o0, o1, o2, some v, o4, o5, o6, o7, o8, o9, o10, o11, o12, o13, o14, o15, o16] H := by
  show t_law_1 _ _ _ _ _ _ _ _ _ _ _ _ _ _ _ _ _ _ _
  unfold t_law_1
  refine l_whileN (fun m σ' H' => ∃ v c, Same H H' ∧ σ' = [o0, o1, o2, some v, o4, o5, o6, o7, o8, o9, o10, o11, o12, o13, o14, o15, o16] ∧ CA H' v c ∧ c.ok ∧ c.looks ≤ 12 ∧ c.deep ≤ 40 ∧ c.deep = m) c.deep ⟨v, c, Same.refl _, rfl, hc, ho, hk, hd, rfl⟩ ?_
  rintro m σ' H' ⟨v, c, g, rfl, hc, ho, hk, hd, rfl⟩
  tm_at "j"
  refine ⟨v, c, rfl, hc, by omega, by decide, fun H8 g8 => ?_⟩
  tm_at "j"
  refine wb (fun e => ?_) (fun e => ?_)
  · have h10 := of_decide_eq_true e
    obtain ⟨p, xs, v1, c1, rfl, ep, ev1, hc1, hd1, hk1, ho1⟩ := down hc (by omega)
    tm_at "j"
    refine l_ixT (by tm_at "hp") ev1 ?_
    tm_at "j"
    exact ⟨c1.deep, hd1, v1, c1, by tm_at "hp", rfl, by tm_at "hp", ho1 ho, by omega, by omega, rfl⟩
  · have h10 := of_decide_eq_false e
    exact q _ c _ (g.trans g8) (hc.mono g8) ho hk (by omega)
/-- the same by other numbers, eight times -/
theorem k12_2 {H : Hp} {b l lr p : Addr} {ns : List Int} {s : Int} {nm : List Nat} {f : Bool} {v : V} {c : Cond} {o0 o2 o3 o4 o5 o7 o9 o10 o13 o14 o15 o16 : Option V} {nx bk ct : St → Hp → Prop} {rt : VK} (x : Bx H b l ns s) (hv : CA H v (mapC (fun i => nm.getD i 0) c)) (ho : c.ok) (hd : c.deep ≤ 10) (hk : c.looks ≤ 12)
    (hp : nm.Perm (List.range 8)) (en : H p = some (.lst (nm.map vn))) (hr : RT H lr (codeM c f)) (pb : p ≠ b) (pl : p ≠ l) (rb : lr ≠ b) (rl : lr ≠ l)
    (q : ∀ o7 o13 o14 o15 o16 ns s H', Fr b l H H' → Bx H' b l ns s → nx [o0, some (.ref b), o2, o3, o4, o5, some (.ref p), o7, some v, o9, o10, some (vb f), some (.ref lr), o13, o14, o15, o16] H') :
    SC K w t_law_2 (Ends.mk nx rt bk ct) [o0, some (.ref b), o2, o3, o4, o5, some (.ref p), o7, some v, o9, o10, some (vb f), some (.ref lr), o13, o14, o15, o16] H := by
  show t_law_2 _ _ _ _ _ _ _ _ _ _ _ _ _ _ _ _ _ _ _
  unfold t_law_2
  have hl8 : nm.length = 8 := hp.length_eq
  tm_at "j"
  refine forR (n := 8) (by decide) (fun i σ' H' => ∃ o7 o13 o14 o15 o16 ns s, σ' = [o0, some (.ref b), o2, o3, o4, o5, some (.ref p), o7, some v, o9, o10, some (vb f), some (.ref lr), o13, o14, o15, o16] ∧ Fr b l H H' ∧ Bx H' b l ns s) ⟨_, _, _, _, _, _, _, rfl, Fr.refl _, x⟩ ?_ ?_
  · rintro i σ' H' hi ⟨o7, o13, o14, o15, o16, ns', s', rfl, f0, x0⟩
    tm_at "j"
    refine ⟨b, l, ns', s', 256, rfl, x0, by decide, by decide, fun r ns1 s1 H1 f1 x1 r0 r1 => ?_⟩
    obtain ⟨k, rfl⟩ : ∃ k : Nat, r = (k : Int) := ⟨r.toNat, by omega⟩
    have f01 := f0.trans f1
    have tp := x.tups f01
    have hv1 := hv.tups tp
    have en1 := f01.at pb pl en
    have hr1 := hr.fr f01 tp rb rl
    tm_at "j"
    refine ⟨k, rfl, fun u H2 g2 hw => ?_⟩
    obtain ⟨a, rfl, ea, ha8⟩ := id hw
    have en2 := g2 _ _ en1
    tm_at "j"
    refine lcRm (n := 8) (fun t => vb ((wts k).getD (nm.getD t 0) false)) (fun _ => rfl) (by decide) ?_ ?_
    · intro t H3 Q3 ht g3 kq
      tm_at "j"
      refine l_ixL (SqL.of (g3 _ _ en2)) (at_map (d := 0) (by omega)) ?_
      refine l_ixT (SqT.of (g3 _ _ ea)) (at_map (d := false) ?_) ?_
      · have := nm_lt hp ht
        omega
      exact kq _ (Same.refl _)
    intro D H3 nD g3 eD
    rw [pw_range hl8] at eD
    tm_at "j"
    rename_i a4 H4 n4 g4 e4
    have g24 := g3.trans g4
    have hw4 : WA H4 (.ref a4) (pw nm (wts k)) := ⟨a4, rfl, e4, by unfold pw; rw [List.length_map]; exact hl8⟩
    obtain ⟨j, hj, hrun⟩ := run_code c f (pw nm (wts k)) ho (by omega)
    have hr4 := (hr1.mono g2).mono g24
    refine ⟨lr, .ref a4, _, _, rfl, hr4.ra, codeM_good c f ho (by omega), hw4, fun v5 H5 g5 t5 => ?_⟩
    rw [hrun] at t5
    obtain ⟨p5, l5, rfl, n5, e5, e5'⟩ := t5
    have e5 : H5 p5 = some (.tup [vb (ev (pw nm (wts k)) c).1, .ref l5, vn j]) := e5
    have e5' : H5 l5 = some (.lst ((ev (pw nm (wts k)) c).2.map vn)) := e5'
    have en5 := g5 _ _ (g24 _ _ en2)
    have hlen := ev_len (pw nm (wts k)) c
    tm_at "j"
    refine lcLm (fun t => vn (nm.getD t 0)) (fun _ => rfl) (SqL.of e5') (by omega) ?_ ?_
    · intro t H6 Q6 ht g6 kq
      have ht8 := ev_lt _ c ho t ht
      tm_at "j"
      refine l_ixL (SqL.of (g6 _ _ en5)) (at_map (d := 0) (by omega)) ?_
      exact kq _ (Same.refl _)
    intro D6 H6 nD6 g6 eD6
    have em : (ev (pw nm (wts k)) c).2.map (fun t => vn (nm.getD t 0)) = ((ev (pw nm (wts k)) c).2.map fun t => nm.getD t 0).map vn := by rw [List.map_map]; rfl
    rw [em] at eD6
    tm_at "j"
    rename_i p7 H7 n7 g7 e7
    have g57 := g6.trans g7
    have g27 := g24.trans (g5.trans g57)
    have ed : ev (wts k) (mapC (fun i => nm.getD i 0) c) = ((ev (pw nm (wts k)) c).1, (ev (pw nm (wts k)) c).2.map fun t => nm.getD t 0) := ev_map (fun i hi => pw_get (by omega)) c ho
    have hmo : (mapC (fun i => nm.getD i 0) c).ok := map_ok (fun i hi => nm_lt hp hi) c ho
    have hmd : (mapC (fun i => nm.getD i 0) c).deep ≤ 10 := by rw [map_deep]; exact hd
    have hmk : (mapC (fun i => nm.getD i 0) c).looks ≤ 12 := by rw [map_looks]; exact hk
    have hv7 := ((hv1.mono g2).mono g24).mono (g5.trans g57)
    refine ⟨v, _, f, rfl, hv7, hmo, hmd, hmk, fun v8 H8 g8 t8 => ?_⟩
    obtain ⟨l8, rfl, n8, r8⟩ := t8.rt
    tm_at "j"
    refine ⟨l8, .ref a, _, wts k, rfl, r8.ra, codeM_good _ f hmo (by omega), (hw.mono g27).mono g8, fun v9 H9 g9 t9 => ?_⟩
    rw [code_map, runC_map (us := pw nm (wts k)) (fun i hi => pw_get (by omega)) (codeM_ok c f ho (by omega)), hrun] at t9
    have g79 := g8.trans g9
    tm_at "j"
    refine l_neD (d := rTold ((ev (pw nm (wts k)) c).1, (ev (pw nm (wts k)) c).2.map fun t => nm.getD t 0, j)) (dp_rtold t9) (dp_rtold (rtold_mk (H := H5) (x := ((ev (pw nm (wts k)) c).1, (ev (pw nm (wts k)) c).2.map fun t => nm.getD t 0, j)) (g79 _ _ e7) (g79 _ _ (g7 _ _ eD6)) nD6)) (shaped_rtold _) (shaped_rtold _) ?_
    rw [SeqAt.eqv_refl _ (lay_rtold _)]
    tm_at "j"
    refine ⟨v, .ref a, _, wts k, rfl, hv7.mono g79, hmo, hmd, hmk, (hw.mono g27).mono g79, fun v10 H10 g10 t10 => ?_⟩
    rw [ed] at t10
    tm_at "j"
    rename_i p11 H11 n11 g11 e11
    have e11 : H11 p11 = some (.tup [vb (ev (pw nm (wts k)) c).1, .ref D6]) := e11
    have g711 := (g79.trans g10).trans g11
    refine l_neD (d := dTold ((ev (pw nm (wts k)) c).1, (ev (pw nm (wts k)) c).2.map fun t => nm.getD t 0)) ((Told.tt t10).mono g11).dp (dp_told (told_mk (H := H5) (x := ((ev (pw nm (wts k)) c).1, (ev (pw nm (wts k)) c).2.map fun t => nm.getD t 0)) e11 (g711 _ _ (g7 _ _ eD6)) nD6)) (shaped_told _) (shaped_told _) ?_
    rw [SeqAt.eqv_refl _ (lay_told _)]
    tm_at "j"
    have gs : Same H1 H11 := g2.trans (g27.trans g711)
    exact ⟨_, _, _, _, _, _, _, rfl, f01.trans (Fr.of gs), x1.same gs⟩
  · rintro σ' H' ⟨o7, o13, o14, o15, o16, ns', s', rfl, f0, x0⟩
    exact q _ _ _ _ _ _ _ _ f0 x0
theorem take_code (c : Cond) (f : Bool) : ((codeM c f).map rowD).take c.looks = (lookRows c f).map rowD := by
  rw [code_split, List.map_append]
  have h : ((lookRows c f).map rowD).length = c.looks := by rw [List.length_map, lookRows_len]
  conv => lhs; rw [← h]
  exact List.take_left ..
theorem sl_code {H : Hp} {p : Addr} {vs : List V} {c : Cond} {f : Bool} (t : TDA H vs ((codeM c f).map rowD)) (e : H p = some (.lst (cutV vs none (some (-2))))) : Dp K H (.ref p) (.list ((lookRows c f).map rowD)) := by
  have hl := t.len
  rw [List.length_map, codeM_len] at hl
  rw [cut_2 hl] at e
  have t2 := t.take c.looks
  rw [take_code] at t2
  exact .lst (SqL.of e) t2.dp
/-- both first ends -/
theorem k12_3 {H : Hp} {b l p : Addr} {ns : List Int} {s : Int} {nm ch th : List Nat} {v u v8 v9 v10 : V} {c : Cond} {o0 o2 o5 o7 o11 o12 o13 o14 o15 o16 : Option V} {nx bk ct : St → Hp → Prop} {rt : VK} (x : Bx H b l ns s) (hc : CA H v c) (hu : CA H u (.not (dualM c))) (hv : CA H v8 (mapC (fun i => nm.getD i 0) c)) (ho : c.ok) (hd : c.deep ≤ 8) (hk : c.looks ≤ 12)
    (hch : ChA H v9 ch) (hth : ChA H v10 th) (hct : ∀ t, t < 8 → th.getD (nm.getD t 0) 0 = ch.getD t 0)
    (hp : nm.Perm (List.range 8)) (en : H p = some (.lst (nm.map vn))) (pb : p ≠ b) (pl : p ≠ l)
    (q : ∀ o7 o11 o12 o13 o14 o15 o16 ns s H', Fr b l H H' → Bx H' b l ns s → nx [o0, some (.ref b), o2, some v, some u, o5, some (.ref p), o7, some v8, some v9, some v10, o11, o12, o13, o14, o15, o16] H') :
    SC K w t_law_3 (Ends.mk nx rt bk ct) [o0, some (.ref b), o2, some v, some u, o5, some (.ref p), o7, some v8, some v9, some v10, o11, o12, o13, o14, o15, o16] H := by
  show t_law_3 _ _ _ _ _ _ _ _ _ _ _ _ _ _ _ _ _ _ _
  unfold t_law_3
  have hl8 : nm.length = 8 := hp.length_eq
  tm_at "j"
  refine forR (n := 2) (by decide) (fun i σ' H' => ∃ o7 o11 o12 o13 o14 o15 o16 ns s, σ' = [o0, some (.ref b), o2, some v, some u, o5, some (.ref p), o7, some v8, some v9, some v10, o11, o12, o13, o14, o15, o16] ∧ Fr b l H H' ∧ Bx H' b l ns s) ⟨_, _, _, _, _, _, _, _, _, rfl, Fr.refl _, x⟩ ?_ ?_
  · rintro i σ' H' hi ⟨o7, o11, o12, o13, o14, o15, o16, ns', s', rfl, f0, x0⟩
    rw [Int.zero_add]
    obtain ⟨f, hf⟩ : ∃ f : Bool, (i : Int) = bi f := by
      obtain rfl | rfl : i = 0 ∨ i = 1 := by omega
      · exact ⟨false, rfl⟩
      · exact ⟨true, rfl⟩
    rw [hf]
    have tp := x.tups f0
    have hc0 := hc.tups tp
    have hu0 := hu.tups tp
    have hv0 := hv.tups tp
    have hch0 := hch.tups tp
    have hth0 := hth.tups tp
    have en0 := f0.at pb pl en
    have hmo : (mapC (fun i => nm.getD i 0) c).ok := map_ok (fun i hi => nm_lt hp hi) c ho
    have hmd : (mapC (fun i => nm.getD i 0) c).deep ≤ 10 := by rw [map_deep]; omega
    have hmk : (mapC (fun i => nm.getD i 0) c).looks ≤ 12 := by rw [map_looks]; exact hk
    have hdd := dual_deep c
    have hdl := dual_looks c
    tm_at "j"
    refine ⟨v, c, f, rfl, hc0, ho, by omega, hk, fun v1 H1 g1 t1 => ?_⟩
    obtain ⟨lr, rfl, nlr, r1⟩ := t1.rt
    tm_at "j"
    rename_i p2 H2 n2 g2 e2
    refine ⟨.ref p2, .not c, !f, by cases f <;> rfl, .not e2 ((hc0.mono g1).mono g2), ho, by show c.deep + 1 ≤ 10; omega, hk, fun v3 H3 g3 t3 => ?_⟩
    obtain ⟨l3, rfl, nl3, r3⟩ := t3.rt
    obtain ⟨vs3, e3, d3⟩ := r3
    obtain ⟨vs1, e1, d1⟩ := (r1.mono g2).mono g3
    tm_at "j"
    rename_i p4 H4 n4 g4 e4 p5 H5 n5 g5 e5
    have g35 := g4.trans g5
    have D4 : Dp K H5 (.ref p4) (.list ((lookRows (.not c) (!f)).map rowD)) := sl_code (c := .not c) (d3.mono g35) (g5 _ _ e4)
    have D5 : Dp K H5 (.ref p5) (.list ((lookRows c f).map rowD)) := sl_code (d1.mono g35) e5
    rw [look_not] at D4
    refine l_neD D4 D5 (shaped_rows _) (shaped_rows _) ?_
    rw [SeqAt.eqv_refl _ (show (PyData.list _).canLay0 = true from lay_rows _)]
    tm_at "j"
    refine ⟨u, .not (dualM c), f, rfl, (((((hu0.mono g1).mono g2).mono g3).mono g4).mono g5), dual_ok c ho, by show (dualM c).deep + 1 ≤ 10; omega, by show (dualM c).looks ≤ 12; omega, fun v6 H6 g6 t6 => ?_⟩
    rw [code_contrary] at t6
    obtain ⟨l6, rfl, nl6, vs6, e6, d6⟩ := t6.rt
    have g15 : Same H1 H5 := ((g2.trans g3).trans g35)
    have e16 := g6 _ _ (g35 _ _ e1)
    have d16 := (d1.mono g35).mono g6
    tm_at "j"
    refine l_neD (dp_rows e6 d6) (dp_rows e16 d16) (shaped_rows _) (shaped_rows _) ?_
    rw [SeqAt.eqv_refl _ (show (PyData.list _).canLay0 = true from lay_rows _)]
    tm_at "j"
    have g06 : Same H' H6 := (g1.trans g15).trans g6
    refine ⟨v, v9, c, ch, f, rfl, hc0.mono g06, ho, by omega, hk, hch0.mono g06, fun H7 g7 => ?_⟩
    tm_at "j"
    have g07 := g06.trans g7
    refine ⟨v8, v10, _, th, f, rfl, hv0.mono g07, hmo, hmd, hmk, hth0.mono g07, fun H8 g8 => ?_⟩
    rw [jumps_turn hp hct f ho (by omega)]
    tm_at "j"
    rw [decide_eq_true rfl]
    tm_at "j"
    have g08 := g07.trans g8
    have rb : lr ≠ b := (ne_of_none x0.hb nlr).symm
    have rl : lr ≠ l := (ne_of_none x0.hl nlr).symm
    refine k12_2 (f := f) (x0.same g08) (hv0.mono g08) ho (by omega) hk hp (g08 _ _ en0) ⟨vs1, g8 _ _ (g7 _ _ e16), (d16.mono g7).mono g8⟩ pb pl rb rl fun o7 o13 o14 o15 o16 ns9 s9 H9 f9 x9 => ?_
    exact ⟨_, _, _, _, _, _, _, _, _, rfl, (f0.trans (Fr.of g08)).trans f9, x9⟩
  · rintro σ' H' ⟨o7, o11, o12, o13, o14, o15, o16, ns', s', rfl, f0, x0⟩
    exact q _ _ _ _ _ _ _ _ _ _ f0 x0
theorem ev_not2 (ws : List Bool) (c : Cond) : ev ws c = ev ws (.not (.not c)) := by
  show _ = (!(!(ev ws c).1), (ev ws c).2)
  rw [Bool.not_not]
theorem l_index {H : Hp} {p : Addr} {nm : List Nat} {t : Nat} {Q : VK} (hp : nm.Perm (List.range 8)) (ht : t < 8) (h : SqL K H p (nm.map vn)) (q : Q (vn (nm.idxOf t)) H) : rIndex K (.ref p) [.int (t : Int)] H Q := by
  have hl8 : nm.length = 8 := hp.length_eq
  have hi := idx_lt hp ht
  have at_ : ∀ m, m < 8 → (nm.map vn)[m]? = some (vn (nm.getD m 0)) := fun m hm => by
    rw [List.getElem?_map, List.getD_eq_getElem?_getD, List.getElem?_eq_getElem (show m < nm.length by omega)]
    rfl
  refine ⟨p, nm.map vn, .int (t : Int), nm.idxOf t, vn t, rfl, rfl, h, rfl, ?_, ?_, ?_, fun m z hm hz => ?_, q⟩
  · rw [List.all_map, List.all_eq_true]
    exact fun _ _ => rfl
  · rw [at_ _ hi, nm_idx hp ht]
  · show ((t : Int) == (t : Int)) = true
    exact beq_self_eq_true _
  · rw [at_ m (by omega)] at hz
    obtain rfl := Option.some.inj hz
    show (((nm.getD m 0 : Nat) : Int) == (t : Int)) = false
    have := nm_ne hp ht hm
    rw [beq_eq_false_iff_ne]
    omega
def theirs (nm ch : List Nat) : List Nat := (List.range 8).map fun t => ch.getD (nm.idxOf t) 0
theorem theirs_get {nm ch : List Nat} (hp : nm.Perm (List.range 8)) (t : Nat) (ht : t < 8) : (theirs nm ch).getD (nm.getD t 0) 0 = ch.getD t 0 := by
  unfold theirs
  rw [List.getD_eq_getElem?_getD, List.getElem?_map, List.getElem?_range (nm_lt hp ht)]
  show ch.getD (nm.idxOf (nm.getD t 0)) 0 = _
  rw [idx_nm hp ht]
theorem getD_le {ch : List Nat} (h : ∀ x ∈ ch, x ≤ 100) (i : Nat) : ch.getD i 0 ≤ 100 := by
  rw [List.getD_eq_getElem?_getD]
  cases e : ch[i]? with
  | none => exact Nat.zero_le _
  | some x => exact h x (List.mem_of_getElem? e)
/-- the names, drawn from what is left -/
def NmJ (b l e : Addr) (H : Hp) (i : Nat) (ys : List V) (H' : Hp) : Prop := ∃ (done left : List Nat) (ns : List Int) (s : Int), ys = done.map vn ∧ done.length = i ∧ (done ++ left).Perm (List.range 8) ∧ H' e = some (.lst (left.map vn)) ∧ Bx H' b l ns s ∧ Tups H H'
theorem pure_main (vs : List V) (H : Hp) (Q : VK) (E : XK) (h : spLaw K vs H Q E) :
    SC K w t_law (Ends.mk (fun _ H' => Q .non H') Q (fun _ _ => False) (fun _ _ => False)) (start ["_law_script", "_law_box", "_law_turn", "_law_part_here", "_law_contrary", "_law_left", "_law_names", "_law_thing", "_law_other", "_law_chances", "_law_theirs", "_law_first", "_law_rows", "_law_again", "_law_worths_here", "_law_told", "_law_named_here"] vs) H := by
  obtain ⟨a, ns, rfl, ha, n63, q⟩ := h
  show t_law _ _ _ _ _ _ _ _ _ _ _ _ _ _ _ _ _ _ _
  unfold t_law
  tm_at "j"
  refine ⟨a, ns, rfl, ha, n63, fun b l s H1 g1 x1 nb nl => ?_⟩
  tm_at "j"
  unfold t_law_4
  tm_at "j"
  refine forR (n := 2) (by decide) (fun i σ' H' => ∃ o2 o3 o4 o5 o6 o7 o8 o9 o10 o11 o12 o13 o14 o15 o16 ns s, σ' = [some (.ref a), some (.ref b), o2, o3, o4, o5, o6, o7, o8, o9, o10, o11, o12, o13, o14, o15, o16] ∧ Bx H' b l ns s) ⟨_, _, _, _, _, _, _, _, _, _, _, _, _, _, _, _, _, rfl, x1⟩ ?_ ?_
  · rintro i σ' H' hi ⟨o2, o3, o4, o5, o6, o7, o8, o9, o10, o11, o12, o13, o14, o15, o16, ns, s, rfl, x⟩
    rw [Int.zero_add]
    tm_at "j"
    refine ⟨b, l, ns, s, 10, rfl, x, by decide, by decide, fun v c ns2 s2 H2 f2 x2 hc ho hk hd => ?_⟩
    tm_at "j"
    refine k12_1 hc ho (by omega) (by omega) fun v c H3 g3 hc ho hk hd => ?_
    have x3 := x2.same g3
    have hdd := dual_deep c
    have hdl := dual_looks c
    have gc : Good c := ⟨ho, by omega, hk⟩
    tm_at "j"
    refine ⟨v, c, rfl, hc, by omega, fun u H4 g4 hu => ?_⟩
    tm_at "j"
    rename_i p5 H5 n5 g5 e5
    have hcon : CA H5 (.ref p5) (.not (dualM c)) := .not e5 (hu.mono g5)
    have hc5 := (hc.mono g4).mono g5
    have gcon : Good (.not (dualM c)) := ⟨dual_ok c ho, by show (dualM c).deep + 1 ≤ 10; omega, by show (dualM c).looks ≤ 12; omega⟩
    refine ⟨v, .ref p5, c, .not (dualM c), rfl, hc5, hcon, gc, gcon, fun H6 g6 => ?_⟩
    rw [part_same fun ws => (ev_contrary ws c).symm]
    tm_at "j"
    rename_i p7 H7 n7 g7 e7 p8 H8 n8 g8 e8
    have hc8 := ((hc5.mono g6).mono g7).mono g8
    refine ⟨v, .ref p8, c, .not (.not c), rfl, hc8, .not e8 (.not (g8 _ _ e7) hc8), gc, ⟨ho, by show c.deep + 1 + 1 ≤ 10; omega, hk⟩, fun H9 g9 => ?_⟩
    rw [part_same fun ws => ev_not2 ws c]
    tm_at "j"
    rename_i p10 H10 n10 g10 e10
    have hc10 := (hc8.mono g9).mono g10
    refine ⟨v, .ref p10, c, .not c, rfl, hc10, .not e10 hc10, gc, ⟨ho, by show c.deep + 1 ≤ 10; omega, hk⟩, fun H11 g11 => ?_⟩
    rw [show sameM c (.not c) 256 = false from same_not c 255]
    have g511 : Same H5 H11 := (((((g6.trans g7).trans g8).trans g9).trans g10).trans g11)
    have x11 : Bx H11 b l ns2 s2 := (x3.same (g4.trans g5)).same g511
    have hc11 := hc5.mono g511
    have hcon11 := hcon.mono g511
    tm_at "j"
    refine l_listRg (n := 8) (by decide) fun e H12 n12 g12 e12 => ?_
    have x12 := x11.same g12
    have eb : e ≠ b := (ne_of_none x11.hb n12).symm
    have el : e ≠ l := (ne_of_none x11.hl n12).symm
    tm_at "j"
    refine lcR_inv (n := 8) (NmJ b l e H12) (fun _ => rfl) (by decide) (fun H' g => ⟨[], List.range 8, ns2, s2, rfl, rfl, List.Perm.refl _, g _ _ e12, x12.same g, Same.tups g⟩) ?_ (fun i ys H' j => ?_) ?_ ?_
    · rintro i ys D H' o nD ⟨done, left, ns, s, h1, h2, h3, h4, h5, h6⟩
      refine ⟨done, left, ns, s, h1, h2, h3, ?_, ⟨h5.ne, ?_, ?_, h5.s0, h5.s1, h5.n63⟩, fun p xs ep => ?_⟩
      · rw [upd_ne (ne_of_none e12 nD)]; exact h4
      · rw [upd_ne (ne_of_none x12.hb nD)]; exact h5.hb
      · rw [upd_ne (ne_of_none x12.hl nD)]; exact h5.hl
      · rw [upd_ne (ne_of_none ep nD)]; exact h6 _ _ ep
    · obtain ⟨done, left, ns, s, rfl, h2, _⟩ := j
      rw [List.length_map, h2]
    · rintro i D ys H' Q' hi nD ⟨done, left, ns, s, rfl, h2, h3, h4, h5, h6⟩ eD kq
      have hlen : done.length + left.length = 8 := by rw [← List.length_append]; exact h3.length_eq
      have hll : (left.map vn).length = left.length := List.length_map ..
      tm_at "j"
      refine ⟨b, l, ns, s, _, rfl, h5, by rw [hll]; omega, by rw [hll]; omega, fun r ns3 s3 H3 f3 x3 r0 r1 => ?_⟩
      rw [hll] at r1
      obtain ⟨k, rfl⟩ : ∃ k : Nat, r = (k : Int) := ⟨r.toNat, by omega⟩
      have e3 := f3.at eb el h4
      tm_at "j"
      refine l_popAt e3 (by omega) (by omega) fun H4 b4 e4 => ?_
      refine kq _ _ ⟨done ++ [left.getD k 0], left.eraseIdx k, ns3, s3, by rw [List.map_append]; rfl, by rw [List.length_append, h2]; rfl, (pop_perm (by omega)).trans h3, e4, x3.but b4 eb.symm el.symm, fun p xs ep => b4.tups e3 _ _ (h5.tups f3 _ _ (h6 _ _ ep))⟩ ?_
      exact b4 _ _ (ne_of_none e12 nD).symm (f3.at (ne_of_none x12.hb nD).symm (ne_of_none x12.hl nD).symm eD)
    rintro D ys H13 nD ⟨nm, left, ns13, s13, rfl, hl8, hp, e13, x13, tp13⟩ eD
    obtain rfl : left = [] := List.length_eq_zero_iff.mp (by have := hp.length_eq; rw [List.length_append, hl8] at this; exact (Nat.add_left_cancel (m := left.length) (k := 0) this))
    rw [List.append_nil] at hp
    have db : D ≠ b := (ne_of_none x12.hb nD).symm
    have dl : D ≠ l := (ne_of_none x12.hl nD).symm
    have hc13 := (hc11.mono g12).tups tp13
    have hcon13 := (hcon11.mono g12).tups tp13
    tm_at "j"
    refine ⟨v, c, D, nm, rfl, hc13, ho, SqL.of eD, hl8, by omega, fun v8 H14 g14 hv14 => ?_⟩
    have x14 := x13.same g14
    tm_at "j"
    refine lcR_draw (n := 8) (fun y => ∃ k : Nat, y = vn k ∧ k ≤ 100) x14 (fun _ => rfl) (by decide) ?_ ?_
    · intro i H' ns' s' Q' hi f x k
      tm_at "j"
      refine ⟨b, l, ns', s', 101, rfl, x, by decide, by decide, fun r ns3 s3 H3 f3 x3 r0 r1 => ?_⟩
      exact k _ _ _ _ ⟨r.toNat, by unfold vn; rw [show ((r.toNat : Nat) : Int) = r by omega], by omega⟩ f3 x3
    intro D2 ys H15 ns15 s15 nD2 f15 x15 hys hP e15
    obtain ⟨ch, rfl, hc100⟩ := vals_vn hP
    rw [List.length_map] at hys
    have tp15 := x14.tups f15
    tm_at "j"
    rename_i a9 H16 n16 g16 e16
    have hch : ChA H16 (.ref a9) ch := ⟨a9, rfl, e16, hys, hc100⟩
    have eD16 := g16 _ _ (f15.at db dl (g14 _ _ eD))
    refine lcRm (n := 8) (fun t => vn (ch.getD (nm.idxOf t) 0)) (fun _ => rfl) (by decide) ?_ ?_
    · intro t H' Q' ht g kq
      tm_at "j"
      refine l_index hp ht (SqL.of (g _ _ eD16)) ?_
      refine l_ixT (SqT.of (g _ _ e16)) (at_map (d := 0) ?_) ?_
      · have := idx_lt hp ht
        omega
      exact kq _ (Same.refl _)
    intro D3 H17 n17 g17 e17
    tm_at "j"
    rename_i a10 H18 n18 g18 e18
    have hth : ChA H18 (.ref a10) (theirs nm ch) := ⟨a10, rfl, by rw [e18]; unfold theirs; rw [List.map_map]; rfl, by unfold theirs; rw [List.length_map]; rfl, fun x hx => by
      obtain ⟨t, _, rfl⟩ := List.mem_map.mp hx
      exact getD_le hc100 _⟩
    have g1618 := g17.trans g18
    have g1518 := g16.trans g1618
    have hc18 := ((hc13.mono g14).tups tp15).mono g1518
    have hcon18 := ((hcon13.mono g14).tups tp15).mono g1518
    have hv18 := (hv14.tups tp15).mono g1518
    have hch18 := hch.mono g1618
    have eD18 := g1618 _ _ eD16
    have x18 := x15.same g1518
    refine ⟨v, .ref a9, c, ch, rfl, hc18, ho, by omega, hk, hch18, fun H19 g19 => ?_⟩
    tm_at "j"
    refine ⟨v8, .ref a10, _, theirs nm ch, rfl, hv18.mono g19, map_ok (fun i hi => nm_lt hp hi) c ho, by rw [map_deep]; omega, by rw [map_looks]; exact hk, hth.mono g19, fun H20 g20 => ?_⟩
    rw [looks_turn hp (theirs_get hp) ho]
    tm_at "j"
    rw [decide_eq_true rfl]
    tm_at "j"
    have gl := g19.trans g20
    refine k12_3 (x18.same gl) (hc18.mono gl) (hcon18.mono gl) (hv18.mono gl) ho hd hk (hch18.mono gl) (hth.mono gl) (theirs_get hp) hp (gl _ _ eD18) db dl fun o7 o11 o12 o13 o14 o15 o16 ns21 s21 H21 f21 x21 => ?_
    exact ⟨_, _, _, _, _, _, _, _, _, _, _, _, _, _, _, _, _, rfl, x21⟩
  · rintro σ' H' ⟨o2, o3, o4, o5, o6, o7, o8, o9, o10, o11, o12, o13, o14, o15, o16, ns, s, rfl, x⟩
    tm_at "j"
    exact q _
end

def spOut (n : Nat) : Sp := fun vs H Q _ => ∃ v u c ws, vs = [v, u] ∧ CA H v c ∧ c.deep < n ∧ n ≤ 12 ∧ c.ok ∧ WA H u ws ∧ ∀ v' H', Same H H' → Told H H' v' (ev ws c) → Q v' H'
theorem ev_small {ws : List Bool} {c : Cond} (h : c.deep < 12) : (ev ws c).2.length ≤ 4096 := by
  have h1 := ev_len ws c
  have h2 := looks_deep c
  have h3 := Nat.pow_le_pow_right (n := 2) (by decide) (show c.deep ≤ 12 by omega)
  omega
theorem Told.back {H H1 H2 : Hp} {v : V} {x : Bool × List Nat} (g : Same H H1) (h : Told H1 H2 v x) : Told H H2 v x := by
  obtain ⟨p, l, rfl, h0, hp, hq⟩ := h
  exact ⟨p, l, rfl, g.free h0, hp, hq⟩

/-! is_number_up_to -/
def spNum : Sp := fun vs H Q _ => ∃ i m : Int, vs = [.int i, .int m] ∧ ∀ H', Same H H' → Q (.bl (decide (0 ≤ i) && decide (i ≤ m))) H'
theorem pure_num {K : PySem.W.Frag} {w : World} (vs : List V) (H : Hp) (Q : VK) (E : XK) (h : spNum vs H Q E) :
    t_is_number_up_to K w (Ends.mk (fun _ H' => Q .non H') Q (fun _ _ => False) (fun _ _ => False)) (start ["value", "most"] vs) H := by
  obtain ⟨i, m, rfl, q⟩ := h
  unfold t_is_number_up_to
  tm_at "j"
  refine i_b (fun e => ?_) (fun e => ?_)
  · tm_at "j"
    have := q _ (Same.refl _)
    rw [e] at this
    exact this
  · tm_at "j"
    have := q _ (Same.refl _)
    rw [e] at this
    exact this
/-! has_form -/
def spForm : Sp := fun vs H Q _ => ∃ v c, vs = [v] ∧ CA H v c ∧ c.ok ∧ ∀ H', Same H H' → Q (.bl true) H'
theorem inV_wd (a : Bool) : inV (.str (wd a)) [.str "and", .str "or"] = true := by cases a <;> decide +kernel
theorem pure_form {K : PySem.W.Frag} {w : World} (vs : List V) (H : Hp) (Q : VK) (E : XK) (h : spForm vs H Q E) :
    t_has_form K w spNum (Ends.mk (fun _ H' => Q .non H') Q (fun _ _ => False) (fun _ _ => False)) (start ["condition", "word"] vs) H := by
  obtain ⟨v, c, rfl, hc, ho, q⟩ := h
  unfold t_has_form
  cases hc with
  | look e =>
    rename_i i
    tm_at "j"
    refine ⟨_, _, rfl, fun H1 g1 => ?_⟩
    have h8 : i < 8 := ho
    have e1 : (decide ((0 : Int) ≤ (i : Int)) && decide ((i : Int) ≤ 8 - 1)) = true := by
      rw [decide_eq_true (by omega), decide_eq_true (by omega)]; rfl
    rw [e1]
    exact q _ (by tm_at "hp")
  | not e hc =>
    tm_at "j"
    exact q _ (by tm_at "hp")
  | bin e h1 h2 =>
    rename_i a v1 v2 c d
    have e1 := inV_wd a
    tm_at "j"
    cases a <;> (
      tm_at "j"
      exact q _ (by tm_at "hp"))
def spCount (n : Nat) : Sp := fun vs H Q _ => ∃ v c, ∃ ar : Nat, vs = [v, .int (ar : Int)] ∧ CA H v c ∧ c.ok ∧ ar + c.deep ≤ 10 ∧ c.deep < n ∧ ∀ H', Same H H' → Q (.int (c.looks : Int)) H'
theorem pure_count {K : PySem.W.Frag} {w : World} {n : Nat} (vs : List V) (H : Hp) (Q : VK) (E : XK) (h : spCount (n + 1) vs H Q E) :
    t_count_looks K w spForm (spCount n) (Ends.mk (fun _ H' => Q .non H') Q (fun _ _ => False) (fun _ _ => False)) (start ["condition", "around", "side"] vs) H := by
  obtain ⟨v, c, ar, rfl, hc, ho, hd, hn, q⟩ := h
  unfold t_count_looks
  tm_at "j"
  refine ⟨_, _, rfl, hc, ho, fun H1 g1 => ?_⟩
  tm_at "j"
  cases hc with
  | look e =>
    tm_at "j"
    exact q _ (by tm_at "hp")
  | not e hc =>
    rename_i v1 c1
    have hd1 : ar + (c1.deep + 1) ≤ 10 := hd
    have hn1 : c1.deep + 1 < n + 1 := hn
    tm_at "j"
    refine lcT (xs := [v1]) (ys := [.int (c1.looks : Int)]) (fun _ => rfl) (by tm_at "hp") (by tm_at "dec") ⟨rfl, ?_⟩ ?_
    · intro i x y H' Q' hx hy g k
      rcases i with _ | i
      · obtain rfl : v1 = x := Option.some.inj hx
        obtain rfl := Option.some.inj hy
        tm_at "j"
        exact ⟨v1, c1, ar + 1, rfl, by tm_at "hp", ho, by omega, by omega, k⟩
      · cases hx
    · intro D H2 hD g e2
      refine l_sum (ns := [(c1.looks : Int)]) (by tm_at "hp") ?_
      rw [show [(c1.looks : Int)].sum = (c1.looks : Int) by simp]
      exact q _ (by tm_at "hp")
  | bin e h1 h2 =>
    rename_i a v1 v2 c1 c2
    have hd1 : ar + (max c1.deep c2.deep + 1) ≤ 10 := hd
    have hn1 : max c1.deep c2.deep + 1 < n + 1 := hn
    cases a <;> (
      tm_at "j"
      refine lcT (xs := [v1, v2]) (ys := [.int (c1.looks : Int), .int (c2.looks : Int)]) (fun _ => rfl) (by tm_at "hp") (by tm_at "dec") ⟨rfl, ?_⟩ ?_
      · intro i x y H' Q' hx hy g k
        rcases i with _ | _ | i
        · obtain rfl : v1 = x := Option.some.inj hx
          obtain rfl := Option.some.inj hy
          tm_at "j"
          exact ⟨v1, c1, ar + 1, rfl, by tm_at "hp", ho.1, by omega, by omega, k⟩
        · obtain rfl : v2 = x := Option.some.inj hx
          obtain rfl := Option.some.inj hy
          tm_at "j"
          exact ⟨v2, c2, ar + 1, rfl, by tm_at "hp", ho.2, by omega, by omega, k⟩
        · cases hx
      · intro D H2 hD g e2
        refine l_sum (ns := [(c1.looks : Int), (c2.looks : Int)]) (by tm_at "hp") ?_
        have e3 : [(c1.looks : Int), (c2.looks : Int)].sum = (((c1.looks + c2.looks : Nat)) : Int) := by simp
        rw [e3]
        exact q _ (by tm_at "hp"))
/-! check_condition -/
def spCheck : Sp := fun vs H Q _ => ∃ v c, vs = [v] ∧ CA H v c ∧ c.ok ∧ c.deep ≤ 10 ∧ c.looks ≤ 12 ∧ ∀ H', Same H H' → Q .non H'
theorem pure_check {K : PySem.W.Frag} {w : World} (vs : List V) (H : Hp) (Q : VK) (E : XK) (h : spCheck vs H Q E) :
    t_check_condition K w (spCount 11) (Ends.mk (fun _ H' => Q .non H') Q (fun _ _ => False) (fun _ _ => False)) (start ["condition"] vs) H := by
  obtain ⟨v, c, rfl, hc, ho, hd, hl, q⟩ := h
  unfold t_check_condition
  tm_at "j"
  refine ⟨v, c, 0, rfl, hc, ho, by omega, by omega, fun H1 g1 => ?_⟩
  tm_at "j"
  exact q _ (by tm_at "hp")

/-! are_numbers_up_to, are_bits: of a tuple -/
def spNumsT (K : PySem.W.Frag) : Sp := fun vs H Q _ => ∃ a, ∃ ns : List Int, ∃ n : Nat, ∃ m : Int, vs = [.ref a, .int (n : Int), .int m] ∧ SqT K H a (ns.map V.int) ∧ ns.length ≤ 100000 ∧ ∀ H', Same H H' → Q (.bl (decide (ns.length = n) && ns.all fun i => decide (0 ≤ i) && decide (i ≤ m))) H'
theorem pure_nums_T {K : PySem.W.Frag} {w : World} (vs : List V) (H : Hp) (Q : VK) (E : XK) (h : spNumsT K vs H Q E) :
    t_are_numbers_up_to_T K w spNum (Ends.mk (fun _ H' => Q .non H') Q (fun _ _ => False) (fun _ _ => False)) (start ["values", "many", "most", "value"] vs) H := by
  obtain ⟨a, ns, n, m, rfl, ha, h1, q⟩ := h
  unfold t_are_numbers_up_to_T
  tm_at "j"
  refine i_b (fun e => ?_) (fun e => ?_)
  · have hl : ns.length = n := by
      have := V.int.inj (of_decide_eq_true e)
      rw [List.length_map] at this
      omega
    rw [decide_eq_true hl, Bool.true_and] at q
    tm_at "j"
    refine lcT (xs := ns.map V.int) (ys := ns.map fun i => V.bl (decide (0 ≤ i) && decide (i ≤ m))) (fun _ => rfl) (by tm_at "hp") (by rw [List.length_map]; exact h1) ⟨by rw [List.length_map, List.length_map], ?_⟩ ?_
    · intro i x y H' Q' hx hy g k
      rw [List.getElem?_map] at hx hy
      cases hb : ns[i]? with
      | none => rw [hb] at hx; cases hx
      | some b =>
        rw [hb] at hx hy
        obtain rfl : V.int b = x := Option.some.inj hx
        obtain rfl : V.bl (decide (0 ≤ b) && decide (b ≤ m)) = y := Option.some.inj hy
        tm_at "j"
        exact ⟨b, m, rfl, k⟩
    · intro D H2 hD g e2
      refine l_all (bs := ns.map fun i => decide (0 ≤ i) && decide (i ≤ m)) (by rw [List.map_map]; exact SqL.of e2) ?_
      rw [List.all_map]
      exact q _ (by tm_at "hp")
  · have hl : ¬ ns.length = n := fun z => by
      refine of_decide_eq_false e (congrArg V.int ?_)
      rw [List.length_map]
      omega
    rw [decide_eq_false hl, Bool.false_and] at q
    exact q _ (by tm_at "hp")
def spBitsT (K : PySem.W.Frag) : Sp := fun vs H Q _ => ∃ a, ∃ ns : List Int, ∃ n : Nat, vs = [.ref a, .int (n : Int)] ∧ SqT K H a (ns.map V.int) ∧ ns.length ≤ 100000 ∧ ∀ H', Same H H' → Q (.bl (decide (ns.length = n) && ns.all fun i => decide (0 ≤ i) && decide (i ≤ 1))) H'
theorem pure_bits_T {K : PySem.W.Frag} {w : World} (vs : List V) (H : Hp) (Q : VK) (E : XK) (h : spBitsT K vs H Q E) :
    t_are_bits K w (spNumsT K) (Ends.mk (fun _ H' => Q .non H') Q (fun _ _ => False) (fun _ _ => False)) (start ["values", "many"] vs) H := by
  obtain ⟨a, ns, n, rfl, ha, h1, q⟩ := h
  unfold t_are_bits
  tm_at "j"
  exact ⟨a, ns, n, 1, rfl, ha, h1, q⟩
/-! are_numbers_up_to, are_bits: of a list -/
def spNumsL (K : PySem.W.Frag) : Sp := fun vs H Q _ => ∃ a, ∃ ns : List Int, ∃ n : Nat, ∃ m : Int, vs = [.ref a, .int (n : Int), .int m] ∧ SqL K H a (ns.map V.int) ∧ ns.length ≤ 100000 ∧ ∀ H', Same H H' → Q (.bl (decide (ns.length = n) && ns.all fun i => decide (0 ≤ i) && decide (i ≤ m))) H'
theorem pure_nums_L {K : PySem.W.Frag} {w : World} (vs : List V) (H : Hp) (Q : VK) (E : XK) (h : spNumsL K vs H Q E) :
    t_are_numbers_up_to_L K w spNum (Ends.mk (fun _ H' => Q .non H') Q (fun _ _ => False) (fun _ _ => False)) (start ["values", "many", "most", "value"] vs) H := by
  obtain ⟨a, ns, n, m, rfl, ha, h1, q⟩ := h
  unfold t_are_numbers_up_to_L
  tm_at "j"
  refine i_b (fun e => ?_) (fun e => ?_)
  · have hl : ns.length = n := by
      have := V.int.inj (of_decide_eq_true e)
      rw [List.length_map] at this
      omega
    rw [decide_eq_true hl, Bool.true_and] at q
    tm_at "j"
    refine lcL (xs := ns.map V.int) (ys := ns.map fun i => V.bl (decide (0 ≤ i) && decide (i ≤ m))) (fun _ => rfl) (by tm_at "hp") (by rw [List.length_map]; exact h1) ⟨by rw [List.length_map, List.length_map], ?_⟩ ?_
    · intro i x y H' Q' hx hy g k
      rw [List.getElem?_map] at hx hy
      cases hb : ns[i]? with
      | none => rw [hb] at hx; cases hx
      | some b =>
        rw [hb] at hx hy
        obtain rfl : V.int b = x := Option.some.inj hx
        obtain rfl : V.bl (decide (0 ≤ b) && decide (b ≤ m)) = y := Option.some.inj hy
        tm_at "j"
        exact ⟨b, m, rfl, k⟩
    · intro D H2 hD g e2
      refine l_all (bs := ns.map fun i => decide (0 ≤ i) && decide (i ≤ m)) (by rw [List.map_map]; exact SqL.of e2) ?_
      rw [List.all_map]
      exact q _ (by tm_at "hp")
  · have hl : ¬ ns.length = n := fun z => by
      refine of_decide_eq_false e (congrArg V.int ?_)
      rw [List.length_map]
      omega
    rw [decide_eq_false hl, Bool.false_and] at q
    exact q _ (by tm_at "hp")
def spBitsL (K : PySem.W.Frag) : Sp := fun vs H Q _ => ∃ a, ∃ ns : List Int, ∃ n : Nat, vs = [.ref a, .int (n : Int)] ∧ SqL K H a (ns.map V.int) ∧ ns.length ≤ 100000 ∧ ∀ H', Same H H' → Q (.bl (decide (ns.length = n) && ns.all fun i => decide (0 ≤ i) && decide (i ≤ 1))) H'
theorem pure_bits_L {K : PySem.W.Frag} {w : World} (vs : List V) (H : Hp) (Q : VK) (E : XK) (h : spBitsL K vs H Q E) :
    t_are_bits K w (spNumsL K) (Ends.mk (fun _ H' => Q .non H') Q (fun _ _ => False) (fun _ _ => False)) (start ["values", "many"] vs) H := by
  obtain ⟨a, ns, n, rfl, ha, h1, q⟩ := h
  unfold t_are_bits
  tm_at "j"
  exact ⟨a, ns, n, 1, rfl, ha, h1, q⟩
/-! check_worths, check_chances, check_first -/
theorem vb_ints (ws : List Bool) : ws.map vb = (ws.map bi).map V.int := by rw [List.map_map]; rfl
theorem vn_ints (ns : List Nat) : ns.map vn = (ns.map fun (k : Nat) => (k : Int)).map V.int := by rw [List.map_map]; rfl
theorem bits_good (ws : List Bool) (n : Nat) (h : ws.length = n) : (decide ((ws.map bi).length = n) && (ws.map bi).all fun i => decide (0 ≤ i) && decide (i ≤ 1)) = true := by
  rw [List.length_map, decide_eq_true h, Bool.true_and, List.all_map, List.all_eq_true]
  intro b _
  cases b <;> decide
def spWorths : Sp := fun vs H Q _ => ∃ v ws, vs = [v] ∧ WA H v ws ∧ ∀ H', Same H H' → Q .non H'
theorem pure_worths {K : PySem.W.Frag} {w : World} (vs : List V) (H : Hp) (Q : VK) (E : XK) (h : spWorths vs H Q E) :
    t_check_worths K w (spBitsT K) (Ends.mk (fun _ H' => Q .non H') Q (fun _ _ => False) (fun _ _ => False)) (start ["worths"] vs) H := by
  obtain ⟨v, ws, rfl, ⟨a, rfl, e, l⟩, q⟩ := h
  unfold t_check_worths
  tm_at "j"
  rw [vb_ints] at e
  refine ⟨a, ws.map bi, 8, rfl, SqT.of e, by rw [List.length_map]; omega, fun H1 g1 => ?_⟩
  rw [bits_good ws 8 l]
  tm_at "j"
  exact q _ (by tm_at "hp")
def spChances : Sp := fun vs H Q _ => ∃ v ch, vs = [v] ∧ ChA H v ch ∧ ∀ H', Same H H' → Q .non H'
theorem chances_good (ch : List Nat) (h : ch.length = 8) (hc : ∀ x ∈ ch, x ≤ 100) : (decide ((ch.map fun (k : Nat) => (k : Int)).length = 8) && (ch.map fun (k : Nat) => (k : Int)).all fun i => decide (0 ≤ i) && decide (i ≤ 100)) = true := by
  rw [List.length_map, decide_eq_true h, Bool.true_and, List.all_map, List.all_eq_true]
  intro k hk
  have := hc k hk
  show (decide ((0 : Int) ≤ (k : Int)) && decide ((k : Int) ≤ 100)) = true
  rw [decide_eq_true (by omega), decide_eq_true (by omega)]; rfl
theorem pure_chances {K : PySem.W.Frag} {w : World} (vs : List V) (H : Hp) (Q : VK) (E : XK) (h : spChances vs H Q E) :
    t_check_chances K w (spNumsT K) (Ends.mk (fun _ H' => Q .non H') Q (fun _ _ => False) (fun _ _ => False)) (start ["chances"] vs) H := by
  obtain ⟨v, ch, rfl, ⟨a, rfl, e, l, hc⟩, q⟩ := h
  unfold t_check_chances
  tm_at "j"
  rw [vn_ints] at e
  refine ⟨a, ch.map fun (k : Nat) => (k : Int), 8, 100, rfl, SqT.of e, by rw [List.length_map]; omega, fun H1 g1 => ?_⟩
  rw [chances_good ch l hc]
  tm_at "j"
  exact q _ (by tm_at "hp")
def spFirst : Sp := fun vs H Q _ => ∃ f : Bool, vs = [vb f] ∧ ∀ H', Same H H' → Q .non H'
theorem pure_first {K : PySem.W.Frag} {w : World} (vs : List V) (H : Hp) (Q : VK) (E : XK) (h : spFirst vs H Q E) :
    t_check_first K w spNum (Ends.mk (fun _ H' => Q .non H') Q (fun _ _ => False) (fun _ _ => False)) (start ["first"] vs) H := by
  obtain ⟨f, rfl, q⟩ := h
  unfold t_check_first
  tm_at "j"
  refine ⟨bi f, 1, rfl, fun H1 g1 => ?_⟩
  rw [show (decide (0 ≤ bi f) && decide (bi f ≤ 1)) = true by cases f <;> decide]
  tm_at "j"
  exact q _ (by tm_at "hp")
/-! meant -/
theorem pure_meant {K : PySem.W.Frag} {w : World} (vs : List V) (H : Hp) (Q : VK) (E : XK) (h : spMeant vs H Q E) :
    t_meant K w spCheck spWorths (spOut 11) (Ends.mk (fun _ H' => Q .non H') Q (fun _ _ => False) (fun _ _ => False)) (start ["condition", "worths"] vs) H := by
  obtain ⟨v, u, c, ws, rfl, hc, ho, hd, hk, hw, q⟩ := h
  unfold t_meant
  tm_at "j"
  refine ⟨v, c, rfl, hc, ho, hd, hk, fun H1 g1 => ?_⟩
  tm_at "j"
  refine ⟨u, ws, rfl, hw.mono g1, fun H2 g2 => ?_⟩
  tm_at "j"
  refine ⟨v, u, c, ws, rfl, (hc.mono g1).mono g2, by omega, by decide, ho, (hw.mono g1).mono g2, fun v' H3 g3 ht => ?_⟩
  exact q _ _ ((g1.trans g2).trans g3) (ht.back (g1.trans g2))

/-! all_bits -/
def spAllBits : Sp := fun vs H Q _ => ∃ n : Nat, vs = [.int (n : Int)] ∧ n ≤ 12 ∧ ∀ l ys H', Same H H' → H l = none → H' l = some (.lst ys) → BT H' ys (bitsM n) → Q (.ref l) H'
theorem bits_at {n i : Nat} {b : List Bool} (x : Bool) (h : (bitsM n)[i]? = some b) : (bitsM (n + 1))[2 * i + x.toNat]? = some (b ++ [x]) := by
  have := flat_at (fun b : List Bool => b ++ [false]) (fun b : List Bool => b ++ [true]) (bitsM n) i
  unfold bitsM
  cases x
  · rw [Bool.toNat_false, Nat.add_zero, this.1, h]; rfl
  · rw [Bool.toNat_true, this.2, h]; rfl
theorem pure_allbits {K : PySem.W.Frag} {w : World} (vs : List V) (H : Hp) (Q : VK) (E : XK) (h : spAllBits vs H Q E) :
    t_all_bits K w (Ends.mk (fun _ H' => Q .non H') Q (fun _ _ => False) (fun _ _ => False)) (start ["many", "told", "_", "bits", "bit"] vs) H := by
  obtain ⟨n, rfl, hn, q⟩ := h
  unfold t_all_bits
  tm_at "j"
  rename_i p1 H1 n1 g1 e1 l2 H2 n2 g2 e2
  unfold t_all_bits_1
  tm_at "j"
  refine forR (n := n) (by omega) (fun i σ' H' => ∃ l ys o2, σ' = [some (.int (n : Int)), some (.ref l), o2, none, none] ∧ Same H H' ∧ H l = none ∧ H' l = some (.lst ys) ∧ BT H' ys (bitsM i)) ⟨l2, _, _, rfl, g1.trans g2, g1.free n2, e2, rfl, ?_⟩ ?_ ?_
  · intro i y hy
    cases i with
    | zero =>
      obtain rfl := Option.some.inj hy
      exact ⟨[], rfl, p1, rfl, g2 _ _ e1⟩
    | succ i => cases hy
  · rintro i σ' H' hi ⟨l, ys, o2, rfl, g, nl, el, bt⟩
    have hlen : ys.length = 2 ^ i := by rw [bt.1, bitsM_len]
    have hp : 2 ^ i ≤ 2 ^ 12 := Nat.pow_le_pow_right (by decide) (by omega)
    tm_at "j"
    refine lc2_rel (fun m y H' => ∃ b, (bitsM (i + 1))[m]? = some b ∧ BTA H' y b) (fun m y H H' tp ⟨b, h1, h2⟩ => ⟨b, h1, h2.tups tp⟩) (SqL.of el) (by omega) ?_ ?_ ?_ ?_
    · exact fun _ => rfl
    · exact fun _ _ => rfl
    · intro k x b H3 Q3 hx g3 kk
      obtain ⟨b0, hb0, a0, rfl, ea0⟩ := (bt.mono g3).get hx
      tm_at "j"
      rename_i p4 H4 n4 g4 e4
      have hb12 : b0.length = i := bitsM_mem i b0 (List.mem_of_getElem? hb0)
      refine l_catA (g4 _ _ ea0) e4 (by rw [List.length_map]; omega) fun l5 H5 g5 e5 => ?_
      refine kk _ _ (g4.trans g5) ⟨b0 ++ [b], bits_at b hb0, l5, rfl, ?_⟩
      rw [List.map_append]
      exact e5
    · intro D zs H3 nD g3 eD hzs hE
      tm_at "j"
      refine ⟨D, zs, _, rfl, g.trans g3, g.free nD, eD, ?_, hE⟩
      rw [hzs, bitsM_len, hlen, Nat.pow_succ, Nat.mul_comm]
  · rintro σ' H' ⟨l, ys, o2, rfl, g, nl, el, bt⟩
    tm_at "j"
    exact q _ _ _ g nl el bt
theorem bits_wa {H : Hp} {ys : List V} {i : Nat} {y : V} (h : BT H ys (bitsM 8)) (e : ys[i]? = some y) : i < 256 ∧ WA H y (wts i) := by
  obtain ⟨b, hb, a, rfl, ea⟩ := h.get e
  rw [bits8] at hb
  rw [List.getElem?_map] at hb
  have hi : i < 256 := by
    have := (List.getElem?_eq_some_iff.mp e).1
    rw [h.1, bitsM_len] at this
    exact this
  rw [List.getElem?_range hi] at hb
  obtain rfl := Option.some.inj hb
  exact ⟨hi, a, rfl, ea, rfl⟩

/-! look_row, rows_of, code_of, coded -/
theorem at2 {a b : V} {f : Bool} : atI [a, b] (bi f) = some (if f then b else a) := by cases f <;> rfl
/-- one of the dues is the next row behind the part, the other one further down -/
def Due2 (e y no : Nat) : Prop := (y = e ∧ e < no) ∨ (no = e ∧ e < y)
theorem due2_lt {e m y no : Nat} (h : Due2 e y no) (hm : m < e) : m < y ∧ m < no := by
  rcases h with ⟨h1, h2⟩ | ⟨h1, h2⟩ <;> omega
def spLookRow : Sp := fun vs H Q _ => ∃ t k y no : Nat, ∃ d, vs = [vn t, .int (k : Int), .ref d] ∧ H d = some (.lst [vn no, vn y]) ∧ Due2 (k + 1) y no ∧
  ∀ v' H', Same H H' → TD H' v' (rowD (if y = k + 1 then .look t false no else .look t true y)) → Q v' H'
theorem pure_lookrow {K : PySem.W.Frag} {w : World} (vs : List V) (H : Hp) (Q : VK) (E : XK) (h : spLookRow vs H Q E) :
    t_look_row K w (Ends.mk (fun _ H' => Q .non H') Q (fun _ _ => False) (fun _ _ => False)) (start ["thing", "place", "dues", "when"] vs) H := by
  obtain ⟨t, k, y, no, d, rfl, ed, hd, q⟩ := h
  unfold t_look_row
  tm_at "j"
  rw [vnn]
  rcases hd with ⟨rfl, h2⟩ | ⟨rfl, h2⟩
  · rw [if_pos rfl] at q
    refine i_f (decide_eq_false (by omega)) ?_
    tm_at "j"
    rename_i p2 H2 n2 g2 e2
    exact q _ _ g2 (row_look_mk (w := false) e2)
  · rw [if_neg (by omega)] at q
    refine i_t (decide_eq_true rfl) ?_
    tm_at "j"
    rename_i p2 H2 n2 g2 e2
    exact q _ _ g2 (row_look_mk (w := true) e2)
def spRowsOf (n : Nat) : Sp := fun vs H Q _ => ∃ v c, ∃ s y no : Nat, ∃ d, vs = [v, .int (s : Int), .ref d] ∧ CA H v c ∧ c.ok ∧ c.deep < n ∧ n ≤ 11 ∧ c.looks ≤ 2000 ∧ H d = some (.lst [vn no, vn y]) ∧ Due2 (s + c.looks) y no ∧
  ∀ v' H', Same H H' → RN H H' v' (rowsM s (dueM c s y no)) → Q v' H'
theorem pure_rowsof {K : PySem.W.Frag} {w : World} {aG : Addr} (k1 : KDct K w aG "and" (.int 1)) (k0 : KDct K w aG "or" (.int 0)) {n : Nat} (vs : List V) (H : Hp) (Q : VK) (E : XK) (h : spRowsOf (n + 1) vs H Q E) :
    t_rows_of K w aG spLookRow (spRowsOf n) (spCount 11) (Ends.mk (fun _ H' => Q .non H') Q (fun _ _ => False) (fun _ _ => False)) (start ["condition", "start", "dues", "word", "middle", "first_dues"] vs) H := by
  obtain ⟨v, c, s, y, no, d, rfl, hc, ho, hn, n11, hk, ed, hd, q⟩ := h
  unfold t_rows_of
  cases hc with
  | look e =>
    rename_i i
    tm_at "j"
    refine ⟨i, s, y, no, d, rfl, ed, hd, fun v1 H1 g1 t1 => ?_⟩
    tm_at "j"
    rename_i p2 H2 n2 g2 e2
    exact q _ _ (g1.trans g2) ⟨p2, _, rfl, g1.free n2, e2, .cons (t1.mono g2) .nil⟩
  | not e hc =>
    rename_i v1 c1
    have hn1 : c1.deep + 1 < n + 1 := hn
    tm_at "j"
    rename_i p2 H2 n2 g2 e2
    refine ⟨v1, c1, s, no, y, p2, rfl, hc.mono g2, ho, by omega, by omega, hk, e2, hd.symm, fun v' H' g h => q v' H' (g2.trans g) (h.back g2)⟩
  | bin e h1 h2 =>
    rename_i a v1 v2 c1 c2
    have hn1 : max c1.deep c2.deep + 1 < n + 1 := hn
    have hk1 : c1.looks + c2.looks ≤ 2000 := hk
    have hd : Due2 (s + (c1.looks + c2.looks)) y no := hd
    have hl1 : 1 ≤ c1.looks := by have := pairs_looks c1; omega
    have hl2 : 1 ≤ c2.looks := by have := pairs_looks c2; omega
    have hdd : Due2 (s + c1.looks + c2.looks) y no := by rw [Nat.add_assoc]; exact hd
    unfold dueM at q
    rw [rowsM_app] at q
    have hw : decide (V.str (wd a) = V.str "not") = false := by cases a <;> decide +kernel
    have hlk : decide (V.str (wd a) = V.str "look") = false := by cases a <;> decide +kernel
    tm_at "j"
    rw [hlk]
    tm_at "j"
    rw [hw]
    tm_at "j"
    refine ⟨v1, c1, 0, rfl, h1, ho.1, by omega, by omega, fun H1 g1 => ?_⟩
    refine l_I0 ?_
    rw [show V.int ((s : Int) + (c1.looks : Int)) = V.int ((s + c1.looks : Nat) : Int) from congrArg V.int (by omega)]
    have ed1 := g1 _ _ ed
    tm_at "j"
    rename_i p2 H2 n2 g2 e2
    have nd : d ≠ p2 := ne_of_none ed1 n2
    cases a
    · tm_at "j"
      refine l_setL' (K := K) e2 rfl fun H3 g3 e3 => ?_
      have tp := g3.tups e2
      have g13 : Same H1 H3 := sm_but g2 g3 n2
      rw [if_neg Bool.false_ne_true, dueM_len] at q
      tm_at "j"
      refine ⟨v1, c1, s, y, s + c1.looks, p2, rfl, (h1.mono g1).mono g13, ho.1, by omega, by omega, by omega, e3, Or.inr ⟨rfl, (due2_lt hd (show s + c1.looks < s + (c1.looks + c2.looks) by omega)).1⟩, fun v4 H4 g4 r4 => ?_⟩
      obtain ⟨l4, us4, rfl, n4, e4, t4⟩ := r4
      tm_at "j"
      refine ⟨v2, c2, s + c1.looks, y, no, d, rfl, ((h2.mono g1).mono g13).mono g4, ho.2, by omega, by omega, by omega, g4 _ _ (g13 _ _ ed1), hdd, fun v5 H5 g5 r5 => ?_⟩
      obtain ⟨l5, us5, rfl, n5, e5, t5⟩ := r5
      have z4 : us4.length = c1.looks := by rw [t4.len, List.length_map, rowsM_len, dueM_len]
      have z5 : us5.length = c2.looks := by rw [t5.len, List.length_map, rowsM_len, dueM_len]
      refine l_cat (g5 _ _ e4) e5 (by omega) fun p6 H6 n6 g6 e6 => ?_
      refine q _ _ ((((g1.trans g13).trans g4).trans g5).trans g6) ⟨p6, _, rfl, g1.free (g13.free (g4.free (g5.free n6))), e6, ?_⟩
      rw [List.map_append]
      exact ((t4.mono g5).mono g6).append (t5.mono g6)
    · tm_at "j"
      refine l_setL' (K := K) e2 rfl fun H3 g3 e3 => ?_
      have tp := g3.tups e2
      have g13 : Same H1 H3 := sm_but g2 g3 n2
      rw [if_pos rfl, dueM_len] at q
      tm_at "j"
      refine ⟨v1, c1, s, s + c1.looks, no, p2, rfl, (h1.mono g1).mono g13, ho.1, by omega, by omega, by omega, e3, Or.inl ⟨rfl, (due2_lt hd (show s + c1.looks < s + (c1.looks + c2.looks) by omega)).2⟩, fun v4 H4 g4 r4 => ?_⟩
      obtain ⟨l4, us4, rfl, n4, e4, t4⟩ := r4
      tm_at "j"
      refine ⟨v2, c2, s + c1.looks, y, no, d, rfl, ((h2.mono g1).mono g13).mono g4, ho.2, by omega, by omega, by omega, g4 _ _ (g13 _ _ ed1), hdd, fun v5 H5 g5 r5 => ?_⟩
      obtain ⟨l5, us5, rfl, n5, e5, t5⟩ := r5
      have z4 : us4.length = c1.looks := by rw [t4.len, List.length_map, rowsM_len, dueM_len]
      have z5 : us5.length = c2.looks := by rw [t5.len, List.length_map, rowsM_len, dueM_len]
      refine l_cat (g5 _ _ e4) e5 (by omega) fun p6 H6 n6 g6 e6 => ?_
      refine q _ _ ((((g1.trans g13).trans g4).trans g5).trans g6) ⟨p6, _, rfl, g1.free (g13.free (g4.free (g5.free n6))), e6, ?_⟩
      rw [List.map_append]
      exact ((t4.mono g5).mono g6).append (t5.mono g6)
def spCodeOf : Sp := fun vs H Q _ => ∃ v c, ∃ f : Bool, vs = [v, vb f] ∧ CA H v c ∧ c.ok ∧ c.deep ≤ 10 ∧ ∀ v' H', Same H H' → RN H H' v' (codeM c f) → Q v' H'
theorem code_tail {K : PySem.W.Frag} {w : World} {H H' : Hp} {v : V} {c : Cond} {f : Bool} {d : Addr} {Q : VK} {nx bk ct : St → Hp → Prop} (hk : c.looks ≤ 2000) (ho : c.ok) (hd : c.deep ≤ 10) (hc : CA H' v c) (gs : Same H H') (ed : H' d = some (.lst [vn (if f then c.looks + 1 else c.looks), vn (if f then c.looks else c.looks + 1)])) (q : ∀ v' H', Same H H' → RN H H' v' (codeM c f) → Q v' H') :
    tRet (tOp (rCat) (tCall (spRowsOf 11) [] E0 (tCons (tVar 0) (tCons (tC (.int 0)) (tCons (tVar 3) (tNil))))) (tLst (tCons (tTup (tCons (tC (.str "end")) (tCons (tVar 1) (tNil)))) (tCons (tTup (tCons (tC (.str "end")) (tCons (tOp (rI0 fun i j => .int (i - j)) (tC (.int 1)) (tVar 1)) (tNil)))) (tNil)))))
      (Ends.mk nx Q bk ct) [some v, some (vb f), some (.int (c.looks : Int)), some (.ref d)] H' := by
  tm_at "j"
  refine ⟨v, c, 0, if f then c.looks else c.looks + 1, if f then c.looks + 1 else c.looks, d, rfl, hc, ho, by omega, by omega, hk, ed, ?_, fun v1 H1 g1 r1 => ?_⟩
  · rw [Nat.zero_add]
    cases f
    · exact Or.inr ⟨rfl, Nat.lt_succ_self _⟩
    · exact Or.inl ⟨rfl, Nat.lt_succ_self _⟩
  obtain ⟨l1, us, rfl, n1, e1, t1⟩ := r1
  have z1 : us.length = c.looks := by rw [t1.len, List.length_map, rowsM_len, dueM_len]
  tm_at "j"
  rw [show vb f = V.int (bi f) from rfl]
  tm_at "j"
  rename_i p5 H5 np5 g5 e5 p6 H6 np6 g6 e6 p7 H7 np7 g7 e7
  refine l_cat (by tm_at "hp") (by tm_at "hp") (by rw [z1]; show c.looks + 2 ≤ 100000; omega) fun p8 H8 np8 g8 e8 => ?_
  have g58 := ((g5.trans g6).trans g7).trans g8
  refine q _ _ ((gs.trans g1).trans g58) ⟨p8, _, rfl, gs.free (g1.free (g5.free (g6.free (g7.free np8)))), e8, ?_⟩
  unfold codeM
  rw [List.map_append]
  refine (t1.mono g58).append (.cons (row_fin_mk (g8 _ _ (g7 _ _ (g6 _ _ e5)))) (.cons (row_fin_mk ?_) .nil))
  have e6' := g8 _ _ (g7 _ _ e6)
  rw [show V.int (1 - bi f) = vb (!f) from congrArg V.int (bi_not f)] at e6'
  exact e6'
theorem pure_codeof {K : PySem.W.Frag} {w : World} (vs : List V) (H : Hp) (Q : VK) (E : XK) (h : spCodeOf vs H Q E) :
    t_code_of K w (spCount 11) (spRowsOf 11) (Ends.mk (fun _ H' => Q .non H') Q (fun _ _ => False) (fun _ _ => False)) (start ["condition", "first", "behind", "dues"] vs) H := by
  obtain ⟨v, c, f, rfl, hc, ho, hd, q⟩ := h
  have hk : c.looks ≤ 2000 := by
    have h1 := looks_deep c
    have h2 := Nat.pow_le_pow_right (n := 2) (by decide) hd
    omega
  unfold t_code_of
  tm_at "j"
  refine ⟨v, c, 0, rfl, hc, ho, by omega, by omega, fun H1 g1 => ?_⟩
  tm_at "j"
  rename_i p2 H2 n2 g2 e2
  have el : V.int ((c.looks : Int) + 1) = vn (c.looks + 1) := congrArg V.int (by omega)
  cases f
  · tm_at "j"
    rw [show vb false = V.int 0 from rfl]
    tm_at "j"
    refine l_setL' (K := K) e2 rfl fun H3 g3 e3 => ?_
    rw [el] at e3
    have g13 : Same H1 H3 := sm_but g2 g3 n2
    exact code_tail (K := K) (w := w) (f := false) hk ho hd ((hc.mono g1).mono g13) (g1.trans g13) e3 q
  · tm_at "j"
    rw [show vb true = V.int 1 from rfl]
    tm_at "j"
    refine l_setL' (K := K) e2 rfl fun H3 g3 e3 => ?_
    rw [el] at e3
    have g13 : Same H1 H3 := sm_but g2 g3 n2
    exact code_tail (K := K) (w := w) (f := true) hk ho hd ((hc.mono g1).mono g13) (g1.trans g13) e3 q
theorem pure_coded {K : PySem.W.Frag} {w : World} (vs : List V) (H : Hp) (Q : VK) (E : XK) (h : spCoded vs H Q E) :
    t_coded K w spCheck spFirst spCodeOf (Ends.mk (fun _ H' => Q .non H') Q (fun _ _ => False) (fun _ _ => False)) (start ["condition", "first"] vs) H := by
  obtain ⟨v, c, f, rfl, hc, ho, hd, hk, q⟩ := h
  unfold t_coded
  tm_at "j"
  refine ⟨v, c, rfl, hc, ho, hd, hk, fun H1 g1 => ?_⟩
  tm_at "j"
  refine ⟨f, rfl, fun H2 g2 => ?_⟩
  tm_at "j"
  exact ⟨v, c, f, rfl, (hc.mono g1).mono g2, ho, hd, fun v' H' g r => q v' H' ((g1.trans g2).trans g) (r.back (g1.trans g2))⟩

/-! _law_run -/
def spRun (K : PySem.W.Frag) : Sp := fun vs H Q _ => ∃ p u, ∃ rows : List Row, ∃ ws : List Bool, vs = [.ref p, u] ∧ RA K H p rows ∧ okRows rows ∧ WA H u ws ∧ ∀ v' H', Same H H' → RTold H H' v' (runC rows ws) → Q v' H'
theorem len4 {n : Nat} : decide (V.int (n : Int) = V.int 4) = decide (n = 4) := by
  by_cases h : n = 4
  · rw [h]; rfl
  · rw [decide_eq_false h, decide_eq_false]
    intro e
    exact h (by have := V.int.inj e; omega)
theorem pure_run {K : PySem.W.Frag} {w : World} (vs : List V) (H : Hp) (Q : VK) (E : XK) (h : spRun K vs H Q E) :
    t_law_run K w (Ends.mk (fun _ H' => Q .non H') Q (fun _ _ => False) (fun _ _ => False)) (start ["_law_rows", "_law_worths_here", "_law_at", "_law_seen", "_law_leaps", "_law_goes"] vs) H := by
  obtain ⟨p, u, rows, ws, rfl, hr, ok, hw, q⟩ := h
  unfold t_law_run
  tm_at "j"
  rename_i l H1 nl g1 e1
  have ok0 := ok
  obtain ⟨l2, l1000, okr⟩ := ok0
  refine l_whileN (fun m σ' H' => ∃ (i : Nat) (sn : List Nat) (lp : Nat) (o : Option V), σ' = [some (.ref p), some u, some (.int (i : Int)), some (.ref l), some (.int (lp : Int)), o] ∧ i < rows.length ∧ m = rows.length - i ∧ Same H H' ∧ H' l = some (.lst (sn.map vn)) ∧ sn.length ≤ i ∧
    runC rows ws = ((runM rows ws (rows.length - i) i).1, sn ++ (runM rows ws (rows.length - i) i).2.1, lp + (runM rows ws (rows.length - i) i).2.2)) rows.length ⟨0, [], 0, none, rfl, by omega, rfl, g1, e1, Nat.le_refl _, by show runC rows ws = (_, _, 0 + _); rw [Nat.zero_add]; rfl⟩ ?_
  rintro m σ' H' ⟨i, sn, lp, o, rfl, hi, rfl, g, el, hs, inv⟩
  have hri : rows[i]? = some (rows[i]'hi) := List.getElem?_eq_getElem hi
  obtain ⟨rs, v, hl, hat, hv⟩ := (hr.mono g).get hri
  obtain ⟨ua, rfl, hu, hu8⟩ := hw.mono g
  tm_at "j"
  refine l_ixL hl hat ?_
  cases er : rows[i]'hi with
  | fin b =>
    rw [er] at hv hri
    obtain ⟨a, rfl, ha⟩ := row_fin hv
    tm_at "j"
    refine wb (fun e => absurd (show false = true from e) (by decide)) (fun _ => ?_)
    tm_at "j"
    refine l_ixL hl hat ?_
    tm_at "j"
    rename_i p2 H2 np2 g2 e2
    rw [inv, runM_fin hri] at q
    exact q _ _ (g.trans g2) (rtold_mk e2 (by show H2 l = some (.lst ((sn ++ []).map vn)); rw [List.append_nil]; exact g2 _ _ el) nl)
  | look t w to =>
    rw [er] at hv hri
    obtain ⟨t8, h5, h6, h7⟩ := okr i _ hri
    obtain ⟨a, rfl, ha⟩ := row_look hv
    tm_at "j"
    refine wb (fun _ => ?_) (fun e => absurd (show true = false from e) (by decide))
    tm_at "j"
    refine l_ixL hl hat ?_
    tm_at "j"
    have hlen : (sn.map vn).length = sn.length := List.length_map _
    refine l_append' el (by omega) fun H2 g2 e2 => ?_
    have gs2 : Same H H2 := sm_but g g2 nl
    have e2' : H2 l = some (.lst ((sn ++ [t]).map vn)) := by rw [List.map_append]; exact e2
    obtain ⟨rs2, v2, hl2, hat2, hv2⟩ := (hr.mono gs2).get hri
    obtain ⟨a2, rfl, ha2⟩ := row_look hv2
    obtain ⟨ua2, eu, hu2, hu28⟩ := hw.mono gs2
    obtain rfl : ua = ua2 := V.ref.inj eu
    tm_at "j"
    refine l_ixL hl2 hat2 ?_
    tm_at "j"
    refine l_ixT (by tm_at "hp") (at_map (d := false) (show t < ws.length by omega)) ?_
    tm_at "j"
    refine l_ixL hl2 hat2 ?_
    tm_at "j"
    rw [vbb]
    tm_at "j"
    have look := runM_look (ws := ws) ok hri
    rw [look] at inv
    refine i_b (fun eg => ?_) (fun eg => ?_)
    · rw [eg] at inv
      tm_at "j"
      refine l_ixL hl2 hat2 ?_
      tm_at "j"
      refine ⟨rows.length - to, by omega, to, sn ++ [t], lp + 1, some (.bl (ws.getD t false == w)), ?_, h7, rfl, gs2, e2', by rw [List.length_append]; show sn.length + 1 ≤ to; omega, ?_⟩
      · rw [eg]; rfl
      · rw [inv, List.append_assoc, Nat.add_assoc]; rfl
    · rw [eg] at inv
      tm_at "j"
      refine ⟨rows.length - (i + 1), by omega, i + 1, sn ++ [t], lp, some (.bl (ws.getD t false == w)), ?_, by omega, rfl, gs2, e2', by rw [List.length_append]; show sn.length + 1 ≤ i + 1; omega, ?_⟩
      · rw [eg]
        show _ = [some (V.ref p), _, some (V.int ((i + 1 : Nat) : Int)), _, _, _]
        rw [show ((i + 1 : Nat) : Int) = (i : Int) + 1 by omega, show (lp : Int) = (lp : Int) + 0 by omega]; rfl
      · simp only [Bool.false_eq_true, if_false, Nat.zero_add] at inv
        rw [inv, List.append_assoc]; rfl

/-! outcome_of_rows -/
theorem wend : decide (V.str "end" = V.str "look") = false := by decide +kernel
theorem pure_orows {K : PySem.W.Frag} {w : World} (vs : List V) (H : Hp) (Q : VK) (E : XK) (h : spRun K vs H Q E) :
    t_outcome_of_rows K w (Ends.mk (fun _ H' => Q .non H') Q (fun _ _ => False) (fun _ _ => False)) (start ["rows", "worths", "at", "looks", "jumps", "_", "thing", "when", "to"] vs) H := by
  obtain ⟨p, u, rows, ws, rfl, hr, ok, hw, q⟩ := h
  unfold t_outcome_of_rows
  tm_at "j"
  rename_i l H1 nl g1 e1
  unfold t_outcome_of_rows_1
  have ok0 := ok
  obtain ⟨l2, l1000, okr⟩ := ok0
  refine l_whileN (fun m σ' H' => ∃ (i : Nat) (sn : List Nat) (lp : Nat) (o5 o6 o7 o8 : Option V), σ' = [some (.ref p), some u, some (.int (i : Int)), some (.ref l), some (.int (lp : Int)), o5, o6, o7, o8] ∧ i < rows.length ∧ m = rows.length - i ∧ Same H H' ∧ H' l = some (.lst (sn.map vn)) ∧ sn.length ≤ i ∧
    runC rows ws = ((runM rows ws (rows.length - i) i).1, sn ++ (runM rows ws (rows.length - i) i).2.1, lp + (runM rows ws (rows.length - i) i).2.2)) rows.length ⟨0, [], 0, none, none, none, none, rfl, by omega, rfl, g1, e1, Nat.le_refl _, by show runC rows ws = (_, _, 0 + _); rw [Nat.zero_add]; rfl⟩ ?_
  rintro m σ' H' ⟨i, sn, lp, o5, o6, o7, o8, rfl, hi, rfl, g, el, hs, inv⟩
  have hri : rows[i]? = some (rows[i]'hi) := List.getElem?_eq_getElem hi
  obtain ⟨rs, v, hl, hat, hv⟩ := (hr.mono g).get hri
  obtain ⟨ua, rfl, hu, hu8⟩ := hw.mono g
  tm_at "j"
  refine l_ixL hl hat ?_
  cases er : rows[i]'hi with
  | fin b =>
    rw [er] at hv hri
    obtain ⟨a, rfl, ha⟩ := row_fin hv
    tm_at "j"
    rw [wend]
    refine wb (fun e => absurd e (by decide)) (fun _ => ?_)
    tm_at "j"
    refine l_ixL hl hat ?_
    tm_at "j"
    rename_i p2 H2 np2 g2 e2
    rw [inv, runM_fin hri] at q
    exact q _ _ (g.trans g2) (rtold_mk e2 (by show H2 l = some (.lst ((sn ++ []).map vn)); rw [List.append_nil]; exact g2 _ _ el) nl)
  | look t w to =>
    rw [er] at hv hri
    obtain ⟨t8, h5, h6, h7⟩ := okr i _ hri
    obtain ⟨a, rfl, ha⟩ := row_look hv
    tm_at "j"
    refine wb (fun _ => ?_) (fun e => absurd e (by decide +kernel))
    tm_at "j"
    refine l_ixL hl hat ?_
    tm_at "j"
    have hlen : (sn.map vn).length = sn.length := List.length_map _
    refine l_append' el (by omega) fun H2 g2 e2 => ?_
    have gs2 : Same H H2 := sm_but g g2 nl
    have e2' : H2 l = some (.lst ((sn ++ [t]).map vn)) := by rw [List.map_append]; exact e2
    obtain ⟨ua2, eu, hu2, hu28⟩ := hw.mono gs2
    obtain rfl : ua = ua2 := V.ref.inj eu
    tm_at "j"
    refine l_ixT (by tm_at "hp") (at_map (d := false) (show t < ws.length by omega)) ?_
    tm_at "j"
    rw [vbb]
    have look := runM_look (ws := ws) ok hri
    rw [look] at inv
    refine i_b (fun eg => ?_) (fun eg => ?_)
    · rw [eg] at inv
      tm_at "j"
      refine ⟨rows.length - to, by omega, to, sn ++ [t], lp + 1, _, _, _, _, rfl, h7, rfl, gs2, e2', by rw [List.length_append]; show sn.length + 1 ≤ to; omega, ?_⟩
      rw [inv, List.append_assoc, Nat.add_assoc]; rfl
    · rw [eg] at inv
      tm_at "j"
      refine ⟨rows.length - (i + 1), by omega, i + 1, sn ++ [t], lp, _, _, _, _, rfl, by omega, rfl, gs2, e2', by rw [List.length_append]; show sn.length + 1 ≤ i + 1; omega, ?_⟩
      simp only [Bool.false_eq_true, if_false, Nat.zero_add] at inv
      rw [inv, List.append_assoc]; rfl
/-! is_look, is_end, can_be, check_code, run: of good codes -/
def spIsLook : Sp := fun vs H Q _ => ∃ v, ∃ t to i last : Nat, ∃ wv : Bool, vs = [v, .int (i : Int), .int (last : Int)] ∧ TD H v (rowD (.look t wv to)) ∧ t < 8 ∧ i < to ∧ to ≤ last ∧ ∀ H', Same H H' → Q (.bl true) H'
theorem pure_islook {K : PySem.W.Frag} {w : World} (vs : List V) (H : Hp) (Q : VK) (E : XK) (h : spIsLook vs H Q E) :
    t_is_look K w spNum (Ends.mk (fun _ H' => Q .non H') Q (fun _ _ => False) (fun _ _ => False)) (start ["row", "place", "last", "_", "thing", "when", "to"] vs) H := by
  obtain ⟨v, t, to, i, last, wv, rfl, tv, h8, h1, h2, q⟩ := h
  obtain ⟨a, rfl, ha⟩ := row_look tv
  unfold t_is_look
  tm_at "j"
  refine ⟨(t : Int), 7, rfl, fun H1 g1 => ?_⟩
  rw [show (decide ((0 : Int) ≤ (t : Int)) && decide ((t : Int) ≤ 7)) = true by rw [decide_eq_true (by omega), decide_eq_true (by omega)]; rfl]
  tm_at "j"
  refine ⟨bi wv, 1, rfl, fun H2 g2 => ?_⟩
  rw [show (decide (0 ≤ bi wv) && decide (bi wv ≤ 1)) = true by cases wv <;> decide]
  tm_at "j"
  refine ⟨(to : Int), (last : Int), rfl, fun H3 g3 => ?_⟩
  rw [show (decide ((0 : Int) ≤ (to : Int)) && decide ((to : Int) ≤ (last : Int))) = true by rw [decide_eq_true (by omega), decide_eq_true (by omega)]; rfl]
  tm_at "j"
  rw [show vn to = V.int (to : Int) from rfl]
  tm_at "j"
  have := q _ ((g1.trans g2).trans g3)
  rw [decide_eq_true (show (i : Int) < (to : Int) by omega)]
  exact this
def spIsEnd : Sp := fun vs H Q _ => ∃ v, ∃ b : Bool, vs = [v] ∧ TD H v (rowD (.fin b)) ∧ ∀ H', Same H H' → Q (.bl true) H'
theorem pure_isend {K : PySem.W.Frag} {w : World} (vs : List V) (H : Hp) (Q : VK) (E : XK) (h : spIsEnd vs H Q E) :
    t_is_end K w spNum (Ends.mk (fun _ H' => Q .non H') Q (fun _ _ => False) (fun _ _ => False)) (start ["row"] vs) H := by
  obtain ⟨v, b, rfl, tv, q⟩ := h
  obtain ⟨a, rfl, ha⟩ := row_fin tv
  unfold t_is_end
  tm_at "j"
  refine ⟨bi b, 1, rfl, fun H1 g1 => ?_⟩
  rw [show (decide (0 ≤ bi b) && decide (bi b ≤ 1)) = true by cases b <;> decide]
  exact q _ (by tm_at "hp")
def spCanBe (K : PySem.W.Frag) : Sp := fun vs H Q _ => ∃ p, ∃ rows : List Row, ∃ i : Nat, vs = [.ref p, .int (i : Int)] ∧ RA K H p rows ∧ GoodCode rows ∧ i < rows.length ∧ ∀ H', Same H H' → Q (.bl true) H'
theorem pure_canbe {K : PySem.W.Frag} {w : World} (vs : List V) (H : Hp) (Q : VK) (E : XK) (h : spCanBe K vs H Q E) :
    t_can_be K w spIsLook spIsEnd (Ends.mk (fun _ H' => Q .non H') Q (fun _ _ => False) (fun _ _ => False)) (start ["rows", "place", "last", "row"] vs) H := by
  obtain ⟨p, rows, i, rfl, hr, ⟨ls, f, rfl, hl, hls⟩, hi, q⟩ := h
  have hlen : (ls ++ [Row.fin f, Row.fin (!f)]).length = ls.length + 2 := by rw [List.length_append]; rfl
  rw [hlen] at hi
  obtain ⟨rs, h1, h2⟩ := id hr
  have hrs : rs.length = ls.length + 2 := by rw [h2.len, List.length_map, hlen]
  have e0 : (ls ++ [Row.fin f, Row.fin (!f)])[ls.length]? = some (.fin f) := by rw [List.getElem?_append_right (Nat.le_refl _), Nat.sub_self]; rfl
  have e1 : (ls ++ [Row.fin f, Row.fin (!f)])[ls.length + 1]? = some (.fin (!f)) := by rw [List.getElem?_append_right (by omega), Nat.add_sub_cancel_left]; rfl
  unfold t_can_be
  tm_at "j"
  rw [hrs, show V.int (((ls.length + 2 : Nat) : Int) - 1) = V.int ((ls.length + 1 : Nat) : Int) from congrArg V.int (by omega)]
  by_cases hlt : i < ls.length
  · have ei : (ls ++ [Row.fin f, Row.fin (!f)])[i]? = some (ls[i]'hlt) := by rw [List.getElem?_append_left hlt, List.getElem?_eq_getElem hlt]
    obtain ⟨t, wv, to, er, t8, hto, hto2⟩ := hls i _ (List.getElem?_eq_getElem hlt)
    rw [er] at ei
    obtain ⟨rs2, v, hq, hat, tv⟩ := hr.get ei
    refine l_ixL hq hat ?_
    tm_at "j"
    exact ⟨v, t, to, i, ls.length + 1, wv, rfl, tv, t8, hto, by omega, q⟩
  · obtain ⟨rs2, v0, hq0, hat0, tv0⟩ := hr.get e0
    by_cases heq : i = ls.length
    · subst heq
      refine l_ixL hq0 hat0 ?_
      tm_at "j"
      exact ⟨v0, f, rfl, tv0, q⟩
    · obtain rfl : i = ls.length + 1 := by omega
      obtain ⟨rs3, v1, hq1, hat1, tv1⟩ := hr.get e1
      refine l_ixL hq1 hat1 ?_
      tm_at "j"
      refine ⟨v1, !f, rfl, tv1, fun H1 g1 => ?_⟩
      obtain ⟨a1, rfl, ha1⟩ := row_fin (tv1.mono g1)
      obtain ⟨a0, rfl, ha0⟩ := row_fin (tv0.mono g1)
      tm_at "j"
      rw [show V.int (((ls.length + 1 : Nat) : Int) - 1) = V.int ((ls.length : Nat) : Int) from congrArg V.int (by omega)]
      refine l_ixL (sm_l g1 hq0) hat0 ?_
      tm_at "j"
      rw [vbb]
      have := q _ g1
      rw [show (!((!f) == f)) = true by cases f <;> rfl]
      exact this
def spCheckCode (K : PySem.W.Frag) : Sp := fun vs H Q _ => ∃ p, ∃ rows : List Row, vs = [.ref p] ∧ RA K H p rows ∧ GoodCode rows ∧ ∀ H', Same H H' → Q .non H'
theorem pure_ccode {K : PySem.W.Frag} {w : World} (vs : List V) (H : Hp) (Q : VK) (E : XK) (h : spCheckCode K vs H Q E) :
    t_check_code K w (spCanBe K) (Ends.mk (fun _ H' => Q .non H') Q (fun _ _ => False) (fun _ _ => False)) (start ["rows", "place"] vs) H := by
  obtain ⟨p, rows, rfl, hr, gc, q⟩ := h
  have hlen : 2 ≤ rows.length ∧ rows.length ≤ 40 := by
    obtain ⟨ls, f, rfl, hl, _⟩ := gc
    rw [List.length_append]
    show 2 ≤ ls.length + 2 ∧ ls.length + 2 ≤ 40
    omega
  obtain ⟨rs, h1, h2⟩ := id hr
  have hrs : rs.length = rows.length := by rw [h2.len, List.length_map]
  unfold t_check_code
  tm_at "j"
  unfold t_check_code_1
  tm_at "j"
  refine forR (n := rs.length) (by omega) (fun i σ' H' => ∃ o, σ' = [some (.ref p), o] ∧ Same H H') ⟨_, rfl, Same.refl _⟩ ?_ ?_
  · rintro i σ' H' hi ⟨o, rfl, g⟩
    rw [Int.zero_add]
    tm_at "j"
    refine i_f (decide_eq_false fun e => ?_) ?_
    · have e1 : (i : Int) = 40 := V.int.inj e
      omega
    tm_at "j"
    refine ⟨p, rows, i, rfl, hr.mono g, gc, by omega, fun H2 g2 => ?_⟩
    tm_at "j"
    exact ⟨_, rfl, g.trans g2⟩
  · rintro σ' H' ⟨o, rfl, g⟩
    exact q _ g
theorem pure_runp {K : PySem.W.Frag} {w : World} (vs : List V) (H : Hp) (Q : VK) (E : XK) (h : spRunP K vs H Q E) :
    t_run K w (spCheckCode K) spWorths (spRun K) (Ends.mk (fun _ H' => Q .non H') Q (fun _ _ => False) (fun _ _ => False)) (start ["rows", "worths"] vs) H := by
  obtain ⟨p, u, rows, ws, rfl, hr, gc, hw, q⟩ := h
  unfold t_run
  tm_at "j"
  refine ⟨p, rows, rfl, hr, gc, fun H1 g1 => ?_⟩
  tm_at "j"
  refine ⟨u, ws, rfl, hw.mono g1, fun H2 g2 => ?_⟩
  tm_at "j"
  have g02 := g1.trans g2
  exact ⟨p, u, rows, ws, rfl, hr.mono g02, gc.ok, (hw.mono g1).mono g2, fun v' H' g r => q v' H' (g02.trans g) (r.back g02)⟩

/-! times_of, likely_worths, looks_in_all, jumps_in_all, looks, jumps -/
def spTimesOf : Sp := fun vs H Q _ => ∃ v u ws ch, vs = [v, u] ∧ WA H v ws ∧ ChA H u ch ∧ ∀ H', Same H H' → Q (.int (tmsN ch ws 8 : Int)) H'
theorem pure_timesof {K : PySem.W.Frag} {w : World} (vs : List V) (H : Hp) (Q : VK) (E : XK) (h : spTimesOf vs H Q E) :
    t_times_of K w (Ends.mk (fun _ H' => Q .non H') Q (fun _ _ => False) (fun _ _ => False)) (start ["worths", "chances", "times", "worth", "chance"] vs) H := by
  obtain ⟨v, u, ws, ch, rfl, ⟨a1, rfl, h1, l1⟩, ⟨a2, rfl, h2, l2, c2⟩, q⟩ := h
  unfold t_times_of
  tm_at "j"
  unfold t_times_of_1
  tm_at "j"
  refine forZ (xs := ws.map vb) (ys := ch.map vn) (by rw [List.length_map, List.length_map, l1, l2]) (SqT.of h1) (SqT.of h2) (fun i σ' H' => ∃ o3 o4, σ' = [some (.ref a1), some (.ref a2), some (vn (tmsN ch ws i)), o3, o4] ∧ Same H H') ⟨_, _, rfl, Same.refl _⟩ (fun i σ' H' ⟨_, _, _, g⟩ => g) ?_ ?_
  · rintro i x y T σ' H' H'' hx hy ⟨o3, o4, rfl, g⟩ g2 eT
    have hi : i < 8 := by
      have := (List.getElem?_eq_some_iff.mp hx).1
      rw [List.length_map, l1] at this
      exact this
    have hx' : (ws.map vb)[i]? = some (vb (ws.getD i false)) := by
      rw [List.getElem?_map, List.getD_eq_getElem?_getD, List.getElem?_eq_getElem (show i < ws.length by omega)]; rfl
    have hy' : (ch.map vn)[i]? = some (vn (ch.getD i 0)) := by
      rw [List.getElem?_map, List.getD_eq_getElem?_getD, List.getElem?_eq_getElem (show i < ch.length by omega)]; rfl
    rw [hx'] at hx
    rw [hy'] at hy
    obtain rfl := Option.some.inj hx
    obtain rfl := Option.some.inj hy
    have hc : ch.getD i 0 ≤ 100 := by
      rw [List.getD_eq_getElem?_getD]
      cases e : ch[i]? with
      | none => exact Nat.zero_le _
      | some x => exact c2 x (List.mem_of_getElem? e)
    have hle := tmsN_le ch ws c2 i
    have hle2 : (100 : Nat) ^ i ≤ 100 ^ 8 := Nat.pow_le_pow_right (by decide) (by omega)
    have cm : ∀ k : Int, CMul (tmsN ch ws i : Int) k := fun k => Or.inl ⟨by have : (-(2 ^ 64) : Int) < 0 := by decide
                                                                            omega, by have : (100 : Nat) ^ 8 < 2 ^ 64 := by decide
                                                                                      omega⟩
    tm_at "j"
    rw [vb1]
    rw [show vn (tmsN ch ws i) = V.int (tmsN ch ws i : Int) from rfl]
    refine i_b (fun e => ?_) (fun e => ?_)
    · tm_at "j"
      rw [show vn (ch.getD i 0) = V.int (ch.getD i 0 : Int) from rfl]
      refine l_I (cm _) ?_
      have ev : V.int ((tmsN ch ws i : Int) * (ch.getD i 0 : Int)) = vn (tmsN ch ws (i + 1)) := congrArg V.int (by
        show _ = ((tmsN ch ws i * (if ws.getD i false then ch.getD i 0 else 100 - ch.getD i 0) : Nat) : Int)
        rw [e, if_pos rfl, Int.natCast_mul])
      rw [ev]
      exact ⟨some (vb (ws.getD i false)), some (vn (ch.getD i 0)), rfl, g.trans g2⟩
    · tm_at "j"
      rw [show vn (ch.getD i 0) = V.int (ch.getD i 0 : Int) from rfl]
      tm_at "j"
      refine l_I (cm _) ?_
      have ev : V.int ((tmsN ch ws i : Int) * ((100 : Int) - (ch.getD i 0 : Int))) = vn (tmsN ch ws (i + 1)) := congrArg V.int (by
        show _ = ((tmsN ch ws i * (if ws.getD i false then ch.getD i 0 else 100 - ch.getD i 0) : Nat) : Int)
        rw [e, if_neg Bool.false_ne_true, Int.natCast_mul, show ((100 - ch.getD i 0 : Nat) : Int) = (100 : Int) - (ch.getD i 0 : Int) by omega])
      rw [ev]
      exact ⟨some (vb (ws.getD i false)), some (vn (ch.getD i 0)), rfl, g.trans g2⟩
  · rintro σ' H' ⟨o3, o4, rfl, g⟩
    tm_at "j"
    rw [List.length_map, l1]
    exact q _ g
/-- all worths with their times -/
def LkA (ch : List Nat) (H : Hp) (ys : List V) : Prop := ys.length = 256 ∧ ∀ (i : Nat) (y : V), ys[i]? = some y → ∃ p u, y = .ref p ∧ H p = some (.tup [u, .int (tmsN ch (wts i) 8 : Int)]) ∧ WA H u (wts i)
theorem LkA.mono {ch : List Nat} {H H' : Hp} {ys : List V} (g : Same H H') (h : LkA ch H ys) : LkA ch H' ys := ⟨h.1, fun i y e => by
  obtain ⟨p, u, e1, e2, e3⟩ := h.2 i y e
  exact ⟨p, u, e1, g _ _ e2, e3.mono g⟩⟩
def spLikely : Sp := fun vs H Q _ => ∃ v ch, vs = [v] ∧ ChA H v ch ∧ ∀ l ys H', Same H H' → H l = none → H' l = some (.lst ys) → LkA ch H' ys → Q (.ref l) H'
theorem lcL_rel {K : PySem.W.Frag} {σ : St} {H : Hp} {Q : VK} {te : TE} {j : Nat} {vs : List Nat} {a : Addr} {xs : List V} (R : Nat → V → Hp → Prop) (mono : ∀ i y H H', Tups H H' → R i y H → R i y H') (hw : ∀ x, wipe ((wipe σ vs).set j (some x)) vs = wipe σ vs) (ht : SqL K H a xs) (hl : xs.length ≤ 100000)
    (h : ∀ (i : Nat) (x : V) H' (Q' : VK), xs[i]? = some x → Same H H' → (∀ y H'', Same H' H'' → R i y H'' → Q' y H'') → te ((wipe σ vs).set j (some x)) H' Q')
    (q : ∀ D ys H2, H D = none → Same H H2 → H2 D = some (.lst ys) → ys.length = xs.length → (∀ i y, ys[i]? = some y → R i y H2) → Q (.ref D) H2) : IL K (.ref a) H (LcB (gName j) tYes te vs σ Q) :=
  ⟨a, rfl, ⟨xs, ht⟩, fun D hD => by
    refine lc_list (K := K) (a := a) (xs := xs) (fun i H' => ∃ ys, Same H H' ∧ H' D = some (.lst ys) ∧ ys.length = i ∧ i ≤ xs.length ∧ ∀ k y, ys[k]? = some y → R k y H') ⟨[], sm_new hD _, upd_same, rfl, Nat.zero_le _, fun k y e => by cases e⟩ (fun i H' _ ⟨_, g, _⟩ => sm_l g ht) (fun i x H' hx p => ⟨hw x, ?_⟩) fun H' ⟨ys, g, e, n, _, r⟩ => q D ys H' hD g e n r
    obtain ⟨ys, g, e, n, n2, r⟩ := p
    have hi := (List.getElem?_eq_some_iff.mp hx).1
    refine h i x H' _ hx g fun y H'' g2 ry => ?_
    have tp : Tups H'' (upd H'' D (.lst (ys ++ [y]))) := but_upd.tups (g2 _ _ e)
    refine ⟨ys, g2 _ _ e, Nat.lt_of_lt_of_le (show ys.length < 100001 by omega) (by decide), ys ++ [y], sm_mut (g.trans g2) hD, upd_same, by rw [List.length_append, n]; rfl, hi, fun k z hz => mono _ _ _ _ tp ?_⟩
    by_cases hk : k < ys.length
    · rw [List.getElem?_append_left hk] at hz
      exact mono _ _ _ _ (Same.tups g2) (r k z hz)
    · rw [List.getElem?_append_right (by omega)] at hz
      have hk2 : k - ys.length = 0 := by
        have := (List.getElem?_eq_some_iff.mp hz).1
        have : ([y] : List V).length = 1 := rfl
        omega
      rw [hk2] at hz
      obtain rfl := Option.some.inj hz
      have : k = i := by omega
      rw [this]
      exact ry⟩
theorem pure_likely {K : PySem.W.Frag} {w : World} (vs : List V) (H : Hp) (Q : VK) (E : XK) (h : spLikely vs H Q E) :
    t_likely_worths K w spAllBits spTimesOf (Ends.mk (fun _ H' => Q .non H') Q (fun _ _ => False) (fun _ _ => False)) (start ["chances", "worths"] vs) H := by
  obtain ⟨v, ch, rfl, hch, q⟩ := h
  unfold t_likely_worths
  tm_at "j"
  refine ⟨8, rfl, by decide, fun l ys H1 g1 nl el bt => ?_⟩
  have hys : ys.length = 256 := by rw [bt.1, bitsM_len]
  refine lcL_rel (fun i y H' => ∃ p u, y = .ref p ∧ H' p = some (.tup [u, .int (tmsN ch (wts i) 8 : Int)]) ∧ WA H' u (wts i)) (fun i y H H' tp ⟨p, u, h1, h2, h3⟩ => ⟨p, u, h1, tp _ _ h2, h3.tups tp⟩) (fun _ => rfl) (SqL.of el) (by omega) ?_ ?_
  · intro i x H' Q' hx g kk
    obtain ⟨hi, hw⟩ := bits_wa bt hx
    have hw := hw.mono g
    tm_at "j"
    refine ⟨x, v, wts i, ch, rfl, hw, (hch.mono g1).mono g, fun H2 g2 => ?_⟩
    tm_at "j"
    rename_i p3 H3 n3 g3 e3
    exact kk _ _ (g2.trans g3) ⟨p3, x, rfl, e3, (hw.mono g2).mono g3⟩
  · intro D zs H2 nD g2 eD hz hR
    exact q D zs H2 (g1.trans g2) (g1.free nD) eD ⟨by omega, hR⟩
theorem sum_all (f : Nat → Nat) : ∀ n, ((List.range n).map fun k => ((f k : Nat) : Int)).sum = ((sumN n f : Nat) : Int)
  | 0 => rfl
  | n + 1 => by
    rw [List.range_succ, List.map_append, List.sum_append, sum_all f n]
    show ((sumN n f : Nat) : Int) + ((f n : Int) + 0) = ((sumN n f + f n : Nat) : Int)
    omega
def spLooksAll (K : PySem.W.Frag) : Sp := fun vs H Q _ => ∃ v l c ys ch, vs = [v, .ref l] ∧ CA H v c ∧ c.ok ∧ c.deep ≤ 10 ∧ SqL K H l ys ∧ LkA ch H ys ∧ ∀ H', Same H H' → Q (.int (looksM ch c : Int)) H'
theorem pure_looksall {K : PySem.W.Frag} {w : World} (vs : List V) (H : Hp) (Q : VK) (E : XK) (h : spLooksAll K vs H Q E) :
    t_looks_in_all K w (spOut 11) (Ends.mk (fun _ H' => Q .non H') Q (fun _ _ => False) (fun _ _ => False)) (start ["condition", "likely", "worths", "times"] vs) H := by
  obtain ⟨v, l, c, ys, ch, rfl, hc, ho, hd, hl, hk, q⟩ := h
  unfold t_looks_in_all
  tm_at "j"
  refine lcL2 (n := 256) (xs := ys) (ys := (List.range 256).map fun k => V.int ((tmsN ch (wts k) 8 * (ev (wts k) c).2.length : Nat) : Int)) hk.1 (by rw [List.length_map, List.length_range]) (fun _ _ => rfl) hl (by decide) (fun i y e => ?_) ?_ ?_
  · obtain ⟨p, u, rfl, h1, _⟩ := hk.2 i y e
    exact ⟨p, _, _, rfl, h1⟩
  · intro i x y z t H' Q' hx ht hz g kk
    have hi : i < 256 := by have := (List.getElem?_eq_some_iff.mp hx).1; have := hk.1; omega
    obtain ⟨p, u, ep, h1, hw⟩ := hk.2 i _ hx
    obtain rfl := V.ref.inj ep
    rw [ht] at h1
    have h1 := Option.some.inj h1
    injection h1 with h1
    injection h1 with h1 h1'
    injection h1' with h1' _
    subst h1 h1'
    rw [List.getElem?_map, List.getElem?_range hi] at hz
    obtain rfl := Option.some.inj hz
    tm_at "j"
    refine ⟨v, x, c, wts i, rfl, hc.mono g, by omega, by decide, ho, hw.mono g, fun v4 H4 g4 t4 => ?_⟩
    obtain ⟨p4, l4, rfl, n4, e4, e4'⟩ := t4
    have hs := ev_small (ws := wts i) (c := c) (by omega)
    tm_at "j"
    rw [List.length_map]
    refine l_I (Or.inl ⟨by have : (-(2 ^ 64) : Int) < 0 := by decide
                           omega, by have : (4096 : Int) < 2 ^ 64 := by decide
                                     omega⟩) ?_
    have : Q' (V.int ((tmsN ch (wts i) 8 * (ev (wts i) c).2.length : Nat) : Int)) H4 := kk _ g4
    rw [show V.int ((tmsN ch (wts i) 8 * (ev (wts i) c).2.length : Nat) : Int) = V.int (((ev (wts i) c).2.length : Int) * (tmsN ch (wts i) 8 : Int)) from congrArg V.int (by rw [Int.natCast_mul, Int.mul_comm])] at this
    exact this
  · intro D H2 nD g2 eD
    refine l_sum (ns := (List.range 256).map fun k => ((tmsN ch (wts k) 8 * (ev (wts k) c).2.length : Nat) : Int)) (by rw [List.map_map]; exact SqL.of eD) ?_
    rw [sum_all fun k => tmsN ch (wts k) 8 * (ev (wts k) c).2.length]
    exact q _ g2
def spJumpsAll (K : PySem.W.Frag) : Sp := fun vs H Q _ => ∃ v l c ys ch, ∃ f : Bool, vs = [v, vb f, .ref l] ∧ CA H v c ∧ c.ok ∧ c.deep ≤ 10 ∧ c.looks ≤ 12 ∧ SqL K H l ys ∧ LkA ch H ys ∧ ∀ H', Same H H' → Q (.int (jumpsM ch f c : Int)) H'
theorem jumps_small {c : Cond} {f : Bool} {ws : List Bool} (ho : c.ok) (hk : c.looks ≤ 12) : (runC (codeM c f) ws).2.2 ≤ 12 := by
  obtain ⟨j, hj, e⟩ := run_code c f ws ho (by omega)
  rw [e]
  show j ≤ 12
  have := ev_len ws c
  omega
theorem pure_jumpsall {K : PySem.W.Frag} {w : World} (vs : List V) (H : Hp) (Q : VK) (E : XK) (h : spJumpsAll K vs H Q E) :
    t_jumps_in_all K w spCodeOf (spRun K) (Ends.mk (fun _ H' => Q .non H') Q (fun _ _ => False) (fun _ _ => False)) (start ["condition", "first", "likely", "rows", "worths", "times"] vs) H := by
  obtain ⟨v, l, c, ys, ch, f, rfl, hc, ho, hd, hk12, hl, hk, q⟩ := h
  unfold t_jumps_in_all
  tm_at "j"
  refine ⟨v, c, f, rfl, hc, ho, hd, fun v1 H1 g1 r1 => ?_⟩
  obtain ⟨lr, rfl, nr, hr⟩ := r1.ra (K := K)
  have hl1 := sm_l g1 hl
  have hk1 := hk.mono g1
  tm_at "j"
  refine lcL2 (n := 256) (xs := ys) (ys := (List.range 256).map fun k => V.int ((tmsN ch (wts k) 8 * (runC (codeM c f) (wts k)).2.2 : Nat) : Int)) hk.1 (by rw [List.length_map, List.length_range]) (fun _ _ => rfl) hl1 (by decide) (fun i y e => ?_) ?_ ?_
  · obtain ⟨p, u, rfl, h1, _⟩ := hk1.2 i y e
    exact ⟨p, _, _, rfl, h1⟩
  · intro i x y z t H' Q' hx ht hz g kk
    have hi : i < 256 := by have := (List.getElem?_eq_some_iff.mp hx).1; have := hk.1; omega
    obtain ⟨p, u, ep, h1, hw⟩ := hk1.2 i _ hx
    obtain rfl := V.ref.inj ep
    rw [ht] at h1
    have h1 := Option.some.inj h1
    injection h1 with h1
    injection h1 with h1 h1'
    injection h1' with h1' _
    subst h1 h1'
    rw [List.getElem?_map, List.getElem?_range hi] at hz
    obtain rfl := Option.some.inj hz
    tm_at "j"
    refine ⟨lr, x, codeM c f, wts i, rfl, hr.mono g, codeM_ok c f ho (by omega), hw.mono g, fun v4 H4 g4 t4 => ?_⟩
    obtain ⟨p4, l4, rfl, n4, e4, e4'⟩ := t4
    have hs := jumps_small (f := f) (ws := wts i) ho hk12
    tm_at "j"
    rw [show vn (runC (codeM c f) (wts i)).2.2 = V.int ((runC (codeM c f) (wts i)).2.2 : Int) from rfl]
    refine l_I (Or.inl ⟨by have : (-(2 ^ 64) : Int) < 0 := by decide
                           omega, by have : (4096 : Int) < 2 ^ 64 := by decide
                                     omega⟩) ?_
    have : Q' (V.int ((tmsN ch (wts i) 8 * (runC (codeM c f) (wts i)).2.2 : Nat) : Int)) H4 := kk _ g4
    rw [show V.int ((tmsN ch (wts i) 8 * (runC (codeM c f) (wts i)).2.2 : Nat) : Int) = V.int (((runC (codeM c f) (wts i)).2.2 : Int) * (tmsN ch (wts i) 8 : Int)) from congrArg V.int (by rw [Int.natCast_mul, Int.mul_comm])] at this
    exact this
  · intro D H2 nD g2 eD
    refine l_sum (ns := (List.range 256).map fun k => ((tmsN ch (wts k) 8 * (runC (codeM c f) (wts k)).2.2 : Nat) : Int)) (by rw [List.map_map]; exact SqL.of eD) ?_
    rw [sum_all fun k => tmsN ch (wts k) 8 * (runC (codeM c f) (wts k)).2.2]
    exact q _ (g1.trans g2)
theorem pure_looksp {K : PySem.W.Frag} {w : World} (vs : List V) (H : Hp) (Q : VK) (E : XK) (h : spLooksP vs H Q E) :
    t_looks K w spCheck spChances spLikely (spLooksAll K) (Ends.mk (fun _ H' => Q .non H') Q (fun _ _ => False) (fun _ _ => False)) (start ["condition", "chances"] vs) H := by
  obtain ⟨v, u, c, ch, rfl, hc, ho, hd, hk, hch, q⟩ := h
  unfold t_looks
  tm_at "j"
  refine ⟨v, c, rfl, hc, ho, hd, hk, fun H1 g1 => ?_⟩
  tm_at "j"
  refine ⟨u, ch, rfl, hch.mono g1, fun H2 g2 => ?_⟩
  tm_at "j"
  refine ⟨u, ch, rfl, (hch.mono g1).mono g2, fun l ys H3 g3 nl el lk => ?_⟩
  have g03 := (g1.trans g2).trans g3
  tm_at "j"
  exact ⟨v, l, c, ys, ch, rfl, hc.mono g03, ho, hd, SqL.of el, lk, fun H' g => q H' (g03.trans g)⟩
theorem pure_jumpsp {K : PySem.W.Frag} {w : World} (vs : List V) (H : Hp) (Q : VK) (E : XK) (h : spJumpsP vs H Q E) :
    t_jumps K w spCheck spFirst spChances spLikely (spJumpsAll K) (Ends.mk (fun _ H' => Q .non H') Q (fun _ _ => False) (fun _ _ => False)) (start ["condition", "first", "chances"] vs) H := by
  obtain ⟨v, u, c, ch, f, rfl, hc, ho, hd, hk, hch, q⟩ := h
  unfold t_jumps
  tm_at "j"
  refine ⟨v, c, rfl, hc, ho, hd, hk, fun H1 g1 => ?_⟩
  tm_at "j"
  refine ⟨f, rfl, fun H2 g2 => ?_⟩
  tm_at "j"
  refine ⟨u, ch, rfl, (hch.mono g1).mono g2, fun H3 g3 => ?_⟩
  tm_at "j"
  refine ⟨u, ch, rfl, ((hch.mono g1).mono g2).mono g3, fun l ys H4 g4 nl el lk => ?_⟩
  have g04 := ((g1.trans g2).trans g3).trans g4
  tm_at "j"
  exact ⟨v, l, c, ys, ch, f, rfl, hc.mono g04, ho, hd, hk, SqL.of el, lk, fun H' g => q H' (g04.trans g)⟩

theorem pure_outcome {K : PySem.W.Frag} {w : World} {aG : Addr} (k1 : KDct K w aG "and" (.int 1)) (k0 : KDct K w aG "or" (.int 0)) {n : Nat} (vs : List V) (H : Hp) (Q : VK) (E : XK) (h : spOut (n + 1) vs H Q E) :
    t_outcome K w aG (spOut n) (Ends.mk (fun _ H' => Q .non H') Q (fun _ _ => False) (fun _ _ => False)) (start ["condition", "worths", "word", "thing", "worth", "looks", "second", "more"] vs) H := by
  obtain ⟨v, u, c, ws, rfl, hc, hn, h12, ho, hw, q⟩ := h
  unfold t_outcome
  cases hc with
  | look e =>
    rename_i i
    obtain ⟨a, rfl, ha, hl⟩ := id hw
    tm_at "j"
    refine l_ixT (by tm_at "hp") (at_map (d := false) (show i < ws.length by rw [hl]; exact ho)) ?_
    tm_at "j"
    exact q _ _ (by tm_at "hp") ⟨_, _, rfl, by tm_at "hp", by tm_at "hp", by tm_at "hp"⟩
  | not e hc =>
    rename_i c
    have hd : c.deep + 1 < n + 1 := hn
    tm_at "j"
    refine ⟨_, _, _, _, rfl, hc, by omega, by omega, ho, hw, ?_⟩
    rintro v' H1 g1 ⟨p, l, rfl, h0, hp, hq⟩
    tm_at "j"
    have e1 : V.int (1 - bi (ev ws c).1) = vb (ev ws c.not).1 := congrArg V.int (bi_not _)
    rw [show (vb (ev ws c).1) = V.int (bi (ev ws c).1) from rfl]
    tm_at "j"
    rw [e1] at *
    exact q _ _ (by tm_at "hp") ⟨_, _, rfl, by tm_at "hp", by tm_at "hp", by tm_at "hp"⟩
  | bin e h1 h2 =>
    rename_i a v1 v2 c d
    have hd : max c.deep d.deep + 1 < n + 1 := hn
    have hs1 := ev_small (ws := ws) (c := c) (by omega)
    have hs2 := ev_small (ws := ws) (c := d) (by omega)
    rcases hx : ev ws c with ⟨b, ls⟩
    rcases hy : ev ws d with ⟨b2, ls2⟩
    rw [hx] at hs1
    rw [hy] at hs2
    have hs3 : (ls.map vn).length + (ls2.map vn).length ≤ 100000 := by
      rw [List.length_map, List.length_map]
      show ls.length + ls2.length ≤ 100000
      have := show ls.length ≤ 4096 from hs1
      have := show ls2.length ≤ 4096 from hs2
      omega
    have eb : ev ws (.bin a c d) = if b = a then (b2, ls ++ ls2) else (b, ls) := by
      simp only [ev, hx, hy]
    rw [eb] at q
    cases a <;> cases b <;> (
      tm_at "j"
      refine ⟨_, _, _, _, rfl, h1, by omega, by omega, ho.1, hw, ?_⟩
      rw [hx]
      rintro v' H1 g1 ⟨p, l, rfl, h0, hp, hq⟩
      tm_at "j")
    · refine ⟨_, _, _, _, rfl, by tm_at "hp", by omega, by omega, ho.2, by tm_at "hp", ?_⟩
      rw [hy]
      rintro v' H2 g2 ⟨p2, l2, rfl, h02, hp2, hq2⟩
      tm_at "j"
      rw [if_pos rfl] at q
      rw [← List.map_append] at *
      exact q _ _ (by tm_at "hp") (told_mk (by tm_at "hp") (by tm_at "hp") (by tm_at "hp"))
    · exact q _ _ (by tm_at "hp") ⟨_, _, rfl, by tm_at "hp", by tm_at "hp", by tm_at "hp"⟩
    · exact q _ _ (by tm_at "hp") ⟨_, _, rfl, by tm_at "hp", by tm_at "hp", by tm_at "hp"⟩
    · refine ⟨_, _, _, _, rfl, by tm_at "hp", by omega, by omega, ho.2, by tm_at "hp", ?_⟩
      rw [hy]
      rintro v' H2 g2 ⟨p2, l2, rfl, h02, hp2, hq2⟩
      tm_at "j"
      rw [if_pos rfl] at q
      rw [← List.map_append] at *
      exact q _ _ (by tm_at "hp") (told_mk (by tm_at "hp") (by tm_at "hp") (by tm_at "hp"))

/-! parting, alike, like_worth -/
theorem told_fwd {H H1 H2 : Hp} {v : V} {x : Bool × List Nat} (g : Same H1 H2) (h : Told H H1 v x) : Told H H2 v x := by
  obtain ⟨p, l, rfl, h0, hp, hq⟩ := h
  exact ⟨p, l, rfl, h0, g _ _ hp, g _ _ hq⟩
theorem part_stays {c d : Cond} {n m : Nat} (h : partM c d n = some m) : ∀ k, partM c d (n + k) = some m
  | 0 => h
  | k + 1 => by
    show partM c d (n + k + 1) = some m
    unfold partM
    rw [part_stays h k]
theorem part_found {c d : Cond} {n : Nat} (h : partM c d n = none) (u : unlike c d n = true) : partM c d (n + 1) = some n := by
  unfold partM
  rw [h, u]; rfl
theorem part_on {c d : Cond} {n : Nat} (h : partM c d n = none) (u : unlike c d n = false) : partM c d (n + 1) = none := by
  unfold partM
  rw [h, u]; rfl
theorem pure_parting {K : PySem.W.Frag} {w : World} (vs : List V) (H : Hp) (Q : VK) (E : XK) (h : spParting vs H Q E) :
    t_parting K w spCheck spAllBits (spOut 11) (Ends.mk (fun _ H' => Q .non H') Q (fun _ _ => False) (fun _ _ => False)) (start ["one", "other", "worths", "told_of_one", "told_of_other"] vs) H := by
  obtain ⟨v, u, c, d, rfl, hc, hd, ⟨ho1, hd1, hk1⟩, ⟨ho2, hd2, hk2⟩, q⟩ := h
  unfold t_parting
  tm_at "j"
  refine ⟨v, c, rfl, hc, ho1, hd1, hk1, fun H1 g1 => ?_⟩
  tm_at "j"
  refine ⟨u, d, rfl, hd.mono g1, ho2, hd2, hk2, fun H2 g2 => ?_⟩
  tm_at "j"
  refine ⟨8, rfl, by decide, fun l ys H3 g3 nl el bt => ?_⟩
  have g03 := (g1.trans g2).trans g3
  have hys : ys.length = 256 := by rw [bt.1, bitsM_len]
  refine forL (xs := ys) (fun i σ' H' => ∃ o2 o3 o4, σ' = [some v, some u, o2, o3, o4] ∧ Same H3 H' ∧ partM c d i = none) ⟨_, _, _, rfl, Same.refl _, rfl⟩ (SqL.of el) ?_ ?_ ?_
  · rintro i σ' H' hi ⟨_, _, _, _, g, _⟩
    exact SqL.of (g _ _ el)
  · rintro i x σ' H' hx ⟨o2, o3, o4, rfl, g, hp⟩
    obtain ⟨hi, hw⟩ := bits_wa bt hx
    have hw := hw.mono g
    have g0 := g03.trans g
    tm_at "j"
    refine ⟨v, x, c, wts i, rfl, hc.mono g0, by omega, by decide, ho1, hw, fun v4 H4 g4 t4 => ?_⟩
    tm_at "j"
    refine ⟨u, x, d, wts i, rfl, (hd.mono g0).mono g4, by omega, by decide, ho2, hw.mono g4, fun v5 H5 g5 t5 => ?_⟩
    tm_at "j"
    refine l_neD (Dp.mono g5 (dp_told t4)) (dp_told t5) (shaped_told _) (shaped_told _) ?_
    rw [eqv_told]
    refine l_bl ?_
    refine i_b (fun e => ?_) (fun e => ?_)
    · tm_at "j"
      rename_i p6 H6 n6 g6 e6
      have hf := part_stays (part_found hp (show unlike c d i = true from e)) (256 - (i + 1))
      rw [show i + 1 + (256 - (i + 1)) = 256 by omega] at hf
      rw [hf] at q
      have g46 := (g4.trans g5).trans g6
      exact q _ _ (g0.trans g46) ⟨p6, x, v4, v5, rfl, e6, hw.mono g46, told_fwd (g5.trans g6) (t4.back g0), told_fwd g6 (t5.back (g0.trans g4))⟩
    · tm_at "j"
      exact ⟨_, _, _, rfl, g.trans (g4.trans g5), part_on hp (show unlike c d i = false from e)⟩
  · rintro σ' H' ⟨o2, o3, o4, rfl, g, hp⟩
    tm_at "j"
    rw [hys] at hp
    rw [hp] at q
    exact q _ _ (g03.trans g) rfl
theorem pure_palike {K : PySem.W.Frag} {w : World} (vs : List V) (H : Hp) (Q : VK) (E : XK) (h : spAlikeP vs H Q E) :
    t_alike K w spParting (Ends.mk (fun _ H' => Q .non H') Q (fun _ _ => False) (fun _ _ => False)) (start ["one", "other"] vs) H := by
  obtain ⟨v, u, c, d, rfl, hc, hd, gc, gd, q⟩ := h
  unfold t_alike
  tm_at "j"
  refine ⟨v, u, c, d, rfl, hc, hd, gc, gd, fun v1 H1 g1 p1 => ?_⟩
  have hq := q _ g1
  cases hp : partM c d 256 with
  | none =>
    rw [hp] at p1 hq
    obtain rfl : v1 = .non := p1
    tm_at "j"
    exact hq
  | some m =>
    rw [hp] at p1 hq
    obtain ⟨p, _, _, _, rfl, _⟩ := p1
    tm_at "j"
    exact hq
theorem same_all (c d : Cond) : ∀ n, ((List.range n).map fun k => ((ev (wts k) c).1 == (ev (wts k) d).1)).all id = sameM c d n
  | 0 => rfl
  | n + 1 => by
    rw [List.range_succ, List.map_append, List.all_append, same_all c d n]
    show (sameM c d n && (((ev (wts n) c).1 == (ev (wts n) d).1) && true)) = (sameM c d n && ((ev (wts n) c).1 == (ev (wts n) d).1))
    rw [Bool.and_true]
theorem pure_like {K : PySem.W.Frag} {w : World} (vs : List V) (H : Hp) (Q : VK) (E : XK) (h : spLike vs H Q E) :
    t_like_worth K w spCheck spAllBits (spOut 11) (Ends.mk (fun _ H' => Q .non H') Q (fun _ _ => False) (fun _ _ => False)) (start ["one", "other", "worths"] vs) H := by
  obtain ⟨v, u, c, d, rfl, hc, hd, ⟨ho1, hd1, hk1⟩, ⟨ho2, hd2, hk2⟩, q⟩ := h
  unfold t_like_worth
  tm_at "j"
  refine ⟨v, c, rfl, hc, ho1, hd1, hk1, fun H1 g1 => ?_⟩
  tm_at "j"
  refine ⟨u, d, rfl, hd.mono g1, ho2, hd2, hk2, fun H2 g2 => ?_⟩
  tm_at "j"
  refine ⟨8, rfl, by decide, fun l ys H3 g3 nl el bt => ?_⟩
  have g03 := (g1.trans g2).trans g3
  have hys : ys.length = 256 := by rw [bt.1, bitsM_len]
  refine lcL (xs := ys) (ys := (List.range 256).map fun k => V.bl ((ev (wts k) c).1 == (ev (wts k) d).1)) (fun _ => rfl) (SqL.of el) (by omega) ⟨by rw [List.length_map, List.length_range, hys], ?_⟩ ?_
  · intro i x y H' Q' hx hy g kk
    obtain ⟨hi, hw⟩ := bits_wa bt hx
    have hw := hw.mono g
    rw [List.getElem?_map, List.getElem?_range hi] at hy
    obtain rfl := Option.some.inj hy
    have g0 := g03.trans g
    tm_at "j"
    refine ⟨v, x, c, wts i, rfl, hc.mono g0, by omega, by decide, ho1, hw, fun v4 H4 g4 t4 => ?_⟩
    obtain ⟨p4, l4, rfl, n4, e4, e4'⟩ := t4
    tm_at "j"
    refine ⟨u, x, d, wts i, rfl, (hd.mono g0).mono g4, by omega, by decide, ho2, hw.mono g4, fun v5 H5 g5 t5 => ?_⟩
    obtain ⟨p5, l5, rfl, n5, e5, e5'⟩ := t5
    tm_at "j"
    rw [vbb]
    exact kk _ (g4.trans g5)
  · intro D H4 nD g4 eD
    refine l_all (bs := (List.range 256).map fun k => ((ev (wts k) c).1 == (ev (wts k) d).1)) (by rw [List.map_map]; exact SqL.of eD) ?_
    rw [same_all]
    exact q _ (g03.trans g4)

theorem ok_alike {P : Program} {w : World} {K : PySem.W.Frag} {mg : Str → Option Value} {base : Heap} (T : Tx P K mg w) {k : Nat} {sp_parting sp : Sp} (G_parting : FnOk P w K mg base CX0 (k) T.f_parting T.d_parting ["one", "other"] sp_parting)
    (len : ∀ vs H Q E, sp vs H Q E → vs.length = 2)
    (pure : ∀ vs H Q E, sp vs H Q E → t_alike K w sp_parting (Ends.mk (fun _ H' => Q .non H') Q (fun _ _ => False) (fun _ _ => False)) (start ["one", "other"] vs) H) :
    FnOk P w K mg base CX0 (k + 1) T.f_alike T.d_alike ["one", "other"] sp := by
  refine T.F_alike.ok sc_alike len (fun cdv A outer s H vs Q E hr h => ⟨t_alike K w sp_parting, ?_, pure vs H Q E h⟩)
  exact (pss_one (ps_ret (pe_cmpR op_isN (pe_call G_parting hr rfl T.m_parting T.F_parting.kp T.b_parting .nil pass0 (pa_cons (pv 0) (pa_cons (pv 1) (pa_nil)))) (pe_non) (nomark _))))

theorem ok_all_bits {P : Program} {w : World} {K : PySem.W.Frag} {mg : Str → Option Value} {base : Heap} (T : Tx P K mg w) {k : Nat} { sp : Sp} 
    (len : ∀ vs H Q E, sp vs H Q E → vs.length = 1)
    (pure : ∀ vs H Q E, sp vs H Q E → t_all_bits K w (Ends.mk (fun _ H' => Q .non H') Q (fun _ _ => False) (fun _ _ => False)) (start ["many", "told", "_", "bits", "bit"] vs) H) :
    FnOk P w K mg base CX0 (k + 1) T.f_all_bits T.d_all_bits ["many"] sp := by
  refine T.F_all_bits.ok sc_all_bits len (fun cdv A outer s H vs Q E hr h => ⟨t_all_bits K w, ?_, pure vs H Q E h⟩)
  exact (pss_cons (ps_set (i := 1) sc_all_bits.nd rfl (by first | exact Or.inl rfl | exact Or.inr rfl) (pe_lst (pa_cons (pe_tup (pa_nil)) (pa_nil))))
      (pss_cons (ps_for PassesOwn.never rfl (pi_range1 (by rfl) T.n_range (pa_cons (pv 0) (pa_nil))) (pg_name (i := 2) sc_all_bits.nd rfl (by first | exact Or.inl rfl | exact Or.inr rfl)) (pss_one (ps_setLc2 (i := 1) (own := [("bits", 3), ("bit", 4)]) (vs1 := [4]) rfl sc_all_bits.nd rfl rfl (sw_true rfl rfl rfl (by decide +kernel)) (pi_list (pv 1)) (blkOk_by (own := [("bits", 3), ("bit", 4)]) (N := ["many", "told", "_", "bits", "bit"]) (sc := defScope s_all_bits) (by decide +kernel)) (by decide) (fun _ _ _ _ _ => pg_name (i := 3) sc_all_bits.nd rfl (by first | exact Or.inl rfl | exact Or.inr rfl)) (fun _ _ _ _ _ => pts_nil) (fun _ _ _ _ _ => pi_tup (pe_tup (pa_cons (pe_int) (pa_cons (pe_int) (pa_nil))))) (fun _ _ _ _ _ => pg_name (i := 4) sc_all_bits.nd rfl (by first | exact Or.inl rfl | exact Or.inr rfl)) (fun _ _ _ _ _ => pts_nil) (fun _ _ _ _ _ => pe_op op_catA (pv 3) (pe_tup (pa_cons (pv 4) (pa_nil)))))))
      (pss_one (ps_ret (pv 1)))))

theorem ok_are_bits {P : Program} {w : World} {K : PySem.W.Frag} {mg : Str → Option Value} {base : Heap} (T : Tx P K mg w) {k : Nat} {sp_are_numbers_up_to sp : Sp} (G_are_numbers_up_to : FnOk P w K mg base CX0 (k) T.f_are_numbers_up_to T.d_are_numbers_up_to ["values", "many", "most"] sp_are_numbers_up_to)
    (len : ∀ vs H Q E, sp vs H Q E → vs.length = 2)
    (pure : ∀ vs H Q E, sp vs H Q E → t_are_bits K w sp_are_numbers_up_to (Ends.mk (fun _ H' => Q .non H') Q (fun _ _ => False) (fun _ _ => False)) (start ["values", "many"] vs) H) :
    FnOk P w K mg base CX0 (k + 1) T.f_are_bits T.d_are_bits ["values", "many"] sp := by
  refine T.F_are_bits.ok sc_are_bits len (fun cdv A outer s H vs Q E hr h => ⟨t_are_bits K w sp_are_numbers_up_to, ?_, pure vs H Q E h⟩)
  exact (pss_one (ps_ret (pe_call G_are_numbers_up_to hr rfl T.m_are_numbers_up_to T.F_are_numbers_up_to.kp T.b_are_numbers_up_to .nil pass0 (pa_cons (pv 0) (pa_cons (pv 1) (pa_cons (pe_int) (pa_nil)))))))

theorem ok_are_numbers_up_to_T {P : Program} {w : World} {K : PySem.W.Frag} {mg : Str → Option Value} {base : Heap} (T : Tx P K mg w) {k : Nat} {sp_is_number_up_to sp : Sp} (G_is_number_up_to : FnOk P w K mg base CX0 (k) T.f_is_number_up_to T.d_is_number_up_to ["value", "most"] sp_is_number_up_to)
    (len : ∀ vs H Q E, sp vs H Q E → vs.length = 3)
    (pure : ∀ vs H Q E, sp vs H Q E → t_are_numbers_up_to_T K w sp_is_number_up_to (Ends.mk (fun _ H' => Q .non H') Q (fun _ _ => False) (fun _ _ => False)) (start ["values", "many", "most", "value"] vs) H) :
    FnOk P w K mg base CX0 (k + 1) T.f_are_numbers_up_to T.d_are_numbers_up_to ["values", "many", "most"] sp := by
  refine T.F_are_numbers_up_to.ok sc_are_numbers_up_to len (fun cdv A outer s H vs Q E hr h => ⟨t_are_numbers_up_to_T K w sp_is_number_up_to, ?_, pure vs H Q E h⟩)
  exact (pss_one (ps_ret (pe_and (pe_cmpR op_eq (pe_callB call_rLen (by rfl) T.n_len PySem.boot_len (pa_cons (pv 0) (pa_nil))) (pv 1) (nomark _)) (pe_one (pe_callB (cr_all rfl) (by rfl) T.n_all (by decide +kernel) (pa_cons (pe_lc (own := [("value", 3)]) rfl sc_are_numbers_up_to.nd (pi_tup (pv 0)) (blkOk_by (own := [("value", 3)]) (N := ["values", "many", "most", "value"]) (sc := defScope s_are_numbers_up_to) (by decide +kernel)) (fun _ _ _ _ _ => pg_name (i := 3) sc_are_numbers_up_to.nd rfl (by first | exact Or.inl rfl | exact Or.inr rfl)) (fun _ _ _ _ _ => pts_nil) (fun _ _ _ _ _ => pe_call G_is_number_up_to hr rfl T.m_is_number_up_to T.F_is_number_up_to.kp T.b_is_number_up_to .nil pass0 (pa_cons (pv 3) (pa_cons (pv 2) (pa_nil))))) (pa_nil)))))))

theorem ok_can_be {P : Program} {w : World} {K : PySem.W.Frag} {mg : Str → Option Value} {base : Heap} (T : Tx P K mg w) {k : Nat} {sp_is_look sp_is_end sp : Sp} (G_is_look : FnOk P w K mg base CX0 (k) T.f_is_look T.d_is_look ["row", "place", "last"] sp_is_look) (G_is_end : FnOk P w K mg base CX0 (k) T.f_is_end T.d_is_end ["row"] sp_is_end)
    (len : ∀ vs H Q E, sp vs H Q E → vs.length = 2)
    (pure : ∀ vs H Q E, sp vs H Q E → t_can_be K w sp_is_look sp_is_end (Ends.mk (fun _ H' => Q .non H') Q (fun _ _ => False) (fun _ _ => False)) (start ["rows", "place", "last", "row"] vs) H) :
    FnOk P w K mg base CX0 (k + 1) T.f_can_be T.d_can_be ["rows", "place"] sp := by
  refine T.F_can_be.ok sc_can_be len (fun cdv A outer s H vs Q E hr h => ⟨t_can_be K w sp_is_look sp_is_end, ?_, pure vs H Q E h⟩)
  exact (pss_cons (ps_set (i := 2) sc_can_be.nd rfl (by first | exact Or.inl rfl | exact Or.inr rfl) (pe_op op_sub (pe_callB call_rLen (by rfl) T.n_len PySem.boot_len (pa_cons (pv 0) (pa_nil))) (pe_int)))
      (pss_cons (ps_set (i := 3) sc_can_be.nd rfl (by first | exact Or.inl rfl | exact Or.inr rfl) (pe_ix ix_list (pv 0) (pv 1) (fun _ _ => rfl)))
      (pss_cons (ps_if (pt_cmpR op_lt (pv 1) (pe_op op_sub (pv 2) (pe_int)) (nomark _)) (pss_one (ps_ret (pe_call G_is_look hr rfl T.m_is_look T.F_is_look.kp T.b_is_look .nil pass0 (pa_cons (pv 3) (pa_cons (pv 1) (pa_cons (pv 2) (pa_nil))))))) (pss_nil))
      (pss_cons (ps_if (pt_cmpR op_lt (pv 1) (pv 2) (nomark _)) (pss_one (ps_ret (pe_call G_is_end hr rfl T.m_is_end T.F_is_end.kp T.b_is_end .nil pass0 (pa_cons (pv 3) (pa_nil))))) (pss_nil))
      (pss_one (ps_ret (pe_and (pe_call G_is_end hr rfl T.m_is_end T.F_is_end.kp T.b_is_end .nil pass0 (pa_cons (pv 3) (pa_nil))) (pe_one (pe_cmpR op_ne (pe_ix ix_tup (pv 3) (pe_int) (fun _ _ => rfl)) (pe_ix ix_tup (pe_ix ix_list (pv 0) (pe_op op_sub (pv 2) (pe_int)) (fun _ _ => rfl)) (pe_int) (fun _ _ => rfl)) (nomark _))))))))))

theorem ok_check_chances {P : Program} {w : World} {K : PySem.W.Frag} {mg : Str → Option Value} {base : Heap} (T : Tx P K mg w) {k : Nat} {sp_are_numbers_up_to sp : Sp} (G_are_numbers_up_to : FnOk P w K mg base CX0 (k) T.f_are_numbers_up_to T.d_are_numbers_up_to ["values", "many", "most"] sp_are_numbers_up_to)
    (len : ∀ vs H Q E, sp vs H Q E → vs.length = 1)
    (pure : ∀ vs H Q E, sp vs H Q E → t_check_chances K w sp_are_numbers_up_to (Ends.mk (fun _ H' => Q .non H') Q (fun _ _ => False) (fun _ _ => False)) (start ["chances"] vs) H) :
    FnOk P w K mg base CX0 (k + 1) T.f_check_chances T.d_check_chances ["chances"] sp := by
  refine T.F_check_chances.ok sc_check_chances len (fun cdv A outer s H vs Q E hr h => ⟨t_check_chances K w sp_are_numbers_up_to, ?_, pure vs H Q E h⟩)
  exact (pss_one (ps_if (pt_not (pt_val (pe_call G_are_numbers_up_to hr rfl T.m_are_numbers_up_to T.F_are_numbers_up_to.kp T.b_are_numbers_up_to .nil pass0 (pa_cons (pv 0) (pa_cons (pe_glob rfl T.c_THINGS ⟨_, rfl⟩) (pa_cons (pe_glob rfl T.c_HUNDRED ⟨_, rfl⟩) (pa_nil))))))) (pss_never) (pss_nil)))

theorem ok_check_code {P : Program} {w : World} {K : PySem.W.Frag} {mg : Str → Option Value} {base : Heap} (T : Tx P K mg w) {k : Nat} {sp_can_be sp : Sp} (G_can_be : FnOk P w K mg base CX0 (k) T.f_can_be T.d_can_be ["rows", "place"] sp_can_be)
    (len : ∀ vs H Q E, sp vs H Q E → vs.length = 1)
    (pure : ∀ vs H Q E, sp vs H Q E → t_check_code K w sp_can_be (Ends.mk (fun _ H' => Q .non H') Q (fun _ _ => False) (fun _ _ => False)) (start ["rows", "place"] vs) H) :
    FnOk P w K mg base CX0 (k + 1) T.f_check_code T.d_check_code ["rows"] sp := by
  refine T.F_check_code.ok sc_check_code len (fun cdv A outer s H vs Q E hr h => ⟨t_check_code K w sp_can_be, ?_, pure vs H Q E h⟩)
  exact (pss_cons (ps_if (pt_cmpR op_lt (pe_callB call_rLen (by rfl) T.n_len PySem.boot_len (pa_cons (pv 0) (pa_nil))) (pe_int) (nomark _)) (pss_never) (pss_nil))
      (pss_one (ps_for PassesOwn.never rfl (pi_range1 (by rfl) T.n_range (pa_cons (pe_callB call_rLen (by rfl) T.n_len PySem.boot_len (pa_cons (pv 0) (pa_nil))) (pa_nil))) (pg_name (i := 1) sc_check_code.nd rfl (by first | exact Or.inl rfl | exact Or.inr rfl)) (pss_one (ps_if (PW.pt (pw_or (pt_cmpR op_eq (pv 1) (pe_glob rfl T.c_MOST_ROWS ⟨_, rfl⟩) (nomark _)) (pw_or1 (pt_not (pt_val (pe_call G_can_be hr rfl T.m_can_be T.F_can_be.kp T.b_can_be .nil pass0 (pa_cons (pv 0) (pa_cons (pv 1) (pa_nil))))))))) (pss_never) (pss_nil))))))

theorem ok_check_condition {P : Program} {w : World} {K : PySem.W.Frag} {mg : Str → Option Value} {base : Heap} (T : Tx P K mg w) {k : Nat} {sp_count_looks sp : Sp} (G_count_looks : FnOk P w K mg base CX0 (k) T.f_count_looks T.d_count_looks ["condition", "around"] sp_count_looks)
    (len : ∀ vs H Q E, sp vs H Q E → vs.length = 1)
    (pure : ∀ vs H Q E, sp vs H Q E → t_check_condition K w sp_count_looks (Ends.mk (fun _ H' => Q .non H') Q (fun _ _ => False) (fun _ _ => False)) (start ["condition"] vs) H) :
    FnOk P w K mg base CX0 (k + 1) T.f_check_condition T.d_check_condition ["condition"] sp := by
  refine T.F_check_condition.ok sc_check_condition len (fun cdv A outer s H vs Q E hr h => ⟨t_check_condition K w sp_count_looks, ?_, pure vs H Q E h⟩)
  exact (pss_one (ps_if (pt_cmpR op_gt (pe_call G_count_looks hr rfl T.m_count_looks T.F_count_looks.kp T.b_count_looks .nil pass0 (pa_cons (pv 0) (pa_cons (pe_int) (pa_nil)))) (pe_glob rfl T.c_MOST_LOOKS ⟨_, rfl⟩) (nomark _)) (pss_never) (pss_nil)))

theorem ok_check_first {P : Program} {w : World} {K : PySem.W.Frag} {mg : Str → Option Value} {base : Heap} (T : Tx P K mg w) {k : Nat} {sp_is_number_up_to sp : Sp} (G_is_number_up_to : FnOk P w K mg base CX0 (k) T.f_is_number_up_to T.d_is_number_up_to ["value", "most"] sp_is_number_up_to)
    (len : ∀ vs H Q E, sp vs H Q E → vs.length = 1)
    (pure : ∀ vs H Q E, sp vs H Q E → t_check_first K w sp_is_number_up_to (Ends.mk (fun _ H' => Q .non H') Q (fun _ _ => False) (fun _ _ => False)) (start ["first"] vs) H) :
    FnOk P w K mg base CX0 (k + 1) T.f_check_first T.d_check_first ["first"] sp := by
  refine T.F_check_first.ok sc_check_first len (fun cdv A outer s H vs Q E hr h => ⟨t_check_first K w sp_is_number_up_to, ?_, pure vs H Q E h⟩)
  exact (pss_one (ps_if (pt_not (pt_val (pe_call G_is_number_up_to hr rfl T.m_is_number_up_to T.F_is_number_up_to.kp T.b_is_number_up_to .nil pass0 (pa_cons (pv 0) (pa_cons (pe_int) (pa_nil)))))) (pss_never) (pss_nil)))

theorem ok_check_worths {P : Program} {w : World} {K : PySem.W.Frag} {mg : Str → Option Value} {base : Heap} (T : Tx P K mg w) {k : Nat} {sp_are_bits sp : Sp} (G_are_bits : FnOk P w K mg base CX0 (k) T.f_are_bits T.d_are_bits ["values", "many"] sp_are_bits)
    (len : ∀ vs H Q E, sp vs H Q E → vs.length = 1)
    (pure : ∀ vs H Q E, sp vs H Q E → t_check_worths K w sp_are_bits (Ends.mk (fun _ H' => Q .non H') Q (fun _ _ => False) (fun _ _ => False)) (start ["worths"] vs) H) :
    FnOk P w K mg base CX0 (k + 1) T.f_check_worths T.d_check_worths ["worths"] sp := by
  refine T.F_check_worths.ok sc_check_worths len (fun cdv A outer s H vs Q E hr h => ⟨t_check_worths K w sp_are_bits, ?_, pure vs H Q E h⟩)
  exact (pss_one (ps_if (pt_not (pt_val (pe_call G_are_bits hr rfl T.m_are_bits T.F_are_bits.kp T.b_are_bits .nil pass0 (pa_cons (pv 0) (pa_cons (pe_glob rfl T.c_THINGS ⟨_, rfl⟩) (pa_nil)))))) (pss_never) (pss_nil)))

theorem ok_code_of {P : Program} {w : World} {K : PySem.W.Frag} {mg : Str → Option Value} {base : Heap} (T : Tx P K mg w) {k : Nat} {sp_count_looks sp_rows_of sp : Sp} (G_count_looks : FnOk P w K mg base CX0 (k) T.f_count_looks T.d_count_looks ["condition", "around"] sp_count_looks) (G_rows_of : FnOk P w K mg base CX0 (k) T.f_rows_of T.d_rows_of ["condition", "start", "dues"] sp_rows_of)
    (len : ∀ vs H Q E, sp vs H Q E → vs.length = 2)
    (pure : ∀ vs H Q E, sp vs H Q E → t_code_of K w sp_count_looks sp_rows_of (Ends.mk (fun _ H' => Q .non H') Q (fun _ _ => False) (fun _ _ => False)) (start ["condition", "first", "behind", "dues"] vs) H) :
    FnOk P w K mg base CX0 (k + 1) T.f_code_of T.d_code_of ["condition", "first"] sp := by
  refine T.F_code_of.ok sc_code_of len (fun cdv A outer s H vs Q E hr h => ⟨t_code_of K w sp_count_looks sp_rows_of, ?_, pure vs H Q E h⟩)
  exact (pss_cons (ps_set (i := 2) sc_code_of.nd rfl (by first | exact Or.inl rfl | exact Or.inr rfl) (pe_call G_count_looks hr rfl T.m_count_looks T.F_count_looks.kp T.b_count_looks .nil pass0 (pa_cons (pv 0) (pa_cons (pe_int) (pa_nil)))))
      (pss_cons (ps_set (i := 3) sc_code_of.nd rfl (by first | exact Or.inl rfl | exact Or.inr rfl) (pe_lst (pa_cons (pv 2) (pa_cons (pv 2) (pa_nil)))))
      (pss_cons (ps_asg (pe_op op_add (pv 2) (pe_int)) (pg_sub (pv 3) (pe_op op_sub (pe_int) (pv 1)) set_list))
      (pss_one (ps_ret (pe_op op_cat (pe_call G_rows_of hr rfl T.m_rows_of T.F_rows_of.kp T.b_rows_of .nil pass0 (pa_cons (pv 0) (pa_cons (pe_int) (pa_cons (pv 3) (pa_nil))))) (pe_lst (pa_cons (pe_tup (pa_cons (pe_str) (pa_cons (pv 1) (pa_nil)))) (pa_cons (pe_tup (pa_cons (pe_str) (pa_cons (pe_op op_sub (pe_int) (pv 1)) (pa_nil)))) (pa_nil))))))))))

theorem ok_coded {P : Program} {w : World} {K : PySem.W.Frag} {mg : Str → Option Value} {base : Heap} (T : Tx P K mg w) {k : Nat} {sp_check_condition sp_check_first sp_code_of sp : Sp} (G_check_condition : FnOk P w K mg base CX0 (k) T.f_check_condition T.d_check_condition ["condition"] sp_check_condition) (G_check_first : FnOk P w K mg base CX0 (k) T.f_check_first T.d_check_first ["first"] sp_check_first) (G_code_of : FnOk P w K mg base CX0 (k) T.f_code_of T.d_code_of ["condition", "first"] sp_code_of)
    (len : ∀ vs H Q E, sp vs H Q E → vs.length = 2)
    (pure : ∀ vs H Q E, sp vs H Q E → t_coded K w sp_check_condition sp_check_first sp_code_of (Ends.mk (fun _ H' => Q .non H') Q (fun _ _ => False) (fun _ _ => False)) (start ["condition", "first"] vs) H) :
    FnOk P w K mg base CX0 (k + 1) T.f_coded T.d_coded ["condition", "first"] sp := by
  refine T.F_coded.ok sc_coded len (fun cdv A outer s H vs Q E hr h => ⟨t_coded K w sp_check_condition sp_check_first sp_code_of, ?_, pure vs H Q E h⟩)
  exact (pss_cons (ps_expr (pe_call G_check_condition hr rfl T.m_check_condition T.F_check_condition.kp T.b_check_condition .nil pass0 (pa_cons (pv 0) (pa_nil))))
      (pss_cons (ps_expr (pe_call G_check_first hr rfl T.m_check_first T.F_check_first.kp T.b_check_first .nil pass0 (pa_cons (pv 1) (pa_nil))))
      (pss_one (ps_ret (pe_call G_code_of hr rfl T.m_code_of T.F_code_of.kp T.b_code_of .nil pass0 (pa_cons (pv 0) (pa_cons (pv 1) (pa_nil))))))))

theorem ok_count_looks {P : Program} {w : World} {K : PySem.W.Frag} {mg : Str → Option Value} {base : Heap} (T : Tx P K mg w) {k : Nat} {sp_has_form sp_count_looks sp : Sp} (G_has_form : FnOk P w K mg base CX0 (k) T.f_has_form T.d_has_form ["condition"] sp_has_form) (G_count_looks : FnOk P w K mg base CX0 (k) T.f_count_looks T.d_count_looks ["condition", "around"] sp_count_looks)
    (len : ∀ vs H Q E, sp vs H Q E → vs.length = 2)
    (pure : ∀ vs H Q E, sp vs H Q E → t_count_looks K w sp_has_form sp_count_looks (Ends.mk (fun _ H' => Q .non H') Q (fun _ _ => False) (fun _ _ => False)) (start ["condition", "around", "side"] vs) H) :
    FnOk P w K mg base CX0 (k + 1) T.f_count_looks T.d_count_looks ["condition", "around"] sp := by
  refine T.F_count_looks.ok sc_count_looks len (fun cdv A outer s H vs Q E hr h => ⟨t_count_looks K w sp_has_form sp_count_looks, ?_, pure vs H Q E h⟩)
  exact (pss_cons (ps_if (pt_cmpR op_gt (pv 1) (pe_glob rfl T.c_MOST_AROUND ⟨_, rfl⟩) (nomark _)) (pss_never) (pss_nil))
      (pss_cons (ps_if (pt_not (pt_val (pe_call G_has_form hr rfl T.m_has_form T.F_has_form.kp T.b_has_form .nil pass0 (pa_cons (pv 0) (pa_nil))))) (pss_never) (pss_nil))
      (pss_cons (ps_if (pt_cmpR op_eq (pe_ix ix_tup (pv 0) (pe_int) (fun _ _ => rfl)) (pe_str) (nomark _)) (pss_one (ps_ret (pe_int))) (pss_nil))
      (pss_one (ps_ret (pe_callB (cr_sum rfl) (by rfl) T.n_sum (by decide +kernel) (pa_cons (pe_lc (own := [("side", 2)]) rfl sc_count_looks.nd (pi_tup (pe_slice sl_tup (pv 0) (po_some (pe_int)) (po_none))) (blkOk_by (own := [("side", 2)]) (N := ["condition", "around", "side"]) (sc := defScope s_count_looks) (by decide +kernel)) (fun _ _ _ _ _ => pg_name (i := 2) sc_count_looks.nd rfl (by first | exact Or.inl rfl | exact Or.inr rfl)) (fun _ _ _ _ _ => pts_nil) (fun _ _ _ _ _ => pe_call G_count_looks hr rfl T.m_count_looks T.F_count_looks.kp T.b_count_looks .nil pass0 (pa_cons (pv 2) (pa_cons (pe_op op_add (pv 1) (pe_int)) (pa_nil))))) (pa_nil))))))))

theorem ok_has_form {P : Program} {w : World} {K : PySem.W.Frag} {mg : Str → Option Value} {base : Heap} (T : Tx P K mg w) {k : Nat} {sp_is_number_up_to sp : Sp} (G_is_number_up_to : FnOk P w K mg base CX0 (k) T.f_is_number_up_to T.d_is_number_up_to ["value", "most"] sp_is_number_up_to)
    (len : ∀ vs H Q E, sp vs H Q E → vs.length = 1)
    (pure : ∀ vs H Q E, sp vs H Q E → t_has_form K w sp_is_number_up_to (Ends.mk (fun _ H' => Q .non H') Q (fun _ _ => False) (fun _ _ => False)) (start ["condition", "word"] vs) H) :
    FnOk P w K mg base CX0 (k + 1) T.f_has_form T.d_has_form ["condition"] sp := by
  refine T.F_has_form.ok sc_has_form len (fun cdv A outer s H vs Q E hr h => ⟨t_has_form K w sp_is_number_up_to, ?_, pure vs H Q E h⟩)
  exact (pss_cons (ps_if (PW.pt (pw_or (pt_not (pt_val (pe_callB call_isi (by rfl) T.n_isinstance (by decide +kernel) (pa_cons (pv 0) (pa_cons (pe_bltn (by rfl) T.n_tuple (by decide +kernel) rfl) (pa_nil)))))) (pw_or1 (pt_cmpR op_eq (pe_callB call_rLen (by rfl) T.n_len PySem.boot_len (pa_cons (pv 0) (pa_nil))) (pe_int) (nomark _))))) (pss_one (ps_ret (pe_bl))) (pss_nil))
      (pss_cons (ps_set (i := 1) sc_has_form.nd rfl (by first | exact Or.inl rfl | exact Or.inr rfl) (pe_ix ix_tup (pv 0) (pe_int) (fun _ _ => rfl)))
      (pss_cons (ps_if (pt_cmpR op_eq (pv 1) (pe_str) (nomark _)) (pss_one (ps_ret (pe_and (pe_cmpR op_eq (pe_callB call_rLen (by rfl) T.n_len PySem.boot_len (pa_cons (pv 0) (pa_nil))) (pe_int) (nomark _)) (pe_one (pe_call G_is_number_up_to hr rfl T.m_is_number_up_to T.F_is_number_up_to.kp T.b_is_number_up_to .nil pass0 (pa_cons (pe_ix ix_tup (pv 0) (pe_int) (fun _ _ => rfl)) (pa_cons (pe_op op_sub (pe_glob rfl T.c_THINGS ⟨_, rfl⟩) (pe_int)) (pa_nil)))))))) (pss_nil))
      (pss_cons (ps_if (pt_cmpR op_eq (pv 1) (pe_str) (nomark _)) (pss_one (ps_ret (pe_cmpR op_eq (pe_callB call_rLen (by rfl) T.n_len PySem.boot_len (pa_cons (pv 0) (pa_nil))) (pe_int) (nomark _)))) (pss_nil))
      (pss_one (ps_ret (pe_and (pe_cmpR op_in_seq (pv 1) (pe_tup (pa_cons (pe_str) (pa_cons (pe_str) (pa_nil)))) (by with_unfolding_all rfl)) (pe_one (pe_cmpR op_eq (pe_callB call_rLen (by rfl) T.n_len PySem.boot_len (pa_cons (pv 0) (pa_nil))) (pe_int) (nomark _))))))))))

theorem ok_is_end {P : Program} {w : World} {K : PySem.W.Frag} {mg : Str → Option Value} {base : Heap} (T : Tx P K mg w) {k : Nat} {sp_is_number_up_to sp : Sp} (G_is_number_up_to : FnOk P w K mg base CX0 (k) T.f_is_number_up_to T.d_is_number_up_to ["value", "most"] sp_is_number_up_to)
    (len : ∀ vs H Q E, sp vs H Q E → vs.length = 1)
    (pure : ∀ vs H Q E, sp vs H Q E → t_is_end K w sp_is_number_up_to (Ends.mk (fun _ H' => Q .non H') Q (fun _ _ => False) (fun _ _ => False)) (start ["row"] vs) H) :
    FnOk P w K mg base CX0 (k + 1) T.f_is_end T.d_is_end ["row"] sp := by
  refine T.F_is_end.ok sc_is_end len (fun cdv A outer s H vs Q E hr h => ⟨t_is_end K w sp_is_number_up_to, ?_, pure vs H Q E h⟩)
  exact (pss_one (ps_ret (pe_and (pe_cmpR op_eq (pe_callB call_rLen (by rfl) T.n_len PySem.boot_len (pa_cons (pv 0) (pa_nil))) (pe_int) (nomark _)) (pe_and (pe_cmpR op_eq (pe_ix ix_tup (pv 0) (pe_int) (fun _ _ => rfl)) (pe_str) (nomark _)) (pe_one (pe_call G_is_number_up_to hr rfl T.m_is_number_up_to T.F_is_number_up_to.kp T.b_is_number_up_to .nil pass0 (pa_cons (pe_ix ix_tup (pv 0) (pe_int) (fun _ _ => rfl)) (pa_cons (pe_int) (pa_nil)))))))))

theorem ok_is_look {P : Program} {w : World} {K : PySem.W.Frag} {mg : Str → Option Value} {base : Heap} (T : Tx P K mg w) {k : Nat} {sp_is_number_up_to sp : Sp} (G_is_number_up_to : FnOk P w K mg base CX0 (k) T.f_is_number_up_to T.d_is_number_up_to ["value", "most"] sp_is_number_up_to)
    (len : ∀ vs H Q E, sp vs H Q E → vs.length = 3)
    (pure : ∀ vs H Q E, sp vs H Q E → t_is_look K w sp_is_number_up_to (Ends.mk (fun _ H' => Q .non H') Q (fun _ _ => False) (fun _ _ => False)) (start ["row", "place", "last", "_", "thing", "when", "to"] vs) H) :
    FnOk P w K mg base CX0 (k + 1) T.f_is_look T.d_is_look ["row", "place", "last"] sp := by
  refine T.F_is_look.ok sc_is_look len (fun cdv A outer s H vs Q E hr h => ⟨t_is_look K w sp_is_number_up_to, ?_, pure vs H Q E h⟩)
  exact (pss_cons (ps_if (PW.pt (pw_or (pt_cmpR op_ne (pe_callB call_rLen (by rfl) T.n_len PySem.boot_len (pa_cons (pv 0) (pa_nil))) (pe_int) (nomark _)) (pw_or1 (pt_cmpR op_ne (pe_ix ix_tup (pv 0) (pe_int) (fun _ _ => rfl)) (pe_str) (nomark _))))) (pss_one (ps_ret (pe_bl))) (pss_nil))
      (pss_cons (ps_asg (pv 0) (pg_tup rfl (pgs_cons (pg_name (i := 3) sc_is_look.nd rfl (by first | exact Or.inl rfl | exact Or.inr rfl)) (pgs_cons (pg_name (i := 4) sc_is_look.nd rfl (by first | exact Or.inl rfl | exact Or.inr rfl)) (pgs_cons (pg_name (i := 5) sc_is_look.nd rfl (by first | exact Or.inl rfl | exact Or.inr rfl)) (pgs_cons (pg_name (i := 6) sc_is_look.nd rfl (by first | exact Or.inl rfl | exact Or.inr rfl)) (pgs_nil)))))))
      (pss_cons (ps_if (PW.pt (pw_or (pt_not (pt_val (pe_call G_is_number_up_to hr rfl T.m_is_number_up_to T.F_is_number_up_to.kp T.b_is_number_up_to .nil pass0 (pa_cons (pv 4) (pa_cons (pe_op op_sub (pe_glob rfl T.c_THINGS ⟨_, rfl⟩) (pe_int)) (pa_nil)))))) (pw_or1 (pt_not (pt_val (pe_call G_is_number_up_to hr rfl T.m_is_number_up_to T.F_is_number_up_to.kp T.b_is_number_up_to .nil pass0 (pa_cons (pv 5) (pa_cons (pe_int) (pa_nil))))))))) (pss_one (ps_ret (pe_bl))) (pss_nil))
      (pss_one (ps_ret (pe_and (pe_call G_is_number_up_to hr rfl T.m_is_number_up_to T.F_is_number_up_to.kp T.b_is_number_up_to .nil pass0 (pa_cons (pv 6) (pa_cons (pv 2) (pa_nil)))) (pe_one (pe_cmpR op_gt (pv 6) (pv 1) (nomark _)))))))))

theorem ok_is_number_up_to {P : Program} {w : World} {K : PySem.W.Frag} {mg : Str → Option Value} {base : Heap} (T : Tx P K mg w) {k : Nat} { sp : Sp} 
    (len : ∀ vs H Q E, sp vs H Q E → vs.length = 2)
    (pure : ∀ vs H Q E, sp vs H Q E → t_is_number_up_to K w (Ends.mk (fun _ H' => Q .non H') Q (fun _ _ => False) (fun _ _ => False)) (start ["value", "most"] vs) H) :
    FnOk P w K mg base CX0 (k + 1) T.f_is_number_up_to T.d_is_number_up_to ["value", "most"] sp := by
  refine T.F_is_number_up_to.ok sc_is_number_up_to len (fun cdv A outer s H vs Q E hr h => ⟨t_is_number_up_to K w, ?_, pure vs H Q E h⟩)
  exact (pss_cons (ps_if (PW.pt (pw_or (pt_val (pe_callB call_isi (by rfl) T.n_isinstance (by decide +kernel) (pa_cons (pv 0) (pa_cons (pe_bltn (by rfl) T.n_bool (by decide +kernel) rfl) (pa_nil))))) (pw_or1 (pt_not (pt_val (pe_callB call_isi (by rfl) T.n_isinstance (by decide +kernel) (pa_cons (pv 0) (pa_cons (pe_bltn (by rfl) T.n_int (by decide +kernel) rfl) (pa_nil))))))))) (pss_one (ps_ret (pe_bl))) (pss_nil))
      (pss_one (ps_ret (pe_chain op_le op_le (pe_int) (pv 0) (pv 1)))))

theorem ok_jumps {P : Program} {w : World} {K : PySem.W.Frag} {mg : Str → Option Value} {base : Heap} (T : Tx P K mg w) {k : Nat} {sp_check_condition sp_check_first sp_check_chances sp_likely_worths sp_jumps_in_all sp : Sp} (G_check_condition : FnOk P w K mg base CX0 (k) T.f_check_condition T.d_check_condition ["condition"] sp_check_condition) (G_check_first : FnOk P w K mg base CX0 (k) T.f_check_first T.d_check_first ["first"] sp_check_first) (G_check_chances : FnOk P w K mg base CX0 (k) T.f_check_chances T.d_check_chances ["chances"] sp_check_chances) (G_likely_worths : FnOk P w K mg base CX0 (k) T.f_likely_worths T.d_likely_worths ["chances"] sp_likely_worths) (G_jumps_in_all : FnOk P w K mg base CX0 (k) T.f_jumps_in_all T.d_jumps_in_all ["condition", "first", "likely"] sp_jumps_in_all)
    (len : ∀ vs H Q E, sp vs H Q E → vs.length = 3)
    (pure : ∀ vs H Q E, sp vs H Q E → t_jumps K w sp_check_condition sp_check_first sp_check_chances sp_likely_worths sp_jumps_in_all (Ends.mk (fun _ H' => Q .non H') Q (fun _ _ => False) (fun _ _ => False)) (start ["condition", "first", "chances"] vs) H) :
    FnOk P w K mg base CX0 (k + 1) T.f_jumps T.d_jumps ["condition", "first", "chances"] sp := by
  refine T.F_jumps.ok sc_jumps len (fun cdv A outer s H vs Q E hr h => ⟨t_jumps K w sp_check_condition sp_check_first sp_check_chances sp_likely_worths sp_jumps_in_all, ?_, pure vs H Q E h⟩)
  exact (pss_cons (ps_expr (pe_call G_check_condition hr rfl T.m_check_condition T.F_check_condition.kp T.b_check_condition .nil pass0 (pa_cons (pv 0) (pa_nil))))
      (pss_cons (ps_expr (pe_call G_check_first hr rfl T.m_check_first T.F_check_first.kp T.b_check_first .nil pass0 (pa_cons (pv 1) (pa_nil))))
      (pss_cons (ps_expr (pe_call G_check_chances hr rfl T.m_check_chances T.F_check_chances.kp T.b_check_chances .nil pass0 (pa_cons (pv 2) (pa_nil))))
      (pss_one (ps_ret (pe_call G_jumps_in_all hr rfl T.m_jumps_in_all T.F_jumps_in_all.kp T.b_jumps_in_all .nil pass0 (pa_cons (pv 0) (pa_cons (pv 1) (pa_cons (pe_call G_likely_worths hr rfl T.m_likely_worths T.F_likely_worths.kp T.b_likely_worths .nil pass0 (pa_cons (pv 2) (pa_nil))) (pa_nil))))))))))

theorem ok_jumps_in_all {P : Program} {w : World} {K : PySem.W.Frag} {mg : Str → Option Value} {base : Heap} (T : Tx P K mg w) {k : Nat} {sp_code_of sp_outcome_of_rows sp : Sp} (G_code_of : FnOk P w K mg base CX0 (k) T.f_code_of T.d_code_of ["condition", "first"] sp_code_of) (G_outcome_of_rows : FnOk P w K mg base CX0 (k) T.f_outcome_of_rows T.d_outcome_of_rows ["rows", "worths"] sp_outcome_of_rows)
    (len : ∀ vs H Q E, sp vs H Q E → vs.length = 3)
    (pure : ∀ vs H Q E, sp vs H Q E → t_jumps_in_all K w sp_code_of sp_outcome_of_rows (Ends.mk (fun _ H' => Q .non H') Q (fun _ _ => False) (fun _ _ => False)) (start ["condition", "first", "likely", "rows", "worths", "times"] vs) H) :
    FnOk P w K mg base CX0 (k + 1) T.f_jumps_in_all T.d_jumps_in_all ["condition", "first", "likely"] sp := by
  refine T.F_jumps_in_all.ok sc_jumps_in_all len (fun cdv A outer s H vs Q E hr h => ⟨t_jumps_in_all K w sp_code_of sp_outcome_of_rows, ?_, pure vs H Q E h⟩)
  exact (pss_cons (ps_set (i := 3) sc_jumps_in_all.nd rfl (by first | exact Or.inl rfl | exact Or.inr rfl) (pe_call G_code_of hr rfl T.m_code_of T.F_code_of.kp T.b_code_of .nil pass0 (pa_cons (pv 0) (pa_cons (pv 1) (pa_nil)))))
      (pss_one (ps_ret (pe_callB (cr_sum rfl) (by rfl) T.n_sum (by decide +kernel) (pa_cons (pe_lc (own := [("worths", 4), ("times", 5)]) rfl sc_jumps_in_all.nd (pi_list (pv 2)) (blkOk_by (own := [("worths", 4), ("times", 5)]) (N := ["condition", "first", "likely", "rows", "worths", "times"]) (sc := defScope s_jumps_in_all) (by decide +kernel)) (fun _ _ _ _ _ => pg_tup rfl (pgs_cons (pg_name (i := 4) sc_jumps_in_all.nd rfl (by first | exact Or.inl rfl | exact Or.inr rfl)) (pgs_cons (pg_name (i := 5) sc_jumps_in_all.nd rfl (by first | exact Or.inl rfl | exact Or.inr rfl)) (pgs_nil)))) (fun _ _ _ _ _ => pts_nil) (fun _ _ _ _ _ => pe_op op_mul (pe_ix ix_tup (pe_call G_outcome_of_rows hr rfl T.m_outcome_of_rows T.F_outcome_of_rows.kp T.b_outcome_of_rows .nil pass0 (pa_cons (pv 3) (pa_cons (pv 4) (pa_nil)))) (pe_int) (fun _ _ => rfl)) (pv 5))) (pa_nil))))))

theorem ok_law {P : Program} {w : World} {K : PySem.W.Frag} {mg : Str → Option Value} {base : Heap} (T : Tx P K mg w) {k : Nat} {sp_law_begun sp_law_condition sp_law_deep sp_law_dual sp_alike sp_like_worth sp_law_take sp_law_named sp_looks sp_coded sp_jumps sp_law_worths sp_run sp_meant sp : Sp} (G_law_begun : FnOk P w K mg base CX0 (k) T.f_law_begun T.d_law_begun ["_law_script"] sp_law_begun) (G_law_condition : FnOk P w K mg base CX0 (k) T.f_law_condition T.d_law_condition ["_law_box", "_law_most"] sp_law_condition) (G_law_deep : FnOk P w K mg base CX0 (k) T.f_law_deep T.d_law_deep ["_law_part_here"] sp_law_deep) (G_law_dual : FnOk P w K mg base CX0 (k) T.f_law_dual T.d_law_dual ["_law_part_here"] sp_law_dual) (G_alike : FnOk P w K mg base CX0 (k) T.f_alike T.d_alike ["one", "other"] sp_alike) (G_like_worth : FnOk P w K mg base CX0 (k) T.f_like_worth T.d_like_worth ["one", "other"] sp_like_worth) (G_law_take : FnOk P w K mg base CX0 (k) T.f_law_take T.d_law_take ["_law_box", "_law_many"] sp_law_take) (G_law_named : FnOk P w K mg base CX0 (k) T.f_law_named T.d_law_named ["_law_part_here", "_law_names"] sp_law_named) (G_looks : FnOk P w K mg base CX0 (k) T.f_looks T.d_looks ["condition", "chances"] sp_looks) (G_coded : FnOk P w K mg base CX0 (k) T.f_coded T.d_coded ["condition", "first"] sp_coded) (G_jumps : FnOk P w K mg base CX0 (k) T.f_jumps T.d_jumps ["condition", "first", "chances"] sp_jumps) (G_law_worths : FnOk P w K mg base CX0 (k) T.f_law_worths T.d_law_worths ["_law_number"] sp_law_worths) (G_run : FnOk P w K mg base CX0 (k) T.f_run T.d_run ["rows", "worths"] sp_run) (G_meant : FnOk P w K mg base CX0 (k) T.f_meant T.d_meant ["condition", "worths"] sp_meant)
    (len : ∀ vs H Q E, sp vs H Q E → vs.length = 1)
    (pure : ∀ vs H Q E, sp vs H Q E → t_law K w sp_law_begun sp_law_condition sp_law_deep sp_law_dual sp_alike sp_like_worth sp_law_take sp_law_named sp_looks sp_coded sp_jumps sp_law_worths sp_run sp_meant (Ends.mk (fun _ H' => Q .non H') Q (fun _ _ => False) (fun _ _ => False)) (start ["_law_script", "_law_box", "_law_turn", "_law_part_here", "_law_contrary", "_law_left", "_law_names", "_law_thing", "_law_other", "_law_chances", "_law_theirs", "_law_first", "_law_rows", "_law_again", "_law_worths_here", "_law_told", "_law_named_here"] vs) H) :
    FnOk P w K mg base CX0 (k + 1) T.f_law T.d_law ["_law_script"] sp := by
  refine T.F_law.ok sc_law len (fun cdv A outer s H vs Q E hr h => ⟨t_law K w sp_law_begun sp_law_condition sp_law_deep sp_law_dual sp_alike sp_like_worth sp_law_take sp_law_named sp_looks sp_coded sp_jumps sp_law_worths sp_run sp_meant, ?_, pure vs H Q E h⟩)
  exact (pss_cons (ps_set (i := 1) sc_law.nd rfl (by first | exact Or.inl rfl | exact Or.inr rfl) (pe_call G_law_begun hr rfl T.m_law_begun T.F_law_begun.kp T.b_law_begun .nil pass0 (pa_cons (pv 0) (pa_nil))))
      (pss_cons (ps_for PassesOwn.never rfl (pi_range1 (by rfl) T.n_range (pa_cons (pe_int) (pa_nil))) (pg_name (i := 2) sc_law.nd rfl (by first | exact Or.inl rfl | exact Or.inr rfl)) (pss_cons (ps_set (i := 3) sc_law.nd rfl (by first | exact Or.inl rfl | exact Or.inr rfl) (pe_call G_law_condition hr rfl T.m_law_condition T.F_law_condition.kp T.b_law_condition .nil pass0 (pa_cons (pv 1) (pa_cons (pe_int) (pa_nil)))))
      (pss_cons (ps_while PassesOwn.never (pt_cmpR op_gt (pe_call G_law_deep hr rfl T.m_law_deep T.F_law_deep.kp T.b_law_deep .nil pass0 (pa_cons (pv 3) (pa_nil))) (pe_int) (nomark _)) (pss_one (ps_set (i := 3) sc_law.nd rfl (by first | exact Or.inl rfl | exact Or.inr rfl) (pe_ix ix_tup (pv 3) (pe_int) (fun _ _ => rfl)))))
      (pss_cons (ps_set (i := 4) sc_law.nd rfl (by first | exact Or.inl rfl | exact Or.inr rfl) (pe_tup (pa_cons (pe_str) (pa_cons (pe_call G_law_dual hr rfl T.m_law_dual T.F_law_dual.kp T.b_law_dual .nil pass0 (pa_cons (pv 3) (pa_nil))) (pa_nil)))))
      (pss_cons (ps_if (PW.pt (pw_or (pt_not (pt_val (pe_call G_alike hr rfl T.m_alike T.F_alike.kp T.b_alike .nil pass0 (pa_cons (pv 3) (pa_cons (pv 4) (pa_nil)))))) (pw_or (pt_not (pt_val (pe_call G_alike hr rfl T.m_alike T.F_alike.kp T.b_alike .nil pass0 (pa_cons (pv 3) (pa_cons (pe_tup (pa_cons (pe_str) (pa_cons (pe_tup (pa_cons (pe_str) (pa_cons (pv 3) (pa_nil)))) (pa_nil)))) (pa_nil)))))) (pw_or1 (pt_val (pe_call G_like_worth hr rfl T.m_like_worth T.F_like_worth.kp T.b_like_worth .nil pass0 (pa_cons (pv 3) (pa_cons (pe_tup (pa_cons (pe_str) (pa_cons (pv 3) (pa_nil)))) (pa_nil))))))))) (pss_one (ps_ret (pe_bl))) (pss_nil))
      (pss_cons (ps_set (i := 5) sc_law.nd rfl (by first | exact Or.inl rfl | exact Or.inr rfl) (pe_listRg rfl (by rfl) T.n_list (prg_1 (by rfl) T.n_range (pe_int))))
      (pss_cons (ps_set (i := 6) sc_law.nd rfl (by first | exact Or.inl rfl | exact Or.inr rfl) (pe_lc (own := [("_law_thing", 7)]) rfl sc_law.nd (pi_range1 (by rfl) T.n_range (pa_cons (pe_int) (pa_nil))) (blkOk_by (own := [("_law_thing", 7)]) (N := ["_law_script", "_law_box", "_law_turn", "_law_part_here", "_law_contrary", "_law_left", "_law_names", "_law_thing", "_law_other", "_law_chances", "_law_theirs", "_law_first", "_law_rows", "_law_again", "_law_worths_here", "_law_told", "_law_named_here"]) (sc := defScope s_law) (by decide +kernel)) (fun _ _ _ _ _ => pg_name (i := 7) sc_law.nd rfl (by first | exact Or.inl rfl | exact Or.inr rfl)) (fun _ _ _ _ _ => pts_nil) (fun _ _ _ _ _ => pe_bm PySem.F.plainAttrs_list PySem.F.slot_list_pop PySem.F.type_list_pop mt_popAt (pv 5) (pa_cons (pe_call G_law_take hr rfl T.m_law_take T.F_law_take.kp T.b_law_take .nil pass0 (pa_cons (pv 1) (pa_cons (pe_callB call_rLen (by rfl) T.n_len PySem.boot_len (pa_cons (pv 5) (pa_nil))) (pa_nil)))) (pa_nil)))))
      (pss_cons (ps_set (i := 8) sc_law.nd rfl (by first | exact Or.inl rfl | exact Or.inr rfl) (pe_call G_law_named hr rfl T.m_law_named T.F_law_named.kp T.b_law_named .nil pass0 (pa_cons (pv 3) (pa_cons (pv 6) (pa_nil)))))
      (pss_cons (ps_set (i := 9) sc_law.nd rfl (by first | exact Or.inl rfl | exact Or.inr rfl) (pe_callTy call_rTupleOf (by rfl) T.n_tuple (by decide +kernel) (pa_cons (pe_lc (own := [("_law_thing", 7)]) rfl sc_law.nd (pi_range1 (by rfl) T.n_range (pa_cons (pe_int) (pa_nil))) (blkOk_by (own := [("_law_thing", 7)]) (N := ["_law_script", "_law_box", "_law_turn", "_law_part_here", "_law_contrary", "_law_left", "_law_names", "_law_thing", "_law_other", "_law_chances", "_law_theirs", "_law_first", "_law_rows", "_law_again", "_law_worths_here", "_law_told", "_law_named_here"]) (sc := defScope s_law) (by decide +kernel)) (fun _ _ _ _ _ => pg_name (i := 7) sc_law.nd rfl (by first | exact Or.inl rfl | exact Or.inr rfl)) (fun _ _ _ _ _ => pts_nil) (fun _ _ _ _ _ => pe_call G_law_take hr rfl T.m_law_take T.F_law_take.kp T.b_law_take .nil pass0 (pa_cons (pv 1) (pa_cons (pe_int) (pa_nil))))) (pa_nil))))
      (pss_cons (ps_set (i := 10) sc_law.nd rfl (by first | exact Or.inl rfl | exact Or.inr rfl) (pe_callTy call_rTupleOf (by rfl) T.n_tuple (by decide +kernel) (pa_cons (pe_lc (own := [("_law_thing", 7)]) rfl sc_law.nd (pi_range1 (by rfl) T.n_range (pa_cons (pe_int) (pa_nil))) (blkOk_by (own := [("_law_thing", 7)]) (N := ["_law_script", "_law_box", "_law_turn", "_law_part_here", "_law_contrary", "_law_left", "_law_names", "_law_thing", "_law_other", "_law_chances", "_law_theirs", "_law_first", "_law_rows", "_law_again", "_law_worths_here", "_law_told", "_law_named_here"]) (sc := defScope s_law) (by decide +kernel)) (fun _ _ _ _ _ => pg_name (i := 7) sc_law.nd rfl (by first | exact Or.inl rfl | exact Or.inr rfl)) (fun _ _ _ _ _ => pts_nil) (fun _ _ _ _ _ => pe_ix ix_tup (pv 9) (pe_bm PySem.F.plainAttrs_list PySem.F.slot_list_index PySem.F.type_list_index mt_index (pv 6) (pa_cons (pv 7) (pa_nil))) (fun _ _ => rfl))) (pa_nil))))
      (pss_cons (ps_if (pt_cmpR op_ne (pe_call G_looks hr rfl T.m_looks T.F_looks.kp T.b_looks .nil pass0 (pa_cons (pv 3) (pa_cons (pv 9) (pa_nil)))) (pe_call G_looks hr rfl T.m_looks T.F_looks.kp T.b_looks .nil pass0 (pa_cons (pv 8) (pa_cons (pv 10) (pa_nil)))) (nomark _)) (pss_one (ps_ret (pe_bl))) (pss_nil))
      (pss_one (ps_for PassesOwn.never rfl (pi_range1 (by rfl) T.n_range (pa_cons (pe_int) (pa_nil))) (pg_name (i := 11) sc_law.nd rfl (by first | exact Or.inl rfl | exact Or.inr rfl)) (pss_cons (ps_set (i := 12) sc_law.nd rfl (by first | exact Or.inl rfl | exact Or.inr rfl) (pe_call G_coded hr rfl T.m_coded T.F_coded.kp T.b_coded .nil pass0 (pa_cons (pv 3) (pa_cons (pv 11) (pa_nil)))))
      (pss_cons (ps_if (PW.pt (pw_or (pt_cmpR (op_neD hr.units) (pe_slice sl_list (pe_call G_coded hr rfl T.m_coded T.F_coded.kp T.b_coded .nil pass0 (pa_cons (pe_tup (pa_cons (pe_str) (pa_cons (pv 3) (pa_nil)))) (pa_cons (pe_op op_sub (pe_int) (pv 11)) (pa_nil)))) (po_none) (po_some (pe_un un_neg (pe_int)))) (pe_slice sl_list (pv 12) (po_none) (po_some (pe_un un_neg (pe_int)))) (nomark _)) (pw_or1 (pt_cmpR (op_neD hr.units) (pe_call G_coded hr rfl T.m_coded T.F_coded.kp T.b_coded .nil pass0 (pa_cons (pv 4) (pa_cons (pv 11) (pa_nil)))) (pv 12) (nomark _))))) (pss_one (ps_ret (pe_bl))) (pss_nil))
      (pss_cons (ps_if (pt_cmpR op_ne (pe_call G_jumps hr rfl T.m_jumps T.F_jumps.kp T.b_jumps .nil pass0 (pa_cons (pv 3) (pa_cons (pv 11) (pa_cons (pv 9) (pa_nil))))) (pe_call G_jumps hr rfl T.m_jumps T.F_jumps.kp T.b_jumps .nil pass0 (pa_cons (pv 8) (pa_cons (pv 11) (pa_cons (pv 10) (pa_nil))))) (nomark _)) (pss_one (ps_ret (pe_bl))) (pss_nil))
      (pss_one (ps_for PassesOwn.never rfl (pi_range1 (by rfl) T.n_range (pa_cons (pe_int) (pa_nil))) (pg_name (i := 13) sc_law.nd rfl (by first | exact Or.inl rfl | exact Or.inr rfl)) (pss_cons (ps_set (i := 14) sc_law.nd rfl (by first | exact Or.inl rfl | exact Or.inr rfl) (pe_call G_law_worths hr rfl T.m_law_worths T.F_law_worths.kp T.b_law_worths .nil pass0 (pa_cons (pe_call G_law_take hr rfl T.m_law_take T.F_law_take.kp T.b_law_take .nil pass0 (pa_cons (pv 1) (pa_cons (pe_int) (pa_nil)))) (pa_nil))))
      (pss_cons (ps_set (i := 15) sc_law.nd rfl (by first | exact Or.inl rfl | exact Or.inr rfl) (pe_call G_run hr rfl T.m_run T.F_run.kp T.b_run .nil pass0 (pa_cons (pv 12) (pa_cons (pe_callTy call_rTupleOf (by rfl) T.n_tuple (by decide +kernel) (pa_cons (pe_lc (own := [("_law_thing", 7)]) rfl sc_law.nd (pi_range1 (by rfl) T.n_range (pa_cons (pe_int) (pa_nil))) (blkOk_by (own := [("_law_thing", 7)]) (N := ["_law_script", "_law_box", "_law_turn", "_law_part_here", "_law_contrary", "_law_left", "_law_names", "_law_thing", "_law_other", "_law_chances", "_law_theirs", "_law_first", "_law_rows", "_law_again", "_law_worths_here", "_law_told", "_law_named_here"]) (sc := defScope s_law) (by decide +kernel)) (fun _ _ _ _ _ => pg_name (i := 7) sc_law.nd rfl (by first | exact Or.inl rfl | exact Or.inr rfl)) (fun _ _ _ _ _ => pts_nil) (fun _ _ _ _ _ => pe_ix ix_tup (pv 14) (pe_ix ix_list (pv 6) (pv 7) (fun _ _ => rfl)) (fun _ _ => rfl))) (pa_nil))) (pa_nil)))))
      (pss_cons (ps_set (i := 16) sc_law.nd rfl (by first | exact Or.inl rfl | exact Or.inr rfl) (pe_tup (pa_cons (pe_ix ix_tup (pv 15) (pe_int) (fun _ _ => rfl)) (pa_cons (pe_lc (own := [("_law_thing", 7)]) rfl sc_law.nd (pi_list (pe_ix ix_tup (pv 15) (pe_int) (fun _ _ => rfl))) (blkOk_by (own := [("_law_thing", 7)]) (N := ["_law_script", "_law_box", "_law_turn", "_law_part_here", "_law_contrary", "_law_left", "_law_names", "_law_thing", "_law_other", "_law_chances", "_law_theirs", "_law_first", "_law_rows", "_law_again", "_law_worths_here", "_law_told", "_law_named_here"]) (sc := defScope s_law) (by decide +kernel)) (fun _ _ _ _ _ => pg_name (i := 7) sc_law.nd rfl (by first | exact Or.inl rfl | exact Or.inr rfl)) (fun _ _ _ _ _ => pts_nil) (fun _ _ _ _ _ => pe_ix ix_list (pv 6) (pv 7) (fun _ _ => rfl))) (pa_cons (pe_ix ix_tup (pv 15) (pe_int) (fun _ _ => rfl)) (pa_nil))))))
      (pss_one (ps_if (PW.pt (pw_or (pt_cmpR (op_neD hr.units) (pe_call G_run hr rfl T.m_run T.F_run.kp T.b_run .nil pass0 (pa_cons (pe_call G_coded hr rfl T.m_coded T.F_coded.kp T.b_coded .nil pass0 (pa_cons (pv 8) (pa_cons (pv 11) (pa_nil)))) (pa_cons (pv 14) (pa_nil)))) (pv 16) (nomark _)) (pw_or1 (pt_cmpR (op_neD hr.units) (pe_call G_meant hr rfl T.m_meant T.F_meant.kp T.b_meant .nil pass0 (pa_cons (pv 8) (pa_cons (pv 14) (pa_nil)))) (pe_slice sl_tup (pv 16) (po_none) (po_some (pe_int))) (nomark _))))) (pss_one (ps_ret (pe_bl))) (pss_nil))))))))))))))))))))))))
      (pss_one (ps_ret (pe_bl)))))

theorem ok_law_bare {P : Program} {w : World} {K : PySem.W.Frag} {mg : Str → Option Value} {base : Heap} (T : Tx P K mg w) {k : Nat} {sp_law_take sp_law_part sp : Sp} (G_law_take : FnOk P w K mg base CX0 (k) T.f_law_take T.d_law_take ["_law_box", "_law_many"] sp_law_take) (G_law_part : FnOk P w K mg base CX0 (k) T.f_law_part T.d_law_part ["_law_box", "_law_many", "_law_things"] sp_law_part)
    (len : ∀ vs H Q E, sp vs H Q E → vs.length = 3)
    (pure : ∀ vs H Q E, sp vs H Q E → t_law_bare K w sp_law_take sp_law_part (Ends.mk (fun _ H' => Q .non H') Q (fun _ _ => False) (fun _ _ => False)) (start ["_law_box", "_law_many", "_law_things", "_law_left", "_law_word"] vs) H) :
    FnOk P w K mg base CX0 (k + 1) T.f_law_bare T.d_law_bare ["_law_box", "_law_many", "_law_things"] sp := by
  refine T.F_law_bare.ok sc_law_bare len (fun cdv A outer s H vs Q E hr h => ⟨t_law_bare K w sp_law_take sp_law_part, ?_, pure vs H Q E h⟩)
  exact (pss_cons (ps_if (pt_cmpR op_eq (pv 1) (pe_int) (nomark _)) (pss_one (ps_ret (pe_tup (pa_cons (pe_str) (pa_cons (pe_ix ix_list (pv 2) (pe_call G_law_take hr rfl T.m_law_take T.F_law_take.kp T.b_law_take .nil pass0 (pa_cons (pv 0) (pa_cons (pe_callB call_rLen (by rfl) T.n_len PySem.boot_len (pa_cons (pv 2) (pa_nil))) (pa_nil)))) (fun _ _ => rfl)) (pa_nil)))))) (pss_nil))
      (pss_cons (ps_set (i := 3) sc_law_bare.nd rfl (by first | exact Or.inl rfl | exact Or.inr rfl) (pe_ix ix_list (pe_lst (pa_cons (pe_int) (pa_cons (pe_op op_sub (pv 1) (pe_int)) (pa_cons (pe_op op_add (pe_int) (pe_call G_law_take hr rfl T.m_law_take T.F_law_take.kp T.b_law_take .nil pass0 (pa_cons (pv 0) (pa_cons (pe_op op_sub (pv 1) (pe_int)) (pa_nil))))) (pa_cons (pe_op op_fdiv (pv 1) (pe_int)) (pa_nil)))))) (pe_call G_law_take hr rfl T.m_law_take T.F_law_take.kp T.b_law_take .nil pass0 (pa_cons (pv 0) (pa_cons (pe_int) (pa_nil)))) (fun _ _ => rfl)))
      (pss_cons (ps_set (i := 4) sc_law_bare.nd rfl (by first | exact Or.inl rfl | exact Or.inr rfl) (pe_ix ix_list (pe_lst (pa_cons (pe_str) (pa_cons (pe_str) (pa_nil)))) (pe_call G_law_take hr rfl T.m_law_take T.F_law_take.kp T.b_law_take .nil pass0 (pa_cons (pv 0) (pa_cons (pe_int) (pa_nil)))) (fun _ _ => rfl)))
      (pss_one (ps_ret (pe_tup (pa_cons (pv 4) (pa_cons (pe_call G_law_part hr rfl T.m_law_part T.F_law_part.kp T.b_law_part .nil pass0 (pa_cons (pv 0) (pa_cons (pv 3) (pa_cons (pv 2) (pa_nil))))) (pa_cons (pe_call G_law_part hr rfl T.m_law_part T.F_law_part.kp T.b_law_part .nil pass0 (pa_cons (pv 0) (pa_cons (pe_op op_sub (pv 1) (pv 3)) (pa_cons (pv 2) (pa_nil))))) (pa_nil))))))))))

theorem ok_law_begun {P : Program} {w : World} {K : PySem.W.Frag} {mg : Str → Option Value} {base : Heap} (T : Tx P K mg w) {k : Nat} { sp : Sp} 
    (len : ∀ vs H Q E, sp vs H Q E → vs.length = 1)
    (pure : ∀ vs H Q E, sp vs H Q E → t_law_begun K w (Ends.mk (fun _ H' => Q .non H') Q (fun _ _ => False) (fun _ _ => False)) (start ["_law_script", "_law_stirred", "_law_cell"] vs) H) :
    FnOk P w K mg base CX0 (k + 1) T.f_law_begun T.d_law_begun ["_law_script"] sp := by
  refine T.F_law_begun.ok sc_law_begun len (fun cdv A outer s H vs Q E hr h => ⟨t_law_begun K w, ?_, pure vs H Q E h⟩)
  exact (pss_cons (ps_set (i := 1) sc_law_begun.nd rfl (by first | exact Or.inl rfl | exact Or.inr rfl) (pe_int))
      (pss_cons (ps_for PassesOwn.never rfl (pi_list (pv 0)) (pg_name (i := 2) sc_law_begun.nd rfl (by first | exact Or.inl rfl | exact Or.inr rfl)) (pss_one (ps_set (i := 1) sc_law_begun.nd rfl (by first | exact Or.inl rfl | exact Or.inr rfl) (pe_op op_mod (pe_op op_add (pe_op op_add (pe_op op_mul (pv 1) (pe_int)) (pe_op op_mul (pv 2) (pe_int))) (pe_int)) (pe_int)))))
      (pss_one (ps_ret (pe_lst (pa_cons (pe_callTy call_rListOf (by rfl) T.n_list (by decide +kernel) (pa_cons (pv 0) (pa_nil))) (pa_cons (pe_op op_mul (pv 1) (pe_callTy call_rInt1 (by rfl) T.n_int (by decide +kernel) (pa_cons (pe_cmpR op_gt (pe_callB call_rLen (by rfl) T.n_len PySem.boot_len (pa_cons (pv 0) (pa_nil))) (pe_int) (nomark _)) (pa_nil)))) (pa_nil))))))))

theorem ok_law_condition {P : Program} {w : World} {K : PySem.W.Frag} {mg : Str → Option Value} {base : Heap} (T : Tx P K mg w) {k : Nat} {sp_law_take sp_law_part sp_law_deep sp : Sp} (G_law_take : FnOk P w K mg base CX0 (k) T.f_law_take T.d_law_take ["_law_box", "_law_many"] sp_law_take) (G_law_part : FnOk P w K mg base CX0 (k) T.f_law_part T.d_law_part ["_law_box", "_law_many", "_law_things"] sp_law_part) (G_law_deep : FnOk P w K mg base CX0 (k) T.f_law_deep T.d_law_deep ["_law_part_here"] sp_law_deep)
    (len : ∀ vs H Q E, sp vs H Q E → vs.length = 2)
    (pure : ∀ vs H Q E, sp vs H Q E → t_law_condition K w sp_law_take sp_law_part sp_law_deep (Ends.mk (fun _ H' => Q .non H') Q (fun _ _ => False) (fun _ _ => False)) (start ["_law_box", "_law_most", "_law_things", "_law_part_here"] vs) H) :
    FnOk P w K mg base CX0 (k + 1) T.f_law_condition T.d_law_condition ["_law_box", "_law_most"] sp := by
  refine T.F_law_condition.ok sc_law_condition len (fun cdv A outer s H vs Q E hr h => ⟨t_law_condition K w sp_law_take sp_law_part sp_law_deep, ?_, pure vs H Q E h⟩)
  exact (pss_cons (ps_set (i := 2) sc_law_condition.nd rfl (by first | exact Or.inl rfl | exact Or.inr rfl) (pe_ix ix_list (pe_lst (pa_cons (pe_lst (pa_cons (pe_int) (pa_cons (pe_int) (pa_cons (pe_int) (pa_nil))))) (pa_cons (pe_lst (pa_cons (pe_int) (pa_cons (pe_int) (pa_cons (pe_int) (pa_cons (pe_int) (pa_cons (pe_int) (pa_cons (pe_int) (pa_cons (pe_int) (pa_cons (pe_int) (pa_nil)))))))))) (pa_cons (pe_lst (pa_cons (pe_int) (pa_cons (pe_int) (pa_nil)))) (pa_nil))))) (pe_call G_law_take hr rfl T.m_law_take T.F_law_take.kp T.b_law_take .nil pass0 (pa_cons (pv 0) (pa_cons (pe_int) (pa_nil)))) (fun _ _ => rfl)))
      (pss_cons (ps_set (i := 3) sc_law_condition.nd rfl (by first | exact Or.inl rfl | exact Or.inr rfl) (pe_call G_law_part hr rfl T.m_law_part T.F_law_part.kp T.b_law_part .nil pass0 (pa_cons (pv 0) (pa_cons (pe_op op_add (pe_int) (pe_call G_law_take hr rfl T.m_law_take T.F_law_take.kp T.b_law_take .nil pass0 (pa_cons (pv 0) (pa_cons (pv 1) (pa_nil))))) (pa_cons (pv 2) (pa_nil))))))
      (pss_cons (ps_while PassesOwn.never (pt_cmpR op_gt (pe_call G_law_deep hr rfl T.m_law_deep T.F_law_deep.kp T.b_law_deep .nil pass0 (pa_cons (pv 3) (pa_nil))) (pe_int) (nomark _)) (pss_one (ps_set (i := 3) sc_law_condition.nd rfl (by first | exact Or.inl rfl | exact Or.inr rfl) (pe_ix ix_tup (pv 3) (pe_int) (fun _ _ => rfl)))))
      (pss_one (ps_ret (pv 3))))))

theorem ok_law_deep {P : Program} {w : World} {K : PySem.W.Frag} {mg : Str → Option Value} {base : Heap} (T : Tx P K mg w) {k : Nat} {sp_law_deep sp : Sp} (G_law_deep : FnOk P w K mg base CX0 (k) T.f_law_deep T.d_law_deep ["_law_part_here"] sp_law_deep)
    (len : ∀ vs H Q E, sp vs H Q E → vs.length = 1)
    (pure : ∀ vs H Q E, sp vs H Q E → t_law_deep K w sp_law_deep (Ends.mk (fun _ H' => Q .non H') Q (fun _ _ => False) (fun _ _ => False)) (start ["_law_part_here", "_law_one"] vs) H) :
    FnOk P w K mg base CX0 (k + 1) T.f_law_deep T.d_law_deep ["_law_part_here"] sp := by
  refine T.F_law_deep.ok sc_law_deep len (fun cdv A outer s H vs Q E hr h => ⟨t_law_deep K w sp_law_deep, ?_, pure vs H Q E h⟩)
  exact (pss_one (ps_ret (pe_ifExp (pt_cmpR op_eq (pe_ix ix_tup (pv 0) (pe_int) (fun _ _ => rfl)) (pe_str) (nomark _)) (pe_int) (pe_op op_add (pe_int) (pe_callB (cr_max rfl) (by rfl) T.n_max (by decide +kernel) (pa_cons (pe_lc (own := [("_law_one", 1)]) rfl sc_law_deep.nd (pi_tup (pe_slice sl_tup (pv 0) (po_some (pe_int)) (po_none))) (blkOk_by (own := [("_law_one", 1)]) (N := ["_law_part_here", "_law_one"]) (sc := defScope s_law_deep) (by decide +kernel)) (fun _ _ _ _ _ => pg_name (i := 1) sc_law_deep.nd rfl (by first | exact Or.inl rfl | exact Or.inr rfl)) (fun _ _ _ _ _ => pts_nil) (fun _ _ _ _ _ => pe_call G_law_deep hr rfl T.m_law_deep T.F_law_deep.kp T.b_law_deep .nil pass0 (pa_cons (pv 1) (pa_nil)))) (pa_nil)))))))

theorem ok_law_dual {P : Program} {w : World} {K : PySem.W.Frag} {mg : Str → Option Value} {base : Heap} (T : Tx P K mg w) {k : Nat} {sp_law_dual sp : Sp} (G_law_dual : FnOk P w K mg base CX0 (k) T.f_law_dual T.d_law_dual ["_law_part_here"] sp_law_dual)
    (len : ∀ vs H Q E, sp vs H Q E → vs.length = 1)
    (pure : ∀ vs H Q E, sp vs H Q E → t_law_dual K w sp_law_dual (Ends.mk (fun _ H' => Q .non H') Q (fun _ _ => False) (fun _ _ => False)) (start ["_law_part_here"] vs) H) :
    FnOk P w K mg base CX0 (k + 1) T.f_law_dual T.d_law_dual ["_law_part_here"] sp := by
  refine T.F_law_dual.ok sc_law_dual len (fun cdv A outer s H vs Q E hr h => ⟨t_law_dual K w sp_law_dual, ?_, pure vs H Q E h⟩)
  exact (pss_cons (ps_if (pt_cmpR op_eq (pe_ix ix_tup (pv 0) (pe_int) (fun _ _ => rfl)) (pe_str) (nomark _)) (pss_one (ps_ret (pe_tup (pa_cons (pe_str) (pa_cons (pv 0) (pa_nil)))))) (pss_nil))
      (pss_cons (ps_if (pt_cmpR op_eq (pe_ix ix_tup (pv 0) (pe_int) (fun _ _ => rfl)) (pe_str) (nomark _)) (pss_one (ps_ret (pe_tup (pa_cons (pe_str) (pa_cons (pe_call G_law_dual hr rfl T.m_law_dual T.F_law_dual.kp T.b_law_dual .nil pass0 (pa_cons (pe_ix ix_tup (pv 0) (pe_int) (fun _ _ => rfl)) (pa_nil))) (pa_nil)))))) (pss_nil))
      (pss_one (ps_ret (pe_tup (pa_cons (pe_dget (hu_of hr) (pe_disp (pps_cons (pe_str) (pe_str) (pps_cons (pe_str) (pe_str) (pps_nil))) (by rfl) (by rfl) (fun z => by cases z) (by decide)) (pe_ix ix_tup (pv 0) (pe_int) (fun _ _ => rfl)) (fun _ _ => rfl)) (pa_cons (pe_call G_law_dual hr rfl T.m_law_dual T.F_law_dual.kp T.b_law_dual .nil pass0 (pa_cons (pe_ix ix_tup (pv 0) (pe_int) (fun _ _ => rfl)) (pa_nil))) (pa_cons (pe_call G_law_dual hr rfl T.m_law_dual T.F_law_dual.kp T.b_law_dual .nil pass0 (pa_cons (pe_ix ix_tup (pv 0) (pe_int) (fun _ _ => rfl)) (pa_nil))) (pa_nil)))))))))

theorem ok_law_named {P : Program} {w : World} {K : PySem.W.Frag} {mg : Str → Option Value} {base : Heap} (T : Tx P K mg w) {k : Nat} {sp_law_named sp : Sp} (G_law_named : FnOk P w K mg base CX0 (k) T.f_law_named T.d_law_named ["_law_part_here", "_law_names"] sp_law_named)
    (len : ∀ vs H Q E, sp vs H Q E → vs.length = 2)
    (pure : ∀ vs H Q E, sp vs H Q E → t_law_named K w sp_law_named (Ends.mk (fun _ H' => Q .non H') Q (fun _ _ => False) (fun _ _ => False)) (start ["_law_part_here", "_law_names", "_law_one"] vs) H) :
    FnOk P w K mg base CX0 (k + 1) T.f_law_named T.d_law_named ["_law_part_here", "_law_names"] sp := by
  refine T.F_law_named.ok sc_law_named len (fun cdv A outer s H vs Q E hr h => ⟨t_law_named K w sp_law_named, ?_, pure vs H Q E h⟩)
  exact (pss_cons (ps_if (pt_cmpR op_eq (pe_ix ix_tup (pv 0) (pe_int) (fun _ _ => rfl)) (pe_str) (nomark _)) (pss_one (ps_ret (pe_tup (pa_cons (pe_str) (pa_cons (pe_ix ix_list (pv 1) (pe_ix ix_tup (pv 0) (pe_int) (fun _ _ => rfl)) (fun _ _ => rfl)) (pa_nil)))))) (pss_nil))
      (pss_one (ps_ret (pe_op op_catT (pe_tup (pa_cons (pe_ix ix_tup (pv 0) (pe_int) (fun _ _ => rfl)) (pa_nil))) (pe_callTy call_rTupleOf (by rfl) T.n_tuple (by decide +kernel) (pa_cons (pe_lc (own := [("_law_one", 2)]) rfl sc_law_named.nd (pi_tup (pe_slice sl_tup (pv 0) (po_some (pe_int)) (po_none))) (blkOk_by (own := [("_law_one", 2)]) (N := ["_law_part_here", "_law_names", "_law_one"]) (sc := defScope s_law_named) (by decide +kernel)) (fun _ _ _ _ _ => pg_name (i := 2) sc_law_named.nd rfl (by first | exact Or.inl rfl | exact Or.inr rfl)) (fun _ _ _ _ _ => pts_nil) (fun _ _ _ _ _ => pe_call G_law_named hr rfl T.m_law_named T.F_law_named.kp T.b_law_named .nil pass0 (pa_cons (pv 2) (pa_cons (pv 1) (pa_nil))))) (pa_nil)))))))

theorem ok_law_part {P : Program} {w : World} {K : PySem.W.Frag} {mg : Str → Option Value} {base : Heap} (T : Tx P K mg w) {k : Nat} {sp_law_take sp_law_bare sp : Sp} (G_law_take : FnOk P w K mg base CX0 (k) T.f_law_take T.d_law_take ["_law_box", "_law_many"] sp_law_take) (G_law_bare : FnOk P w K mg base CX0 (k) T.f_law_bare T.d_law_bare ["_law_box", "_law_many", "_law_things"] sp_law_bare)
    (len : ∀ vs H Q E, sp vs H Q E → vs.length = 3)
    (pure : ∀ vs H Q E, sp vs H Q E → t_law_part K w sp_law_take sp_law_bare (Ends.mk (fun _ H' => Q .non H') Q (fun _ _ => False) (fun _ _ => False)) (start ["_law_box", "_law_many", "_law_things"] vs) H) :
    FnOk P w K mg base CX0 (k + 1) T.f_law_part T.d_law_part ["_law_box", "_law_many", "_law_things"] sp := by
  refine T.F_law_part.ok sc_law_part len (fun cdv A outer s H vs Q E hr h => ⟨t_law_part K w sp_law_take sp_law_bare, ?_, pure vs H Q E h⟩)
  exact (pss_cons (ps_if (pt_cmpR op_eq (pe_call G_law_take hr rfl T.m_law_take T.F_law_take.kp T.b_law_take .nil pass0 (pa_cons (pv 0) (pa_cons (pe_int) (pa_nil)))) (pe_int) (nomark _)) (pss_one (ps_ret (pe_tup (pa_cons (pe_str) (pa_cons (pe_call G_law_bare hr rfl T.m_law_bare T.F_law_bare.kp T.b_law_bare .nil pass0 (pa_cons (pv 0) (pa_cons (pv 1) (pa_cons (pv 2) (pa_nil))))) (pa_nil)))))) (pss_nil))
      (pss_one (ps_ret (pe_call G_law_bare hr rfl T.m_law_bare T.F_law_bare.kp T.b_law_bare .nil pass0 (pa_cons (pv 0) (pa_cons (pv 1) (pa_cons (pv 2) (pa_nil))))))))

theorem ok_law_take {P : Program} {w : World} {K : PySem.W.Frag} {mg : Str → Option Value} {base : Heap} (T : Tx P K mg w) {k : Nat} { sp : Sp} 
    (len : ∀ vs H Q E, sp vs H Q E → vs.length = 2)
    (pure : ∀ vs H Q E, sp vs H Q E → t_law_take K w (Ends.mk (fun _ H' => Q .non H') Q (fun _ _ => False) (fun _ _ => False)) (start ["_law_box", "_law_many", "_law_number"] vs) H) :
    FnOk P w K mg base CX0 (k + 1) T.f_law_take T.d_law_take ["_law_box", "_law_many"] sp := by
  refine T.F_law_take.ok sc_law_take len (fun cdv A outer s H vs Q E hr h => ⟨t_law_take K w, ?_, pure vs H Q E h⟩)
  exact (pss_cons (ps_if (pt_cmpR (op_eqD hr.units) (pe_ix ix_list (pv 0) (pe_int) (fun _ _ => rfl)) (pe_lst (pa_nil)) (nomark _)) (pss_cons (ps_asg (pe_op op_mod (pe_op op_mul (pe_ix ix_list (pv 0) (pe_int) (fun _ _ => rfl)) (pe_int)) (pe_int)) (pg_sub (pv 0) (pe_int) set_list))
      (pss_one (ps_ret (pe_op op_mod (pe_op op_fdiv (pe_ix ix_list (pv 0) (pe_int) (fun _ _ => rfl)) (pe_int)) (pv 1))))) (pss_nil))
      (pss_cons (ps_set (i := 2) sc_law_take.nd rfl (by first | exact Or.inl rfl | exact Or.inr rfl) (pe_ix ix_list (pe_ix ix_list (pv 0) (pe_int) (fun _ _ => rfl)) (pe_int) (fun _ _ => rfl)))
      (pss_cons (ps_asg (pe_op op_fdiv (pv 2) (pv 1)) (pg_sub (pe_ix ix_list (pv 0) (pe_int) (fun _ _ => rfl)) (pe_int) set_list))
      (pss_cons (ps_if (PW.pt (pw_or (pt_cmpR op_eq (pe_ix ix_list (pe_ix ix_list (pv 0) (pe_int) (fun _ _ => rfl)) (pe_int) (fun _ _ => rfl)) (pe_int) (nomark _)) (pw_or1 (pt_cmpR op_eq (pe_ix ix_list (pe_ix ix_list (pv 0) (pe_int) (fun _ _ => rfl)) (pe_int) (fun _ _ => rfl)) (pe_un un_neg (pe_int)) (nomark _))))) (pss_one (ps_expr (pe_bm PySem.F.plainAttrs_list PySem.F.slot_list_pop PySem.F.type_list_pop mt_popAt (pe_ix ix_list (pv 0) (pe_int) (fun _ _ => rfl)) (pa_cons (pe_int) (pa_nil))))) (pss_nil))
      (pss_one (ps_ret (pe_op op_mod (pv 2) (pv 1))))))))

theorem ok_law_worths {P : Program} {w : World} {K : PySem.W.Frag} {mg : Str → Option Value} {base : Heap} (T : Tx P K mg w) {k : Nat} { sp : Sp} 
    (len : ∀ vs H Q E, sp vs H Q E → vs.length = 1)
    (pure : ∀ vs H Q E, sp vs H Q E → t_law_worths K w (Ends.mk (fun _ H' => Q .non H') Q (fun _ _ => False) (fun _ _ => False)) (start ["_law_number", "_law_k"] vs) H) :
    FnOk P w K mg base CX0 (k + 1) T.f_law_worths T.d_law_worths ["_law_number"] sp := by
  refine T.F_law_worths.ok sc_law_worths len (fun cdv A outer s H vs Q E hr h => ⟨t_law_worths K w, ?_, pure vs H Q E h⟩)
  exact (pss_one (ps_ret (pe_callTy call_rTupleOf (by rfl) T.n_tuple (by decide +kernel) (pa_cons (pe_op op_cat (pe_lst (pa_cons (pe_op op_mod (pe_op op_fdiv (pv 0) (pe_int)) (pe_int)) (pa_nil))) (pe_lc (own := [("_law_k", 1)]) rfl sc_law_worths.nd (pi_range1 (by rfl) T.n_range (pa_cons (pe_int) (pa_nil))) (blkOk_by (own := [("_law_k", 1)]) (N := ["_law_number", "_law_k"]) (sc := defScope s_law_worths) (by decide +kernel)) (fun _ _ _ _ _ => pg_name (i := 1) sc_law_worths.nd rfl (by first | exact Or.inl rfl | exact Or.inr rfl)) (fun _ _ _ _ _ => pts_nil) (fun _ _ _ _ _ => pe_op op_mod (pe_op op_fdiv (pv 0) (pe_ix ix_list (pe_lst (pa_cons (pe_int) (pa_cons (pe_int) (pa_cons (pe_int) (pa_cons (pe_int) (pa_cons (pe_int) (pa_cons (pe_int) (pa_cons (pe_int) (pa_nil))))))))) (pv 1) (fun _ _ => rfl))) (pe_int)))) (pa_nil)))))

theorem ok_like_worth {P : Program} {w : World} {K : PySem.W.Frag} {mg : Str → Option Value} {base : Heap} (T : Tx P K mg w) {k : Nat} {sp_check_condition sp_all_bits sp_outcome sp : Sp} (G_check_condition : FnOk P w K mg base CX0 (k) T.f_check_condition T.d_check_condition ["condition"] sp_check_condition) (G_all_bits : FnOk P w K mg base CX0 (k) T.f_all_bits T.d_all_bits ["many"] sp_all_bits) (G_outcome : FnOk P w K mg base CX0 (k) T.f_outcome T.d_outcome ["condition", "worths"] sp_outcome)
    (len : ∀ vs H Q E, sp vs H Q E → vs.length = 2)
    (pure : ∀ vs H Q E, sp vs H Q E → t_like_worth K w sp_check_condition sp_all_bits sp_outcome (Ends.mk (fun _ H' => Q .non H') Q (fun _ _ => False) (fun _ _ => False)) (start ["one", "other", "worths"] vs) H) :
    FnOk P w K mg base CX0 (k + 1) T.f_like_worth T.d_like_worth ["one", "other"] sp := by
  refine T.F_like_worth.ok sc_like_worth len (fun cdv A outer s H vs Q E hr h => ⟨t_like_worth K w sp_check_condition sp_all_bits sp_outcome, ?_, pure vs H Q E h⟩)
  exact (pss_cons (ps_expr (pe_call G_check_condition hr rfl T.m_check_condition T.F_check_condition.kp T.b_check_condition .nil pass0 (pa_cons (pv 0) (pa_nil))))
      (pss_cons (ps_expr (pe_call G_check_condition hr rfl T.m_check_condition T.F_check_condition.kp T.b_check_condition .nil pass0 (pa_cons (pv 1) (pa_nil))))
      (pss_one (ps_ret (pe_callB (cr_all rfl) (by rfl) T.n_all (by decide +kernel) (pa_cons (pe_lc (own := [("worths", 2)]) rfl sc_like_worth.nd (pi_list (pe_call G_all_bits hr rfl T.m_all_bits T.F_all_bits.kp T.b_all_bits .nil pass0 (pa_cons (pe_glob rfl T.c_THINGS ⟨_, rfl⟩) (pa_nil)))) (blkOk_by (own := [("worths", 2)]) (N := ["one", "other", "worths"]) (sc := defScope s_like_worth) (by decide +kernel)) (fun _ _ _ _ _ => pg_name (i := 2) sc_like_worth.nd rfl (by first | exact Or.inl rfl | exact Or.inr rfl)) (fun _ _ _ _ _ => pts_nil) (fun _ _ _ _ _ => pe_cmpR op_eq (pe_ix ix_tup (pe_call G_outcome hr rfl T.m_outcome T.F_outcome.kp T.b_outcome .nil pass0 (pa_cons (pv 0) (pa_cons (pv 2) (pa_nil)))) (pe_int) (fun _ _ => rfl)) (pe_ix ix_tup (pe_call G_outcome hr rfl T.m_outcome T.F_outcome.kp T.b_outcome .nil pass0 (pa_cons (pv 1) (pa_cons (pv 2) (pa_nil)))) (pe_int) (fun _ _ => rfl)) (nomark _))) (pa_nil)))))))

theorem ok_likely_worths {P : Program} {w : World} {K : PySem.W.Frag} {mg : Str → Option Value} {base : Heap} (T : Tx P K mg w) {k : Nat} {sp_all_bits sp_times_of sp : Sp} (G_all_bits : FnOk P w K mg base CX0 (k) T.f_all_bits T.d_all_bits ["many"] sp_all_bits) (G_times_of : FnOk P w K mg base CX0 (k) T.f_times_of T.d_times_of ["worths", "chances"] sp_times_of)
    (len : ∀ vs H Q E, sp vs H Q E → vs.length = 1)
    (pure : ∀ vs H Q E, sp vs H Q E → t_likely_worths K w sp_all_bits sp_times_of (Ends.mk (fun _ H' => Q .non H') Q (fun _ _ => False) (fun _ _ => False)) (start ["chances", "worths"] vs) H) :
    FnOk P w K mg base CX0 (k + 1) T.f_likely_worths T.d_likely_worths ["chances"] sp := by
  refine T.F_likely_worths.ok sc_likely_worths len (fun cdv A outer s H vs Q E hr h => ⟨t_likely_worths K w sp_all_bits sp_times_of, ?_, pure vs H Q E h⟩)
  exact (pss_one (ps_ret (pe_lc (own := [("worths", 1)]) rfl sc_likely_worths.nd (pi_list (pe_call G_all_bits hr rfl T.m_all_bits T.F_all_bits.kp T.b_all_bits .nil pass0 (pa_cons (pe_glob rfl T.c_THINGS ⟨_, rfl⟩) (pa_nil)))) (blkOk_by (own := [("worths", 1)]) (N := ["chances", "worths"]) (sc := defScope s_likely_worths) (by decide +kernel)) (fun _ _ _ _ _ => pg_name (i := 1) sc_likely_worths.nd rfl (by first | exact Or.inl rfl | exact Or.inr rfl)) (fun _ _ _ _ _ => pts_nil) (fun _ _ _ _ _ => pe_tup (pa_cons (pv 1) (pa_cons (pe_call G_times_of hr rfl T.m_times_of T.F_times_of.kp T.b_times_of .nil pass0 (pa_cons (pv 1) (pa_cons (pv 0) (pa_nil)))) (pa_nil)))))))

theorem ok_look_row {P : Program} {w : World} {K : PySem.W.Frag} {mg : Str → Option Value} {base : Heap} (T : Tx P K mg w) {k : Nat} { sp : Sp} 
    (len : ∀ vs H Q E, sp vs H Q E → vs.length = 3)
    (pure : ∀ vs H Q E, sp vs H Q E → t_look_row K w (Ends.mk (fun _ H' => Q .non H') Q (fun _ _ => False) (fun _ _ => False)) (start ["thing", "place", "dues", "when"] vs) H) :
    FnOk P w K mg base CX0 (k + 1) T.f_look_row T.d_look_row ["thing", "place", "dues"] sp := by
  refine T.F_look_row.ok sc_look_row len (fun cdv A outer s H vs Q E hr h => ⟨t_look_row K w, ?_, pure vs H Q E h⟩)
  exact (pss_cons (ps_set (i := 3) sc_look_row.nd rfl (by first | exact Or.inl rfl | exact Or.inr rfl) (pe_ifExp (pt_cmpR op_eq (pe_ix ix_list (pv 2) (pe_int) (fun _ _ => rfl)) (pe_op op_add (pv 1) (pe_int)) (nomark _)) (pe_int) (pe_int)))
      (pss_one (ps_ret (pe_tup (pa_cons (pe_str) (pa_cons (pv 0) (pa_cons (pv 3) (pa_cons (pe_ix ix_list (pv 2) (pv 3) (fun _ _ => rfl)) (pa_nil)))))))))

theorem ok_looks {P : Program} {w : World} {K : PySem.W.Frag} {mg : Str → Option Value} {base : Heap} (T : Tx P K mg w) {k : Nat} {sp_check_condition sp_check_chances sp_likely_worths sp_looks_in_all sp : Sp} (G_check_condition : FnOk P w K mg base CX0 (k) T.f_check_condition T.d_check_condition ["condition"] sp_check_condition) (G_check_chances : FnOk P w K mg base CX0 (k) T.f_check_chances T.d_check_chances ["chances"] sp_check_chances) (G_likely_worths : FnOk P w K mg base CX0 (k) T.f_likely_worths T.d_likely_worths ["chances"] sp_likely_worths) (G_looks_in_all : FnOk P w K mg base CX0 (k) T.f_looks_in_all T.d_looks_in_all ["condition", "likely"] sp_looks_in_all)
    (len : ∀ vs H Q E, sp vs H Q E → vs.length = 2)
    (pure : ∀ vs H Q E, sp vs H Q E → t_looks K w sp_check_condition sp_check_chances sp_likely_worths sp_looks_in_all (Ends.mk (fun _ H' => Q .non H') Q (fun _ _ => False) (fun _ _ => False)) (start ["condition", "chances"] vs) H) :
    FnOk P w K mg base CX0 (k + 1) T.f_looks T.d_looks ["condition", "chances"] sp := by
  refine T.F_looks.ok sc_looks len (fun cdv A outer s H vs Q E hr h => ⟨t_looks K w sp_check_condition sp_check_chances sp_likely_worths sp_looks_in_all, ?_, pure vs H Q E h⟩)
  exact (pss_cons (ps_expr (pe_call G_check_condition hr rfl T.m_check_condition T.F_check_condition.kp T.b_check_condition .nil pass0 (pa_cons (pv 0) (pa_nil))))
      (pss_cons (ps_expr (pe_call G_check_chances hr rfl T.m_check_chances T.F_check_chances.kp T.b_check_chances .nil pass0 (pa_cons (pv 1) (pa_nil))))
      (pss_one (ps_ret (pe_call G_looks_in_all hr rfl T.m_looks_in_all T.F_looks_in_all.kp T.b_looks_in_all .nil pass0 (pa_cons (pv 0) (pa_cons (pe_call G_likely_worths hr rfl T.m_likely_worths T.F_likely_worths.kp T.b_likely_worths .nil pass0 (pa_cons (pv 1) (pa_nil))) (pa_nil))))))))

theorem ok_looks_in_all {P : Program} {w : World} {K : PySem.W.Frag} {mg : Str → Option Value} {base : Heap} (T : Tx P K mg w) {k : Nat} {sp_outcome sp : Sp} (G_outcome : FnOk P w K mg base CX0 (k) T.f_outcome T.d_outcome ["condition", "worths"] sp_outcome)
    (len : ∀ vs H Q E, sp vs H Q E → vs.length = 2)
    (pure : ∀ vs H Q E, sp vs H Q E → t_looks_in_all K w sp_outcome (Ends.mk (fun _ H' => Q .non H') Q (fun _ _ => False) (fun _ _ => False)) (start ["condition", "likely", "worths", "times"] vs) H) :
    FnOk P w K mg base CX0 (k + 1) T.f_looks_in_all T.d_looks_in_all ["condition", "likely"] sp := by
  refine T.F_looks_in_all.ok sc_looks_in_all len (fun cdv A outer s H vs Q E hr h => ⟨t_looks_in_all K w sp_outcome, ?_, pure vs H Q E h⟩)
  exact (pss_one (ps_ret (pe_callB (cr_sum rfl) (by rfl) T.n_sum (by decide +kernel) (pa_cons (pe_lc (own := [("worths", 2), ("times", 3)]) rfl sc_looks_in_all.nd (pi_list (pv 1)) (blkOk_by (own := [("worths", 2), ("times", 3)]) (N := ["condition", "likely", "worths", "times"]) (sc := defScope s_looks_in_all) (by decide +kernel)) (fun _ _ _ _ _ => pg_tup rfl (pgs_cons (pg_name (i := 2) sc_looks_in_all.nd rfl (by first | exact Or.inl rfl | exact Or.inr rfl)) (pgs_cons (pg_name (i := 3) sc_looks_in_all.nd rfl (by first | exact Or.inl rfl | exact Or.inr rfl)) (pgs_nil)))) (fun _ _ _ _ _ => pts_nil) (fun _ _ _ _ _ => pe_op op_mul (pe_callB call_rLen (by rfl) T.n_len PySem.boot_len (pa_cons (pe_ix ix_tup (pe_call G_outcome hr rfl T.m_outcome T.F_outcome.kp T.b_outcome .nil pass0 (pa_cons (pv 0) (pa_cons (pv 2) (pa_nil)))) (pe_int) (fun _ _ => rfl)) (pa_nil))) (pv 3))) (pa_nil)))))

theorem ok_meant {P : Program} {w : World} {K : PySem.W.Frag} {mg : Str → Option Value} {base : Heap} (T : Tx P K mg w) {k : Nat} {sp_check_condition sp_check_worths sp_outcome sp : Sp} (G_check_condition : FnOk P w K mg base CX0 (k) T.f_check_condition T.d_check_condition ["condition"] sp_check_condition) (G_check_worths : FnOk P w K mg base CX0 (k) T.f_check_worths T.d_check_worths ["worths"] sp_check_worths) (G_outcome : FnOk P w K mg base CX0 (k) T.f_outcome T.d_outcome ["condition", "worths"] sp_outcome)
    (len : ∀ vs H Q E, sp vs H Q E → vs.length = 2)
    (pure : ∀ vs H Q E, sp vs H Q E → t_meant K w sp_check_condition sp_check_worths sp_outcome (Ends.mk (fun _ H' => Q .non H') Q (fun _ _ => False) (fun _ _ => False)) (start ["condition", "worths"] vs) H) :
    FnOk P w K mg base CX0 (k + 1) T.f_meant T.d_meant ["condition", "worths"] sp := by
  refine T.F_meant.ok sc_meant len (fun cdv A outer s H vs Q E hr h => ⟨t_meant K w sp_check_condition sp_check_worths sp_outcome, ?_, pure vs H Q E h⟩)
  exact (pss_cons (ps_expr (pe_call G_check_condition hr rfl T.m_check_condition T.F_check_condition.kp T.b_check_condition .nil pass0 (pa_cons (pv 0) (pa_nil))))
      (pss_cons (ps_expr (pe_call G_check_worths hr rfl T.m_check_worths T.F_check_worths.kp T.b_check_worths .nil pass0 (pa_cons (pv 1) (pa_nil))))
      (pss_one (ps_ret (pe_call G_outcome hr rfl T.m_outcome T.F_outcome.kp T.b_outcome .nil pass0 (pa_cons (pv 0) (pa_cons (pv 1) (pa_nil))))))))

theorem ok_outcome {P : Program} {w : World} {K : PySem.W.Frag} {mg : Str → Option Value} {base : Heap} (T : Tx P K mg w) {k : Nat} {sp_outcome sp : Sp} (G_outcome : FnOk P w K mg base CX0 (k) T.f_outcome T.d_outcome ["condition", "worths"] sp_outcome)
    (len : ∀ vs H Q E, sp vs H Q E → vs.length = 2)
    (pure : ∀ vs H Q E, sp vs H Q E → t_outcome K w T.a_GOES_ON sp_outcome (Ends.mk (fun _ H' => Q .non H') Q (fun _ _ => False) (fun _ _ => False)) (start ["condition", "worths", "word", "thing", "worth", "looks", "second", "more"] vs) H) :
    FnOk P w K mg base CX0 (k + 1) T.f_outcome T.d_outcome ["condition", "worths"] sp := by
  refine T.F_outcome.ok sc_outcome len (fun cdv A outer s H vs Q E hr h => ⟨t_outcome K w T.a_GOES_ON sp_outcome, ?_, pure vs H Q E h⟩)
  exact (pss_cons (ps_set (i := 2) sc_outcome.nd rfl (by first | exact Or.inl rfl | exact Or.inr rfl) (pe_ix ix_tup (pv 0) (pe_int) (fun _ _ => rfl)))
      (pss_cons (ps_if (pt_cmpR op_eq (pv 2) (pe_str) (nomark _)) (pss_cons (ps_set (i := 3) sc_outcome.nd rfl (by first | exact Or.inl rfl | exact Or.inr rfl) (pe_ix ix_tup (pv 0) (pe_int) (fun _ _ => rfl)))
      (pss_one (ps_ret (pe_tup (pa_cons (pe_ix ix_tup (pv 1) (pv 3) (fun _ _ => rfl)) (pa_cons (pe_lst (pa_cons (pv 3) (pa_nil))) (pa_nil))))))) (pss_nil))
      (pss_cons (ps_asg (pe_call G_outcome hr rfl T.m_outcome T.F_outcome.kp T.b_outcome .nil pass0 (pa_cons (pe_ix ix_tup (pv 0) (pe_int) (fun _ _ => rfl)) (pa_cons (pv 1) (pa_nil)))) (pg_tup rfl (pgs_cons (pg_name (i := 4) sc_outcome.nd rfl (by first | exact Or.inl rfl | exact Or.inr rfl)) (pgs_cons (pg_name (i := 5) sc_outcome.nd rfl (by first | exact Or.inl rfl | exact Or.inr rfl)) (pgs_nil)))))
      (pss_cons (ps_if (pt_cmpR op_eq (pv 2) (pe_str) (nomark _)) (pss_one (ps_ret (pe_tup (pa_cons (pe_op op_sub (pe_int) (pv 4)) (pa_cons (pv 5) (pa_nil)))))) (pss_nil))
      (pss_cons (ps_if (pt_cmpR op_ne (pv 4) (pe_ix ix_kdict (pe_glob rfl T.c_GOES_ON rfl) (pv 2) (fun _ _ => rfl)) (nomark _)) (pss_one (ps_ret (pe_tup (pa_cons (pv 4) (pa_cons (pv 5) (pa_nil)))))) (pss_nil))
      (pss_cons (ps_asg (pe_call G_outcome hr rfl T.m_outcome T.F_outcome.kp T.b_outcome .nil pass0 (pa_cons (pe_ix ix_tup (pv 0) (pe_int) (fun _ _ => rfl)) (pa_cons (pv 1) (pa_nil)))) (pg_tup rfl (pgs_cons (pg_name (i := 6) sc_outcome.nd rfl (by first | exact Or.inl rfl | exact Or.inr rfl)) (pgs_cons (pg_name (i := 7) sc_outcome.nd rfl (by first | exact Or.inl rfl | exact Or.inr rfl)) (pgs_nil)))))
      (pss_one (ps_ret (pe_tup (pa_cons (pv 6) (pa_cons (pe_op op_cat (pv 5) (pv 7)) (pa_nil))))))))))))

theorem ok_outcome_of_rows {P : Program} {w : World} {K : PySem.W.Frag} {mg : Str → Option Value} {base : Heap} (T : Tx P K mg w) {k : Nat} { sp : Sp} 
    (len : ∀ vs H Q E, sp vs H Q E → vs.length = 2)
    (pure : ∀ vs H Q E, sp vs H Q E → t_outcome_of_rows K w (Ends.mk (fun _ H' => Q .non H') Q (fun _ _ => False) (fun _ _ => False)) (start ["rows", "worths", "at", "looks", "jumps", "_", "thing", "when", "to"] vs) H) :
    FnOk P w K mg base CX0 (k + 1) T.f_outcome_of_rows T.d_outcome_of_rows ["rows", "worths"] sp := by
  refine T.F_outcome_of_rows.ok sc_outcome_of_rows len (fun cdv A outer s H vs Q E hr h => ⟨t_outcome_of_rows K w, ?_, pure vs H Q E h⟩)
  exact (pss_cons (ps_set (i := 2) sc_outcome_of_rows.nd rfl (by first | exact Or.inl rfl | exact Or.inr rfl) (pe_int))
      (pss_cons (ps_set (i := 3) sc_outcome_of_rows.nd rfl (by first | exact Or.inl rfl | exact Or.inr rfl) (pe_lst (pa_nil)))
      (pss_cons (ps_set (i := 4) sc_outcome_of_rows.nd rfl (by first | exact Or.inl rfl | exact Or.inr rfl) (pe_int))
      (pss_cons (ps_while PassesOwn.never (pt_cmpR op_eq (pe_ix ix_tup (pe_ix ix_list (pv 0) (pv 2) (fun _ _ => rfl)) (pe_int) (fun _ _ => rfl)) (pe_str) (nomark _)) (pss_cons (ps_asg (pe_ix ix_list (pv 0) (pv 2) (fun _ _ => rfl)) (pg_tup rfl (pgs_cons (pg_name (i := 5) sc_outcome_of_rows.nd rfl (by first | exact Or.inl rfl | exact Or.inr rfl)) (pgs_cons (pg_name (i := 6) sc_outcome_of_rows.nd rfl (by first | exact Or.inl rfl | exact Or.inr rfl)) (pgs_cons (pg_name (i := 7) sc_outcome_of_rows.nd rfl (by first | exact Or.inl rfl | exact Or.inr rfl)) (pgs_cons (pg_name (i := 8) sc_outcome_of_rows.nd rfl (by first | exact Or.inl rfl | exact Or.inr rfl)) (pgs_nil)))))))
      (pss_cons (ps_expr (pe_bm PySem.F.plainAttrs_list PySem.F.slot_list_append PySem.F.type_list_append mt_append (pv 3) (pa_cons (pv 6) (pa_nil))))
      (pss_one (ps_if (pt_cmpR op_eq (pe_ix ix_tup (pv 1) (pv 6) (fun _ _ => rfl)) (pv 7) (nomark _)) (pss_cons (ps_set (i := 2) sc_outcome_of_rows.nd rfl (by first | exact Or.inl rfl | exact Or.inr rfl) (pv 8))
      (pss_one (ps_aug (i := 4) sc_outcome_of_rows.nd rfl (by first | exact Or.inl rfl | exact Or.inr rfl) (pe_int) ip_add))) (pss_one (ps_aug (i := 2) sc_outcome_of_rows.nd rfl (by first | exact Or.inl rfl | exact Or.inr rfl) (pe_int) ip_add)))))))
      (pss_one (ps_ret (pe_tup (pa_cons (pe_ix ix_tup (pe_ix ix_list (pv 0) (pv 2) (fun _ _ => rfl)) (pe_int) (fun _ _ => rfl)) (pa_cons (pv 3) (pa_cons (pv 4) (pa_nil)))))))))))

theorem ok_parting {P : Program} {w : World} {K : PySem.W.Frag} {mg : Str → Option Value} {base : Heap} (T : Tx P K mg w) {k : Nat} {sp_check_condition sp_all_bits sp_outcome sp : Sp} (G_check_condition : FnOk P w K mg base CX0 (k) T.f_check_condition T.d_check_condition ["condition"] sp_check_condition) (G_all_bits : FnOk P w K mg base CX0 (k) T.f_all_bits T.d_all_bits ["many"] sp_all_bits) (G_outcome : FnOk P w K mg base CX0 (k) T.f_outcome T.d_outcome ["condition", "worths"] sp_outcome)
    (len : ∀ vs H Q E, sp vs H Q E → vs.length = 2)
    (pure : ∀ vs H Q E, sp vs H Q E → t_parting K w sp_check_condition sp_all_bits sp_outcome (Ends.mk (fun _ H' => Q .non H') Q (fun _ _ => False) (fun _ _ => False)) (start ["one", "other", "worths", "told_of_one", "told_of_other"] vs) H) :
    FnOk P w K mg base CX0 (k + 1) T.f_parting T.d_parting ["one", "other"] sp := by
  refine T.F_parting.ok sc_parting len (fun cdv A outer s H vs Q E hr h => ⟨t_parting K w sp_check_condition sp_all_bits sp_outcome, ?_, pure vs H Q E h⟩)
  exact (pss_cons (ps_expr (pe_call G_check_condition hr rfl T.m_check_condition T.F_check_condition.kp T.b_check_condition .nil pass0 (pa_cons (pv 0) (pa_nil))))
      (pss_cons (ps_expr (pe_call G_check_condition hr rfl T.m_check_condition T.F_check_condition.kp T.b_check_condition .nil pass0 (pa_cons (pv 1) (pa_nil))))
      (pss_cons (ps_for PassesOwn.never rfl (pi_list (pe_call G_all_bits hr rfl T.m_all_bits T.F_all_bits.kp T.b_all_bits .nil pass0 (pa_cons (pe_glob rfl T.c_THINGS ⟨_, rfl⟩) (pa_nil)))) (pg_name (i := 2) sc_parting.nd rfl (by first | exact Or.inl rfl | exact Or.inr rfl)) (pss_cons (ps_set (i := 3) sc_parting.nd rfl (by first | exact Or.inl rfl | exact Or.inr rfl) (pe_call G_outcome hr rfl T.m_outcome T.F_outcome.kp T.b_outcome .nil pass0 (pa_cons (pv 0) (pa_cons (pv 2) (pa_nil)))))
      (pss_cons (ps_set (i := 4) sc_parting.nd rfl (by first | exact Or.inl rfl | exact Or.inr rfl) (pe_call G_outcome hr rfl T.m_outcome T.F_outcome.kp T.b_outcome .nil pass0 (pa_cons (pv 1) (pa_cons (pv 2) (pa_nil)))))
      (pss_one (ps_if (pt_cmpR (op_neD hr.units) (pv 3) (pv 4) (nomark _)) (pss_one (ps_ret (pe_tup (pa_cons (pv 2) (pa_cons (pv 3) (pa_cons (pv 4) (pa_nil))))))) (pss_nil))))))
      (pss_one (ps_ret (pe_non))))))

theorem ok_rows_of {P : Program} {w : World} {K : PySem.W.Frag} {mg : Str → Option Value} {base : Heap} (T : Tx P K mg w) {k : Nat} {sp_look_row sp_rows_of sp_count_looks sp : Sp} (G_look_row : FnOk P w K mg base CX0 (k) T.f_look_row T.d_look_row ["thing", "place", "dues"] sp_look_row) (G_rows_of : FnOk P w K mg base CX0 (k) T.f_rows_of T.d_rows_of ["condition", "start", "dues"] sp_rows_of) (G_count_looks : FnOk P w K mg base CX0 (k) T.f_count_looks T.d_count_looks ["condition", "around"] sp_count_looks)
    (len : ∀ vs H Q E, sp vs H Q E → vs.length = 3)
    (pure : ∀ vs H Q E, sp vs H Q E → t_rows_of K w T.a_GOES_ON sp_look_row sp_rows_of sp_count_looks (Ends.mk (fun _ H' => Q .non H') Q (fun _ _ => False) (fun _ _ => False)) (start ["condition", "start", "dues", "word", "middle", "first_dues"] vs) H) :
    FnOk P w K mg base CX0 (k + 1) T.f_rows_of T.d_rows_of ["condition", "start", "dues"] sp := by
  refine T.F_rows_of.ok sc_rows_of len (fun cdv A outer s H vs Q E hr h => ⟨t_rows_of K w T.a_GOES_ON sp_look_row sp_rows_of sp_count_looks, ?_, pure vs H Q E h⟩)
  exact (pss_cons (ps_set (i := 3) sc_rows_of.nd rfl (by first | exact Or.inl rfl | exact Or.inr rfl) (pe_ix ix_tup (pv 0) (pe_int) (fun _ _ => rfl)))
      (pss_cons (ps_if (pt_cmpR op_eq (pv 3) (pe_str) (nomark _)) (pss_one (ps_ret (pe_lst (pa_cons (pe_call G_look_row hr rfl T.m_look_row T.F_look_row.kp T.b_look_row .nil pass0 (pa_cons (pe_ix ix_tup (pv 0) (pe_int) (fun _ _ => rfl)) (pa_cons (pv 1) (pa_cons (pv 2) (pa_nil))))) (pa_nil))))) (pss_nil))
      (pss_cons (ps_if (pt_cmpR op_eq (pv 3) (pe_str) (nomark _)) (pss_one (ps_ret (pe_call G_rows_of hr rfl T.m_rows_of T.F_rows_of.kp T.b_rows_of .nil pass0 (pa_cons (pe_ix ix_tup (pv 0) (pe_int) (fun _ _ => rfl)) (pa_cons (pv 1) (pa_cons (pe_lst (pa_cons (pe_ix ix_list (pv 2) (pe_int) (fun _ _ => rfl)) (pa_cons (pe_ix ix_list (pv 2) (pe_int) (fun _ _ => rfl)) (pa_nil)))) (pa_nil))))))) (pss_nil))
      (pss_cons (ps_set (i := 4) sc_rows_of.nd rfl (by first | exact Or.inl rfl | exact Or.inr rfl) (pe_op op_add (pv 1) (pe_call G_count_looks hr rfl T.m_count_looks T.F_count_looks.kp T.b_count_looks .nil pass0 (pa_cons (pe_ix ix_tup (pv 0) (pe_int) (fun _ _ => rfl)) (pa_cons (pe_int) (pa_nil))))))
      (pss_cons (ps_set (i := 5) sc_rows_of.nd rfl (by first | exact Or.inl rfl | exact Or.inr rfl) (pe_callTy call_rListOf (by rfl) T.n_list (by decide +kernel) (pa_cons (pv 2) (pa_nil))))
      (pss_cons (ps_asg (pv 4) (pg_sub (pv 5) (pe_ix ix_kdict (pe_glob rfl T.c_GOES_ON rfl) (pv 3) (fun _ _ => rfl)) set_list))
      (pss_one (ps_ret (pe_op op_cat (pe_call G_rows_of hr rfl T.m_rows_of T.F_rows_of.kp T.b_rows_of .nil pass0 (pa_cons (pe_ix ix_tup (pv 0) (pe_int) (fun _ _ => rfl)) (pa_cons (pv 1) (pa_cons (pv 5) (pa_nil))))) (pe_call G_rows_of hr rfl T.m_rows_of T.F_rows_of.kp T.b_rows_of .nil pass0 (pa_cons (pe_ix ix_tup (pv 0) (pe_int) (fun _ _ => rfl)) (pa_cons (pv 4) (pa_cons (pv 2) (pa_nil))))))))))))))

theorem ok_run {P : Program} {w : World} {K : PySem.W.Frag} {mg : Str → Option Value} {base : Heap} (T : Tx P K mg w) {k : Nat} {sp_check_code sp_check_worths sp_outcome_of_rows sp : Sp} (G_check_code : FnOk P w K mg base CX0 (k) T.f_check_code T.d_check_code ["rows"] sp_check_code) (G_check_worths : FnOk P w K mg base CX0 (k) T.f_check_worths T.d_check_worths ["worths"] sp_check_worths) (G_outcome_of_rows : FnOk P w K mg base CX0 (k) T.f_outcome_of_rows T.d_outcome_of_rows ["rows", "worths"] sp_outcome_of_rows)
    (len : ∀ vs H Q E, sp vs H Q E → vs.length = 2)
    (pure : ∀ vs H Q E, sp vs H Q E → t_run K w sp_check_code sp_check_worths sp_outcome_of_rows (Ends.mk (fun _ H' => Q .non H') Q (fun _ _ => False) (fun _ _ => False)) (start ["rows", "worths"] vs) H) :
    FnOk P w K mg base CX0 (k + 1) T.f_run T.d_run ["rows", "worths"] sp := by
  refine T.F_run.ok sc_run len (fun cdv A outer s H vs Q E hr h => ⟨t_run K w sp_check_code sp_check_worths sp_outcome_of_rows, ?_, pure vs H Q E h⟩)
  exact (pss_cons (ps_expr (pe_call G_check_code hr rfl T.m_check_code T.F_check_code.kp T.b_check_code .nil pass0 (pa_cons (pv 0) (pa_nil))))
      (pss_cons (ps_expr (pe_call G_check_worths hr rfl T.m_check_worths T.F_check_worths.kp T.b_check_worths .nil pass0 (pa_cons (pv 1) (pa_nil))))
      (pss_one (ps_ret (pe_call G_outcome_of_rows hr rfl T.m_outcome_of_rows T.F_outcome_of_rows.kp T.b_outcome_of_rows .nil pass0 (pa_cons (pv 0) (pa_cons (pv 1) (pa_nil))))))))

theorem ok_times_of {P : Program} {w : World} {K : PySem.W.Frag} {mg : Str → Option Value} {base : Heap} (T : Tx P K mg w) {k : Nat} { sp : Sp} 
    (len : ∀ vs H Q E, sp vs H Q E → vs.length = 2)
    (pure : ∀ vs H Q E, sp vs H Q E → t_times_of K w (Ends.mk (fun _ H' => Q .non H') Q (fun _ _ => False) (fun _ _ => False)) (start ["worths", "chances", "times", "worth", "chance"] vs) H) :
    FnOk P w K mg base CX0 (k + 1) T.f_times_of T.d_times_of ["worths", "chances"] sp := by
  refine T.F_times_of.ok sc_times_of len (fun cdv A outer s H vs Q E hr h => ⟨t_times_of K w, ?_, pure vs H Q E h⟩)
  exact (pss_cons (ps_set (i := 2) sc_times_of.nd rfl (by first | exact Or.inl rfl | exact Or.inr rfl) (pe_int))
      (pss_cons (ps_for PassesOwn.never rfl (RZ.pi_zipA (by rfl) T.n_zip (pa_cons (pv 0) (pa_cons (pv 1) (pa_nil)))) (pg_tup rfl (pgs_cons (pg_name (i := 3) sc_times_of.nd rfl (by first | exact Or.inl rfl | exact Or.inr rfl)) (pgs_cons (pg_name (i := 4) sc_times_of.nd rfl (by first | exact Or.inl rfl | exact Or.inr rfl)) (pgs_nil)))) (pss_one (ps_aug (i := 2) sc_times_of.nd rfl (by first | exact Or.inl rfl | exact Or.inr rfl) (pe_ifExp (pt_cmpR op_eq (pv 3) (pe_int) (nomark _)) (pv 4) (pe_op op_sub (pe_glob rfl T.c_HUNDRED ⟨_, rfl⟩) (pv 4))) iop_mul)))
      (pss_one (ps_ret (pv 2)))))

/-! the defs keep their promises -/
theorem fn_no {P : Program} {w : World} {K : PySem.W.Frag} {mg : Str → Option Value} {base : Heap} {CX : CXT} {f : Addr} {fd : FuncData} {ps : List Str} {sp : Sp} {k : Nat} (no : ∀ vs H Q E, ¬ sp vs H Q E) : FnOk P w K mg base CX k f fd ps sp :=
  ⟨fun vs H Q E h => absurd h (no vs H Q E), fun A outer s H args us vs Q E _ _ _ _ h => absurd h (no vs H Q E)⟩
theorem fn_or {P : Program} {w : World} {K : PySem.W.Frag} {mg : Str → Option Value} {base : Heap} {f : Addr} {fd : FuncData} {ps : List Str} {sp sa sb : Sp} {k : Nat} (h : ∀ vs H Q E, sp vs H Q E → sa vs H Q E ∨ sb vs H Q E) (ha : FnOk P w K mg base CX0 k f fd ps sa) (hb : FnOk P w K mg base CX0 k f fd ps sb) : FnOk P w K mg base CX0 k f fd ps sp :=
  ⟨fun vs H Q E z => (h vs H Q E z).elim (ha.len vs H Q E) (hb.len vs H Q E), fun A outer s H args us vs Q E r e b v z => (h vs H Q E z).elim (ha.run A outer s H args us vs Q E r e b v) (hb.run A outer s H args us vs Q E r e b v)⟩
section
variable {P : Program} {w : World} {K : PySem.W.Frag} {mg : Str → Option Value} {base : Heap}
theorem fn_begun (T : Tx P K mg w) : FnOk P w K mg base CX0 1 T.f_law_begun T.d_law_begun ["_law_script"] (spBegun K) := ok_law_begun T (k := 0)  (by tm_at "lnz") pure_begun
theorem fn_take (T : Tx P K mg w) : FnOk P w K mg base CX0 1 T.f_law_take T.d_law_take ["_law_box", "_law_many"] (spTake) := ok_law_take T (k := 0)  (by tm_at "lnz") pure_take
theorem no_pb {x : Nat} {vs : List V} {H : Hp} {Q : VK} {E : XK} : ¬ spPB x 0 vs H Q E := fun ⟨_, _, _, _, _, _, _, _, _, h1, h2, _⟩ => by omega
theorem fn_pb (T : Tx P K mg w) : ∀ n : Nat, FnOk P w K mg base CX0 (2 * n + 1) T.f_law_bare T.d_law_bare ["_law_box", "_law_many", "_law_things"] (spPB 2 n) ∧ FnOk P w K mg base CX0 (2 * n + 2) T.f_law_part T.d_law_part ["_law_box", "_law_many", "_law_things"] (spPB 1 n)
  | 0 => ⟨fn_no fun _ _ _ _ => no_pb, fn_no fun _ _ _ _ => no_pb⟩
  | n + 1 => by
    have ih := fn_pb T n
    have hb : FnOk P w K mg base CX0 (2 * n + 2 + 1) T.f_law_bare T.d_law_bare ["_law_box", "_law_many", "_law_things"] (spPB 2 (n + 1)) := ok_law_bare T ((fn_take T).mono (by omega)) ih.2 (by tm_at "lnz") pure_bare
    exact ⟨hb, ok_law_part T ((fn_take T).mono (by omega)) hb (by tm_at "lnz") pure_part⟩
theorem fn_deep (T : Tx P K mg w) : ∀ n : Nat, FnOk P w K mg base CX0 (n) T.f_law_deep T.d_law_deep ["_law_part_here"] (spDeep n)
  | 0 => fn_no (by intro vs H Q E h; simp only [spDeep, Nat.not_lt_zero, false_and, and_false, exists_false, exists_const] at h)
  | n + 1 => ok_law_deep T (fn_deep T n) (by tm_at "lnz") pure_deep
theorem fn_cond (T : Tx P K mg w) : FnOk P w K mg base CX0 70 T.f_law_condition T.d_law_condition ["_law_box", "_law_most"] (spCond) := ok_law_condition T (k := 69) ((fn_take T).mono (by omega)) ((fn_pb T 20).2.mono (by omega)) ((fn_deep T 60).mono (by omega)) (by tm_at "lnz") pure_condition
theorem fn_dual (T : Tx P K mg w) : ∀ n : Nat, FnOk P w K mg base CX0 (n) T.f_law_dual T.d_law_dual ["_law_part_here"] (spDual n)
  | 0 => fn_no (by intro vs H Q E h; simp only [spDual, Nat.not_lt_zero, false_and, and_false, exists_false, exists_const] at h)
  | n + 1 => ok_law_dual T (fn_dual T n) (by tm_at "lnz") pure_dual
theorem fn_num (T : Tx P K mg w) : FnOk P w K mg base CX0 1 T.f_is_number_up_to T.d_is_number_up_to ["value", "most"] (spNum) := ok_is_number_up_to T (k := 0)  (by tm_at "lnz") pure_num
theorem fn_form (T : Tx P K mg w) : FnOk P w K mg base CX0 2 T.f_has_form T.d_has_form ["condition"] (spForm) := ok_has_form T (k := 1) ((fn_num T).mono (by omega)) (by tm_at "lnz") pure_form
theorem fn_count (T : Tx P K mg w) : ∀ n : Nat, FnOk P w K mg base CX0 (n + 3) T.f_count_looks T.d_count_looks ["condition", "around"] (spCount n)
  | 0 => fn_no (by intro vs H Q E h; simp only [spCount, Nat.not_lt_zero, false_and, and_false, exists_false, exists_const] at h)
  | n + 1 => ok_count_looks T ((fn_form T).mono (by omega)) (fn_count T n) (by tm_at "lnz") pure_count
theorem fn_check (T : Tx P K mg w) : FnOk P w K mg base CX0 16 T.f_check_condition T.d_check_condition ["condition"] (spCheck) := ok_check_condition T (k := 15) ((fn_count T 11).mono (by omega)) (by tm_at "lnz") pure_check
theorem fn_bitsall (T : Tx P K mg w) : FnOk P w K mg base CX0 1 T.f_all_bits T.d_all_bits ["many"] (spAllBits) := ok_all_bits T (k := 0)  (by tm_at "lnz") pure_allbits
theorem fn_out (T : Tx P K mg w) : ∀ n : Nat, FnOk P w K mg base CX0 (n) T.f_outcome T.d_outcome ["condition", "worths"] (spOut n)
  | 0 => fn_no (by intro vs H Q E h; simp only [spOut, Nat.not_lt_zero, false_and, and_false, exists_false, exists_const] at h)
  | n + 1 => ok_outcome T (fn_out T n) (by tm_at "lnz") (pure_outcome T.k_GOES_ON_0 T.k_GOES_ON_1)
theorem fn_parting (T : Tx P K mg w) : FnOk P w K mg base CX0 30 T.f_parting T.d_parting ["one", "other"] (spParting) := ok_parting T (k := 29) ((fn_check T).mono (by omega)) ((fn_bitsall T).mono (by omega)) ((fn_out T 11).mono (by omega)) (by tm_at "lnz") pure_parting
theorem fn_palike (T : Tx P K mg w) : FnOk P w K mg base CX0 31 T.f_alike T.d_alike ["one", "other"] (spAlikeP) := ok_alike T (k := 30) ((fn_parting T).mono (by omega)) (by tm_at "lnz") pure_palike
theorem fn_like (T : Tx P K mg w) : FnOk P w K mg base CX0 31 T.f_like_worth T.d_like_worth ["one", "other"] (spLike) := ok_like_worth T (k := 30) ((fn_check T).mono (by omega)) ((fn_bitsall T).mono (by omega)) ((fn_out T 11).mono (by omega)) (by tm_at "lnz") pure_like
theorem fn_named (T : Tx P K mg w) : ∀ n : Nat, FnOk P w K mg base CX0 (n) T.f_law_named T.d_law_named ["_law_part_here", "_law_names"] (spNamed K n)
  | 0 => fn_no (by intro vs H Q E h; simp only [spNamed, Nat.not_lt_zero, false_and, and_false, exists_false, exists_const] at h)
  | n + 1 => ok_law_named T (fn_named T n) (by tm_at "lnz") pure_named
theorem fn_numsT (T : Tx P K mg w) : FnOk P w K mg base CX0 2 T.f_are_numbers_up_to T.d_are_numbers_up_to ["values", "many", "most"] (spNumsT K) := ok_are_numbers_up_to_T T (k := 1) ((fn_num T).mono (by omega)) (by tm_at "lnz") pure_nums_T
theorem fn_chances (T : Tx P K mg w) : FnOk P w K mg base CX0 3 T.f_check_chances T.d_check_chances ["chances"] (spChances) := ok_check_chances T (k := 2) ((fn_numsT T).mono (by omega)) (by tm_at "lnz") pure_chances
theorem fn_times (T : Tx P K mg w) : FnOk P w K mg base CX0 1 T.f_times_of T.d_times_of ["worths", "chances"] (spTimesOf) := ok_times_of T (k := 0)  (by tm_at "lnz") pure_timesof
theorem fn_likely (T : Tx P K mg w) : FnOk P w K mg base CX0 3 T.f_likely_worths T.d_likely_worths ["chances"] (spLikely) := ok_likely_worths T (k := 2) ((fn_bitsall T).mono (by omega)) ((fn_times T).mono (by omega)) (by tm_at "lnz") pure_likely
theorem fn_looksall (T : Tx P K mg w) : FnOk P w K mg base CX0 13 T.f_looks_in_all T.d_looks_in_all ["condition", "likely"] (spLooksAll K) := ok_looks_in_all T (k := 12) ((fn_out T 11).mono (by omega)) (by tm_at "lnz") pure_looksall
theorem fn_looks (T : Tx P K mg w) : FnOk P w K mg base CX0 43 T.f_looks T.d_looks ["condition", "chances"] (spLooksP) := ok_looks T (k := 42) ((fn_check T).mono (by omega)) ((fn_chances T).mono (by omega)) ((fn_likely T).mono (by omega)) ((fn_looksall T).mono (by omega)) (by tm_at "lnz") pure_looksp
theorem fn_first (T : Tx P K mg w) : FnOk P w K mg base CX0 2 T.f_check_first T.d_check_first ["first"] (spFirst) := ok_check_first T (k := 1) ((fn_num T).mono (by omega)) (by tm_at "lnz") pure_first
theorem fn_lookrow (T : Tx P K mg w) : FnOk P w K mg base CX0 1 T.f_look_row T.d_look_row ["thing", "place", "dues"] (spLookRow) := ok_look_row T (k := 0)  (by tm_at "lnz") pure_lookrow
theorem fn_rowsof (T : Tx P K mg w) : ∀ n : Nat, FnOk P w K mg base CX0 (n + 20) T.f_rows_of T.d_rows_of ["condition", "start", "dues"] (spRowsOf n)
  | 0 => fn_no (by intro vs H Q E h; simp only [spRowsOf, Nat.not_lt_zero, false_and, and_false, exists_false, exists_const] at h)
  | n + 1 => ok_rows_of T ((fn_lookrow T).mono (by omega)) (fn_rowsof T n) ((fn_count T 11).mono (by omega)) (by tm_at "lnz") (pure_rowsof T.k_GOES_ON_0 T.k_GOES_ON_1)
theorem fn_codeof (T : Tx P K mg w) : FnOk P w K mg base CX0 40 T.f_code_of T.d_code_of ["condition", "first"] (spCodeOf) := ok_code_of T (k := 39) ((fn_count T 11).mono (by omega)) ((fn_rowsof T 11).mono (by omega)) (by tm_at "lnz") pure_codeof
theorem fn_coded (T : Tx P K mg w) : FnOk P w K mg base CX0 41 T.f_coded T.d_coded ["condition", "first"] (spCoded) := ok_coded T (k := 40) ((fn_check T).mono (by omega)) ((fn_first T).mono (by omega)) ((fn_codeof T).mono (by omega)) (by tm_at "lnz") pure_coded
theorem fn_orows (T : Tx P K mg w) : FnOk P w K mg base CX0 1 T.f_outcome_of_rows T.d_outcome_of_rows ["rows", "worths"] (spRun K) := ok_outcome_of_rows T (k := 0)  (by tm_at "lnz") pure_orows
theorem fn_jumpsall (T : Tx P K mg w) : FnOk P w K mg base CX0 42 T.f_jumps_in_all T.d_jumps_in_all ["condition", "first", "likely"] (spJumpsAll K) := ok_jumps_in_all T (k := 41) ((fn_codeof T).mono (by omega)) ((fn_orows T).mono (by omega)) (by tm_at "lnz") pure_jumpsall
theorem fn_jumps (T : Tx P K mg w) : FnOk P w K mg base CX0 44 T.f_jumps T.d_jumps ["condition", "first", "chances"] (spJumpsP) := ok_jumps T (k := 43) ((fn_check T).mono (by omega)) ((fn_first T).mono (by omega)) ((fn_chances T).mono (by omega)) ((fn_likely T).mono (by omega)) ((fn_jumpsall T).mono (by omega)) (by tm_at "lnz") pure_jumpsp
theorem fn_wts (T : Tx P K mg w) : FnOk P w K mg base CX0 1 T.f_law_worths T.d_law_worths ["_law_number"] (spWts) := ok_law_worths T (k := 0)  (by tm_at "lnz") pure_wts
theorem fn_islook (T : Tx P K mg w) : FnOk P w K mg base CX0 2 T.f_is_look T.d_is_look ["row", "place", "last"] (spIsLook) := ok_is_look T (k := 1) ((fn_num T).mono (by omega)) (by tm_at "lnz") pure_islook
theorem fn_isend (T : Tx P K mg w) : FnOk P w K mg base CX0 2 T.f_is_end T.d_is_end ["row"] (spIsEnd) := ok_is_end T (k := 1) ((fn_num T).mono (by omega)) (by tm_at "lnz") pure_isend
theorem fn_canbe (T : Tx P K mg w) : FnOk P w K mg base CX0 4 T.f_can_be T.d_can_be ["rows", "place"] (spCanBe K) := ok_can_be T (k := 3) ((fn_islook T).mono (by omega)) ((fn_isend T).mono (by omega)) (by tm_at "lnz") pure_canbe
theorem fn_ccode (T : Tx P K mg w) : FnOk P w K mg base CX0 5 T.f_check_code T.d_check_code ["rows"] (spCheckCode K) := ok_check_code T (k := 4) ((fn_canbe T).mono (by omega)) (by tm_at "lnz") pure_ccode
theorem fn_bitsT (T : Tx P K mg w) : FnOk P w K mg base CX0 3 T.f_are_bits T.d_are_bits ["values", "many"] (spBitsT K) := ok_are_bits T (fn_numsT T) (by tm_at "lnz") pure_bits_T
theorem fn_worths (T : Tx P K mg w) : FnOk P w K mg base CX0 4 T.f_check_worths T.d_check_worths ["worths"] (spWorths) := ok_check_worths T (k := 3) ((fn_bitsT T).mono (by omega)) (by tm_at "lnz") pure_worths
theorem fn_run (T : Tx P K mg w) : FnOk P w K mg base CX0 12 T.f_run T.d_run ["rows", "worths"] (spRunP K) := ok_run T (k := 11) ((fn_ccode T).mono (by omega)) ((fn_worths T).mono (by omega)) ((fn_orows T).mono (by omega)) (by tm_at "lnz") pure_runp
theorem fn_meant (T : Tx P K mg w) : FnOk P w K mg base CX0 17 T.f_meant T.d_meant ["condition", "worths"] (spMeant) := ok_meant T (k := 16) ((fn_check T).mono (by omega)) ((fn_worths T).mono (by omega)) ((fn_out T 11).mono (by omega)) (by tm_at "lnz") pure_meant
theorem main (T : Tx P K mg w) : FnOk P w K mg base CX0 200 T.f_law T.d_law ["_law_script"] (spLaw K) :=
  ok_law T (k := 199) ((fn_begun T).mono (by omega)) ((fn_cond T).mono (by omega)) ((fn_deep T 60).mono (by omega)) ((fn_dual T 30).mono (by omega)) ((fn_palike T).mono (by omega)) ((fn_like T).mono (by omega)) ((fn_take T).mono (by omega)) ((fn_named T 30).mono (by omega)) ((fn_looks T).mono (by omega)) ((fn_coded T).mono (by omega)) ((fn_jumps T).mono (by omega)) ((fn_wts T).mono (by omega)) ((fn_run T).mono (by omega)) ((fn_meant T).mono (by omega)) (by tm_at "lnz") pure_main
end

theorem all_mk {l : PySem.W.OpenLaw} {w : World} {K : PySem.W.Frag} {h : Heap} {mg : Str → Option Value} {fa : Addr} (X : K.In h) (G : h.Ns mainGlobals mg) (hfa : mg "law" = some (.ref fa))
    {f0 : Addr} {od0 an0 : Option Addr} {sl0 : Array (Option Value)} {oc0 kV0 dc0 pm0 cd0 ct0 : Value}
    {f1 : Addr} {od1 an1 : Option Addr} {sl1 : Array (Option Value)} {oc1 kV1 dc1 pm1 cd1 ct1 : Value}
    {f2 : Addr} {od2 an2 : Option Addr} {sl2 : Array (Option Value)} {oc2 kV2 dc2 pm2 cd2 ct2 : Value}
    {f3 : Addr} {od3 an3 : Option Addr} {sl3 : Array (Option Value)} {oc3 kV3 dc3 pm3 cd3 ct3 : Value}
    {f4 : Addr} {od4 an4 : Option Addr} {sl4 : Array (Option Value)} {oc4 kV4 dc4 pm4 cd4 ct4 : Value}
    {f5 : Addr} {od5 an5 : Option Addr} {sl5 : Array (Option Value)} {oc5 kV5 dc5 pm5 cd5 ct5 : Value}
    {f6 : Addr} {od6 an6 : Option Addr} {sl6 : Array (Option Value)} {oc6 kV6 dc6 pm6 cd6 ct6 : Value}
    {f7 : Addr} {od7 an7 : Option Addr} {sl7 : Array (Option Value)} {oc7 kV7 dc7 pm7 cd7 ct7 : Value}
    {f8 : Addr} {od8 an8 : Option Addr} {sl8 : Array (Option Value)} {oc8 kV8 dc8 pm8 cd8 ct8 : Value}
    {f9 : Addr} {od9 an9 : Option Addr} {sl9 : Array (Option Value)} {oc9 kV9 dc9 pm9 cd9 ct9 : Value}
    {f10 : Addr} {od10 an10 : Option Addr} {sl10 : Array (Option Value)} {oc10 kV10 dc10 pm10 cd10 ct10 : Value}
    {f11 : Addr} {od11 an11 : Option Addr} {sl11 : Array (Option Value)} {oc11 kV11 dc11 pm11 cd11 ct11 : Value}
    {f12 : Addr} {od12 an12 : Option Addr} {sl12 : Array (Option Value)} {oc12 kV12 dc12 pm12 cd12 ct12 : Value}
    {f13 : Addr} {od13 an13 : Option Addr} {sl13 : Array (Option Value)} {oc13 kV13 dc13 pm13 cd13 ct13 : Value}
    {f14 : Addr} {od14 an14 : Option Addr} {sl14 : Array (Option Value)} {oc14 kV14 dc14 pm14 cd14 ct14 : Value}
    {f15 : Addr} {od15 an15 : Option Addr} {sl15 : Array (Option Value)} {oc15 kV15 dc15 pm15 cd15 ct15 : Value}
    {f16 : Addr} {od16 an16 : Option Addr} {sl16 : Array (Option Value)} {oc16 kV16 dc16 pm16 cd16 ct16 : Value}
    {f17 : Addr} {od17 an17 : Option Addr} {sl17 : Array (Option Value)} {oc17 kV17 dc17 pm17 cd17 ct17 : Value}
    {f18 : Addr} {od18 an18 : Option Addr} {sl18 : Array (Option Value)} {oc18 kV18 dc18 pm18 cd18 ct18 : Value}
    {f19 : Addr} {od19 an19 : Option Addr} {sl19 : Array (Option Value)} {oc19 kV19 dc19 pm19 cd19 ct19 : Value}
    {f20 : Addr} {od20 an20 : Option Addr} {sl20 : Array (Option Value)} {oc20 kV20 dc20 pm20 cd20 ct20 : Value}
    {f21 : Addr} {od21 an21 : Option Addr} {sl21 : Array (Option Value)} {oc21 kV21 dc21 pm21 cd21 ct21 : Value}
    {f22 : Addr} {od22 an22 : Option Addr} {sl22 : Array (Option Value)} {oc22 kV22 dc22 pm22 cd22 ct22 : Value}
    {f23 : Addr} {od23 an23 : Option Addr} {sl23 : Array (Option Value)} {oc23 kV23 dc23 pm23 cd23 ct23 : Value}
    {f24 : Addr} {od24 an24 : Option Addr} {sl24 : Array (Option Value)} {oc24 kV24 dc24 pm24 cd24 ct24 : Value}
    {f25 : Addr} {od25 an25 : Option Addr} {sl25 : Array (Option Value)} {oc25 kV25 dc25 pm25 cd25 ct25 : Value}
    {f26 : Addr} {od26 an26 : Option Addr} {sl26 : Array (Option Value)} {oc26 kV26 dc26 pm26 cd26 ct26 : Value}
    {f27 : Addr} {od27 an27 : Option Addr} {sl27 : Array (Option Value)} {oc27 kV27 dc27 pm27 cd27 ct27 : Value}
    {f28 : Addr} {od28 an28 : Option Addr} {sl28 : Array (Option Value)} {oc28 kV28 dc28 pm28 cd28 ct28 : Value}
    {f29 : Addr} {od29 an29 : Option Addr} {sl29 : Array (Option Value)} {oc29 kV29 dc29 pm29 cd29 ct29 : Value}
    {f30 : Addr} {od30 an30 : Option Addr} {sl30 : Array (Option Value)} {oc30 kV30 dc30 pm30 cd30 ct30 : Value}
    {f31 : Addr} {od31 an31 : Option Addr} {sl31 : Array (Option Value)} {oc31 kV31 dc31 pm31 cd31 ct31 : Value}
    {f32 : Addr} {od32 an32 : Option Addr} {sl32 : Array (Option Value)} {oc32 kV32 dc32 pm32 cd32 ct32 : Value}
    {f33 : Addr} {od33 an33 : Option Addr} {sl33 : Array (Option Value)} {oc33 kV33 dc33 pm33 cd33 ct33 : Value}
    {f34 : Addr} {od34 an34 : Option Addr} {sl34 : Array (Option Value)} {oc34 kV34 dc34 pm34 cd34 ct34 : Value}
    {f35 : Addr} {od35 an35 : Option Addr} {sl35 : Array (Option Value)} {oc35 kV35 dc35 pm35 cd35 ct35 : Value}
    {f36 : Addr} {od36 an36 : Option Addr} {sl36 : Array (Option Value)} {oc36 kV36 dc36 pm36 cd36 ct36 : Value}
    {f37 : Addr} {od37 an37 : Option Addr} {sl37 : Array (Option Value)} {oc37 kV37 dc37 pm37 cd37 ct37 : Value}
    {f38 : Addr} {od38 an38 : Option Addr} {sl38 : Array (Option Value)} {oc38 kV38 dc38 pm38 cd38 ct38 : Value}
    {f39 : Addr} {od39 an39 : Option Addr} {sl39 : Array (Option Value)} {oc39 kV39 dc39 pm39 cd39 ct39 : Value}
    {f40 : Addr} {od40 an40 : Option Addr} {sl40 : Array (Option Value)} {oc40 kV40 dc40 pm40 cd40 ct40 : Value}
    {u_MOST_LOOKS : Tok}
    {u_MOST_AROUND : Tok}
    {u_THINGS : Tok}
    {a_GOES_ON : Addr}
    {es_GOES_ON : Array DictEntry} {en_GOES_ON : Nat}
    {t_GOES_ON_0 : Tok}
    {t_GOES_ON_1 : Tok}
    {u_MOST_ROWS : Tok}
    {u_HUNDRED : Tok}
    (a0 : PySem.W.nsIn K mainGlobals "check_condition" = some (some (.ref f0)))
    (l0 : K.lookup f0 = some ⟨oc0, od0, .func (PySem.W.fnOf "check_condition" "check_condition" (defArgs s_check_condition) (defBody s_check_condition) (defScope s_check_condition) .none kV0 dc0 pm0 an0 cd0 ct0), sl0⟩)
    (c0 : PySem.W.codeIn K cd0 "check_condition" = true)
    (k0 : PySem.W.keepIn K (.ref f0) = true)
    (a1 : PySem.W.nsIn K mainGlobals "count_looks" = some (some (.ref f1)))
    (l1 : K.lookup f1 = some ⟨oc1, od1, .func (PySem.W.fnOf "count_looks" "count_looks" (defArgs s_count_looks) (defBody s_count_looks) (defScope s_count_looks) .none kV1 dc1 pm1 an1 cd1 ct1), sl1⟩)
    (c1 : PySem.W.codeIn K cd1 "count_looks" = true)
    (k1 : PySem.W.keepIn K (.ref f1) = true)
    (a2 : PySem.W.nsIn K mainGlobals "has_form" = some (some (.ref f2)))
    (l2 : K.lookup f2 = some ⟨oc2, od2, .func (PySem.W.fnOf "has_form" "has_form" (defArgs s_has_form) (defBody s_has_form) (defScope s_has_form) .none kV2 dc2 pm2 an2 cd2 ct2), sl2⟩)
    (c2 : PySem.W.codeIn K cd2 "has_form" = true)
    (k2 : PySem.W.keepIn K (.ref f2) = true)
    (a3 : PySem.W.nsIn K mainGlobals "is_number_up_to" = some (some (.ref f3)))
    (l3 : K.lookup f3 = some ⟨oc3, od3, .func (PySem.W.fnOf "is_number_up_to" "is_number_up_to" (defArgs s_is_number_up_to) (defBody s_is_number_up_to) (defScope s_is_number_up_to) .none kV3 dc3 pm3 an3 cd3 ct3), sl3⟩)
    (c3 : PySem.W.codeIn K cd3 "is_number_up_to" = true)
    (k3 : PySem.W.keepIn K (.ref f3) = true)
    (a4 : PySem.W.nsIn K mainGlobals "are_numbers_up_to" = some (some (.ref f4)))
    (l4 : K.lookup f4 = some ⟨oc4, od4, .func (PySem.W.fnOf "are_numbers_up_to" "are_numbers_up_to" (defArgs s_are_numbers_up_to) (defBody s_are_numbers_up_to) (defScope s_are_numbers_up_to) .none kV4 dc4 pm4 an4 cd4 ct4), sl4⟩)
    (c4 : PySem.W.codeIn K cd4 "are_numbers_up_to" = true)
    (k4 : PySem.W.keepIn K (.ref f4) = true)
    (a5 : PySem.W.nsIn K mainGlobals "are_bits" = some (some (.ref f5)))
    (l5 : K.lookup f5 = some ⟨oc5, od5, .func (PySem.W.fnOf "are_bits" "are_bits" (defArgs s_are_bits) (defBody s_are_bits) (defScope s_are_bits) .none kV5 dc5 pm5 an5 cd5 ct5), sl5⟩)
    (c5 : PySem.W.codeIn K cd5 "are_bits" = true)
    (k5 : PySem.W.keepIn K (.ref f5) = true)
    (a6 : PySem.W.nsIn K mainGlobals "all_bits" = some (some (.ref f6)))
    (l6 : K.lookup f6 = some ⟨oc6, od6, .func (PySem.W.fnOf "all_bits" "all_bits" (defArgs s_all_bits) (defBody s_all_bits) (defScope s_all_bits) .none kV6 dc6 pm6 an6 cd6 ct6), sl6⟩)
    (c6 : PySem.W.codeIn K cd6 "all_bits" = true)
    (k6 : PySem.W.keepIn K (.ref f6) = true)
    (a7 : PySem.W.nsIn K mainGlobals "meant" = some (some (.ref f7)))
    (l7 : K.lookup f7 = some ⟨oc7, od7, .func (PySem.W.fnOf "meant" "meant" (defArgs s_meant) (defBody s_meant) (defScope s_meant) .none kV7 dc7 pm7 an7 cd7 ct7), sl7⟩)
    (c7 : PySem.W.codeIn K cd7 "meant" = true)
    (k7 : PySem.W.keepIn K (.ref f7) = true)
    (a8 : PySem.W.nsIn K mainGlobals "check_worths" = some (some (.ref f8)))
    (l8 : K.lookup f8 = some ⟨oc8, od8, .func (PySem.W.fnOf "check_worths" "check_worths" (defArgs s_check_worths) (defBody s_check_worths) (defScope s_check_worths) .none kV8 dc8 pm8 an8 cd8 ct8), sl8⟩)
    (c8 : PySem.W.codeIn K cd8 "check_worths" = true)
    (k8 : PySem.W.keepIn K (.ref f8) = true)
    (a9 : PySem.W.nsIn K mainGlobals "outcome" = some (some (.ref f9)))
    (l9 : K.lookup f9 = some ⟨oc9, od9, .func (PySem.W.fnOf "outcome" "outcome" (defArgs s_outcome) (defBody s_outcome) (defScope s_outcome) .none kV9 dc9 pm9 an9 cd9 ct9), sl9⟩)
    (c9 : PySem.W.codeIn K cd9 "outcome" = true)
    (k9 : PySem.W.keepIn K (.ref f9) = true)
    (a10 : PySem.W.nsIn K mainGlobals "coded" = some (some (.ref f10)))
    (l10 : K.lookup f10 = some ⟨oc10, od10, .func (PySem.W.fnOf "coded" "coded" (defArgs s_coded) (defBody s_coded) (defScope s_coded) .none kV10 dc10 pm10 an10 cd10 ct10), sl10⟩)
    (c10 : PySem.W.codeIn K cd10 "coded" = true)
    (k10 : PySem.W.keepIn K (.ref f10) = true)
    (a11 : PySem.W.nsIn K mainGlobals "run" = some (some (.ref f11)))
    (l11 : K.lookup f11 = some ⟨oc11, od11, .func (PySem.W.fnOf "run" "run" (defArgs s_run) (defBody s_run) (defScope s_run) .none kV11 dc11 pm11 an11 cd11 ct11), sl11⟩)
    (c11 : PySem.W.codeIn K cd11 "run" = true)
    (k11 : PySem.W.keepIn K (.ref f11) = true)
    (a12 : PySem.W.nsIn K mainGlobals "check_first" = some (some (.ref f12)))
    (l12 : K.lookup f12 = some ⟨oc12, od12, .func (PySem.W.fnOf "check_first" "check_first" (defArgs s_check_first) (defBody s_check_first) (defScope s_check_first) .none kV12 dc12 pm12 an12 cd12 ct12), sl12⟩)
    (c12 : PySem.W.codeIn K cd12 "check_first" = true)
    (k12 : PySem.W.keepIn K (.ref f12) = true)
    (a13 : PySem.W.nsIn K mainGlobals "code_of" = some (some (.ref f13)))
    (l13 : K.lookup f13 = some ⟨oc13, od13, .func (PySem.W.fnOf "code_of" "code_of" (defArgs s_code_of) (defBody s_code_of) (defScope s_code_of) .none kV13 dc13 pm13 an13 cd13 ct13), sl13⟩)
    (c13 : PySem.W.codeIn K cd13 "code_of" = true)
    (k13 : PySem.W.keepIn K (.ref f13) = true)
    (a14 : PySem.W.nsIn K mainGlobals "rows_of" = some (some (.ref f14)))
    (l14 : K.lookup f14 = some ⟨oc14, od14, .func (PySem.W.fnOf "rows_of" "rows_of" (defArgs s_rows_of) (defBody s_rows_of) (defScope s_rows_of) .none kV14 dc14 pm14 an14 cd14 ct14), sl14⟩)
    (c14 : PySem.W.codeIn K cd14 "rows_of" = true)
    (k14 : PySem.W.keepIn K (.ref f14) = true)
    (a15 : PySem.W.nsIn K mainGlobals "look_row" = some (some (.ref f15)))
    (l15 : K.lookup f15 = some ⟨oc15, od15, .func (PySem.W.fnOf "look_row" "look_row" (defArgs s_look_row) (defBody s_look_row) (defScope s_look_row) .none kV15 dc15 pm15 an15 cd15 ct15), sl15⟩)
    (c15 : PySem.W.codeIn K cd15 "look_row" = true)
    (k15 : PySem.W.keepIn K (.ref f15) = true)
    (a16 : PySem.W.nsIn K mainGlobals "check_code" = some (some (.ref f16)))
    (l16 : K.lookup f16 = some ⟨oc16, od16, .func (PySem.W.fnOf "check_code" "check_code" (defArgs s_check_code) (defBody s_check_code) (defScope s_check_code) .none kV16 dc16 pm16 an16 cd16 ct16), sl16⟩)
    (c16 : PySem.W.codeIn K cd16 "check_code" = true)
    (k16 : PySem.W.keepIn K (.ref f16) = true)
    (a17 : PySem.W.nsIn K mainGlobals "can_be" = some (some (.ref f17)))
    (l17 : K.lookup f17 = some ⟨oc17, od17, .func (PySem.W.fnOf "can_be" "can_be" (defArgs s_can_be) (defBody s_can_be) (defScope s_can_be) .none kV17 dc17 pm17 an17 cd17 ct17), sl17⟩)
    (c17 : PySem.W.codeIn K cd17 "can_be" = true)
    (k17 : PySem.W.keepIn K (.ref f17) = true)
    (a18 : PySem.W.nsIn K mainGlobals "is_look" = some (some (.ref f18)))
    (l18 : K.lookup f18 = some ⟨oc18, od18, .func (PySem.W.fnOf "is_look" "is_look" (defArgs s_is_look) (defBody s_is_look) (defScope s_is_look) .none kV18 dc18 pm18 an18 cd18 ct18), sl18⟩)
    (c18 : PySem.W.codeIn K cd18 "is_look" = true)
    (k18 : PySem.W.keepIn K (.ref f18) = true)
    (a19 : PySem.W.nsIn K mainGlobals "is_end" = some (some (.ref f19)))
    (l19 : K.lookup f19 = some ⟨oc19, od19, .func (PySem.W.fnOf "is_end" "is_end" (defArgs s_is_end) (defBody s_is_end) (defScope s_is_end) .none kV19 dc19 pm19 an19 cd19 ct19), sl19⟩)
    (c19 : PySem.W.codeIn K cd19 "is_end" = true)
    (k19 : PySem.W.keepIn K (.ref f19) = true)
    (a20 : PySem.W.nsIn K mainGlobals "outcome_of_rows" = some (some (.ref f20)))
    (l20 : K.lookup f20 = some ⟨oc20, od20, .func (PySem.W.fnOf "outcome_of_rows" "outcome_of_rows" (defArgs s_outcome_of_rows) (defBody s_outcome_of_rows) (defScope s_outcome_of_rows) .none kV20 dc20 pm20 an20 cd20 ct20), sl20⟩)
    (c20 : PySem.W.codeIn K cd20 "outcome_of_rows" = true)
    (k20 : PySem.W.keepIn K (.ref f20) = true)
    (a21 : PySem.W.nsIn K mainGlobals "looks" = some (some (.ref f21)))
    (l21 : K.lookup f21 = some ⟨oc21, od21, .func (PySem.W.fnOf "looks" "looks" (defArgs s_looks) (defBody s_looks) (defScope s_looks) .none kV21 dc21 pm21 an21 cd21 ct21), sl21⟩)
    (c21 : PySem.W.codeIn K cd21 "looks" = true)
    (k21 : PySem.W.keepIn K (.ref f21) = true)
    (a22 : PySem.W.nsIn K mainGlobals "jumps" = some (some (.ref f22)))
    (l22 : K.lookup f22 = some ⟨oc22, od22, .func (PySem.W.fnOf "jumps" "jumps" (defArgs s_jumps) (defBody s_jumps) (defScope s_jumps) .none kV22 dc22 pm22 an22 cd22 ct22), sl22⟩)
    (c22 : PySem.W.codeIn K cd22 "jumps" = true)
    (k22 : PySem.W.keepIn K (.ref f22) = true)
    (a23 : PySem.W.nsIn K mainGlobals "check_chances" = some (some (.ref f23)))
    (l23 : K.lookup f23 = some ⟨oc23, od23, .func (PySem.W.fnOf "check_chances" "check_chances" (defArgs s_check_chances) (defBody s_check_chances) (defScope s_check_chances) .none kV23 dc23 pm23 an23 cd23 ct23), sl23⟩)
    (c23 : PySem.W.codeIn K cd23 "check_chances" = true)
    (k23 : PySem.W.keepIn K (.ref f23) = true)
    (a24 : PySem.W.nsIn K mainGlobals "likely_worths" = some (some (.ref f24)))
    (l24 : K.lookup f24 = some ⟨oc24, od24, .func (PySem.W.fnOf "likely_worths" "likely_worths" (defArgs s_likely_worths) (defBody s_likely_worths) (defScope s_likely_worths) .none kV24 dc24 pm24 an24 cd24 ct24), sl24⟩)
    (c24 : PySem.W.codeIn K cd24 "likely_worths" = true)
    (k24 : PySem.W.keepIn K (.ref f24) = true)
    (a25 : PySem.W.nsIn K mainGlobals "times_of" = some (some (.ref f25)))
    (l25 : K.lookup f25 = some ⟨oc25, od25, .func (PySem.W.fnOf "times_of" "times_of" (defArgs s_times_of) (defBody s_times_of) (defScope s_times_of) .none kV25 dc25 pm25 an25 cd25 ct25), sl25⟩)
    (c25 : PySem.W.codeIn K cd25 "times_of" = true)
    (k25 : PySem.W.keepIn K (.ref f25) = true)
    (a26 : PySem.W.nsIn K mainGlobals "looks_in_all" = some (some (.ref f26)))
    (l26 : K.lookup f26 = some ⟨oc26, od26, .func (PySem.W.fnOf "looks_in_all" "looks_in_all" (defArgs s_looks_in_all) (defBody s_looks_in_all) (defScope s_looks_in_all) .none kV26 dc26 pm26 an26 cd26 ct26), sl26⟩)
    (c26 : PySem.W.codeIn K cd26 "looks_in_all" = true)
    (k26 : PySem.W.keepIn K (.ref f26) = true)
    (a27 : PySem.W.nsIn K mainGlobals "jumps_in_all" = some (some (.ref f27)))
    (l27 : K.lookup f27 = some ⟨oc27, od27, .func (PySem.W.fnOf "jumps_in_all" "jumps_in_all" (defArgs s_jumps_in_all) (defBody s_jumps_in_all) (defScope s_jumps_in_all) .none kV27 dc27 pm27 an27 cd27 ct27), sl27⟩)
    (c27 : PySem.W.codeIn K cd27 "jumps_in_all" = true)
    (k27 : PySem.W.keepIn K (.ref f27) = true)
    (a28 : PySem.W.nsIn K mainGlobals "parting" = some (some (.ref f28)))
    (l28 : K.lookup f28 = some ⟨oc28, od28, .func (PySem.W.fnOf "parting" "parting" (defArgs s_parting) (defBody s_parting) (defScope s_parting) .none kV28 dc28 pm28 an28 cd28 ct28), sl28⟩)
    (c28 : PySem.W.codeIn K cd28 "parting" = true)
    (k28 : PySem.W.keepIn K (.ref f28) = true)
    (a29 : PySem.W.nsIn K mainGlobals "alike" = some (some (.ref f29)))
    (l29 : K.lookup f29 = some ⟨oc29, od29, .func (PySem.W.fnOf "alike" "alike" (defArgs s_alike) (defBody s_alike) (defScope s_alike) .none kV29 dc29 pm29 an29 cd29 ct29), sl29⟩)
    (c29 : PySem.W.codeIn K cd29 "alike" = true)
    (k29 : PySem.W.keepIn K (.ref f29) = true)
    (a30 : PySem.W.nsIn K mainGlobals "like_worth" = some (some (.ref f30)))
    (l30 : K.lookup f30 = some ⟨oc30, od30, .func (PySem.W.fnOf "like_worth" "like_worth" (defArgs s_like_worth) (defBody s_like_worth) (defScope s_like_worth) .none kV30 dc30 pm30 an30 cd30 ct30), sl30⟩)
    (c30 : PySem.W.codeIn K cd30 "like_worth" = true)
    (k30 : PySem.W.keepIn K (.ref f30) = true)
    (a31 : PySem.W.nsIn K mainGlobals "_law_begun" = some (some (.ref f31)))
    (l31 : K.lookup f31 = some ⟨oc31, od31, .func (PySem.W.fnOf "_law_begun" "_law_begun" (defArgs s_law_begun) (defBody s_law_begun) (defScope s_law_begun) .none kV31 dc31 pm31 an31 cd31 ct31), sl31⟩)
    (c31 : PySem.W.codeIn K cd31 "_law_begun" = true)
    (k31 : PySem.W.keepIn K (.ref f31) = true)
    (a32 : PySem.W.nsIn K mainGlobals "_law_take" = some (some (.ref f32)))
    (l32 : K.lookup f32 = some ⟨oc32, od32, .func (PySem.W.fnOf "_law_take" "_law_take" (defArgs s_law_take) (defBody s_law_take) (defScope s_law_take) .none kV32 dc32 pm32 an32 cd32 ct32), sl32⟩)
    (c32 : PySem.W.codeIn K cd32 "_law_take" = true)
    (k32 : PySem.W.keepIn K (.ref f32) = true)
    (a33 : PySem.W.nsIn K mainGlobals "_law_part" = some (some (.ref f33)))
    (l33 : K.lookup f33 = some ⟨oc33, od33, .func (PySem.W.fnOf "_law_part" "_law_part" (defArgs s_law_part) (defBody s_law_part) (defScope s_law_part) .none kV33 dc33 pm33 an33 cd33 ct33), sl33⟩)
    (c33 : PySem.W.codeIn K cd33 "_law_part" = true)
    (k33 : PySem.W.keepIn K (.ref f33) = true)
    (a34 : PySem.W.nsIn K mainGlobals "_law_bare" = some (some (.ref f34)))
    (l34 : K.lookup f34 = some ⟨oc34, od34, .func (PySem.W.fnOf "_law_bare" "_law_bare" (defArgs s_law_bare) (defBody s_law_bare) (defScope s_law_bare) .none kV34 dc34 pm34 an34 cd34 ct34), sl34⟩)
    (c34 : PySem.W.codeIn K cd34 "_law_bare" = true)
    (k34 : PySem.W.keepIn K (.ref f34) = true)
    (a35 : PySem.W.nsIn K mainGlobals "_law_deep" = some (some (.ref f35)))
    (l35 : K.lookup f35 = some ⟨oc35, od35, .func (PySem.W.fnOf "_law_deep" "_law_deep" (defArgs s_law_deep) (defBody s_law_deep) (defScope s_law_deep) .none kV35 dc35 pm35 an35 cd35 ct35), sl35⟩)
    (c35 : PySem.W.codeIn K cd35 "_law_deep" = true)
    (k35 : PySem.W.keepIn K (.ref f35) = true)
    (a36 : PySem.W.nsIn K mainGlobals "_law_condition" = some (some (.ref f36)))
    (l36 : K.lookup f36 = some ⟨oc36, od36, .func (PySem.W.fnOf "_law_condition" "_law_condition" (defArgs s_law_condition) (defBody s_law_condition) (defScope s_law_condition) .none kV36 dc36 pm36 an36 cd36 ct36), sl36⟩)
    (c36 : PySem.W.codeIn K cd36 "_law_condition" = true)
    (k36 : PySem.W.keepIn K (.ref f36) = true)
    (a37 : PySem.W.nsIn K mainGlobals "_law_worths" = some (some (.ref f37)))
    (l37 : K.lookup f37 = some ⟨oc37, od37, .func (PySem.W.fnOf "_law_worths" "_law_worths" (defArgs s_law_worths) (defBody s_law_worths) (defScope s_law_worths) .none kV37 dc37 pm37 an37 cd37 ct37), sl37⟩)
    (c37 : PySem.W.codeIn K cd37 "_law_worths" = true)
    (k37 : PySem.W.keepIn K (.ref f37) = true)
    (a38 : PySem.W.nsIn K mainGlobals "_law_dual" = some (some (.ref f38)))
    (l38 : K.lookup f38 = some ⟨oc38, od38, .func (PySem.W.fnOf "_law_dual" "_law_dual" (defArgs s_law_dual) (defBody s_law_dual) (defScope s_law_dual) .none kV38 dc38 pm38 an38 cd38 ct38), sl38⟩)
    (c38 : PySem.W.codeIn K cd38 "_law_dual" = true)
    (k38 : PySem.W.keepIn K (.ref f38) = true)
    (a39 : PySem.W.nsIn K mainGlobals "_law_named" = some (some (.ref f39)))
    (l39 : K.lookup f39 = some ⟨oc39, od39, .func (PySem.W.fnOf "_law_named" "_law_named" (defArgs s_law_named) (defBody s_law_named) (defScope s_law_named) .none kV39 dc39 pm39 an39 cd39 ct39), sl39⟩)
    (c39 : PySem.W.codeIn K cd39 "_law_named" = true)
    (k39 : PySem.W.keepIn K (.ref f39) = true)
    (a40 : PySem.W.nsIn K mainGlobals "law" = some (some (.ref f40)))
    (l40 : K.lookup f40 = some ⟨oc40, od40, .func (PySem.W.fnOf "law" "law" (defArgs s_law) (defBody s_law) (defScope s_law) .none kV40 dc40 pm40 an40 cd40 ct40), sl40⟩)
    (c40 : PySem.W.codeIn K cd40 "law" = true)
    (k40 : PySem.W.keepIn K (.ref f40) = true)
    (z_sum : PySem.W.nsIn K mainGlobals "sum" = some none)
    (z_tuple : PySem.W.nsIn K mainGlobals "tuple" = some none)
    (z_isinstance : PySem.W.nsIn K mainGlobals "isinstance" = some none)
    (z_len : PySem.W.nsIn K mainGlobals "len" = some none)
    (z_bool : PySem.W.nsIn K mainGlobals "bool" = some none)
    (z_int : PySem.W.nsIn K mainGlobals "int" = some none)
    (z_all : PySem.W.nsIn K mainGlobals "all" = some none)
    (z_range : PySem.W.nsIn K mainGlobals "range" = some none)
    (z_list : PySem.W.nsIn K mainGlobals "list" = some none)
    (z_zip : PySem.W.nsIn K mainGlobals "zip" = some none)
    (z_max : PySem.W.nsIn K mainGlobals "max" = some none)
    (y_MOST_LOOKS : PySem.W.nsIn K mainGlobals "MOST_LOOKS" = some (some (.int 12 u_MOST_LOOKS)))
    (y_MOST_AROUND : PySem.W.nsIn K mainGlobals "MOST_AROUND" = some (some (.int 10 u_MOST_AROUND)))
    (y_THINGS : PySem.W.nsIn K mainGlobals "THINGS" = some (some (.int 8 u_THINGS)))
    (y_GOES_ON : PySem.W.nsIn K mainGlobals "GOES_ON" = some (some (.ref a_GOES_ON)))
    (h_GOES_ON : K.lookup a_GOES_ON = some ⟨.type "dict", none, .dict es_GOES_ON en_GOES_ON, #[]⟩)
    (q_GOES_ON : PySem.W.KeysLit w.params es_GOES_ON.toList)
    (v_GOES_ON_0 : PySem.W.nsIn K a_GOES_ON "and" = some (some (.int 1 t_GOES_ON_0)))
    (v_GOES_ON_1 : PySem.W.nsIn K a_GOES_ON "or" = some (some (.int 0 t_GOES_ON_1)))
    (y_MOST_ROWS : PySem.W.nsIn K mainGlobals "MOST_ROWS" = some (some (.int 40 u_MOST_ROWS)))
    (y_HUNDRED : PySem.W.nsIn K mainGlobals "HUNDRED" = some (some (.int 100 u_HUNDRED))) :
    ∃ fd : FuncData, (∀ (s : Shared) (v : Value), BindsTo s fd ⟨[v], []⟩ [("_law_script", v)]) ∧ ∀ base : Heap, K.In base → base.Ns mainGlobals mg → FnOk l.prog w K mg base CX0 200 fa fd ["_law_script"] (spLaw K) := by
  have e := hfa.symm.trans (PySem.W.mg_of X G a40)
  cases e
  refine ⟨PySem.W.fnOf "law" "law" (defArgs s_law) (defBody s_law) (defScope s_law) .none kV40 dc40 pm40 an40 cd40 ct40, fun s v => .of_eq rfl, fun base _ _ => ?_⟩
  exact main (T := {
    f_check_condition := f0,
    d_check_condition := _,
    F_check_condition := fun_mk (st := s_check_condition) l0 c0 k0,
    m_check_condition := PySem.W.mg_of X G a0,
    b_check_condition := (fun_mk (st := s_check_condition) l0 c0 k0).binds (ps := ["condition"]) fun _ _ _ _ _ _ us hl => match us, hl with | [_], _ => rfl,
    f_count_looks := f1,
    d_count_looks := _,
    F_count_looks := fun_mk (st := s_count_looks) l1 c1 k1,
    m_count_looks := PySem.W.mg_of X G a1,
    b_count_looks := (fun_mk (st := s_count_looks) l1 c1 k1).binds (ps := ["condition", "around"]) fun _ _ _ _ _ _ us hl => match us, hl with | [_, _], _ => rfl,
    f_has_form := f2,
    d_has_form := _,
    F_has_form := fun_mk (st := s_has_form) l2 c2 k2,
    m_has_form := PySem.W.mg_of X G a2,
    b_has_form := (fun_mk (st := s_has_form) l2 c2 k2).binds (ps := ["condition"]) fun _ _ _ _ _ _ us hl => match us, hl with | [_], _ => rfl,
    f_is_number_up_to := f3,
    d_is_number_up_to := _,
    F_is_number_up_to := fun_mk (st := s_is_number_up_to) l3 c3 k3,
    m_is_number_up_to := PySem.W.mg_of X G a3,
    b_is_number_up_to := (fun_mk (st := s_is_number_up_to) l3 c3 k3).binds (ps := ["value", "most"]) fun _ _ _ _ _ _ us hl => match us, hl with | [_, _], _ => rfl,
    f_are_numbers_up_to := f4,
    d_are_numbers_up_to := _,
    F_are_numbers_up_to := fun_mk (st := s_are_numbers_up_to) l4 c4 k4,
    m_are_numbers_up_to := PySem.W.mg_of X G a4,
    b_are_numbers_up_to := (fun_mk (st := s_are_numbers_up_to) l4 c4 k4).binds (ps := ["values", "many", "most"]) fun _ _ _ _ _ _ us hl => match us, hl with | [_, _, _], _ => rfl,
    f_are_bits := f5,
    d_are_bits := _,
    F_are_bits := fun_mk (st := s_are_bits) l5 c5 k5,
    m_are_bits := PySem.W.mg_of X G a5,
    b_are_bits := (fun_mk (st := s_are_bits) l5 c5 k5).binds (ps := ["values", "many"]) fun _ _ _ _ _ _ us hl => match us, hl with | [_, _], _ => rfl,
    f_all_bits := f6,
    d_all_bits := _,
    F_all_bits := fun_mk (st := s_all_bits) l6 c6 k6,
    m_all_bits := PySem.W.mg_of X G a6,
    b_all_bits := (fun_mk (st := s_all_bits) l6 c6 k6).binds (ps := ["many"]) fun _ _ _ _ _ _ us hl => match us, hl with | [_], _ => rfl,
    f_meant := f7,
    d_meant := _,
    F_meant := fun_mk (st := s_meant) l7 c7 k7,
    m_meant := PySem.W.mg_of X G a7,
    b_meant := (fun_mk (st := s_meant) l7 c7 k7).binds (ps := ["condition", "worths"]) fun _ _ _ _ _ _ us hl => match us, hl with | [_, _], _ => rfl,
    f_check_worths := f8,
    d_check_worths := _,
    F_check_worths := fun_mk (st := s_check_worths) l8 c8 k8,
    m_check_worths := PySem.W.mg_of X G a8,
    b_check_worths := (fun_mk (st := s_check_worths) l8 c8 k8).binds (ps := ["worths"]) fun _ _ _ _ _ _ us hl => match us, hl with | [_], _ => rfl,
    f_outcome := f9,
    d_outcome := _,
    F_outcome := fun_mk (st := s_outcome) l9 c9 k9,
    m_outcome := PySem.W.mg_of X G a9,
    b_outcome := (fun_mk (st := s_outcome) l9 c9 k9).binds (ps := ["condition", "worths"]) fun _ _ _ _ _ _ us hl => match us, hl with | [_, _], _ => rfl,
    f_coded := f10,
    d_coded := _,
    F_coded := fun_mk (st := s_coded) l10 c10 k10,
    m_coded := PySem.W.mg_of X G a10,
    b_coded := (fun_mk (st := s_coded) l10 c10 k10).binds (ps := ["condition", "first"]) fun _ _ _ _ _ _ us hl => match us, hl with | [_, _], _ => rfl,
    f_run := f11,
    d_run := _,
    F_run := fun_mk (st := s_run) l11 c11 k11,
    m_run := PySem.W.mg_of X G a11,
    b_run := (fun_mk (st := s_run) l11 c11 k11).binds (ps := ["rows", "worths"]) fun _ _ _ _ _ _ us hl => match us, hl with | [_, _], _ => rfl,
    f_check_first := f12,
    d_check_first := _,
    F_check_first := fun_mk (st := s_check_first) l12 c12 k12,
    m_check_first := PySem.W.mg_of X G a12,
    b_check_first := (fun_mk (st := s_check_first) l12 c12 k12).binds (ps := ["first"]) fun _ _ _ _ _ _ us hl => match us, hl with | [_], _ => rfl,
    f_code_of := f13,
    d_code_of := _,
    F_code_of := fun_mk (st := s_code_of) l13 c13 k13,
    m_code_of := PySem.W.mg_of X G a13,
    b_code_of := (fun_mk (st := s_code_of) l13 c13 k13).binds (ps := ["condition", "first"]) fun _ _ _ _ _ _ us hl => match us, hl with | [_, _], _ => rfl,
    f_rows_of := f14,
    d_rows_of := _,
    F_rows_of := fun_mk (st := s_rows_of) l14 c14 k14,
    m_rows_of := PySem.W.mg_of X G a14,
    b_rows_of := (fun_mk (st := s_rows_of) l14 c14 k14).binds (ps := ["condition", "start", "dues"]) fun _ _ _ _ _ _ us hl => match us, hl with | [_, _, _], _ => rfl,
    f_look_row := f15,
    d_look_row := _,
    F_look_row := fun_mk (st := s_look_row) l15 c15 k15,
    m_look_row := PySem.W.mg_of X G a15,
    b_look_row := (fun_mk (st := s_look_row) l15 c15 k15).binds (ps := ["thing", "place", "dues"]) fun _ _ _ _ _ _ us hl => match us, hl with | [_, _, _], _ => rfl,
    f_check_code := f16,
    d_check_code := _,
    F_check_code := fun_mk (st := s_check_code) l16 c16 k16,
    m_check_code := PySem.W.mg_of X G a16,
    b_check_code := (fun_mk (st := s_check_code) l16 c16 k16).binds (ps := ["rows"]) fun _ _ _ _ _ _ us hl => match us, hl with | [_], _ => rfl,
    f_can_be := f17,
    d_can_be := _,
    F_can_be := fun_mk (st := s_can_be) l17 c17 k17,
    m_can_be := PySem.W.mg_of X G a17,
    b_can_be := (fun_mk (st := s_can_be) l17 c17 k17).binds (ps := ["rows", "place"]) fun _ _ _ _ _ _ us hl => match us, hl with | [_, _], _ => rfl,
    f_is_look := f18,
    d_is_look := _,
    F_is_look := fun_mk (st := s_is_look) l18 c18 k18,
    m_is_look := PySem.W.mg_of X G a18,
    b_is_look := (fun_mk (st := s_is_look) l18 c18 k18).binds (ps := ["row", "place", "last"]) fun _ _ _ _ _ _ us hl => match us, hl with | [_, _, _], _ => rfl,
    f_is_end := f19,
    d_is_end := _,
    F_is_end := fun_mk (st := s_is_end) l19 c19 k19,
    m_is_end := PySem.W.mg_of X G a19,
    b_is_end := (fun_mk (st := s_is_end) l19 c19 k19).binds (ps := ["row"]) fun _ _ _ _ _ _ us hl => match us, hl with | [_], _ => rfl,
    f_outcome_of_rows := f20,
    d_outcome_of_rows := _,
    F_outcome_of_rows := fun_mk (st := s_outcome_of_rows) l20 c20 k20,
    m_outcome_of_rows := PySem.W.mg_of X G a20,
    b_outcome_of_rows := (fun_mk (st := s_outcome_of_rows) l20 c20 k20).binds (ps := ["rows", "worths"]) fun _ _ _ _ _ _ us hl => match us, hl with | [_, _], _ => rfl,
    f_looks := f21,
    d_looks := _,
    F_looks := fun_mk (st := s_looks) l21 c21 k21,
    m_looks := PySem.W.mg_of X G a21,
    b_looks := (fun_mk (st := s_looks) l21 c21 k21).binds (ps := ["condition", "chances"]) fun _ _ _ _ _ _ us hl => match us, hl with | [_, _], _ => rfl,
    f_jumps := f22,
    d_jumps := _,
    F_jumps := fun_mk (st := s_jumps) l22 c22 k22,
    m_jumps := PySem.W.mg_of X G a22,
    b_jumps := (fun_mk (st := s_jumps) l22 c22 k22).binds (ps := ["condition", "first", "chances"]) fun _ _ _ _ _ _ us hl => match us, hl with | [_, _, _], _ => rfl,
    f_check_chances := f23,
    d_check_chances := _,
    F_check_chances := fun_mk (st := s_check_chances) l23 c23 k23,
    m_check_chances := PySem.W.mg_of X G a23,
    b_check_chances := (fun_mk (st := s_check_chances) l23 c23 k23).binds (ps := ["chances"]) fun _ _ _ _ _ _ us hl => match us, hl with | [_], _ => rfl,
    f_likely_worths := f24,
    d_likely_worths := _,
    F_likely_worths := fun_mk (st := s_likely_worths) l24 c24 k24,
    m_likely_worths := PySem.W.mg_of X G a24,
    b_likely_worths := (fun_mk (st := s_likely_worths) l24 c24 k24).binds (ps := ["chances"]) fun _ _ _ _ _ _ us hl => match us, hl with | [_], _ => rfl,
    f_times_of := f25,
    d_times_of := _,
    F_times_of := fun_mk (st := s_times_of) l25 c25 k25,
    m_times_of := PySem.W.mg_of X G a25,
    b_times_of := (fun_mk (st := s_times_of) l25 c25 k25).binds (ps := ["worths", "chances"]) fun _ _ _ _ _ _ us hl => match us, hl with | [_, _], _ => rfl,
    f_looks_in_all := f26,
    d_looks_in_all := _,
    F_looks_in_all := fun_mk (st := s_looks_in_all) l26 c26 k26,
    m_looks_in_all := PySem.W.mg_of X G a26,
    b_looks_in_all := (fun_mk (st := s_looks_in_all) l26 c26 k26).binds (ps := ["condition", "likely"]) fun _ _ _ _ _ _ us hl => match us, hl with | [_, _], _ => rfl,
    f_jumps_in_all := f27,
    d_jumps_in_all := _,
    F_jumps_in_all := fun_mk (st := s_jumps_in_all) l27 c27 k27,
    m_jumps_in_all := PySem.W.mg_of X G a27,
    b_jumps_in_all := (fun_mk (st := s_jumps_in_all) l27 c27 k27).binds (ps := ["condition", "first", "likely"]) fun _ _ _ _ _ _ us hl => match us, hl with | [_, _, _], _ => rfl,
    f_parting := f28,
    d_parting := _,
    F_parting := fun_mk (st := s_parting) l28 c28 k28,
    m_parting := PySem.W.mg_of X G a28,
    b_parting := (fun_mk (st := s_parting) l28 c28 k28).binds (ps := ["one", "other"]) fun _ _ _ _ _ _ us hl => match us, hl with | [_, _], _ => rfl,
    f_alike := f29,
    d_alike := _,
    F_alike := fun_mk (st := s_alike) l29 c29 k29,
    m_alike := PySem.W.mg_of X G a29,
    b_alike := (fun_mk (st := s_alike) l29 c29 k29).binds (ps := ["one", "other"]) fun _ _ _ _ _ _ us hl => match us, hl with | [_, _], _ => rfl,
    f_like_worth := f30,
    d_like_worth := _,
    F_like_worth := fun_mk (st := s_like_worth) l30 c30 k30,
    m_like_worth := PySem.W.mg_of X G a30,
    b_like_worth := (fun_mk (st := s_like_worth) l30 c30 k30).binds (ps := ["one", "other"]) fun _ _ _ _ _ _ us hl => match us, hl with | [_, _], _ => rfl,
    f_law_begun := f31,
    d_law_begun := _,
    F_law_begun := fun_mk (st := s_law_begun) l31 c31 k31,
    m_law_begun := PySem.W.mg_of X G a31,
    b_law_begun := (fun_mk (st := s_law_begun) l31 c31 k31).binds (ps := ["_law_script"]) fun _ _ _ _ _ _ us hl => match us, hl with | [_], _ => rfl,
    f_law_take := f32,
    d_law_take := _,
    F_law_take := fun_mk (st := s_law_take) l32 c32 k32,
    m_law_take := PySem.W.mg_of X G a32,
    b_law_take := (fun_mk (st := s_law_take) l32 c32 k32).binds (ps := ["_law_box", "_law_many"]) fun _ _ _ _ _ _ us hl => match us, hl with | [_, _], _ => rfl,
    f_law_part := f33,
    d_law_part := _,
    F_law_part := fun_mk (st := s_law_part) l33 c33 k33,
    m_law_part := PySem.W.mg_of X G a33,
    b_law_part := (fun_mk (st := s_law_part) l33 c33 k33).binds (ps := ["_law_box", "_law_many", "_law_things"]) fun _ _ _ _ _ _ us hl => match us, hl with | [_, _, _], _ => rfl,
    f_law_bare := f34,
    d_law_bare := _,
    F_law_bare := fun_mk (st := s_law_bare) l34 c34 k34,
    m_law_bare := PySem.W.mg_of X G a34,
    b_law_bare := (fun_mk (st := s_law_bare) l34 c34 k34).binds (ps := ["_law_box", "_law_many", "_law_things"]) fun _ _ _ _ _ _ us hl => match us, hl with | [_, _, _], _ => rfl,
    f_law_deep := f35,
    d_law_deep := _,
    F_law_deep := fun_mk (st := s_law_deep) l35 c35 k35,
    m_law_deep := PySem.W.mg_of X G a35,
    b_law_deep := (fun_mk (st := s_law_deep) l35 c35 k35).binds (ps := ["_law_part_here"]) fun _ _ _ _ _ _ us hl => match us, hl with | [_], _ => rfl,
    f_law_condition := f36,
    d_law_condition := _,
    F_law_condition := fun_mk (st := s_law_condition) l36 c36 k36,
    m_law_condition := PySem.W.mg_of X G a36,
    b_law_condition := (fun_mk (st := s_law_condition) l36 c36 k36).binds (ps := ["_law_box", "_law_most"]) fun _ _ _ _ _ _ us hl => match us, hl with | [_, _], _ => rfl,
    f_law_worths := f37,
    d_law_worths := _,
    F_law_worths := fun_mk (st := s_law_worths) l37 c37 k37,
    m_law_worths := PySem.W.mg_of X G a37,
    b_law_worths := (fun_mk (st := s_law_worths) l37 c37 k37).binds (ps := ["_law_number"]) fun _ _ _ _ _ _ us hl => match us, hl with | [_], _ => rfl,
    f_law_dual := f38,
    d_law_dual := _,
    F_law_dual := fun_mk (st := s_law_dual) l38 c38 k38,
    m_law_dual := PySem.W.mg_of X G a38,
    b_law_dual := (fun_mk (st := s_law_dual) l38 c38 k38).binds (ps := ["_law_part_here"]) fun _ _ _ _ _ _ us hl => match us, hl with | [_], _ => rfl,
    f_law_named := f39,
    d_law_named := _,
    F_law_named := fun_mk (st := s_law_named) l39 c39 k39,
    m_law_named := PySem.W.mg_of X G a39,
    b_law_named := (fun_mk (st := s_law_named) l39 c39 k39).binds (ps := ["_law_part_here", "_law_names"]) fun _ _ _ _ _ _ us hl => match us, hl with | [_, _], _ => rfl,
    f_law := fa,
    d_law := _,
    F_law := fun_mk (st := s_law) l40 c40 k40,
    m_law := PySem.W.mg_of X G a40,
    b_law := (fun_mk (st := s_law) l40 c40 k40).binds (ps := ["_law_script"]) fun _ _ _ _ _ _ us hl => match us, hl with | [_], _ => rfl,
    n_sum := PySem.W.mg_none_of X G z_sum,
    n_tuple := PySem.W.mg_none_of X G z_tuple,
    n_isinstance := PySem.W.mg_none_of X G z_isinstance,
    n_len := PySem.W.mg_none_of X G z_len,
    n_bool := PySem.W.mg_none_of X G z_bool,
    n_int := PySem.W.mg_none_of X G z_int,
    n_all := PySem.W.mg_none_of X G z_all,
    n_range := PySem.W.mg_none_of X G z_range,
    n_list := PySem.W.mg_none_of X G z_list,
    n_zip := PySem.W.mg_none_of X G z_zip,
    n_max := PySem.W.mg_none_of X G z_max,
    u_MOST_LOOKS := u_MOST_LOOKS,
    c_MOST_LOOKS := PySem.W.mg_of X G y_MOST_LOOKS,
    u_MOST_AROUND := u_MOST_AROUND,
    c_MOST_AROUND := PySem.W.mg_of X G y_MOST_AROUND,
    u_THINGS := u_THINGS,
    c_THINGS := PySem.W.mg_of X G y_THINGS,
    a_GOES_ON := a_GOES_ON,
    c_GOES_ON := PySem.W.mg_of X G y_GOES_ON,
    k_GOES_ON_0 := ⟨_, _, _, h_GOES_ON, q_GOES_ON, v_GOES_ON_0, ⟨_, rfl⟩⟩,
    k_GOES_ON_1 := ⟨_, _, _, h_GOES_ON, q_GOES_ON, v_GOES_ON_1, ⟨_, rfl⟩⟩,
    u_MOST_ROWS := u_MOST_ROWS,
    c_MOST_ROWS := PySem.W.mg_of X G y_MOST_ROWS,
    u_HUNDRED := u_HUNDRED,
    c_HUNDRED := PySem.W.mg_of X G y_HUNDRED }) 
theorem walk {l : PySem.W.OpenLaw} {q : Program} {loose : List Str} {XP : (Str → Option Value) → Heap → Prop} {YP : World → Heap → Prop} {d : DefRec} {K : Params → PySem.W.Frag} (hn : l.most = some 63) (hdf : d.params.defaults = [])
    (hY : ∀ (w : World) (h : Heap), YP w h → (K w.params).In h)
    (F : ∀ (w : World) (mg : Str → Option Value) (fa : Addr) (h : Heap), (K w.params).In h → h.Ns mainGlobals mg → mg d.name = some (.ref fa) →
      ∃ fd : FuncData, (∀ (s : Shared) (u : Value), BindsTo s fd ⟨[u], []⟩ [("_law_script", u)]) ∧ ∀ base : Heap, (K w.params).In base → base.Ns mainGlobals mg → FnOk l.prog w (K w.params) mg base CX0 200 fa fd ["_law_script"] (spLaw (K w.params))) :
    PySem.W.WalkO q loose XP YP l.row.toRowW d [] (fun f vs => PySem.call f vs) :=
  L2.walk_of (n := 63) (k := 200) (x := "_law_script") (CX := fun _ => CX0) (sp := fun w => spLaw (K w.params)) hn (by decide) hdf ⟨rfl, by decide, by decide⟩ hY F (fun _ _ a ns hl _ hS => ⟨a, ns, rfl, hS, hl, fun _ => rfl⟩) fun _ _ _ _ _ z => z
end J
open PySem PySem.W PyProof.Rows
set_option maxRecDepth 100000 in
set_option maxHeartbeats 0 in
theorem PySem.Challenge.cw_jumpsay_k12_whole_nots_and_other_things_holds : PySem.Challenge.rw_jumpsay_k12_whole_nots_and_other_things.Holds := by
  w_on; o_law; k_head; (case hw => w_witness2)
  k_fill
  refine J.walk (l := PySem.Challenge.rw_jumpsay_k12_whole_nots_and_other_things) rfl rfl (fun w h Y => PySem.W.kIn_of Y) ?F
  case F =>
    intro w mg fa h KX G hmg
    refine' J.all_mk KX G hmg ?a0 ?l0 ?c0 ?k0 ?a1 ?l1 ?c1 ?k1 ?a2 ?l2 ?c2 ?k2 ?a3 ?l3 ?c3 ?k3 ?a4 ?l4 ?c4 ?k4 ?a5 ?l5 ?c5 ?k5 ?a6 ?l6 ?c6 ?k6 ?a7 ?l7 ?c7 ?k7 ?a8 ?l8 ?c8 ?k8 ?a9 ?l9 ?c9 ?k9 ?a10 ?l10 ?c10 ?k10 ?a11 ?l11 ?c11 ?k11 ?a12 ?l12 ?c12 ?k12 ?a13 ?l13 ?c13 ?k13 ?a14 ?l14 ?c14 ?k14 ?a15 ?l15 ?c15 ?k15 ?a16 ?l16 ?c16 ?k16 ?a17 ?l17 ?c17 ?k17 ?a18 ?l18 ?c18 ?k18 ?a19 ?l19 ?c19 ?k19 ?a20 ?l20 ?c20 ?k20 ?a21 ?l21 ?c21 ?k21 ?a22 ?l22 ?c22 ?k22 ?a23 ?l23 ?c23 ?k23 ?a24 ?l24 ?c24 ?k24 ?a25 ?l25 ?c25 ?k25 ?a26 ?l26 ?c26 ?k26 ?a27 ?l27 ?c27 ?k27 ?a28 ?l28 ?c28 ?k28 ?a29 ?l29 ?c29 ?k29 ?a30 ?l30 ?c30 ?k30 ?a31 ?l31 ?c31 ?k31 ?a32 ?l32 ?c32 ?k32 ?a33 ?l33 ?c33 ?k33 ?a34 ?l34 ?c34 ?k34 ?a35 ?l35 ?c35 ?k35 ?a36 ?l36 ?c36 ?k36 ?a37 ?l37 ?c37 ?k37 ?a38 ?l38 ?c38 ?k38 ?a39 ?l39 ?c39 ?k39 ?a40 ?l40 ?c40 ?k40 ?z_sum ?z_tuple ?z_isinstance ?z_len ?z_bool ?z_int ?z_all ?z_range ?z_list ?z_zip ?z_max ?y_MOST_LOOKS ?y_MOST_AROUND ?y_THINGS ?y_GOES_ON ?h_GOES_ON ?q_GOES_ON ?v_GOES_ON_0 ?v_GOES_ON_1 ?y_MOST_ROWS ?y_HUNDRED
    (case a0 => k_is); (case l0 => k_is); (case c0 => k_is); (case k0 => k_is)
    (case a1 => k_is); (case l1 => k_is); (case c1 => k_is); (case k1 => k_is)
    (case a2 => k_is); (case l2 => k_is); (case c2 => k_is); (case k2 => k_is)
    (case a3 => k_is); (case l3 => k_is); (case c3 => k_is); (case k3 => k_is)
    (case a4 => k_is); (case l4 => k_is); (case c4 => k_is); (case k4 => k_is)
    (case a5 => k_is); (case l5 => k_is); (case c5 => k_is); (case k5 => k_is)
    (case a6 => k_is); (case l6 => k_is); (case c6 => k_is); (case k6 => k_is)
    (case a7 => k_is); (case l7 => k_is); (case c7 => k_is); (case k7 => k_is)
    (case a8 => k_is); (case l8 => k_is); (case c8 => k_is); (case k8 => k_is)
    (case a9 => k_is); (case l9 => k_is); (case c9 => k_is); (case k9 => k_is)
    (case a10 => k_is); (case l10 => k_is); (case c10 => k_is); (case k10 => k_is)
    (case a11 => k_is); (case l11 => k_is); (case c11 => k_is); (case k11 => k_is)
    (case a12 => k_is); (case l12 => k_is); (case c12 => k_is); (case k12 => k_is)
    (case a13 => k_is); (case l13 => k_is); (case c13 => k_is); (case k13 => k_is)
    (case a14 => k_is); (case l14 => k_is); (case c14 => k_is); (case k14 => k_is)
    (case a15 => k_is); (case l15 => k_is); (case c15 => k_is); (case k15 => k_is)
    (case a16 => k_is); (case l16 => k_is); (case c16 => k_is); (case k16 => k_is)
    (case a17 => k_is); (case l17 => k_is); (case c17 => k_is); (case k17 => k_is)
    (case a18 => k_is); (case l18 => k_is); (case c18 => k_is); (case k18 => k_is)
    (case a19 => k_is); (case l19 => k_is); (case c19 => k_is); (case k19 => k_is)
    (case a20 => k_is); (case l20 => k_is); (case c20 => k_is); (case k20 => k_is)
    (case a21 => k_is); (case l21 => k_is); (case c21 => k_is); (case k21 => k_is)
    (case a22 => k_is); (case l22 => k_is); (case c22 => k_is); (case k22 => k_is)
    (case a23 => k_is); (case l23 => k_is); (case c23 => k_is); (case k23 => k_is)
    (case a24 => k_is); (case l24 => k_is); (case c24 => k_is); (case k24 => k_is)
    (case a25 => k_is); (case l25 => k_is); (case c25 => k_is); (case k25 => k_is)
    (case a26 => k_is); (case l26 => k_is); (case c26 => k_is); (case k26 => k_is)
    (case a27 => k_is); (case l27 => k_is); (case c27 => k_is); (case k27 => k_is)
    (case a28 => k_is); (case l28 => k_is); (case c28 => k_is); (case k28 => k_is)
    (case a29 => k_is); (case l29 => k_is); (case c29 => k_is); (case k29 => k_is)
    (case a30 => k_is); (case l30 => k_is); (case c30 => k_is); (case k30 => k_is)
    (case a31 => k_is); (case l31 => k_is); (case c31 => k_is); (case k31 => k_is)
    (case a32 => k_is); (case l32 => k_is); (case c32 => k_is); (case k32 => k_is)
    (case a33 => k_is); (case l33 => k_is); (case c33 => k_is); (case k33 => k_is)
    (case a34 => k_is); (case l34 => k_is); (case c34 => k_is); (case k34 => k_is)
    (case a35 => k_is); (case l35 => k_is); (case c35 => k_is); (case k35 => k_is)
    (case a36 => k_is); (case l36 => k_is); (case c36 => k_is); (case k36 => k_is)
    (case a37 => k_is); (case l37 => k_is); (case c37 => k_is); (case k37 => k_is)
    (case a38 => k_is); (case l38 => k_is); (case c38 => k_is); (case k38 => k_is)
    (case a39 => k_is); (case l39 => k_is); (case c39 => k_is); (case k39 => k_is)
    (case a40 => k_is); (case l40 => k_is); (case c40 => k_is); (case k40 => k_is)
    (case z_sum => k_is)
    (case z_tuple => k_is)
    (case z_isinstance => k_is)
    (case z_len => k_is)
    (case z_bool => k_is)
    (case z_int => k_is)
    (case z_all => k_is)
    (case z_range => k_is)
    (case z_list => k_is)
    (case z_zip => k_is)
    (case z_max => k_is)
    (case y_MOST_LOOKS => k_is)
    (case y_MOST_AROUND => k_is)
    (case y_THINGS => k_is)
    (case y_GOES_ON => k_is)
    (case h_GOES_ON => k_is); (case q_GOES_ON => exact ⟨⟨_, _, rfl, rfl⟩, ⟨_, _, rfl, rfl⟩, trivial⟩)
    (case v_GOES_ON_0 => k_is)
    (case v_GOES_ON_1 => k_is)
    (case y_MOST_ROWS => k_is)
    (case y_HUNDRED => k_is)
