import PyProof.Rows.All
import Wide.All
import OpenK.AllK
import Wide.FinOn
import HandS.ForMost
import HandS.ForExc
import HandS.IsInst
import HandS.More
import PySem.Challenge.RW_jumpsay_k02_what_is_meant
set_option Elab.async false
set_option linter.all false
set_option maxRecDepth 100000
set_option maxHeartbeats 4000000
namespace J
open PySem L2
/-! ### heaps -/
theorem sm_new {H : Hp} {p : Addr} (h : H p = none) (o : HO) : Same H (upd H p o) := fun b u q => by
  rw [upd_ne (ne_of_none q h)]
  exact q
theorem sm_ap {H H' : Hp} {b : Addr} {o : HO} (g : Same H H') (h : H b = some o) : H' b = some o := g _ _ h
theorem sm_l {K : PySem.W.Frag} {H H' : Hp} {a : Addr} {xs : List V} (g : Same H H') (h : SqL K H a xs) : SqL K H' a xs := g.seq h
theorem sm_t {K : PySem.W.Frag} {H H' : Hp} {a : Addr} {xs : List V} (e : Same H H') (h : SqT K H a xs) : SqT K H' a xs := by
  rcases h with (h | ⟨o, h⟩) | h
  · exact .inl (.inl (e _ _ h))
  · exact .inl (.inr ⟨o, e _ _ h⟩)
  · exact .inr h
theorem sm_tr {H H1 H2 : Hp} (b : Same H1 H2) (a : Same H H1) : Same H H2 := a.trans b
/-- the tuples stand -/
def Tups (H H' : Hp) : Prop := ∀ b xs, H b = some (.tup xs) → H' b = some (.tup xs)
theorem Same.tups {H H' : Hp} (g : Same H H') : Tups H H' := fun b xs h => g b _ h
theorem Tups.refl (H : Hp) : Tups H H := fun _ _ h => h
theorem Tups.trans {H H1 H2 : Hp} (a : Tups H H1) (b : Tups H1 H2) : Tups H H2 := fun c xs h => b c xs (a c xs h)
/-! ### what is new -/
def NewO (o : HO) (n : Nat) (H : Hp) (Q : VK) : Prop := n ≤ sizeLine ∧ ∀ p, H p = none → Q (.ref p) (upd H p o)
theorem l_new {o : HO} {n : Nat} {H : Hp} {Q : VK} (hn : n ≤ 100000) (h : ∀ (p : Addr) (H' : Hp), H p = none → Same H H' → H' p = some o → Q (.ref p) H') : NewO o n H Q :=
  ⟨Nat.le_trans hn (by decide), fun p hp => h p _ hp (sm_new hp o) upd_same⟩
/-! ### the readings, a step each -/
section
variable {K : PySem.W.Frag} {w : World} {σ : St} {H : Hp} {Q : VK} {QT : Bool → Hp → Prop} {QA : List V → Hp → Prop} {nx bk ct : St → Hp → Prop} {rt : VK} {ta tb tc te : TE} {t u : TT} {ts tu : TS} {g : TG} {r r' : R2} {x y v : V} {i j : Nat}
theorem l_seq (h : ts (Ends.mk (tu (Ends.mk nx rt bk ct)) rt bk ct) σ H) : tSeq ts tu (Ends.mk nx rt bk ct) σ H := h
theorem l_next (h : nx σ H) : tNext (Ends.mk nx rt bk ct) σ H := h
theorem l_brk (h : bk σ H) : tBreak (Ends.mk nx rt bk ct) σ H := h
theorem l_cnt (h : ct σ H) : tCont (Ends.mk nx rt bk ct) σ H := h
theorem l_asg (h : te σ H fun x H1 => g x σ H1 nx) : tAsg te g (Ends.mk nx rt bk ct) σ H := h
theorem l_drop (h : te σ H fun _ H1 => nx σ H1) : tDrop te (Ends.mk nx rt bk ct) σ H := h
theorem l_ret (h : te σ H rt) : tRet te (Ends.mk nx rt bk ct) σ H := h
theorem l_retN (h : rt .non H) : tRetN (Ends.mk nx rt bk ct) σ H := h
theorem l_ifS (h : t σ H fun b H1 => if b = true then ts (Ends.mk nx rt bk ct) σ H1 else tu (Ends.mk nx rt bk ct) σ H1) : tIfS t ts tu (Ends.mk nx rt bk ct) σ H := h
theorem l_name {QS : St → Hp → Prop} (h : QS (σ.set i (some v)) H) : gName i v σ H QS := h
theorem l_var (e : σ[i]? = some (some v)) (h : Q v H) : tVar i σ H Q := ⟨v, e, h⟩
theorem l_c (h : Q v H) : tC v σ H Q := h
theorem l_op (h : ta σ H fun x H1 => tb σ H1 fun y H2 => r x y H2 Q) : tOp r ta tb σ H Q := h
theorem l_un {ru : V → Hp → VK → Prop} (h : ta σ H fun x H1 => ru x H1 Q) : tUn ru ta σ H Q := h
theorem l_I0 {f : Int → Int → V} {a b : Int} (h : Q (f a b) H) : rI0 f (.int a) (.int b) H Q := ⟨a, b, rfl, rfl, h⟩
theorem l_I {C : Int → Int → Prop} {f : Int → Int → V} {a b : Int} (c : C a b) (h : Q (f a b) H) : rI C f (.int a) (.int b) H Q := ⟨a, b, rfl, rfl, c, h⟩
theorem l_U {f : Int → V} {a : Int} (h : Q (f a) H) : rU f (.int a) H Q := ⟨a, rfl, h⟩
theorem l_eq (e : scal x y = true) (h : Q (.bl (decide (x = y))) H) : rEq x y H Q := ⟨e, h⟩
theorem l_ne (e : scal x y = true) (h : Q (.bl (!decide (x = y))) H) : rNe x y H Q := ⟨e, h⟩
theorem l_ixT {p : Addr} {xs : List V} {k : Int} (ht : SqT K H p xs) (ha : atI xs k = some v) (h : Q v H) : rIxT K (.ref p) (.int k) H Q := ⟨p, xs, k, v, rfl, rfl, ht, ha, h⟩
theorem l_ixL {p : Addr} {xs : List V} {k : Int} (ht : SqL K H p xs) (ha : atI xs k = some v) (h : Q v H) : rIxL K (.ref p) (.int k) H Q := ⟨p, xs, k, v, rfl, rfl, ht, ha, h⟩
theorem l_test (h : te σ H fun x H' => ∃ k, x = .bl k ∧ QT k H') : tTest te σ H QT := h
theorem l_tB (h : te σ H fun x H' => ∃ k, x = .bl k ∧ QT k H') : tB te σ H QT := h
theorem l_bl {k : Bool} {G : Bool → Prop} (h : G k) : ∃ c, V.bl k = .bl c ∧ G c := ⟨k, rfl, h⟩
theorem l_and (h : t σ H fun c H1 => if c = true then u σ H1 QT else QT false H1) : tAnd t u σ H QT := h
theorem l_or (h : t σ H fun c H1 => if c = true then QT true H1 else u σ H1 QT) : tOr t u σ H QT := h
theorem l_not (h : t σ H fun c H1 => QT (!c) H1) : tNot t σ H QT := h
theorem l_andV (h : ta σ H fun x H1 => ∃ c, x = .bl c ∧ if c = true then tb σ H1 Q else Q (.bl false) H1) : tAndV ta tb σ H Q := h
theorem l_orV (h : ta σ H fun x H1 => ∃ c, x = .bl c ∧ if c = true then Q (.bl true) H1 else tb σ H1 Q) : tOrV ta tb σ H Q := h
theorem l_notV (h : ta σ H fun x H1 => ∃ c, x = .bl c ∧ Q (.bl (!c)) H1) : tNotV ta σ H Q := h
theorem l_if (h : t σ H fun c H1 => if c = true then ta σ H1 Q else tb σ H1 Q) : tIf t ta tb σ H Q := h
theorem l_chain (h : ta σ H fun x H1 => tb σ H1 fun y H2 => r x y H2 fun z H3 => ∃ k, z = .bl k ∧ (if k = true then tc σ H3 fun w' H4 => r' y w' H4 Q else Q (.bl false) H3)) : tChain r r' ta tb tc σ H Q := h
theorem l_nil (h : QA [] H) : tNil σ H QA := h
theorem l_cons {tr : TA} (h : te σ H fun x H1 => tr σ H1 fun xs H2 => QA (x :: xs) H2) : tCons te tr σ H QA := h
theorem l_tup {tr : TA} (h : tr σ H fun xs H1 => NewO (.tup xs) xs.length H1 Q) : tTup tr σ H Q := h
theorem l_lst {tr : TA} (h : tr σ H fun xs H1 => NewO (.lst xs) xs.length H1 Q) : tLst tr σ H Q := h
theorem l_CB {rc : List V → Hp → VK → Prop} {tr : TA} (h : tr σ H fun xs H1 => rc xs H1 Q) : tCB rc tr σ H Q := h
theorem l_call {sp : Sp} {E : XK} {tr : TA} (h : tr σ H fun vs H1 => sp vs H1 Q E) : tCall sp [] E tr σ H Q := by
  have e : (fun (vs : List V) (H1 : Hp) => sp (vs ++ []) H1 Q E) = fun vs H1 => sp vs H1 Q E := by
    funext vs H1
    rw [List.append_nil]
  show tr σ H (fun vs H1 => sp (vs ++ []) H1 Q E)
  rw [e]
  exact h
theorem l_bm {T : String} {rm : V → List V → Hp → VK → Prop} {tr : TA} (h : ta σ H fun x H1 => tyV K T x H1 ∧ tr σ H1 fun xs H2 => rm x xs H2 Q) : tBM K T rm ta tr σ H Q := h
theorem l_bm0 {T : String} {rm : V → List V → Hp → VK → Prop} (h : ta σ H fun x H1 => tyV K T x H1 ∧ rm x [] H1 Q) : tBM0 K T rm ta σ H Q := h
theorem l_sl {rs : V → Option Int → Option Int → Hp → VK → Prop} {tl th : TO} (h : te σ H fun x H1 => tl σ H1 fun l H2 => th σ H2 fun u H3 => rs x l u H3 Q) : tSl rs te tl th σ H Q := h
theorem l_noPart {QO : Option Int → Hp → Prop} (h : QO none H) : tNoPart σ H QO := h
theorem l_part {QO : Option Int → Hp → Prop} (h : te σ H fun x H1 => ∃ k, x = .int k ∧ QO (some k) H1) : tPart te σ H QO := h
theorem l_isInt {G : Int → Prop} {k : Int} (h : G k) : ∃ c, V.int k = .int c ∧ G c := ⟨k, rfl, h⟩
theorem l_slT {p : Addr} {xs : List V} {lo hi : Option Int} (ht : SqT K H p xs) (hw : ¬ (HT.sIx xs.length 0 lo = 0 ∧ HT.sIx xs.length xs.length hi = xs.length)) (h : ∀ (q : Addr) (H' : Hp), H q = none → Same H H' → H' q = some (.tup (cutV xs lo hi)) → Q (.ref q) H') : rSlT K (.ref p) lo hi H Q :=
  ⟨p, xs, rfl, ht, hw, fun q hq => h q _ hq (sm_new hq _) upd_same⟩
theorem l_slL {p : Addr} {xs : List V} {lo hi : Option Int} (ht : SqL K H p xs) (h : ∀ (q : Addr) (H' : Hp), H q = none → Same H H' → H' q = some (.lst (cutV xs lo hi)) → Q (.ref q) H') : rSlL K (.ref p) lo hi H Q :=
  ⟨p, xs, rfl, ht, fun q hq => h q _ hq (sm_new hq _) upd_same⟩
theorem l_cat {p q : Addr} {xs ys : List V} (hp : H p = some (.lst xs)) (hq : H q = some (.lst ys)) (hn : xs.length + ys.length ≤ 100000) (h : ∀ (p' : Addr) (H' : Hp), H p' = none → Same H H' → H' p' = some (.lst (xs ++ ys)) → Q (.ref p') H') : rCat (.ref p) (.ref q) H Q :=
  ⟨p, q, xs, ys, rfl, rfl, hp, hq, Nat.le_trans hn (by decide), fun p' hp' => h p' _ hp' (sm_new hp' _) upd_same⟩
theorem l_in {neg : Bool} {p : Addr} {xs : List V} (ht : SqT K H p xs) (hx : flatV x = true) (ha : xs.all flatV = true) (h : Q (.bl (if neg then !inV x xs else inV x xs)) H) : rIn K neg x (.ref p) H Q := ⟨p, xs, rfl, .inr ht, hx, ha, h⟩
theorem l_gtup {n : Nat} {tg : TGs} {p : Addr} {xs : List V} {QS : St → Hp → Prop} (ht : SqT K H p xs) (hn : xs.length = n) (h : tg xs σ H QS) : gTup K n tg (.ref p) σ H QS := ⟨p, xs, rfl, ht, hn, h⟩
theorem l_gnil {QS : St → Hp → Prop} (h : QS σ H) : gNil [] σ H QS := ⟨rfl, h⟩
theorem l_gcons {tg : TG} {tgs : TGs} {vs : List V} {QS : St → Hp → Prop} (h : tg v σ H fun σ' H' => tgs vs σ' H' QS) : gCons tg tgs (v :: vs) σ H QS := ⟨v, vs, rfl, h⟩
theorem l_gsub {to ti : TE} {tset : TSet} {QS : St → Hp → Prop} (h : to σ H fun o H1 => ti σ H1 fun k H2 => tset o k v H2 fun H3 => QS σ H3) : gSub to ti tset v σ H QS := h
/-! tests that are known -/
theorem i_t {A B : Prop} {b : Bool} (e : b = true) (h : A) : if b = true then A else B := by
  rw [if_pos e]
  exact h
theorem i_f {A B : Prop} {b : Bool} (e : b = false) (h : B) : if b = true then A else B := by
  rw [if_neg (by rw [e]; exact Bool.false_ne_true)]
  exact h
theorem i_b {A B : Prop} {b : Bool} (h1 : b = true → A) (h2 : b = false → B) : if b = true then A else B := by
  cases b
  · rw [if_neg Bool.false_ne_true]
    exact h2 rfl
  · rw [if_pos rfl]
    exact h1 rfl
end
/-! named forms of the library's unnamed ones -/
def rLen (K : PySem.W.Frag) : List V → Hp → VK → Prop := fun xs H Q => ∃ p ys, xs = [.ref p] ∧ (SqL K H p ys ∨ SqT K H p ys) ∧ Q (.int ys.length) H
theorem call_rLen {X : Cx} : CallR X (.builtin "len") (rLen X.K) := call_len_seq
def rListOf (K : PySem.W.Frag) : List V → Hp → VK → Prop := fun xs H Q => ∃ p ys, xs = [.ref p] ∧ (SqL K H p ys ∨ SqT K H p ys) ∧ ∀ l, H l = none → Q (.ref l) (upd H l (.lst ys))
theorem call_rListOf {X : Cx} : CallR X (.type "list") (rListOf X.K) := call_list_of
def rTupleOf (K : PySem.W.Frag) : List V → Hp → VK → Prop := fun xs H Q => ∃ p ys, xs = [.ref p] ∧ ((SqL K H p ys ∧ ∀ l, H l = none → Q (.ref l) (upd H l (.tup ys))) ∨ (SqT K H p ys ∧ Q (.ref p) H))
theorem call_rTupleOf {X : Cx} : CallR X (.type "tuple") (rTupleOf X.K) := call_tuple_of
def rInt1 : List V → Hp → VK → Prop := fun xs H Q => (∃ i, xs = [.int i] ∧ Q (.int i) H) ∨ ∃ k, xs = [.bl k] ∧ Q (.int (if k then 1 else 0)) H
theorem call_rInt1 {X : Cx} : CallR X (.type "int") rInt1 := call_int1
section
variable {K : PySem.W.Frag} {w : World} {σ : St} {H : Hp} {Q : VK} {p : Addr} {xs : List V}
theorem l_lenT (h : SqT K H p xs) (q : Q (.int xs.length) H) : rLen K [.ref p] H Q := ⟨p, xs, rfl, .inr h, q⟩
theorem l_lenL (h : SqL K H p xs) (q : Q (.int xs.length) H) : rLen K [.ref p] H Q := ⟨p, xs, rfl, .inl h, q⟩
theorem l_listL (h : SqL K H p xs) (q : ∀ (l : Addr) (H' : Hp), H l = none → Same H H' → H' l = some (.lst xs) → Q (.ref l) H') : rListOf K [.ref p] H Q := ⟨p, xs, rfl, .inl h, fun l hl => q l _ hl (sm_new hl _) upd_same⟩
theorem l_tupleL (h : SqL K H p xs) (q : ∀ (l : Addr) (H' : Hp), H l = none → Same H H' → H' l = some (.tup xs) → Q (.ref l) H') : rTupleOf K [.ref p] H Q := ⟨p, xs, rfl, .inl ⟨h, fun l hl => q l _ hl (sm_new hl _) upd_same⟩⟩
theorem l_intB {b : Bool} (q : Q (.int (if b then 1 else 0)) H) : rInt1 [.bl b] H Q := .inr ⟨b, rfl, q⟩
theorem l_intI {i : Int} (q : Q (.int i) H) : rInt1 [.int i] H Q := .inl ⟨i, rfl, q⟩
theorem l_sum {ns : List Int} (h : SqL K H p (ns.map V.int)) (q : Q (.int ns.sum) H) : rSum K [.ref p] H Q := ⟨p, ns, rfl, h, q⟩
theorem l_all {bs : List Bool} (h : SqL K H p (bs.map V.bl)) (q : Q (.bl (bs.all id)) H) : rAll K [.ref p] H Q := ⟨p, bs, rfl, h, q⟩
theorem l_isi {x c : V} {t u : Value} {b : Bool} (hc : ClsV c u) (ht : TyX K H x t) (hk : PySem.W.kitOne K t u = some b) (q : Q (.bl b) H) : rIsi K [x, c] H Q := ⟨x, c, t, u, b, rfl, hc, ht, hk, q⟩
theorem ty_tup (h : H p = some (.tup xs)) : TyX K H (.ref p) (.type "tuple") := .base (.tup h)
theorem ty_lst (h : H p = some (.lst xs)) : TyX K H (.ref p) (.type "list") := .base (.lst h)
theorem ty_int {i : Int} : TyX K H (.int i) (.type "int") := .base (.int i)
theorem ty_bl {i : Bool} : TyX K H (.bl i) (.type "bool") := .base (.bl i)
theorem ty_str {i : Str} : TyX K H (.str i) (.type "str") := .base (.str i)
theorem ty_non : TyX K H .non (.type "NoneType") := .base .non
theorem l_ixD {a : Addr} {z : Str} {v : V} (h : KDct K w a z v) (q : Q v H) : rIxD K w (.ref a) (.str z) H Q := ⟨a, z, v, rfl, rfl, h, q⟩
end
/-! more named forms -/
def rAddStr : R2 := fun x y H Q => ∃ i j, x = .str i ∧ y = .str j ∧ i.length + j.length ≤ sizeLine ∧ Q (.str (i ++ j)) H
def rIsNone : R2 := fun x y H Q => y = .non ∧ Q (.bl (decide (x = .non))) H
def rNotNone : R2 := fun x y H Q => y = .non ∧ Q (.bl (!decide (x = .non))) H
def rInStr : R2 := fun x y H Q => ∃ i j, x = .str i ∧ y = .str j ∧ Q (.bl (!(Builtin.Str.occurrences j i 0 j.length 1).isEmpty)) H
def rNotInStr : R2 := fun x y H Q => ∃ i j, x = .str i ∧ y = .str j ∧ Q (.bl (!(!(Builtin.Str.occurrences j i 0 j.length 1).isEmpty))) H
def rLenStr : List V → Hp → VK → Prop := fun xs H Q => ∃ z, xs = [.str z] ∧ z.length ≤ sizeLine ∧ Q (.int z.length) H
theorem l_isNone {x : V} {H : Hp} {Q : VK} (h : Q (.bl (decide (x = .non))) H) : rIsNone x .non H Q := ⟨rfl, h⟩
theorem l_notNone {x : V} {H : Hp} {Q : VK} (h : Q (.bl (!decide (x = .non))) H) : rNotNone x .non H Q := ⟨rfl, h⟩
/-! loops and comprehensions -/
theorem sm_mut {H H' : Hp} {p : Addr} {o : HO} (e : Same H H') (h : H p = none) : Same H (upd H' p o) := fun a u ha => by
  rw [upd_ne (ne_of_none ha h)]
  exact e a u ha
theorem take_snoc {α : Type} {l : List α} {i : Nat} {x : α} (h : l[i]? = some x) : l.take (i + 1) = l.take i ++ [x] := by
  rw [List.take_add_one, h]
  rfl
def LcB (g : TG) (tt : TT) (te : TE) (vs : List Nat) (σ : St) (Q : VK) : It → Hp → Prop := fun J H1 => ∀ D, H1 D = none → ∃ W : Nat → Nat → Hp → Prop, (∃ m, W 0 m (upd H1 D (.lst []))) ∧ ∀ i m H, W i m H →
  (J.stop i H ∧ Q (.ref D) H) ∨ (J.go i H ∧ ∃ Nx : Hp → Prop, (∀ H', Nx H' → ∃ m', m' < m ∧ W (i + 1) m' H') ∧ ∀ x H', J.yld i H x H' → g x (wipe σ vs) H' fun σ2 H2 => wipe σ2 vs = wipe σ vs ∧ tt σ2 H2 fun b H3 =>
    if b = true then te σ2 H3 fun y H4 => ∃ acc, H4 D = some (.lst acc) ∧ acc.length < sizeLine ∧ Nx (upd H4 D (.lst (acc ++ [y]))) else Nx H3)
def ForB (g : TG) (tb : TS) (D : Ends) (σ0 : St) : It → Hp → Prop := fun J H1 => ∃ W : Nat → Nat → St → Hp → Prop, (∃ m, W 0 m σ0 H1) ∧ ∀ i m σ H, W i m σ H →
  (J.stop i H ∧ D.nx σ H) ∨ (J.go i H ∧ ∃ N : St → Hp → Prop, (∀ σ' H', N σ' H' → ∃ m', m' < m ∧ W (i + 1) m' σ' H') ∧ ∀ x H', J.yld i H x H' → g x σ H' fun σ2 H2 => tb { D with nx := N, ct := N, bk := D.nx } σ2 H2)
def IT (K : PySem.W.Frag) (x : V) (H : Hp) (R : It → Hp → Prop) : Prop := ∃ a, x = .ref a ∧ (∃ xs, SqT K H a xs) ∧ R (Itt K a) H
def IL (K : PySem.W.Frag) (x : V) (H : Hp) (R : It → Hp → Prop) : Prop := ∃ a, x = .ref a ∧ (∃ xs, SqL K H a xs) ∧ R (Itl K a) H
def IR1 (vs : List V) (H : Hp) (R : It → Hp → Prop) : Prop := ∃ j : Int, vs = [.int j] ∧ -(2 ^ 62) ≤ j ∧ j < 2 ^ 62 ∧ R (Itr 0 j.toNat) H
def IR2 (vs : List V) (H : Hp) (R : It → Hp → Prop) : Prop := ∃ i j : Int, vs = [.int i, .int j] ∧ (-(2 ^ 62) ≤ i ∧ i < 2 ^ 62 ∧ -(2 ^ 62) ≤ j ∧ j < 2 ^ 62) ∧ R (Itr i (j - i).toNat) H
section
variable {K : PySem.W.Frag} {w : World} {σ : St} {H : Hp} {Q : VK} {nx bk ct : St → Hp → Prop} {rt : VK} {te tl : TE} {tt : TT} {tb : TS} {g : TG} {j : Nat} {vs : List Nat} {ta : TA} {wi : TI} {R : It → Hp → Prop} {D : Ends}
theorem l_lc (h : wi σ H (LcB g tt te vs σ Q)) : tLc wi g tt te vs σ H Q := h
theorem l_for (h : wi σ H (ForB g tb D σ)) : tFor wi g tb D σ H := h
theorem l_iTup (h : tl σ H fun x H1 => IT K x H1 R) : iTup K tl σ H R := h
theorem l_iList (h : tl σ H fun x H1 => IL K x H1 R) : iList K tl σ H R := h
theorem l_iRng1 (h : ta σ H fun vs H1 => IR1 vs H1 R) : iRng1 ta σ H R := h
theorem l_iRng2 (h : ta σ H fun vs H1 => IR2 vs H1 R) : iRng2 ta σ H R := h
/-- [e for x in ..], every item's value known, nothing that was known changes: the turns -/
def LcTurns (te : TE) (vs : List Nat) (σ : St) (j : Nat) (H1 : Hp) (xs ys : List V) : Prop :=
  ys.length = xs.length ∧ ∀ (i : Nat) (x y : V) H' (Q' : VK), xs[i]? = some x → ys[i]? = some y → Same H1 H' → (∀ H'', Same H' H'' → Q' y H'') → te ((wipe σ vs).set j (some x)) H' Q'
theorem lc_turn {te : TE} {vs : List Nat} {σ : St} {j : Nat} {H1 : Hp} {xs ys : List V} {D : Addr} (hD : H1 D = none) (hl : xs.length ≤ 100000) (h : LcTurns te vs σ j H1 xs ys) {i : Nat} {x : V} {H' : Hp} (hx : xs[i]? = some x)
    (p : Same H1 H' ∧ H' D = some (.lst (ys.take i))) :
    te ((wipe σ vs).set j (some x)) H' fun y H4 => ∃ acc, H4 D = some (.lst acc) ∧ acc.length < sizeLine ∧ (Same H1 (upd H4 D (.lst (acc ++ [y]))) ∧ upd H4 D (.lst (acc ++ [y])) D = some (.lst (ys.take (i + 1)))) := by
  have hi := (List.getElem?_eq_some_iff.mp hx).1
  have hy : ∃ y, ys[i]? = some y := ⟨ys[i]'(by rw [h.1]; exact hi), List.getElem?_eq_getElem _⟩
  obtain ⟨y, hy⟩ := hy
  refine h.2 i x y H' _ hx hy p.1 fun H'' g => ?_
  refine ⟨ys.take i, g _ _ p.2, ?_, sm_mut (p.1.trans g) hD, ?_⟩
  · rw [List.length_take]
    exact Nat.lt_of_le_of_lt (Nat.le_trans (Nat.min_le_left _ _) (Nat.le_trans (Nat.le_of_lt hi) hl)) (by decide)
  · rw [upd_same, take_snoc hy]
theorem lcT {a : Addr} {xs ys : List V} (hw : ∀ x, wipe ((wipe σ vs).set j (some x)) vs = wipe σ vs) (ht : SqT K H a xs) (hl : xs.length ≤ 100000) (h : LcTurns te vs σ j H xs ys) (q : ∀ D H2, H D = none → Same H H2 → H2 D = some (.lst ys) → Q (.ref D) H2) :
    IT K (.ref a) H (LcB (gName j) tYes te vs σ Q) :=
  ⟨a, rfl, ⟨xs, ht⟩, fun D hD => lc_tup (K := K) (a := a) (xs := xs) (fun i H' => Same H H' ∧ H' D = some (.lst (ys.take i))) ⟨sm_new hD _, upd_same⟩ (fun i H' _ p => sm_t p.1 ht)
    (fun i x H' hx p => ⟨hw x, lc_turn hD hl h hx p⟩) fun H' p => q D H' hD p.1 (by have e := p.2; rw [← h.1, List.take_length] at e; exact e)⟩
theorem lcL {a : Addr} {xs ys : List V} (hw : ∀ x, wipe ((wipe σ vs).set j (some x)) vs = wipe σ vs) (ht : SqL K H a xs) (hl : xs.length ≤ 100000) (h : LcTurns te vs σ j H xs ys) (q : ∀ D H2, H D = none → Same H H2 → H2 D = some (.lst ys) → Q (.ref D) H2) :
    IL K (.ref a) H (LcB (gName j) tYes te vs σ Q) :=
  ⟨a, rfl, ⟨xs, ht⟩, fun D hD => lc_list (K := K) (a := a) (xs := xs) (fun i H' => Same H H' ∧ H' D = some (.lst (ys.take i))) ⟨sm_new hD _, upd_same⟩ (fun i H' _ p => sm_l p.1 ht)
    (fun i x H' hx p => ⟨hw x, lc_turn hD hl h hx p⟩) fun H' p => q D H' hD p.1 (by have e := p.2; rw [← h.1, List.take_length] at e; exact e)⟩
/-- over range(n) -/
def irs (n : Nat) : List V := (List.range n).map vI where vI (i : Nat) : V := .int (0 + (i : Int))
theorem irs_at {n i : Nat} (h : i < n) : (irs n)[i]? = some (.int (0 + (i : Int))) := by
  unfold irs
  rw [List.getElem?_map, List.getElem?_range h]
  rfl
theorem lcR {n : Nat} {ys : List V} (hw : ∀ x, wipe ((wipe σ vs).set j (some x)) vs = wipe σ vs) (hl : n ≤ 100000) (h : LcTurns te vs σ j H (irs n) ys) (q : ∀ D H2, H D = none → Same H H2 → H2 D = some (.lst ys) → Q (.ref D) H2) :
    IR1 [.int (n : Int)] H (LcB (gName j) tYes te vs σ Q) := by
  have hz : (irs n).length = n := by unfold irs; rw [List.length_map, List.length_range]
  refine ⟨(n : Int), rfl, ?_, ?_, ?_⟩
  · have : (0 : Int) ≤ 2 ^ 62 := by decide
    omega
  · have : (100000 : Int) < 2 ^ 62 := by decide
    omega
  · intro D hD
    rw [Int.toNat_natCast]
    refine lc_range (lo := 0) (n := n) (fun i H' => Same H H' ∧ H' D = some (.lst (ys.take i))) ⟨sm_new hD _, upd_same⟩ (fun i H' hi p => ⟨hw _, ?_⟩) fun H' p => q D H' hD p.1 ?_
    · exact lc_turn (xs := irs n) hD (by rw [hz]; exact hl) h (irs_at hi) p
    · have e := p.2
      rw [← hz, ← h.1, List.take_length] at e
      exact e
/-! for -/
theorem forT {a : Addr} {xs : List V} (Pv : Nat → St → Hp → Prop) (h0 : Pv 0 σ H) (hx : SqT K H a xs) (hl : ∀ i σ' H', i ≤ xs.length → Pv i σ' H' → SqT K H' a xs) (hs : ∀ i x σ' H', xs[i]? = some x → Pv i σ' H' → g x σ' H' fun σ2 H2 => tb (Ends.mk (Pv (i + 1)) rt nx (Pv (i + 1))) σ2 H2) (hd : ∀ σ' H', Pv xs.length σ' H' → nx σ' H') :
    IT K (.ref a) H (ForB g tb (Ends.mk nx rt bk ct) σ) := ⟨a, rfl, ⟨xs, hx⟩, for_tup (D := Ends.mk nx rt bk ct) Pv h0 hl hs hd⟩
theorem forL {a : Addr} {xs : List V} (Pv : Nat → St → Hp → Prop) (h0 : Pv 0 σ H) (hx : SqL K H a xs) (hl : ∀ i σ' H', i ≤ xs.length → Pv i σ' H' → SqL K H' a xs) (hs : ∀ i x σ' H', xs[i]? = some x → Pv i σ' H' → g x σ' H' fun σ2 H2 => tb (Ends.mk (Pv (i + 1)) rt nx (Pv (i + 1))) σ2 H2) (hd : ∀ σ' H', Pv xs.length σ' H' → nx σ' H') :
    IL K (.ref a) H (ForB g tb (Ends.mk nx rt bk ct) σ) := ⟨a, rfl, ⟨xs, hx⟩, for_list (D := Ends.mk nx rt bk ct) Pv h0 hl hs hd⟩
theorem forR {n : Nat} (hn : n ≤ 100000) (Pv : Nat → St → Hp → Prop) (h0 : Pv 0 σ H) (hs : ∀ i σ' H', i < n → Pv i σ' H' → g (.int (0 + (i : Int))) σ' H' fun σ2 H2 => tb (Ends.mk (Pv (i + 1)) rt nx (Pv (i + 1))) σ2 H2) (hd : ∀ σ' H', Pv n σ' H' → nx σ' H') :
    IR1 [.int (n : Int)] H (ForB g tb (Ends.mk nx rt bk ct) σ) := by
  refine ⟨(n : Int), rfl, ?_, ?_, ?_⟩
  · have : (0 : Int) ≤ 2 ^ 62 := by decide
    omega
  · have : (100000 : Int) < 2 ^ 62 := by decide
    omega
  · rw [Int.toNat_natCast]
    exact for_range (D := Ends.mk nx rt bk ct) (lo := 0) (n := n) Pv h0 hs hd
/-- while -/
theorem l_while {t : TT} (Pv : St → Hp → Prop) (μ : St → Hp → Nat) (h0 : Pv σ H) (hs : ∀ σ' H', Pv σ' H' → t σ' H' fun b H1 => if b = true then tb (Ends.mk (fun σ2 H2 => Pv σ2 H2 ∧ μ σ2 H2 < μ σ' H') rt nx (fun σ2 H2 => Pv σ2 H2 ∧ μ σ2 H2 < μ σ' H')) σ' H1 else nx σ' H1)
    (hm : ∀ (σ : St) (H : Hp) (Q Q' : Bool → Hp → Prop), (∀ (b : Bool) (H1 : Hp), Q b H1 → Q' b H1) → t σ H Q → t σ H Q') :
    tWhile t tb (Ends.mk nx rt bk ct) σ H := while_by (D := Ends.mk nx rt bk ct) Pv μ h0 hs hm
end
section
variable {K : PySem.W.Frag} {w : World} {σ : St} {H : Hp} {Q : VK} {p : Addr} {xs : List V}
theorem l_ty {G : Prop} (h : SqL K H p xs) (q : G) : tyV K "list" (.ref p) H ∧ G := ⟨Or.inl ⟨rfl, _, h⟩, q⟩
theorem l_append {y : V} (h : H p = some (.lst xs)) (hn : xs.length < 100000) (q : Q .non (upd H p (.lst (xs ++ [y])))) : rAppend (.ref p) [y] H Q := ⟨p, xs, y, rfl, rfl, h, Nat.lt_of_lt_of_le hn (by decide), q⟩
theorem l_setL {k : Int} {i : Nat} {y : V} {Q' : Hp → Prop} (h : H p = some (.lst xs)) (hk : ixN xs.length k = some i) (q : Q' (upd H p (.lst (xs.set i y)))) : rSetL (.ref p) (.int k) y H Q' := ⟨p, xs, k, i, rfl, rfl, h, hk, q⟩
theorem l_max {ns : List Int} (h : SqL K H p (ns.map V.int)) (hn : 0 < ns.length) (q : ∀ m, m ∈ ns → (∀ y, y ∈ ns → y ≤ m) → Q (.int m) H) : rMax K [.ref p] H Q := ⟨p, ns, rfl, h, hn, q⟩
theorem l_pop0 {x : V} (h : H p = some (.lst (x :: xs))) (q : Q x (upd H p (.lst xs))) : rPopAt (.ref p) [.int 0] H Q :=
  ⟨p, x :: xs, 0, 0, x, rfl, rfl, h, by decide, by decide, by
    unfold seqIndex?
    simp, rfl, q⟩
theorem l_eqD {x y : V} {d e : PyData} (hx : Dp K H x d) (hy : Dp K H y e) (s1 : SeqAt.shaped d = true) (s2 : SeqAt.shaped e = true) (q : Q (.bl (PyData.eqv d e)) H) : rEqD K x y H Q := ⟨d, e, hx, hy, s1, s2, q⟩
theorem l_neD {x y : V} {d e : PyData} (hx : Dp K H x d) (hy : Dp K H y e) (s1 : SeqAt.shaped d = true) (s2 : SeqAt.shaped e = true) (q : Q (.bl (!PyData.eqv d e)) H) : rNeD K x y H Q := ⟨d, e, hx, hy, s1, s2, q⟩
end
theorem ix0 {n : Nat} (h : 0 < n) : ixN n 0 = some 0 := by
  unfold ixN
  rw [if_pos (Int.le_refl 0), if_pos (by omega)]
  rfl
theorem at0 {α : Type} {x : α} {xs : List α} : atI (x :: xs) 0 = some x := by
  unfold atI
  rw [ix0 (by simp)]
  rfl
theorem ixNat {n i : Nat} (h : i < n) : ixN n (i : Int) = some i := by
  unfold ixN
  rw [if_pos (by omega), if_pos (by omega)]
  rfl
/-! while, by a measure -/
def WB (W : Nat → St → Hp → Prop) (m : Nat) (tb : TS) (rt : VK) (nx : St → Hp → Prop) (σ : St) : Bool → Hp → Prop := fun b H1 =>
  if b = true then ∃ N : St → Hp → Prop, (∀ σ' H', N σ' H' → ∃ m', m' < m ∧ W m' σ' H') ∧ tb (Ends.mk N rt nx N) σ H1 else nx σ H1
theorem l_whileN {t : TT} {tb : TS} {σ : St} {H : Hp} {nx bk ct : St → Hp → Prop} {rt : VK} (W : Nat → St → Hp → Prop) (m0 : Nat) (h0 : W m0 σ H) (hs : ∀ m σ' H', W m σ' H' → t σ' H' (WB W m tb rt nx σ')) : tWhile t tb (Ends.mk nx rt bk ct) σ H := ⟨W, ⟨m0, h0⟩, hs⟩
theorem wb {W : Nat → St → Hp → Prop} {m : Nat} {tb : TS} {rt : VK} {nx : St → Hp → Prop} {σ : St} {b : Bool} {H1 : Hp} (h1 : b = true → tb (Ends.mk (fun σ2 H2 => ∃ m', m' < m ∧ W m' σ2 H2) rt nx (fun σ2 H2 => ∃ m', m' < m ∧ W m' σ2 H2)) σ H1) (h2 : b = false → nx σ H1) : WB W m tb rt nx σ b H1 := by
  cases b
  · exact i_f rfl (h2 rfl)
  · exact i_t rfl ⟨_, fun _ _ h => h, h1 rfl⟩
end J

namespace J
open PySem L2
/-! conditions -/
inductive Cond where
  | look (i : Nat)
  | not (c : Cond)
  | bin (a : Bool) (l r : Cond)
  deriving DecidableEq
def wd : Bool → Str
  | true => "and"
  | false => "or"
def Cond.deep : Cond → Nat
  | .look _ => 0
  | .not c => c.deep + 1
  | .bin _ l r => max l.deep r.deep + 1
def Cond.looks : Cond → Nat
  | .look _ => 1
  | .not c => c.looks
  | .bin _ l r => l.looks + r.looks
def Cond.ok : Cond → Prop
  | .look i => i < 8
  | .not c => c.ok
  | .bin _ l r => l.ok ∧ r.ok
def vn (k : Nat) : V := .int (k : Int)
def bi (b : Bool) : Int := if b then 1 else 0
def vb (b : Bool) : V := .int (bi b)
/-- a condition at a value -/
inductive CA (H : Hp) : V → Cond → Prop
  | look {p : Addr} {i : Nat} : H p = some (.tup [.str "look", vn i]) → CA H (.ref p) (.look i)
  | not {p : Addr} {v : V} {c : Cond} : H p = some (.tup [.str "not", v]) → CA H v c → CA H (.ref p) (.not c)
  | bin {p : Addr} {a : Bool} {v u : V} {c d : Cond} : H p = some (.tup [.str (wd a), v, u]) → CA H v c → CA H u d → CA H (.ref p) (.bin a c d)
theorem CA.tups {H H' : Hp} (g : Tups H H') {v : V} {c : Cond} (h : CA H v c) : CA H' v c := by
  induction h with
  | look e => exact .look (g _ _ e)
  | not e _ ih => exact .not (g _ _ e) ih
  | bin e _ _ i1 i2 => exact .bin (g _ _ e) i1 i2
theorem CA.mono {H H' : Hp} (g : Same H H') {v : V} {c : Cond} (h : CA H v c) : CA H' v c := h.tups (Same.tups g)
/-- what a condition comes to, and the looks -/
def ev (ws : List Bool) : Cond → Bool × List Nat
  | .look i => (ws.getD i false, [i])
  | .not c => (!(ev ws c).1, (ev ws c).2)
  | .bin a l r => if (ev ws l).1 = a then ((ev ws r).1, (ev ws l).2 ++ (ev ws r).2) else ev ws l
theorem ev_len (ws : List Bool) (c : Cond) : (ev ws c).2.length ≤ c.looks := by
  induction c with
  | look i => exact Nat.le_refl _
  | not c ih => exact ih
  | bin a l r i1 i2 =>
    unfold ev Cond.looks
    split
    · simp only [List.length_append]; omega
    · omega
theorem looks_deep (c : Cond) : c.looks ≤ 2 ^ c.deep := by
  induction c with
  | look i => exact Nat.le_refl _
  | not c ih => exact Nat.le_trans ih (Nat.pow_le_pow_right (by decide) (Nat.le_succ _))
  | bin a l r i1 i2 =>
    unfold Cond.looks Cond.deep
    have h1 := Nat.pow_le_pow_right (n := 2) (by decide) (Nat.le_max_left l.deep r.deep)
    have h2 := Nat.pow_le_pow_right (n := 2) (by decide) (Nat.le_max_right l.deep r.deep)
    rw [Nat.pow_succ]; omega
theorem bi_not (b : Bool) : 1 - bi b = bi (!b) := by cases b <;> rfl
theorem at_map {α : Type} {f : α → V} {ws : List α} {i : Nat} {d : α} (h : i < ws.length) : atI (ws.map f) (i : Int) = some (f (ws.getD i d)) := by
  refine atI_nat ?_
  rw [List.getElem?_map, List.getD_eq_getElem?_getD, List.getElem?_eq_getElem h]
  rfl
/-- worths at a value -/
def WA (H : Hp) (v : V) (ws : List Bool) : Prop := ∃ a, v = .ref a ∧ H a = some (.tup (ws.map vb)) ∧ ws.length = 8
theorem WA.tups {H H' : Hp} (g : Tups H H') {v : V} {ws : List Bool} (h : WA H v ws) : WA H' v ws := by
  obtain ⟨a, e, q, l⟩ := h
  exact ⟨a, e, g _ _ q, l⟩
theorem WA.mono {H H' : Hp} (g : Same H H') {v : V} {ws : List Bool} (h : WA H v ws) : WA H' v ws := h.tups (Same.tups g)
/-- (a worth, things looked at): a tuple, with a list that is new -/
def Told (H H' : Hp) (v : V) (x : Bool × List Nat) : Prop := ∃ p l, v = .ref p ∧ H l = none ∧ H' p = some (.tup [vb x.1, .ref l]) ∧ H' l = some (.lst (x.2.map vn))
theorem told_mk {H H' : Hp} {p l : Addr} {x : Bool × List Nat} (hp : H' p = some (.tup [vb x.1, .ref l])) (hl : H' l = some (.lst (x.2.map vn))) (h0 : H l = none) : Told H H' (.ref p) x := ⟨p, l, rfl, h0, hp, hl⟩
end J

namespace J
open PySem L2
/-! data -/
theorem dp_ints {K : PySem.W.Frag} {H : Hp} : ∀ ns : List Int, DpAll K H (ns.map V.int) (ns.map PyData.int)
  | [] => .nil
  | n :: r => .cons (.int n) (dp_ints r)
theorem dp_vn {K : PySem.W.Frag} {H : Hp} : ∀ ns : List Nat, DpAll K H (ns.map vn) (ns.map fun (k : Nat) => PyData.int (k : Int))
  | [] => .nil
  | n :: r => .cons (.int n) (dp_vn r)
theorem lay_ints : ∀ ns : List Int, PyData.canLayAll0 (ns.map PyData.int) = true
  | [] => rfl
  | n :: r => by
    show (true && PyData.canLayAll0 (r.map PyData.int)) = true
    rw [lay_ints r]; rfl
theorem dep_ints : ∀ ns : List Int, PyData.depthAll (ns.map PyData.int) = 0
  | [] => rfl
  | n :: r => by
    show max _ (PyData.depthAll (r.map PyData.int)) = 0
    rw [dep_ints r]; rfl
theorem shaped_ints (ns : List Int) : SeqAt.shaped (.list (ns.map PyData.int)) = true := by
  show (PyData.canLayAll0 (ns.map PyData.int) && decide (PyData.depthAll (ns.map PyData.int) + 1 ≤ 64)) = true
  rw [lay_ints, dep_ints]; rfl
theorem lay_vn : ∀ ns : List Nat, PyData.canLayAll0 (ns.map fun (k : Nat) => PyData.int (k : Int)) = true
  | [] => rfl
  | n :: r => by
    show (true && PyData.canLayAll0 (r.map fun (k : Nat) => PyData.int (k : Int))) = true
    rw [lay_vn r]; rfl
theorem dep_vn : ∀ ns : List Nat, PyData.depthAll (ns.map fun (k : Nat) => PyData.int (k : Int)) = 0
  | [] => rfl
  | n :: r => by
    show max _ (PyData.depthAll (r.map fun (k : Nat) => PyData.int (k : Int))) = 0
    rw [dep_vn r]; rfl
theorem Dp.mono {K : PySem.W.Frag} {H H' : Hp} (g : Same H H') : ∀ {v : V} {d : PyData}, Dp K H v d → Dp K H' v d := by
  intro v d h
  refine Dp.rec (motive_1 := fun v d _ => Dp K H' v d) (motive_2 := fun vs ds _ => DpAll K H' vs ds) ?_ ?_ ?_ ?_ ?_ ?_ ?_ ?_ h
  · exact .non
  · intro b; exact .bl b
  · intro i; exact .int i
  · intro x; exact .str x
  · intro a xs ds hl _ ih; exact .lst (sm_l g hl) ih
  · intro a xs ds hl _ ih; exact .tup (sm_t g hl) ih
  · exact .nil
  · intro v vs d ds _ _ i1 i2; exact .cons i1 i2
/-! one object may change -/
def But (p : Addr) (H H' : Hp) : Prop := ∀ a o, a ≠ p → H a = some o → H' a = some o
theorem but_upd {H : Hp} {p : Addr} {o : HO} : But p H (upd H p o) := fun a u n h => by rw [upd_ne n]; exact h
theorem l_setL' {K : PySem.W.Frag} {H : Hp} {p : Addr} {xs : List V} {k : Int} {i : Nat} {y : V} {Q' : Hp → Prop} (h : H p = some (.lst xs)) (hk : ixN xs.length k = some i) (q : ∀ H', But p H H' → H' p = some (.lst (xs.set i y)) → Q' H') : rSetL (.ref p) (.int k) y H Q' := l_setL h hk (q _ but_upd upd_same)
theorem l_append' {H : Hp} {p : Addr} {xs : List V} {y : V} {Q : VK} (h : H p = some (.lst xs)) (hn : xs.length < 100000) (q : ∀ H', But p H H' → H' p = some (.lst (xs ++ [y])) → Q .non H') : rAppend (.ref p) [y] H Q := l_append h hn (q _ but_upd upd_same)
theorem l_pop0' {H : Hp} {p : Addr} {xs : List V} {x : V} {Q : VK} (h : H p = some (.lst (x :: xs))) (q : ∀ H', But p H H' → H' p = some (.lst xs) → Q x H') : rPopAt (.ref p) [.int 0] H Q := l_pop0 h (q _ but_upd upd_same)
/-! the box: [numbers, stirred] -/
structure Bx (H : Hp) (b l : Addr) (ns : List Int) (s : Int) : Prop where
  ne : b ≠ l
  hb : H b = some (.lst [.ref l, .int s])
  hl : H l = some (.lst (ns.map V.int))
  s0 : 0 ≤ s
  s1 : s < 2147483647
  n63 : ns.length ≤ 63
/-- all but the box stands -/
def Fr (b l : Addr) (H H' : Hp) : Prop := ∀ a o, a ≠ b → a ≠ l → H a = some o → H' a = some o
theorem Fr.of {b l : Addr} {H H' : Hp} (g : Same H H') : Fr b l H H' := fun a o _ _ h => g a o h
theorem Fr.b {b l : Addr} {H H' : Hp} (g : But b H H') : Fr b l H H' := fun a o n _ h => g a o n h
theorem Fr.l {b l : Addr} {H H' : Hp} (g : But l H H') : Fr b l H H' := fun a o _ n h => g a o n h
theorem Fr.refl {b l : Addr} (H : Hp) : Fr b l H H := fun _ _ _ _ h => h
theorem Fr.trans {b l : Addr} {H H1 H2 : Hp} (x : Fr b l H H1) (y : Fr b l H1 H2) : Fr b l H H2 := fun a o n m h => y a o n m (x a o n m h)
theorem Fr.at {b l a : Addr} {H H' : Hp} {o : HO} (g : Fr b l H H') (n : a ≠ b) (m : a ≠ l) (h : H a = some o) : H' a = some o := g a o n m h
theorem Bx.tups {H H' : Hp} {b l : Addr} {ns : List Int} {s : Int} (x : Bx H b l ns s) (g : Fr b l H H') : Tups H H' := fun a xs h => g a _ (ne_of h x.hb (by intro e; cases e)) (ne_of h x.hl (by intro e; cases e)) h
theorem Bx.same {H H' : Hp} {b l : Addr} {ns : List Int} {s : Int} (x : Bx H b l ns s) (g : Same H H') : Bx H' b l ns s := ⟨x.ne, g _ _ x.hb, g _ _ x.hl, x.s0, x.s1, x.n63⟩
/-! data of some height -/
def okd : Nat → PyData → Prop
  | 0, _ => False
  | n + 1, .list ds => ds.length ≤ 1000 ∧ ∀ x ∈ ds, okd n x
  | n + 1, .tuple ds => ds.length ≤ 1000 ∧ ∀ x ∈ ds, okd n x
  | _ + 1, .dict _ => False
  | _ + 1, _ => True
theorem DpAll.len {K : PySem.W.Frag} {H : Hp} : ∀ {xs : List V} {ds : List PyData}, DpAll K H xs ds → xs.length = ds.length
  | _, _, .nil => rfl
  | _, _, .cons _ t => by rw [List.length_cons, List.length_cons, DpAll.len t]
theorem DpAll.get {K : PySem.W.Frag} {H : Hp} : ∀ {xs : List V} {ds : List PyData} {i : Nat}, DpAll K H xs ds → i < ds.length → ∃ x d, xs[i]? = some x ∧ ds[i]? = some d ∧ Dp K H x d
  | _, _, _, .nil, h => absurd h (Nat.not_lt_zero _)
  | _, _, 0, .cons a _, _ => ⟨_, _, rfl, rfl, a⟩
  | _, _, i + 1, .cons _ t, h => by
    obtain ⟨x, d, h1, h2, h3⟩ := DpAll.get (i := i) t (Nat.lt_of_succ_lt_succ h)
    exact ⟨x, d, h1, h2, h3⟩
theorem ty_sqL {K : PySem.W.Frag} {H : Hp} {a : Addr} {xs : List V} (h : SqL K H a xs) : TyX K H (.ref a) (.type "list") := by
  rcases h with (h | ⟨o, h⟩) | ⟨o, its, n, h, c, _⟩
  · exact .base (.lst h)
  · exact .base (.frz h)
  · exact .kList h c
theorem ty_sqT {K : PySem.W.Frag} {H : Hp} {a : Addr} {xs : List V} (h : SqT K H a xs) : TyX K H (.ref a) (.type "tuple") := by
  rcases h with (h | ⟨o, h⟩) | ⟨o, its, n, h, c, _⟩
  · exact .base (.tup h)
  · exact .fTuple h
  · exact .kTuple h c
theorem l_ixSL {K : PySem.W.Frag} {H : Hp} {Q : VK} {p : Addr} {xs : List V} {k : Int} {v : V} (ht : SqL K H p xs) (ha : atI xs k = some v) (h : Q v H) : rIx K (.ref p) (.int k) H Q := .inl ⟨p, xs, k, v, rfl, rfl, ht, ha, h⟩
theorem l_ixST {K : PySem.W.Frag} {H : Hp} {Q : VK} {p : Addr} {xs : List V} {k : Int} {v : V} (ht : SqT K H p xs) (ha : atI xs k = some v) (h : Q v H) : rIx K (.ref p) (.int k) H Q := .inr (.inl ⟨p, xs, k, v, rfl, rfl, ht, ha, h⟩)
theorem But.tups {p : Addr} {H H' : Hp} {xs : List V} (g : But p H H') (h : H p = some (.lst xs)) : Tups H H' := fun a ys e => g a _ (fun z => by subst z; rw [h] at e; cases e) e
theorem Bx.but {p b l : Addr} {H H' : Hp} {ns : List Int} {s : Int} (x : Bx H b l ns s) (g : But p H H') (n1 : b ≠ p) (n2 : l ≠ p) : Bx H' b l ns s := ⟨x.ne, g _ _ n1 x.hb, g _ _ n2 x.hl, x.s0, x.s1, x.n63⟩
/-- what is told, as data -/
def dTold (x : Bool × List Nat) : PyData := .tuple [.int (bi x.1), .list (x.2.map fun (k : Nat) => PyData.int (k : Int))]
theorem dp_told {K : PySem.W.Frag} {H H' : Hp} {v : V} {x : Bool × List Nat} (h : Told H H' v x) : Dp K H' v (dTold x) := by
  obtain ⟨p, l, rfl, h0, hp, hl⟩ := h
  exact .tup (SqT.of hp) (.cons (.int _) (.cons (.lst (SqL.of hl) (dp_vn _)) .nil))
theorem lay_told (x : Bool × List Nat) : (dTold x).canLay0 = true := by
  show (true && ((PyData.canLayAll0 (x.2.map fun (k : Nat) => PyData.int (k : Int))) && true)) = true
  rw [lay_vn]; rfl
theorem shaped_told (x : Bool × List Nat) : SeqAt.shaped (dTold x) = true := by
  show ((dTold x).canLay0 && decide ((max 0 (max (PyData.depthAll (x.2.map fun (k : Nat) => PyData.int (k : Int)) + 1) 0)) + 1 ≤ 64)) = true
  rw [lay_told, dep_vn]; rfl
theorem ok_told {x : Bool × List Nat} (h : x.2.length ≤ 1000) : okd 3 (dTold x) := by
  refine ⟨by show 2 ≤ 1000; decide, fun y hy => ?_⟩
  rcases List.mem_cons.mp hy with rfl | hy
  · trivial
  · obtain rfl := List.mem_singleton.mp hy
    refine ⟨by rw [List.length_map]; exact h, fun z hz => ?_⟩
    obtain ⟨k, _, rfl⟩ := List.mem_map.mp hz
    trivial
end J

local macro_rules | `(tactic| tm_at "dec") => `(tactic| first | decide | exact of_decide_eq_true rfl | omega)
local macro_rules | `(tactic| tm_at "hp") => `(tactic| first
  | assumption
  | exact L2.Same.refl _
  | (refine' L2.Same.free (by assumption) ?k1; (case k1 => tm_at "hp"))
  | (refine' J.Fr.at (by assumption) ?k1 ?k2 ?k3; (case k1 => assumption); (case k2 => assumption); (case k3 => tm_at "hp"))
  | (refine' L2.SqT.of ?k1; (case k1 => tm_at "hp"))
  | (refine' L2.SqL.of ?k1; (case k1 => tm_at "hp"))
  | (refine' J.sm_ap (by assumption) ?k1; (case k1 => tm_at "hp"))
  | (refine' J.CA.mono (by assumption) ?k1; (case k1 => tm_at "hp"))
  | (refine' J.WA.mono (by assumption) ?k1; (case k1 => tm_at "hp"))
  | (refine' J.sm_t (by assumption) ?k1; (case k1 => tm_at "hp"))
  | (refine' J.sm_l (by assumption) ?k1; (case k1 => tm_at "hp"))
  | (refine' J.sm_tr (by assumption) ?k1; (case k1 => tm_at "hp")))
local macro_rules | `(tactic| tm_at "r") => `(tactic| first | exact rfl | decide +kernel | exact decide_eq_true (by omega) | exact decide_eq_false (by omega))
local macro_rules | `(tactic| tm_at "ty") => `(tactic| first | exact J.ty_int | exact J.ty_bl | exact J.ty_str | exact J.ty_non | exact J.ty_sqL (by assumption) | exact J.ty_sqT (by assumption) | (refine' J.ty_tup ?k1; (case k1 => tm_at "hp")) | (refine' J.ty_lst ?k1; (case k1 => tm_at "hp")))
local macro_rules | `(tactic| tm_at "j1") => `(tactic| first
  | with_reducible refine J.l_seq ?_
  | with_reducible refine J.l_asg ?_
  | with_reducible refine J.l_op ?_
  | ((with_reducible refine' J.l_var ?k1 ?_); (case k1 => exact rfl))
  | with_reducible refine J.l_c ?_
  | with_reducible refine J.l_name ?_
  | ((with_reducible refine' J.l_ixT ?k1 ?k2 ?_); (case k1 => tm_at "hp"); (case k2 => first | exact rfl | exact J.at0))
  | ((with_reducible refine' J.l_ixL ?k1 ?k2 ?_); (case k1 => tm_at "hp"); (case k2 => first | exact rfl | exact J.at0))
  | with_reducible refine J.l_ifS ?_
  | with_reducible refine J.l_test ?_
  | with_reducible refine J.l_tB ?_
  | with_reducible refine J.l_bl ?_
  | ((with_reducible refine' J.l_eq ?k1 ?_); (case k1 => exact rfl))
  | ((with_reducible refine' J.l_ne ?k1 ?_); (case k1 => exact rfl))
  | ((with_reducible refine' J.i_t ?k1 ?_); (case k1 => tm_at "r"))
  | ((with_reducible refine' J.i_f ?k1 ?_); (case k1 => tm_at "r"))
  | with_reducible refine J.l_ret ?_
  | with_reducible refine J.l_retN ?_
  | with_reducible refine J.l_next ?_
  | with_reducible refine J.l_brk ?_
  | with_reducible refine J.l_cnt ?_
  | with_reducible refine J.l_drop ?_
  | with_reducible refine J.l_un ?_
  | with_reducible refine J.l_I0 ?_
  | ((with_reducible refine' J.l_I ?k1 ?_); (case k1 => first | assumption | tm_at "dec" | exact Or.inr (by decide) | exact (by decide) | exact ⟨by decide, by decide⟩ | exact ⟨by omega, by omega⟩ | exact (show (0 : Int) < _ by decide)))
  | with_reducible refine J.l_U ?_
  | with_reducible refine J.l_and ?_
  | with_reducible refine J.l_or ?_
  | with_reducible refine J.l_not ?_
  | with_reducible refine J.l_andV ?_
  | with_reducible refine J.l_orV ?_
  | with_reducible refine J.l_notV ?_
  | with_reducible refine J.l_if ?_
  | with_reducible refine J.l_chain ?_
  | with_reducible refine J.l_nil ?_
  | with_reducible refine J.l_cons ?_
  | with_reducible refine J.l_tup ?_
  | with_reducible refine J.l_lst ?_
  | ((with_reducible refine' J.l_new ?k1 ?_); (case k1 => (tm_at "dec")); intro _ _ _ _ _)
  | with_reducible refine J.l_CB ?_
  | with_reducible refine J.l_lc ?_
  | with_reducible refine J.l_for ?_
  | with_reducible refine J.l_iTup ?_
  | with_reducible refine J.l_iList ?_
  | with_reducible refine J.l_iRng1 ?_
  | with_reducible refine J.l_iRng2 ?_
  | with_reducible refine J.l_bm ?_
  | ((with_reducible refine' J.l_isi (b := true) (L2.ClsV.ty _) ?k1 (L2.kit_ty ?k2) ?_); (case k1 => tm_at "ty"); (case k2 => decide +kernel))
  | ((with_reducible refine' J.l_isi (b := false) (L2.ClsV.ty _) ?k1 (L2.kit_ty ?k2) ?_); (case k1 => tm_at "ty"); (case k2 => decide +kernel))
  | with_reducible refine J.l_bm0 ?_
  | ((with_reducible refine' J.l_ty ?k1 ?_); (case k1 => tm_at "hp"))
  | with_reducible refine J.l_call ?_
  | with_reducible refine J.l_sl ?_
  | with_reducible refine J.l_noPart ?_
  | with_reducible refine J.l_part ?_
  | with_reducible refine J.l_isInt ?_
  | ((with_reducible refine' J.l_gtup ?k1 ?k2 ?_); (case k1 => tm_at "hp"); (case k2 => exact rfl))
  | with_reducible refine J.l_gnil ?_
  | with_reducible refine J.l_gcons ?_
  | with_reducible refine J.l_gsub ?_
  | ((with_reducible refine' J.l_slT ?k1 ?k2 ?_); (case k1 => tm_at "hp"); (case k2 => tm_at "dec"); intro _ _ _ _ _)
  | ((with_reducible refine' J.l_slL ?k1 ?_); (case k1 => tm_at "hp"); intro _ _ _ _ _)
  | ((with_reducible refine' J.l_cat ?k1 ?k2 ?k3 ?_); (case k1 => tm_at "hp"); (case k2 => tm_at "hp"); (case k3 => (tm_at "dec")); intro _ _ _ _ _)
  | ((with_reducible refine' J.l_in ?k1 ?k2 ?k3 ?_); (case k1 => tm_at "hp"); (case k2 => exact rfl); (case k3 => exact rfl))
  | ((with_reducible refine' J.l_lenT ?k1 ?_); (case k1 => tm_at "hp"))
  | ((with_reducible refine' J.l_lenL ?k1 ?_); (case k1 => tm_at "hp"))
  | with_reducible refine J.l_intB ?_
  | with_reducible refine J.l_intI ?_
  | with_reducible refine J.l_isNone ?_
  | with_reducible refine J.l_notNone ?_
  | ((with_reducible refine' J.l_ixD ?k1 ?_); (case k1 => assumption))
  | ((with_reducible refine' J.l_listL ?k1 ?_); (case k1 => tm_at "hp"); intro _ _ _ _ _)
  | ((with_reducible refine' J.l_tupleL ?k1 ?_); (case k1 => tm_at "hp"); intro _ _ _ _ _))
local macro_rules | `(tactic| tm_at "j") => `(tactic| repeat tm_at "j1")
local macro_rules | `(tactic| tm_at "lnz1") => `(tactic| first | (rename_i h; obtain ⟨e, _⟩ := h; subst e; exact rfl) | (rename_i h; obtain ⟨_, h⟩ := h; tm_at "lnz1"))
local macro_rules | `(tactic| tm_at "lnz") => `(tactic| (intro vs H Q E h; tm_at "lnz1"))

namespace J
open PySem L2
def t_check_condition (K : PySem.W.Frag) (w : World) (sp_count_looks : Sp) : TS :=
  tIfS (tTest (tOp (rI0 fun i j => .bl (decide (j < i))) (tCall sp_count_looks [] E0 (tCons (tVar 0) (tCons (tC (.int 0)) (tNil)))) (tC (.int 12)))) (tNever) (tNext)

def t_count_looks (K : PySem.W.Frag) (w : World) (sp_has_form : Sp) (sp_count_looks : Sp) : TS :=
  tSeq (tIfS (tTest (tOp (rI0 fun i j => .bl (decide (j < i))) (tVar 1) (tC (.int 10)))) (tNever) (tNext))
  (tSeq (tIfS (tNot (tB (tCall sp_has_form [] E0 (tCons (tVar 0) (tNil))))) (tNever) (tNext))
  (tSeq (tIfS (tTest (tOp (rEq) (tOp (rIxT K) (tVar 0) (tC (.int 0))) (tC (.str "look")))) (tRet (tC (.int 1))) (tNext))
  (tRet (tCB (rSum K) (tCons (tLc (iTup K (tSl (rSlT K) (tVar 0) (tPart (tC (.int 1))) (tNoPart))) (gName 2) (tYes) (tCall sp_count_looks [] E0 (tCons (tVar 2) (tCons (tOp (rI0 fun i j => .int (i + j)) (tVar 1) (tC (.int 1))) (tNil)))) [2]) (tNil))))))

def t_has_form (K : PySem.W.Frag) (w : World) (sp_is_number_up_to : Sp) : TS :=
  tSeq (tIfS (tOr (tNot (tB (tCB (rIsi K) (tCons (tVar 0) (tCons (tC (.ty "tuple")) (tNil)))))) (tTest (tOp (rEq) (tCB (rLen K) (tCons (tVar 0) (tNil))) (tC (.int 0))))) (tRet (tC (.bl false))) (tNext))
  (tSeq (tAsg (tOp (rIxT K) (tVar 0) (tC (.int 0))) (gName 1))
  (tSeq (tIfS (tTest (tOp (rEq) (tVar 1) (tC (.str "look")))) (tRet (tAndV (tOp (rEq) (tCB (rLen K) (tCons (tVar 0) (tNil))) (tC (.int 2))) (tCall sp_is_number_up_to [] E0 (tCons (tOp (rIxT K) (tVar 0) (tC (.int 1))) (tCons (tOp (rI0 fun i j => .int (i - j)) (tC (.int 8)) (tC (.int 1))) (tNil)))))) (tNext))
  (tSeq (tIfS (tTest (tOp (rEq) (tVar 1) (tC (.str "not")))) (tRet (tOp (rEq) (tCB (rLen K) (tCons (tVar 0) (tNil))) (tC (.int 2)))) (tNext))
  (tRet (tAndV (tOp (rIn K false) (tVar 1) (tTup (tCons (tC (.str "and")) (tCons (tC (.str "or")) (tNil))))) (tOp (rEq) (tCB (rLen K) (tCons (tVar 0) (tNil))) (tC (.int 3))))))))

def t_is_number_up_to (K : PySem.W.Frag) (w : World) : TS :=
  tSeq (tIfS (tOr (tB (tCB (rIsi K) (tCons (tVar 0) (tCons (tC (.ty "bool")) (tNil))))) (tNot (tB (tCB (rIsi K) (tCons (tVar 0) (tCons (tC (.ty "int")) (tNil))))))) (tRet (tC (.bl false))) (tNext))
  (tRet (tChain (rI0 fun i j => .bl (decide (i ≤ j))) (rI0 fun i j => .bl (decide (i ≤ j))) (tC (.int 0)) (tVar 0) (tVar 1)))

def t_are_bits (K : PySem.W.Frag) (w : World) (sp_is_number_up_to : Sp) : TS :=
  tRet (tAndV (tOp (rEq) (tCB (rLen K) (tCons (tVar 0) (tNil))) (tVar 1)) (tCB (rAll K) (tCons (tLc (iTup K (tVar 0)) (gName 2) (tYes) (tCall sp_is_number_up_to [] E0 (tCons (tVar 2) (tCons (tC (.int 1)) (tNil)))) [2]) (tNil))))

def t_meant (K : PySem.W.Frag) (w : World) (sp_check_condition : Sp) (sp_check_worths : Sp) (sp_outcome : Sp) : TS :=
  tSeq (tDrop (tCall sp_check_condition [] E0 (tCons (tVar 0) (tNil))))
  (tSeq (tDrop (tCall sp_check_worths [] E0 (tCons (tVar 1) (tNil))))
  (tRet (tCall sp_outcome [] E0 (tCons (tVar 0) (tCons (tVar 1) (tNil))))))

def t_check_worths (K : PySem.W.Frag) (w : World) (sp_are_bits : Sp) : TS :=
  tIfS (tNot (tB (tCall sp_are_bits [] E0 (tCons (tVar 0) (tCons (tC (.int 8)) (tNil)))))) (tNever) (tNext)

def t_outcome (K : PySem.W.Frag) (w : World) (a_GOES_ON : Addr) (sp_outcome : Sp) : TS :=
  tSeq (tAsg (tOp (rIxT K) (tVar 0) (tC (.int 0))) (gName 2))
  (tSeq (tIfS (tTest (tOp (rEq) (tVar 2) (tC (.str "look")))) (tSeq (tAsg (tOp (rIxT K) (tVar 0) (tC (.int 1))) (gName 3))
  (tRet (tTup (tCons (tOp (rIxT K) (tVar 1) (tVar 3)) (tCons (tLst (tCons (tVar 3) (tNil))) (tNil)))))) (tNext))
  (tSeq (tAsg (tCall sp_outcome [] E0 (tCons (tOp (rIxT K) (tVar 0) (tC (.int 1))) (tCons (tVar 1) (tNil)))) (gTup K 2 (gCons (gName 4) (gCons (gName 5) (gNil)))))
  (tSeq (tIfS (tTest (tOp (rEq) (tVar 2) (tC (.str "not")))) (tRet (tTup (tCons (tOp (rI0 fun i j => .int (i - j)) (tC (.int 1)) (tVar 4)) (tCons (tVar 5) (tNil))))) (tNext))
  (tSeq (tIfS (tTest (tOp (rNe) (tVar 4) (tOp (rIxD K w) (tC (.ref a_GOES_ON)) (tVar 2)))) (tRet (tTup (tCons (tVar 4) (tCons (tVar 5) (tNil))))) (tNext))
  (tSeq (tAsg (tCall sp_outcome [] E0 (tCons (tOp (rIxT K) (tVar 0) (tC (.int 2))) (tCons (tVar 1) (tNil)))) (gTup K 2 (gCons (gName 6) (gCons (gName 7) (gNil)))))
  (tRet (tTup (tCons (tVar 6) (tCons (tOp (rCat) (tVar 5) (tVar 7)) (tNil))))))))))

def t_law_begun (K : PySem.W.Frag) (w : World) : TS :=
  tSeq (tAsg (tC (.int 0)) (gName 1))
  (tSeq (tFor (iList K (tVar 0)) (gName 2) (tAsg (tOp (rI (fun _ j => 0 < j) fun i j => .int (i % j)) (tOp (rI0 fun i j => .int (i + j)) (tOp (rI0 fun i j => .int (i + j)) (tOp (rI CMul fun i j => .int (i * j)) (tVar 1) (tC (.int 48271))) (tOp (rI CMul fun i j => .int (i * j)) (tVar 2) (tC (.int 69621)))) (tC (.int 11))) (tC (.int 2147483647))) (gName 1)))
  (tRet (tLst (tCons (tCB (rListOf K) (tCons (tVar 0) (tNil))) (tCons (tOp (rI CMul fun i j => .int (i * j)) (tVar 1) (tCB (rInt1) (tCons (tOp (rI0 fun i j => .bl (decide (j < i))) (tCB (rLen K) (tCons (tVar 0) (tNil))) (tC (.int 2))) (tNil)))) (tNil))))))

def t_law_take (K : PySem.W.Frag) (w : World) : TS :=
  tSeq (tIfS (tTest (tOp (rEqD K) (tOp (rIxL K) (tVar 0) (tC (.int 0))) (tLst (tNil)))) (tSeq (tAsg (tOp (rI (fun _ j => 0 < j) fun i j => .int (i % j)) (tOp (rI CMul fun i j => .int (i * j)) (tOp (rIxL K) (tVar 0) (tC (.int 1))) (tC (.int 48271))) (tC (.int 2147483647))) (gSub (tVar 0) (tC (.int 1)) rSetL))
  (tRet (tOp (rI (fun _ j => 0 < j) fun i j => .int (i % j)) (tOp (rI CDiv fun i j => .int (i / j)) (tOp (rIxL K) (tVar 0) (tC (.int 1))) (tC (.int 7))) (tVar 1)))) (tNext))
  (tSeq (tAsg (tOp (rIxL K) (tOp (rIxL K) (tVar 0) (tC (.int 0))) (tC (.int 0))) (gName 2))
  (tSeq (tAsg (tOp (rI CDiv fun i j => .int (i / j)) (tVar 2) (tVar 1)) (gSub (tOp (rIxL K) (tVar 0) (tC (.int 0))) (tC (.int 0)) rSetL))
  (tSeq (tIfS (tOr (tTest (tOp (rEq) (tOp (rIxL K) (tOp (rIxL K) (tVar 0) (tC (.int 0))) (tC (.int 0))) (tC (.int 0)))) (tTest (tOp (rEq) (tOp (rIxL K) (tOp (rIxL K) (tVar 0) (tC (.int 0))) (tC (.int 0))) (tUn (rU fun i => .int (-i)) (tC (.int 1)))))) (tDrop (tBM K "list" (rPopAt) (tOp (rIxL K) (tVar 0) (tC (.int 0))) (tCons (tC (.int 0)) (tNil)))) (tNext))
  (tRet (tOp (rI (fun _ j => 0 < j) fun i j => .int (i % j)) (tVar 2) (tVar 1))))))

def t_law_alike (K : PySem.W.Frag) (w : World) (sp_law_alike : Sp) : TS :=
  tSeq (tIfS (tTest (tOp (rIsNone) (tVar 1) (tC .non))) (tRet (tOp (rIsNone) (tVar 0) (tC .non))) (tNext))
  (tSeq (tIfS (tB (tCB (rIsi K) (tCons (tVar 1) (tCons (tC (.ty "bool")) (tNil))))) (tRet (tAndV (tCB (rIsi K) (tCons (tVar 0) (tCons (tC (.ty "bool")) (tNil)))) (tOp (rEq) (tVar 0) (tVar 1)))) (tNext))
  (tSeq (tIfS (tB (tCB (rIsi K) (tCons (tVar 1) (tCons (tC (.ty "int")) (tNil))))) (tRet (tAndV (tCB (rIsi K) (tCons (tVar 0) (tCons (tC (.ty "int")) (tNil)))) (tAndV (tNotV (tCB (rIsi K) (tCons (tVar 0) (tCons (tC (.ty "bool")) (tNil))))) (tOp (rEq) (tVar 0) (tVar 1))))) (tNext))
  (tSeq (tIfS (tB (tCB (rIsi K) (tCons (tVar 1) (tCons (tC (.ty "str")) (tNil))))) (tRet (tAndV (tCB (rIsi K) (tCons (tVar 0) (tCons (tC (.ty "str")) (tNil)))) (tOp (rEq) (tVar 0) (tVar 1)))) (tNext))
  (tSeq (tIfS (tOr (tTest (tOp (rNe) (tCB (rIsi K) (tCons (tVar 1) (tCons (tC (.ty "tuple")) (tNil)))) (tCB (rIsi K) (tCons (tVar 0) (tCons (tC (.ty "tuple")) (tNil)))))) (tTest (tOp (rNe) (tCB (rIsi K) (tCons (tVar 1) (tCons (tC (.ty "list")) (tNil)))) (tCB (rIsi K) (tCons (tVar 0) (tCons (tC (.ty "list")) (tNil))))))) (tRet (tC (.bl false))) (tNext))
  (tSeq (tIfS (tTest (tOp (rNe) (tCB (rLen K) (tCons (tVar 0) (tNil))) (tCB (rLen K) (tCons (tVar 1) (tNil))))) (tRet (tC (.bl false))) (tNext))
  (tSeq (tFor (iRng1 (tCons (tCB (rLen K) (tCons (tVar 1) (tNil))) (tNil))) (gName 2) (tIfS (tNot (tB (tCall sp_law_alike [] E0 (tCons (tOp (rIx K) (tVar 0) (tVar 2)) (tCons (tOp (rIx K) (tVar 1) (tVar 2)) (tNil)))))) (tRet (tC (.bl false))) (tNext)))
  (tRet (tC (.bl true)))))))))

def t_law_part (K : PySem.W.Frag) (w : World) (sp_law_take : Sp) (sp_law_bare : Sp) : TS :=
  tSeq (tIfS (tTest (tOp (rEq) (tCall sp_law_take [] E0 (tCons (tVar 0) (tCons (tC (.int 5)) (tNil)))) (tC (.int 1)))) (tRet (tTup (tCons (tC (.str "not")) (tCons (tCall sp_law_bare [] E0 (tCons (tVar 0) (tCons (tVar 1) (tCons (tVar 2) (tNil))))) (tNil))))) (tNext))
  (tRet (tCall sp_law_bare [] E0 (tCons (tVar 0) (tCons (tVar 1) (tCons (tVar 2) (tNil))))))

def t_law_bare (K : PySem.W.Frag) (w : World) (sp_law_take : Sp) (sp_law_part : Sp) : TS :=
  tSeq (tIfS (tTest (tOp (rEq) (tVar 1) (tC (.int 1)))) (tRet (tTup (tCons (tC (.str "look")) (tCons (tOp (rIxL K) (tVar 2) (tCall sp_law_take [] E0 (tCons (tVar 0) (tCons (tCB (rLen K) (tCons (tVar 2) (tNil))) (tNil))))) (tNil))))) (tNext))
  (tSeq (tAsg (tOp (rIxL K) (tLst (tCons (tC (.int 1)) (tCons (tOp (rI0 fun i j => .int (i - j)) (tVar 1) (tC (.int 1))) (tCons (tOp (rI0 fun i j => .int (i + j)) (tC (.int 1)) (tCall sp_law_take [] E0 (tCons (tVar 0) (tCons (tOp (rI0 fun i j => .int (i - j)) (tVar 1) (tC (.int 1))) (tNil))))) (tCons (tOp (rI CDiv fun i j => .int (i / j)) (tVar 1) (tC (.int 2))) (tNil)))))) (tCall sp_law_take [] E0 (tCons (tVar 0) (tCons (tC (.int 4)) (tNil))))) (gName 3))
  (tSeq (tAsg (tOp (rIxL K) (tLst (tCons (tC (.str "and")) (tCons (tC (.str "or")) (tNil)))) (tCall sp_law_take [] E0 (tCons (tVar 0) (tCons (tC (.int 2)) (tNil))))) (gName 4))
  (tRet (tTup (tCons (tVar 4) (tCons (tCall sp_law_part [] E0 (tCons (tVar 0) (tCons (tVar 3) (tCons (tVar 2) (tNil))))) (tCons (tCall sp_law_part [] E0 (tCons (tVar 0) (tCons (tOp (rI0 fun i j => .int (i - j)) (tVar 1) (tVar 3)) (tCons (tVar 2) (tNil))))) (tNil))))))))

def t_law_deep (K : PySem.W.Frag) (w : World) (sp_law_deep : Sp) : TS :=
  tRet (tIf (tTest (tOp (rEq) (tOp (rIxT K) (tVar 0) (tC (.int 0))) (tC (.str "look")))) (tC (.int 0)) (tOp (rI0 fun i j => .int (i + j)) (tC (.int 1)) (tCB (rMax K) (tCons (tLc (iTup K (tSl (rSlT K) (tVar 0) (tPart (tC (.int 1))) (tNoPart))) (gName 1) (tYes) (tCall sp_law_deep [] E0 (tCons (tVar 1) (tNil))) [1]) (tNil)))))

def t_law_condition (K : PySem.W.Frag) (w : World) (sp_law_take : Sp) (sp_law_part : Sp) (sp_law_deep : Sp) : TS :=
  tSeq (tAsg (tOp (rIxL K) (tLst (tCons (tLst (tCons (tC (.int 0)) (tCons (tC (.int 1)) (tCons (tC (.int 2)) (tNil))))) (tCons (tLst (tCons (tC (.int 0)) (tCons (tC (.int 1)) (tCons (tC (.int 2)) (tCons (tC (.int 3)) (tCons (tC (.int 4)) (tCons (tC (.int 5)) (tCons (tC (.int 6)) (tCons (tC (.int 7)) (tNil)))))))))) (tCons (tLst (tCons (tC (.int 5)) (tCons (tC (.int 7)) (tNil)))) (tNil))))) (tCall sp_law_take [] E0 (tCons (tVar 0) (tCons (tC (.int 3)) (tNil))))) (gName 2))
  (tSeq (tAsg (tCall sp_law_part [] E0 (tCons (tVar 0) (tCons (tOp (rI0 fun i j => .int (i + j)) (tC (.int 1)) (tCall sp_law_take [] E0 (tCons (tVar 0) (tCons (tVar 1) (tNil))))) (tCons (tVar 2) (tNil))))) (gName 3))
  (tSeq (tWhile (tTest (tOp (rI0 fun i j => .bl (decide (j < i))) (tCall sp_law_deep [] E0 (tCons (tVar 3) (tNil))) (tC (.int 10)))) (tAsg (tOp (rIxT K) (tVar 3) (tC (.int 1))) (gName 3)))
  (tRet (tVar 3))))

def t_law_meant (K : PySem.W.Frag) (w : World) (sp_law_meant : Sp) : TS :=
  tSeq (tIfS (tTest (tOp (rEq) (tOp (rIxT K) (tVar 0) (tC (.int 0))) (tC (.str "look")))) (tRet (tTup (tCons (tOp (rIxT K) (tVar 1) (tOp (rIxT K) (tVar 0) (tC (.int 1)))) (tCons (tLst (tCons (tOp (rIxT K) (tVar 0) (tC (.int 1))) (tNil))) (tNil))))) (tNext))
  (tSeq (tAsg (tCall sp_law_meant [] E0 (tCons (tOp (rIxT K) (tVar 0) (tC (.int 1))) (tCons (tVar 1) (tNil)))) (gTup K 2 (gCons (gName 2) (gCons (gName 3) (gNil)))))
  (tSeq (tIfS (tTest (tOp (rEq) (tOp (rIxT K) (tVar 0) (tC (.int 0))) (tC (.str "not")))) (tRet (tTup (tCons (tOp (rI0 fun i j => .int (i - j)) (tC (.int 1)) (tVar 2)) (tCons (tVar 3) (tNil))))) (tNext))
  (tSeq (tIfS (tTest (tOp (rNe) (tOp (rEq) (tOp (rIxT K) (tVar 0) (tC (.int 0))) (tC (.str "and"))) (tOp (rEq) (tVar 2) (tC (.int 1))))) (tRet (tTup (tCons (tVar 2) (tCons (tVar 3) (tNil))))) (tNext))
  (tSeq (tAsg (tCall sp_law_meant [] E0 (tCons (tOp (rIxT K) (tVar 0) (tC (.int 2))) (tCons (tVar 1) (tNil)))) (gTup K 2 (gCons (gName 4) (gCons (gName 5) (gNil)))))
  (tRet (tTup (tCons (tVar 4) (tCons (tOp (rCat) (tVar 3) (tVar 5)) (tNil)))))))))

def t_law_worths (K : PySem.W.Frag) (w : World) : TS :=
  tRet (tCB (rTupleOf K) (tCons (tOp (rCat) (tLst (tCons (tOp (rI (fun _ j => 0 < j) fun i j => .int (i % j)) (tOp (rI CDiv fun i j => .int (i / j)) (tVar 0) (tC (.int 128))) (tC (.int 2))) (tNil))) (tLc (iRng1 (tCons (tC (.int 7)) (tNil))) (gName 1) (tYes) (tOp (rI (fun _ j => 0 < j) fun i j => .int (i % j)) (tOp (rI CDiv fun i j => .int (i / j)) (tVar 0) (tOp (rIxL K) (tLst (tCons (tC (.int 64)) (tCons (tC (.int 32)) (tCons (tC (.int 16)) (tCons (tC (.int 8)) (tCons (tC (.int 4)) (tCons (tC (.int 2)) (tCons (tC (.int 1)) (tNil))))))))) (tVar 1))) (tC (.int 2))) [1])) (tNil)))

def t_law (K : PySem.W.Frag) (w : World) (sp_law_begun : Sp) (sp_law_condition : Sp) (sp_law_worths : Sp) (sp_law_meant : Sp) (sp_meant : Sp) (sp_law_alike : Sp) : TS :=
  tSeq (tAsg (tCall sp_law_begun [] E0 (tCons (tVar 0) (tNil))) (gName 1))
  (tSeq (tFor (iRng1 (tCons (tC (.int 2)) (tNil))) (gName 2) (tSeq (tAsg (tCall sp_law_condition [] E0 (tCons (tVar 1) (tCons (tC (.int 12)) (tNil)))) (gName 3))
  (tFor (iRng1 (tCons (tC (.int 256)) (tNil))) (gName 4) (tSeq (tAsg (tCall sp_law_worths [] E0 (tCons (tVar 4) (tNil))) (gName 5))
  (tSeq (tAsg (tCall sp_law_meant [] E0 (tCons (tVar 3) (tCons (tVar 5) (tNil)))) (gName 6))
  (tSeq (tAsg (tCall sp_meant [] E0 (tCons (tVar 3) (tCons (tVar 5) (tNil)))) (gName 7))
  (tSeq (tIfS (tNot (tB (tCall sp_law_alike [] E0 (tCons (tVar 7) (tCons (tVar 6) (tNil)))))) (tRet (tC (.bl false))) (tNext))
  (tSeq (tDrop (tBM K "list" (rAppend) (tOp (rIxT K) (tVar 7) (tC (.int 1))) (tCons (tC (.int 0)) (tNil))))
  (tSeq (tAsg (tCall sp_meant [] E0 (tCons (tVar 3) (tCons (tVar 5) (tNil)))) (gName 8))
  (tIfS (tTest (tOp (rNeD K) (tVar 8) (tCall sp_law_meant [] E0 (tCons (tVar 3) (tCons (tVar 5) (tNil)))))) (tRet (tC (.bl false))) (tNext)))))))))))
  (tRet (tC (.bl true))))

def top (i : Nat) : Stmt := PySem.Challenge.pw_jumpsay_k02_what_is_meant.main.body.getD i (.Pass ⟨0, 0, 0, 0⟩)
abbrev s_check_condition : Stmt := top 8
theorem sc_check_condition : FnScope ["condition"] ["condition"] (defScope s_check_condition) := ⟨rfl, rfl, rfl, by decide +kernel, rfl, by decide +kernel, by decide +kernel⟩

abbrev s_count_looks : Stmt := top 9
theorem sc_count_looks : FnScope ["condition", "around", "side"] ["condition", "around"] (defScope s_count_looks) := ⟨rfl, rfl, rfl, by decide +kernel, rfl, by decide +kernel, by decide +kernel⟩

abbrev s_has_form : Stmt := top 10
theorem sc_has_form : FnScope ["condition", "word"] ["condition"] (defScope s_has_form) := ⟨rfl, rfl, rfl, by decide +kernel, rfl, by decide +kernel, by decide +kernel⟩

abbrev s_is_number_up_to : Stmt := top 11
theorem sc_is_number_up_to : FnScope ["value", "most"] ["value", "most"] (defScope s_is_number_up_to) := ⟨rfl, rfl, rfl, by decide +kernel, rfl, by decide +kernel, by decide +kernel⟩

abbrev s_are_bits : Stmt := top 12
theorem sc_are_bits : FnScope ["values", "many", "value"] ["values", "many"] (defScope s_are_bits) := ⟨rfl, rfl, rfl, by decide +kernel, rfl, by decide +kernel, by decide +kernel⟩

abbrev s_meant : Stmt := top 15
theorem sc_meant : FnScope ["condition", "worths"] ["condition", "worths"] (defScope s_meant) := ⟨rfl, rfl, rfl, by decide +kernel, rfl, by decide +kernel, by decide +kernel⟩

abbrev s_check_worths : Stmt := top 16
theorem sc_check_worths : FnScope ["worths"] ["worths"] (defScope s_check_worths) := ⟨rfl, rfl, rfl, by decide +kernel, rfl, by decide +kernel, by decide +kernel⟩

abbrev s_outcome : Stmt := top 17
theorem sc_outcome : FnScope ["condition", "worths", "word", "thing", "worth", "looks", "second", "more"] ["condition", "worths"] (defScope s_outcome) := ⟨rfl, rfl, rfl, by decide +kernel, rfl, by decide +kernel, by decide +kernel⟩

abbrev s_law_begun : Stmt := top 19
theorem sc_law_begun : FnScope ["_law_script", "_law_stirred", "_law_cell"] ["_law_script"] (defScope s_law_begun) := ⟨rfl, rfl, rfl, by decide +kernel, rfl, by decide +kernel, by decide +kernel⟩

abbrev s_law_take : Stmt := top 20
theorem sc_law_take : FnScope ["_law_box", "_law_many", "_law_number"] ["_law_box", "_law_many"] (defScope s_law_take) := ⟨rfl, rfl, rfl, by decide +kernel, rfl, by decide +kernel, by decide +kernel⟩

abbrev s_law_alike : Stmt := top 21
theorem sc_law_alike : FnScope ["_law_found", "_law_due", "_law_k"] ["_law_found", "_law_due"] (defScope s_law_alike) := ⟨rfl, rfl, rfl, by decide +kernel, rfl, by decide +kernel, by decide +kernel⟩

abbrev s_law_part : Stmt := top 22
theorem sc_law_part : FnScope ["_law_box", "_law_many", "_law_things"] ["_law_box", "_law_many", "_law_things"] (defScope s_law_part) := ⟨rfl, rfl, rfl, by decide +kernel, rfl, by decide +kernel, by decide +kernel⟩

abbrev s_law_bare : Stmt := top 23
theorem sc_law_bare : FnScope ["_law_box", "_law_many", "_law_things", "_law_left", "_law_word"] ["_law_box", "_law_many", "_law_things"] (defScope s_law_bare) := ⟨rfl, rfl, rfl, by decide +kernel, rfl, by decide +kernel, by decide +kernel⟩

abbrev s_law_deep : Stmt := top 24
theorem sc_law_deep : FnScope ["_law_part_here", "_law_one"] ["_law_part_here"] (defScope s_law_deep) := ⟨rfl, rfl, rfl, by decide +kernel, rfl, by decide +kernel, by decide +kernel⟩

abbrev s_law_condition : Stmt := top 25
theorem sc_law_condition : FnScope ["_law_box", "_law_most", "_law_things", "_law_part_here"] ["_law_box", "_law_most"] (defScope s_law_condition) := ⟨rfl, rfl, rfl, by decide +kernel, rfl, by decide +kernel, by decide +kernel⟩

abbrev s_law_meant : Stmt := top 26
theorem sc_law_meant : FnScope ["_law_part_here", "_law_worths_here", "_law_first", "_law_seen", "_law_other", "_law_more"] ["_law_part_here", "_law_worths_here"] (defScope s_law_meant) := ⟨rfl, rfl, rfl, by decide +kernel, rfl, by decide +kernel, by decide +kernel⟩

abbrev s_law_worths : Stmt := top 27
theorem sc_law_worths : FnScope ["_law_number", "_law_k"] ["_law_number"] (defScope s_law_worths) := ⟨rfl, rfl, rfl, by decide +kernel, rfl, by decide +kernel, by decide +kernel⟩

abbrev s_law : Stmt := top 28
theorem sc_law : FnScope ["_law_script", "_law_box", "_law_turn", "_law_part_here", "_law_number", "_law_worths_here", "_law_due", "_law_found", "_law_again"] ["_law_script"] (defScope s_law) := ⟨rfl, rfl, rfl, by decide +kernel, rfl, by decide +kernel, by decide +kernel⟩

structure Tx (K : PySem.W.Frag) (mg : Str → Option Value) where
  f_check_condition : Addr
  d_check_condition : FuncData
  F_check_condition : Fun K "check_condition" "check_condition" s_check_condition f_check_condition d_check_condition
  m_check_condition : mg "check_condition" = some (.ref f_check_condition)
  b_check_condition : Binds K d_check_condition ["condition"] []
  f_count_looks : Addr
  d_count_looks : FuncData
  F_count_looks : Fun K "count_looks" "count_looks" s_count_looks f_count_looks d_count_looks
  m_count_looks : mg "count_looks" = some (.ref f_count_looks)
  b_count_looks : Binds K d_count_looks ["condition", "around"] []
  f_has_form : Addr
  d_has_form : FuncData
  F_has_form : Fun K "has_form" "has_form" s_has_form f_has_form d_has_form
  m_has_form : mg "has_form" = some (.ref f_has_form)
  b_has_form : Binds K d_has_form ["condition"] []
  f_is_number_up_to : Addr
  d_is_number_up_to : FuncData
  F_is_number_up_to : Fun K "is_number_up_to" "is_number_up_to" s_is_number_up_to f_is_number_up_to d_is_number_up_to
  m_is_number_up_to : mg "is_number_up_to" = some (.ref f_is_number_up_to)
  b_is_number_up_to : Binds K d_is_number_up_to ["value", "most"] []
  f_are_bits : Addr
  d_are_bits : FuncData
  F_are_bits : Fun K "are_bits" "are_bits" s_are_bits f_are_bits d_are_bits
  m_are_bits : mg "are_bits" = some (.ref f_are_bits)
  b_are_bits : Binds K d_are_bits ["values", "many"] []
  f_meant : Addr
  d_meant : FuncData
  F_meant : Fun K "meant" "meant" s_meant f_meant d_meant
  m_meant : mg "meant" = some (.ref f_meant)
  b_meant : Binds K d_meant ["condition", "worths"] []
  f_check_worths : Addr
  d_check_worths : FuncData
  F_check_worths : Fun K "check_worths" "check_worths" s_check_worths f_check_worths d_check_worths
  m_check_worths : mg "check_worths" = some (.ref f_check_worths)
  b_check_worths : Binds K d_check_worths ["worths"] []
  f_outcome : Addr
  d_outcome : FuncData
  F_outcome : Fun K "outcome" "outcome" s_outcome f_outcome d_outcome
  m_outcome : mg "outcome" = some (.ref f_outcome)
  b_outcome : Binds K d_outcome ["condition", "worths"] []
  f_law_begun : Addr
  d_law_begun : FuncData
  F_law_begun : Fun K "_law_begun" "_law_begun" s_law_begun f_law_begun d_law_begun
  m_law_begun : mg "_law_begun" = some (.ref f_law_begun)
  b_law_begun : Binds K d_law_begun ["_law_script"] []
  f_law_take : Addr
  d_law_take : FuncData
  F_law_take : Fun K "_law_take" "_law_take" s_law_take f_law_take d_law_take
  m_law_take : mg "_law_take" = some (.ref f_law_take)
  b_law_take : Binds K d_law_take ["_law_box", "_law_many"] []
  f_law_alike : Addr
  d_law_alike : FuncData
  F_law_alike : Fun K "_law_alike" "_law_alike" s_law_alike f_law_alike d_law_alike
  m_law_alike : mg "_law_alike" = some (.ref f_law_alike)
  b_law_alike : Binds K d_law_alike ["_law_found", "_law_due"] []
  f_law_part : Addr
  d_law_part : FuncData
  F_law_part : Fun K "_law_part" "_law_part" s_law_part f_law_part d_law_part
  m_law_part : mg "_law_part" = some (.ref f_law_part)
  b_law_part : Binds K d_law_part ["_law_box", "_law_many", "_law_things"] []
  f_law_bare : Addr
  d_law_bare : FuncData
  F_law_bare : Fun K "_law_bare" "_law_bare" s_law_bare f_law_bare d_law_bare
  m_law_bare : mg "_law_bare" = some (.ref f_law_bare)
  b_law_bare : Binds K d_law_bare ["_law_box", "_law_many", "_law_things"] []
  f_law_deep : Addr
  d_law_deep : FuncData
  F_law_deep : Fun K "_law_deep" "_law_deep" s_law_deep f_law_deep d_law_deep
  m_law_deep : mg "_law_deep" = some (.ref f_law_deep)
  b_law_deep : Binds K d_law_deep ["_law_part_here"] []
  f_law_condition : Addr
  d_law_condition : FuncData
  F_law_condition : Fun K "_law_condition" "_law_condition" s_law_condition f_law_condition d_law_condition
  m_law_condition : mg "_law_condition" = some (.ref f_law_condition)
  b_law_condition : Binds K d_law_condition ["_law_box", "_law_most"] []
  f_law_meant : Addr
  d_law_meant : FuncData
  F_law_meant : Fun K "_law_meant" "_law_meant" s_law_meant f_law_meant d_law_meant
  m_law_meant : mg "_law_meant" = some (.ref f_law_meant)
  b_law_meant : Binds K d_law_meant ["_law_part_here", "_law_worths_here"] []
  f_law_worths : Addr
  d_law_worths : FuncData
  F_law_worths : Fun K "_law_worths" "_law_worths" s_law_worths f_law_worths d_law_worths
  m_law_worths : mg "_law_worths" = some (.ref f_law_worths)
  b_law_worths : Binds K d_law_worths ["_law_number"] []
  f_law : Addr
  d_law : FuncData
  F_law : Fun K "law" "law" s_law f_law d_law
  m_law : mg "law" = some (.ref f_law)
  b_law : Binds K d_law ["_law_script"] []
  n_sum : mg "sum" = none
  n_tuple : mg "tuple" = none
  n_isinstance : mg "isinstance" = none
  n_len : mg "len" = none
  n_bool : mg "bool" = none
  n_int : mg "int" = none
  n_all : mg "all" = none
  n_list : mg "list" = none
  n_str : mg "str" = none
  n_range : mg "range" = none
  n_max : mg "max" = none
  u_MOST_LOOKS : Tok
  c_MOST_LOOKS : mg "MOST_LOOKS" = some (.int 12 u_MOST_LOOKS)
  u_MOST_AROUND : Tok
  c_MOST_AROUND : mg "MOST_AROUND" = some (.int 10 u_MOST_AROUND)
  u_THINGS : Tok
  c_THINGS : mg "THINGS" = some (.int 8 u_THINGS)
  a_GOES_ON : Addr
  c_GOES_ON : mg "GOES_ON" = some (.ref a_GOES_ON)

/-! is_number_up_to -/
def spNum : Sp := fun vs H Q _ => ∃ i m : Int, vs = [.int i, .int m] ∧ ∀ H', Same H H' → Q (.bl (decide (0 ≤ i) && decide (i ≤ m))) H'
theorem pure_num {K : PySem.W.Frag} {w : World} (vs : List V) (H : Hp) (Q : VK) (E : XK) (h : spNum vs H Q E) :
    t_is_number_up_to K w (Ends.mk (fun _ H' => Q .non H') Q (fun _ _ => False) (fun _ _ => False)) (start ["value", "most"] vs) H := by
  obtain ⟨i, m, rfl, q⟩ := h
  unfold t_is_number_up_to
  tm_at "j"
  refine i_b (fun e => ?_) (fun e => ?_)
  · tm_at "j"
    have := q _ (Same.refl _)
    rw [e] at this
    exact this
  · tm_at "j"
    have := q _ (Same.refl _)
    rw [e] at this
    exact this
/-! has_form -/
def spForm : Sp := fun vs H Q _ => ∃ v c, vs = [v] ∧ CA H v c ∧ c.ok ∧ ∀ H', Same H H' → Q (.bl true) H'
theorem inV_wd (a : Bool) : inV (.str (wd a)) [.str "and", .str "or"] = true := by cases a <;> decide +kernel
theorem pure_form {K : PySem.W.Frag} {w : World} (vs : List V) (H : Hp) (Q : VK) (E : XK) (h : spForm vs H Q E) :
    t_has_form K w spNum (Ends.mk (fun _ H' => Q .non H') Q (fun _ _ => False) (fun _ _ => False)) (start ["condition", "word"] vs) H := by
  obtain ⟨v, c, rfl, hc, ho, q⟩ := h
  unfold t_has_form
  cases hc with
  | look e =>
    rename_i i
    tm_at "j"
    refine ⟨_, _, rfl, fun H1 g1 => ?_⟩
    have h8 : i < 8 := ho
    have e1 : (decide ((0 : Int) ≤ (i : Int)) && decide ((i : Int) ≤ 8 - 1)) = true := by
      rw [decide_eq_true (by omega), decide_eq_true (by omega)]; rfl
    rw [e1]
    exact q _ (by tm_at "hp")
  | not e hc =>
    tm_at "j"
    exact q _ (by tm_at "hp")
  | bin e h1 h2 =>
    rename_i a v1 v2 c d
    have e1 := inV_wd a
    tm_at "j"
    cases a <;> (
      tm_at "j"
      exact q _ (by tm_at "hp"))

def spCount (n : Nat) : Sp := fun vs H Q _ => ∃ v c, ∃ ar : Nat, vs = [v, .int (ar : Int)] ∧ CA H v c ∧ c.ok ∧ ar + c.deep ≤ 10 ∧ c.deep < n ∧ ∀ H', Same H H' → Q (.int (c.looks : Int)) H'
theorem pure_count {K : PySem.W.Frag} {w : World} {n : Nat} (vs : List V) (H : Hp) (Q : VK) (E : XK) (h : spCount (n + 1) vs H Q E) :
    t_count_looks K w spForm (spCount n) (Ends.mk (fun _ H' => Q .non H') Q (fun _ _ => False) (fun _ _ => False)) (start ["condition", "around", "side"] vs) H := by
  obtain ⟨v, c, ar, rfl, hc, ho, hd, hn, q⟩ := h
  unfold t_count_looks
  tm_at "j"
  refine ⟨_, _, rfl, hc, ho, fun H1 g1 => ?_⟩
  tm_at "j"
  cases hc with
  | look e =>
    tm_at "j"
    exact q _ (by tm_at "hp")
  | not e hc =>
    rename_i v1 c1
    have hd1 : ar + (c1.deep + 1) ≤ 10 := hd
    have hn1 : c1.deep + 1 < n + 1 := hn
    tm_at "j"
    refine lcT (xs := [v1]) (ys := [.int (c1.looks : Int)]) (fun _ => rfl) (by tm_at "hp") (by tm_at "dec") ⟨rfl, ?_⟩ ?_
    · intro i x y H' Q' hx hy g k
      rcases i with _ | i
      · obtain rfl : v1 = x := Option.some.inj hx
        obtain rfl := Option.some.inj hy
        tm_at "j"
        exact ⟨v1, c1, ar + 1, rfl, by tm_at "hp", ho, by omega, by omega, k⟩
      · cases hx
    · intro D H2 hD g e2
      refine l_sum (ns := [(c1.looks : Int)]) (by tm_at "hp") ?_
      rw [show [(c1.looks : Int)].sum = (c1.looks : Int) by simp]
      exact q _ (by tm_at "hp")
  | bin e h1 h2 =>
    rename_i a v1 v2 c1 c2
    have hd1 : ar + (max c1.deep c2.deep + 1) ≤ 10 := hd
    have hn1 : max c1.deep c2.deep + 1 < n + 1 := hn
    cases a <;> (
      tm_at "j"
      refine lcT (xs := [v1, v2]) (ys := [.int (c1.looks : Int), .int (c2.looks : Int)]) (fun _ => rfl) (by tm_at "hp") (by tm_at "dec") ⟨rfl, ?_⟩ ?_
      · intro i x y H' Q' hx hy g k
        rcases i with _ | _ | i
        · obtain rfl : v1 = x := Option.some.inj hx
          obtain rfl := Option.some.inj hy
          tm_at "j"
          exact ⟨v1, c1, ar + 1, rfl, by tm_at "hp", ho.1, by omega, by omega, k⟩
        · obtain rfl : v2 = x := Option.some.inj hx
          obtain rfl := Option.some.inj hy
          tm_at "j"
          exact ⟨v2, c2, ar + 1, rfl, by tm_at "hp", ho.2, by omega, by omega, k⟩
        · cases hx
      · intro D H2 hD g e2
        refine l_sum (ns := [(c1.looks : Int), (c2.looks : Int)]) (by tm_at "hp") ?_
        have e3 : [(c1.looks : Int), (c2.looks : Int)].sum = (((c1.looks + c2.looks : Nat)) : Int) := by simp
        rw [e3]
        exact q _ (by tm_at "hp"))
/-! check_condition -/
def spCheck : Sp := fun vs H Q _ => ∃ v c, vs = [v] ∧ CA H v c ∧ c.ok ∧ c.deep ≤ 10 ∧ c.looks ≤ 12 ∧ ∀ H', Same H H' → Q .non H'
theorem pure_check {K : PySem.W.Frag} {w : World} (vs : List V) (H : Hp) (Q : VK) (E : XK) (h : spCheck vs H Q E) :
    t_check_condition K w (spCount 11) (Ends.mk (fun _ H' => Q .non H') Q (fun _ _ => False) (fun _ _ => False)) (start ["condition"] vs) H := by
  obtain ⟨v, c, rfl, hc, ho, hd, hl, q⟩ := h
  unfold t_check_condition
  tm_at "j"
  refine ⟨v, c, 0, rfl, hc, ho, by omega, by omega, fun H1 g1 => ?_⟩
  tm_at "j"
  exact q _ (by tm_at "hp")
/-! are_bits, check_worths -/
def spBits : Sp := fun vs H Q _ => ∃ v ws, vs = [v, .int 8] ∧ WA H v ws ∧ ∀ H', Same H H' → Q (.bl true) H'
theorem bits_all (ws : List Bool) : (ws.map fun _ => V.bl true) = (ws.map fun _ => true).map V.bl := by rw [List.map_map]; rfl
theorem pure_bits {K : PySem.W.Frag} {w : World} (vs : List V) (H : Hp) (Q : VK) (E : XK) (h : spBits vs H Q E) :
    t_are_bits K w spNum (Ends.mk (fun _ H' => Q .non H') Q (fun _ _ => False) (fun _ _ => False)) (start ["values", "many", "value"] vs) H := by
  obtain ⟨v, ws, rfl, ⟨a, rfl, ha, hl⟩, q⟩ := h
  unfold t_are_bits
  tm_at "j"
  rw [List.length_map, hl]
  tm_at "j"
  refine lcT (xs := ws.map vb) (ys := ws.map fun _ => V.bl true) (fun _ => rfl) (by tm_at "hp") (by rw [List.length_map]; omega) ⟨by rw [List.length_map, List.length_map], ?_⟩ ?_
  · intro i x y H' Q' hx hy g k
    rw [List.getElem?_map] at hx hy
    cases hb : ws[i]? with
    | none => rw [hb] at hx; cases hx
    | some b =>
      rw [hb] at hx hy
      obtain rfl : vb b = x := Option.some.inj hx
      obtain rfl : V.bl true = y := Option.some.inj hy
      tm_at "j"
      refine ⟨bi b, 1, rfl, fun H2 g2 => ?_⟩
      have e1 : (decide (0 ≤ bi b) && decide (bi b ≤ 1)) = true := by cases b <;> decide
      rw [e1]
      exact k _ (by tm_at "hp")
  · intro D H2 hD g e2
    rw [bits_all] at e2
    refine l_all (by tm_at "hp") ?_
    have e3 : (ws.map fun _ => true).all id = true := by
      rw [List.all_map, List.all_eq_true]
      intro x _; rfl
    rw [e3]
    exact q _ (by tm_at "hp")
def spWorths : Sp := fun vs H Q _ => ∃ v ws, vs = [v] ∧ WA H v ws ∧ ∀ H', Same H H' → Q .non H'
theorem pure_worths {K : PySem.W.Frag} {w : World} (vs : List V) (H : Hp) (Q : VK) (E : XK) (h : spWorths vs H Q E) :
    t_check_worths K w spBits (Ends.mk (fun _ H' => Q .non H') Q (fun _ _ => False) (fun _ _ => False)) (start ["worths"] vs) H := by
  obtain ⟨v, ws, rfl, hw, q⟩ := h
  unfold t_check_worths
  tm_at "j"
  refine ⟨v, ws, rfl, hw, fun H1 g1 => ?_⟩
  tm_at "j"
  exact q _ (by tm_at "hp")

def spOut (n : Nat) : Sp := fun vs H Q _ => ∃ v u c ws, vs = [v, u] ∧ CA H v c ∧ c.deep < n ∧ n ≤ 12 ∧ c.ok ∧ WA H u ws ∧ ∀ v' H', Same H H' → Told H H' v' (ev ws c) → Q v' H'
theorem ev_small {ws : List Bool} {c : Cond} (h : c.deep < 12) : (ev ws c).2.length ≤ 4096 := by
  have h1 := ev_len ws c
  have h2 := looks_deep c
  have h3 := Nat.pow_le_pow_right (n := 2) (by decide) (show c.deep ≤ 12 by omega)
  omega
theorem pure_outcome {K : PySem.W.Frag} {w : World} {aG : Addr} (k1 : KDct K w aG "and" (.int 1)) (k0 : KDct K w aG "or" (.int 0)) {n : Nat} (vs : List V) (H : Hp) (Q : VK) (E : XK) (h : spOut (n + 1) vs H Q E) :
    t_outcome K w aG (spOut n) (Ends.mk (fun _ H' => Q .non H') Q (fun _ _ => False) (fun _ _ => False)) (start ["condition", "worths", "word", "thing", "worth", "looks", "second", "more"] vs) H := by
  obtain ⟨v, u, c, ws, rfl, hc, hn, h12, ho, hw, q⟩ := h
  unfold t_outcome
  cases hc with
  | look e =>
    rename_i i
    obtain ⟨a, rfl, ha, hl⟩ := id hw
    tm_at "j"
    refine l_ixT (by tm_at "hp") (at_map (d := false) (show i < ws.length by rw [hl]; exact ho)) ?_
    tm_at "j"
    exact q _ _ (by tm_at "hp") ⟨_, _, rfl, by tm_at "hp", by tm_at "hp", by tm_at "hp"⟩
  | not e hc =>
    rename_i c
    have hd : c.deep + 1 < n + 1 := hn
    tm_at "j"
    refine ⟨_, _, _, _, rfl, hc, by omega, by omega, ho, hw, ?_⟩
    rintro v' H1 g1 ⟨p, l, rfl, h0, hp, hq⟩
    tm_at "j"
    have e1 : V.int (1 - bi (ev ws c).1) = vb (ev ws c.not).1 := congrArg V.int (bi_not _)
    rw [show (vb (ev ws c).1) = V.int (bi (ev ws c).1) from rfl]
    tm_at "j"
    rw [e1] at *
    exact q _ _ (by tm_at "hp") ⟨_, _, rfl, by tm_at "hp", by tm_at "hp", by tm_at "hp"⟩
  | bin e h1 h2 =>
    rename_i a v1 v2 c d
    have hd : max c.deep d.deep + 1 < n + 1 := hn
    have hs1 := ev_small (ws := ws) (c := c) (by omega)
    have hs2 := ev_small (ws := ws) (c := d) (by omega)
    rcases hx : ev ws c with ⟨b, ls⟩
    rcases hy : ev ws d with ⟨b2, ls2⟩
    rw [hx] at hs1
    rw [hy] at hs2
    have hs3 : (ls.map vn).length + (ls2.map vn).length ≤ 100000 := by
      rw [List.length_map, List.length_map]
      show ls.length + ls2.length ≤ 100000
      have := show ls.length ≤ 4096 from hs1
      have := show ls2.length ≤ 4096 from hs2
      omega
    have eb : ev ws (.bin a c d) = if b = a then (b2, ls ++ ls2) else (b, ls) := by
      simp only [ev, hx, hy]
    rw [eb] at q
    cases a <;> cases b <;> (
      tm_at "j"
      refine ⟨_, _, _, _, rfl, h1, by omega, by omega, ho.1, hw, ?_⟩
      rw [hx]
      rintro v' H1 g1 ⟨p, l, rfl, h0, hp, hq⟩
      tm_at "j")
    · refine ⟨_, _, _, _, rfl, by tm_at "hp", by omega, by omega, ho.2, by tm_at "hp", ?_⟩
      rw [hy]
      rintro v' H2 g2 ⟨p2, l2, rfl, h02, hp2, hq2⟩
      tm_at "j"
      rw [if_pos rfl] at q
      rw [← List.map_append] at *
      exact q _ _ (by tm_at "hp") (told_mk (by tm_at "hp") (by tm_at "hp") (by tm_at "hp"))
    · exact q _ _ (by tm_at "hp") ⟨_, _, rfl, by tm_at "hp", by tm_at "hp", by tm_at "hp"⟩
    · exact q _ _ (by tm_at "hp") ⟨_, _, rfl, by tm_at "hp", by tm_at "hp", by tm_at "hp"⟩
    · refine ⟨_, _, _, _, rfl, by tm_at "hp", by omega, by omega, ho.2, by tm_at "hp", ?_⟩
      rw [hy]
      rintro v' H2 g2 ⟨p2, l2, rfl, h02, hp2, hq2⟩
      tm_at "j"
      rw [if_pos rfl] at q
      rw [← List.map_append] at *
      exact q _ _ (by tm_at "hp") (told_mk (by tm_at "hp") (by tm_at "hp") (by tm_at "hp"))

/-- a draw: some number of m -/
def spTake : Sp := fun vs H Q _ => ∃ b l ns s, ∃ m : Int, vs = [.ref b, .int m] ∧ Bx H b l ns s ∧ 0 < m ∧ m < 1000000 ∧ ∀ (r : Int) ns' s' H', Fr b l H H' → Bx H' b l ns' s' → 0 ≤ r → r < m → Q (.int r) H'
theorem pure_take {K : PySem.W.Frag} {w : World} (vs : List V) (H : Hp) (Q : VK) (E : XK) (h : spTake vs H Q E) :
    t_law_take K w (Ends.mk (fun _ H' => Q .non H') Q (fun _ _ => False) (fun _ _ => False)) (start ["_law_box", "_law_many", "_law_number"] vs) H := by
  obtain ⟨b, l, ns, s, m, rfl, x, m0, m1, q⟩ := h
  have hb := x.hb
  have hl := x.hl
  have s0 := x.s0
  have s1 := x.s1
  have n63 := x.n63
  unfold t_law_take
  tm_at "j"
  rename_i p H1 np g1 e1
  have x1 := x.same g1
  refine l_eqD (.lst (by tm_at "hp") (dp_ints ns)) (.lst (by tm_at "hp") .nil) (shaped_ints ns) rfl ?_
  cases ns with
  | nil =>
    rw [show PyData.eqv (.list (([] : List Int).map PyData.int)) (.list []) = true from rfl]
    tm_at "j"
    refine l_setL' (K := K) x1.hb rfl fun H2 g2 e2 => ?_
    tm_at "j"
    refine q _ _ _ _ ((Fr.of g1).trans (Fr.b g2)) ⟨x.ne, e2, g2 _ _ x.ne.symm x1.hl, ?_, ?_, by decide⟩ ?_ ?_
    · exact Int.emod_nonneg _ (by decide)
    · exact Int.emod_lt_of_pos _ (by decide)
    · exact Int.emod_nonneg _ (by omega)
    · exact Int.emod_lt_of_pos _ m0
  | cons n r =>
    rw [show PyData.eqv (.list ((n :: r).map PyData.int)) (.list []) = false from rfl]
    have hl1 : H1 l = some (.lst (.int n :: r.map V.int)) := x1.hl
    have hb1 := x1.hb
    have f0 : 0 ≤ n % m := Int.emod_nonneg _ (by omega)
    have f1 : n % m < m := Int.emod_lt_of_pos _ m0
    tm_at "j"
    refine l_setL' (K := K) hl1 (ix0 (by simp)) fun H2 g2 e2 => ?_
    have hb2 : H2 b = some (.lst [.ref l, .int s]) := g2 _ _ x.ne hb1
    have e2' : H2 l = some (.lst (.int (n / m) :: r.map V.int)) := e2
    have fr2 : Fr b l H H2 := (Fr.of g1).trans (Fr.l g2)
    tm_at "j"
    refine i_b (fun e => ?_) (fun e => ?_)
    · tm_at "j"
      refine l_pop0' e2' fun H3 g3 e3 => ?_
      tm_at "j"
      refine q _ r s _ (fr2.trans (Fr.l g3)) ⟨x.ne, g3 _ _ x.ne hb2, e3, s0, s1, ?_⟩ f0 f1
      have : (n :: r).length = r.length + 1 := rfl
      omega
    · tm_at "j"
      refine i_b (fun e => ?_) (fun e => ?_)
      · tm_at "j"
        refine l_pop0' e2' fun H3 g3 e3 => ?_
        tm_at "j"
        refine q _ r s _ (fr2.trans (Fr.l g3)) ⟨x.ne, g3 _ _ x.ne hb2, e3, s0, s1, ?_⟩ f0 f1
        have : (n :: r).length = r.length + 1 := rfl
        omega
      · tm_at "j"
        exact q _ (n / m :: r) s _ fr2 ⟨x.ne, hb2, e2', s0, s1, n63⟩ f0 f1

theorem wd_at {r : Int} (h0 : 0 ≤ r) (h1 : r < 2) : ∃ a, atI [V.str "and", V.str "or"] r = some (.str (wd a)) := by
  obtain rfl | rfl : r = 0 ∨ r = 1 := by omega
  · exact ⟨true, rfl⟩
  · exact ⟨false, rfl⟩
theorem left_at {r u : Int} {m : Nat} (hm : 2 ≤ m) (u0 : 0 ≤ u) (u1 : u < (m : Int) - 1) (h0 : 0 ≤ r) (h1 : r < 4) : ∃ k : Nat, atI [V.int 1, V.int ((m : Int) - 1), V.int (1 + u), V.int ((m : Int) / 2)] r = some (.int (k : Int)) ∧ 1 ≤ k ∧ k + 1 ≤ m := by
  obtain rfl | rfl | rfl | rfl : r = 0 ∨ r = 1 ∨ r = 2 ∨ r = 3 := by omega
  · exact ⟨1, rfl, by omega, by omega⟩
  · refine ⟨m - 1, ?_, by omega, by omega⟩
    rw [show ((m - 1 : Nat) : Int) = (m : Int) - 1 by omega]; rfl
  · refine ⟨(1 + u).toNat, ?_, by omega, by omega⟩
    rw [show (((1 + u).toNat : Nat) : Int) = 1 + u by omega]; rfl
  · refine ⟨m / 2, ?_, by omega, by omega⟩
    rw [show ((m / 2 : Nat) : Int) = (m : Int) / 2 by omega]; rfl
def spPB (x n : Nat) : Sp := fun vs H Q _ => ∃ b l ns s, ∃ m : Nat, ∃ t, ∃ ts : List Nat, vs = [.ref b, .int (m : Int), .ref t] ∧ Bx H b l ns s ∧ 1 ≤ m ∧ m ≤ n ∧ n ≤ 20 ∧ t ≠ b ∧ t ≠ l ∧ H t = some (.lst (ts.map vn)) ∧ 0 < ts.length ∧ ts.length ≤ 8 ∧ (∀ i ∈ ts, i < 8) ∧
  ∀ v c ns' s' H', Fr b l H H' → Bx H' b l ns' s' → CA H' v c → c.ok → c.looks = m → c.deep + x ≤ 2 * m → Q v H'
theorem pure_part {K : PySem.W.Frag} {w : World} {n : Nat} (vs : List V) (H : Hp) (Q : VK) (E : XK) (h : spPB 1 n vs H Q E) :
    t_law_part K w spTake (spPB 2 n) (Ends.mk (fun _ H' => Q .non H') Q (fun _ _ => False) (fun _ _ => False)) (start ["_law_box", "_law_many", "_law_things"] vs) H := by
  obtain ⟨b, l, ns, s, m, t, ts, rfl, x, m1, mn, n20, tb, tl, ht, t0, t8, ti, q⟩ := h
  unfold t_law_part
  tm_at "j"
  refine ⟨b, l, ns, s, 5, rfl, x, by decide, by decide, fun r ns1 s1 H1 f1 x1 r0 r1 => ?_⟩
  tm_at "j"
  have ht1 : H1 t = some (.lst (ts.map vn)) := f1.at tb tl ht
  refine i_b (fun e => ?_) (fun e => ?_)
  · tm_at "j"
    refine ⟨b, l, ns1, s1, m, t, ts, rfl, x1, m1, mn, n20, tb, tl, ht1, t0, t8, ti, fun v c ns2 s2 H2 f2 x2 hc ho hk hd => ?_⟩
    tm_at "j"
    rename_i p H3 np g3 e3
    exact q _ (.not c) ns2 s2 _ ((f1.trans f2).trans (Fr.of g3)) (x2.same g3) (.not e3 (hc.mono g3)) ho hk (by show c.deep + 1 + 1 ≤ 2 * m; omega)
  · tm_at "j"
    refine ⟨b, l, ns1, s1, m, t, ts, rfl, x1, m1, mn, n20, tb, tl, ht1, t0, t8, ti, fun v c ns2 s2 H2 f2 x2 hc ho hk hd => ?_⟩
    tm_at "j"
    exact q _ c ns2 s2 _ (f1.trans f2) x2 hc ho hk (by omega)
theorem pure_bare {K : PySem.W.Frag} {w : World} {n : Nat} (vs : List V) (H : Hp) (Q : VK) (E : XK) (h : spPB 2 (n + 1) vs H Q E) :
    t_law_bare K w spTake (spPB 1 n) (Ends.mk (fun _ H' => Q .non H') Q (fun _ _ => False) (fun _ _ => False)) (start ["_law_box", "_law_many", "_law_things", "_law_left", "_law_word"] vs) H := by
  obtain ⟨b, l, ns, s, m, t, ts, rfl, x, m1, mn, n20, tb, tl, ht, t0, t8, ti, q⟩ := h
  unfold t_law_bare
  tm_at "j"
  refine i_b (fun e => ?_) (fun e => ?_)
  · have em : (m : Int) = 1 := V.int.inj (of_decide_eq_true e)
    have em1 : m = 1 := by omega
    tm_at "j"
    have hlen : (ts.map vn).length = ts.length := List.length_map _
    refine ⟨b, l, ns, s, _, rfl, x, by omega, by omega, fun r ns1 s1 H1 f1 x1 r0 r1 => ?_⟩
    rw [hlen] at r1
    have ht1 : H1 t = some (.lst (ts.map vn)) := f1.at tb tl ht
    obtain ⟨k, rfl⟩ : ∃ k : Nat, r = (k : Int) := ⟨r.toNat, by omega⟩
    have hk : k < ts.length := by omega
    refine l_ixL (by tm_at "hp") (at_map (d := 0) hk) ?_
    tm_at "j"
    rename_i p H2 np g2 e2
    refine q _ (.look (ts.getD k 0)) ns1 s1 _ (f1.trans (Fr.of g2)) (x1.same g2) (.look e2) ?_ (by rw [em1]; rfl) (by rw [em1]; exact Nat.le_refl _)
    show ts.getD k 0 < 8
    refine ti _ ?_
    rw [List.getD_eq_getElem?_getD, List.getElem?_eq_getElem hk]
    exact List.getElem_mem hk
  · have em : ¬ (m : Int) = 1 := fun z => by
      have := of_decide_eq_false e
      exact this (congrArg V.int z)
    tm_at "j"
    refine ⟨b, l, ns, s, _, rfl, x, by omega, by omega, fun u ns1 s1 H1 f1 x1 u0 u1 => ?_⟩
    tm_at "j"
    rename_i p2 H2 np2 g2 e2
    have x2 := x1.same g2
    refine ⟨b, l, ns1, s1, 4, rfl, x2, by decide, by decide, fun r ns3 s3 H3 f3 x3 r0 r1 => ?_⟩
    have e3 := f3.at (ne_of_none x1.hb np2).symm (ne_of_none x1.hl np2).symm e2
    obtain ⟨k, hk, k1, k2⟩ := left_at (r := r) (u := u) (m := m) (by omega) u0 (by omega) r0 r1
    refine l_ixL (by tm_at "hp") hk ?_
    tm_at "j"
    rename_i p4 H4 np4 g4 e4
    have x4 := x3.same g4
    refine ⟨b, l, ns3, s3, 2, rfl, x4, by decide, by decide, fun r2 ns5 s5 H5 f5 x5 r20 r21 => ?_⟩
    have e5 := f5.at (ne_of_none x3.hb np4).symm (ne_of_none x3.hl np4).symm e4
    obtain ⟨a, ha⟩ := wd_at r20 r21
    refine l_ixL (by tm_at "hp") ha ?_
    tm_at "j"
    have f05 : Fr b l H H5 := (((f1.trans (Fr.of g2)).trans f3).trans (Fr.of g4)).trans f5
    refine ⟨b, l, ns5, s5, k, t, ts, rfl, x5, k1, by omega, by omega, tb, tl, f05.at tb tl ht, t0, t8, ti, fun v1 c1 ns6 s6 H6 f6 x6 hc1 ho1 hk1 hd1 => ?_⟩
    tm_at "j"
    refine ⟨b, l, ns6, s6, m - k, t, ts, ?_, x6, by omega, by omega, by omega, tb, tl, (f05.trans f6).at tb tl ht, t0, t8, ti, fun v2 c2 ns7 s7 H7 f7 x7 hc2 ho2 hk2 hd2 => ?_⟩
    · rw [show ((m - k : Nat) : Int) = (m : Int) - (k : Int) by omega]
    tm_at "j"
    rename_i p8 H8 np8 g8 e8
    have hc1' : CA H8 v1 c1 := (hc1.tups (x6.tups f7)).mono g8
    refine q _ (.bin a c1 c2) ns7 s7 _ (((f05.trans f6).trans f7).trans (Fr.of g8)) (x7.same g8) (.bin e8 hc1' (hc2.mono g8)) ⟨ho1, ho2⟩ ?_ ?_
    · show c1.looks + c2.looks = m
      omega
    · show max c1.deep c2.deep + 1 + 2 ≤ 2 * m
      omega

def spDeep (n : Nat) : Sp := fun vs H Q _ => ∃ v c, vs = [v] ∧ CA H v c ∧ c.deep < n ∧ n ≤ 60 ∧ ∀ H', Same H H' → Q (.int (c.deep : Int)) H'
theorem pure_deep {K : PySem.W.Frag} {w : World} {n : Nat} (vs : List V) (H : Hp) (Q : VK) (E : XK) (h : spDeep (n + 1) vs H Q E) :
    t_law_deep K w (spDeep n) (Ends.mk (fun _ H' => Q .non H') Q (fun _ _ => False) (fun _ _ => False)) (start ["_law_part_here", "_law_one"] vs) H := by
  obtain ⟨v, c, rfl, hc, hn, n60, q⟩ := h
  unfold t_law_deep
  cases hc with
  | look e =>
    tm_at "j"
    exact q _ (Same.refl _)
  | not e hc =>
    rename_i v1 c1
    have hn1 : c1.deep + 1 < n + 1 := hn
    tm_at "j"
    refine lcT (xs := [v1]) (ys := [.int (c1.deep : Int)]) (fun _ => rfl) (by tm_at "hp") (by tm_at "dec") ⟨rfl, ?_⟩ ?_
    · intro i x y H' Q' hx hy g k
      rcases i with _ | i
      · obtain rfl : v1 = x := Option.some.inj hx
        obtain rfl := Option.some.inj hy
        tm_at "j"
        exact ⟨v1, c1, rfl, by tm_at "hp", by omega, by omega, k⟩
      · cases hx
    · intro D H2 hD g e2
      tm_at "j"
      refine l_max (ns := [(c1.deep : Int)]) (by tm_at "hp") (by tm_at "dec") ?_
      intro mx hm hle
      obtain rfl : mx = (c1.deep : Int) := by simpa using hm
      tm_at "j"
      rw [show (1 : Int) + (c1.deep : Int) = (((c1.not).deep : Nat) : Int) by show (1 : Int) + _ = ((c1.deep + 1 : Nat) : Int); omega]
      exact q _ (by tm_at "hp")
  | bin e h1 h2 =>
    rename_i a v1 v2 c1 c2
    have hn1 : max c1.deep c2.deep + 1 < n + 1 := hn
    cases a <;> (
      tm_at "j"
      refine lcT (xs := [v1, v2]) (ys := [.int (c1.deep : Int), .int (c2.deep : Int)]) (fun _ => rfl) (by tm_at "hp") (by tm_at "dec") ⟨rfl, ?_⟩ ?_
      · intro i x y H' Q' hx hy g k
        rcases i with _ | _ | i
        · obtain rfl : v1 = x := Option.some.inj hx
          obtain rfl := Option.some.inj hy
          tm_at "j"
          exact ⟨v1, c1, rfl, by tm_at "hp", by omega, by omega, k⟩
        · obtain rfl : v2 = x := Option.some.inj hx
          obtain rfl := Option.some.inj hy
          tm_at "j"
          exact ⟨v2, c2, rfl, by tm_at "hp", by omega, by omega, k⟩
        · cases hx
      · intro D H2 hD g e2
        tm_at "j"
        refine l_max (ns := [(c1.deep : Int), (c2.deep : Int)]) (by tm_at "hp") (by tm_at "dec") ?_
        intro mx hm hle
        have l1 := hle c1.deep (by simp)
        have l2 := hle c2.deep (by simp)
        have em : mx = ((max c1.deep c2.deep : Nat) : Int) := by
          rcases List.mem_cons.mp hm with e0 | hm
          · omega
          · have := List.mem_singleton.mp hm
            omega
        subst em
        tm_at "j"
        have e3 : (1 : Int) + ((max c1.deep c2.deep : Nat) : Int) = ((max c1.deep c2.deep + 1 : Nat) : Int) := by omega
        rw [e3]
        exact q _ (by tm_at "hp"))
/-! _law_condition -/
/-- a condition of at most mx looks -/
def spCond : Sp := fun vs H Q _ => ∃ b l ns s, ∃ mx : Nat, vs = [.ref b, .int (mx : Int)] ∧ Bx H b l ns s ∧ 1 ≤ mx ∧ mx ≤ 20 ∧
  ∀ v c ns' s' H', Fr b l H H' → Bx H' b l ns' s' → CA H' v c → c.ok → c.looks ≤ mx → c.deep ≤ 10 → Q v H'
theorem things_at {t1 t2 t3 : Addr} {H : Hp} {r : Int} (h1 : H t1 = some (.lst [.int 0, .int 1, .int 2])) (h2 : H t2 = some (.lst [.int 0, .int 1, .int 2, .int 3, .int 4, .int 5, .int 6, .int 7])) (h3 : H t3 = some (.lst [.int 5, .int 7])) (r0 : 0 ≤ r) (r1 : r < 3) :
    ∃ t, ∃ ts : List Nat, atI [V.ref t1, V.ref t2, V.ref t3] r = some (.ref t) ∧ H t = some (.lst (ts.map vn)) ∧ 0 < ts.length ∧ ts.length ≤ 8 ∧ ∀ i ∈ ts, i < 8 := by
  obtain rfl | rfl | rfl : r = 0 ∨ r = 1 ∨ r = 2 := by omega
  · exact ⟨t1, [0, 1, 2], rfl, h1, by decide, by decide, by decide⟩
  · exact ⟨t2, [0, 1, 2, 3, 4, 5, 6, 7], rfl, h2, by decide, by decide, by decide⟩
  · exact ⟨t3, [5, 7], rfl, h3, by decide, by decide, by decide⟩
/-- the value in a condition's first place, one step down -/
theorem down {H : Hp} {v : V} {c : Cond} (h : CA H v c) (hd : 0 < c.deep) : ∃ p xs v1 c1, v = .ref p ∧ H p = some (.tup xs) ∧ atI xs 1 = some v1 ∧ CA H v1 c1 ∧ c1.deep < c.deep ∧ c1.looks ≤ c.looks ∧ (c.ok → c1.ok) := by
  cases h with
  | look e => exact absurd hd (Nat.lt_irrefl 0)
  | not e hc => exact ⟨_, _, _, _, rfl, e, rfl, hc, Nat.lt_succ_self _, Nat.le_refl _, id⟩
  | bin e h1 h2 => exact ⟨_, _, _, _, rfl, e, rfl, h1, Nat.lt_succ_of_le (Nat.le_max_left _ _), Nat.le_add_right _ _, fun h => h.1⟩
theorem pure_condition {K : PySem.W.Frag} {w : World} (vs : List V) (H : Hp) (Q : VK) (E : XK) (h : spCond vs H Q E) :
    t_law_condition K w spTake (spPB 1 20) (spDeep 60) (Ends.mk (fun _ H' => Q .non H') Q (fun _ _ => False) (fun _ _ => False)) (start ["_law_box", "_law_most", "_law_things", "_law_part_here"] vs) H := by
  obtain ⟨b, l, ns, s, mx, rfl, x, m1, m20, q⟩ := h
  unfold t_law_condition
  tm_at "j"
  rename_i p1 H1 n1 g1 e1 p2 H2 n2 g2 e2 p3 H3 n3 g3 e3 p4 H4 n4 g4 e4
  have x1 := x.same g1
  have x2 := x1.same g2
  have x3 := x2.same g3
  have x4 := x3.same g4
  refine ⟨b, l, ns, s, 3, rfl, x4, by decide, by decide, fun r ns5 s5 H5 f5 x5 r0 r1 => ?_⟩
  have e15 := f5.at (ne_of_none x.hb n1).symm (ne_of_none x.hl n1).symm (g4 _ _ (g3 _ _ (g2 _ _ e1)))
  have e25 := f5.at (ne_of_none x1.hb n2).symm (ne_of_none x1.hl n2).symm (g4 _ _ (g3 _ _ e2))
  have e35 := f5.at (ne_of_none x2.hb n3).symm (ne_of_none x2.hl n3).symm (g4 _ _ e3)
  have e45 := f5.at (ne_of_none x3.hb n4).symm (ne_of_none x3.hl n4).symm e4
  obtain ⟨t, ts, hat, ht, t0, t8, ti⟩ := things_at e15 e25 e35 r0 r1
  have tb : t ≠ b := by
    intro z
    subst z
    rw [x5.hb] at ht
    match ts, ht with
    | [], h => cases h
    | _ :: _, h => cases h
  have tl : t ≠ l := by
    intro z
    rcases (show t = p1 ∨ t = p2 ∨ t = p3 from by
      obtain rfl | rfl | rfl : r = 0 ∨ r = 1 ∨ r = 2 := by omega
      · exact Or.inl (V.ref.inj (Option.some.inj hat)).symm
      · exact Or.inr (Or.inl (V.ref.inj (Option.some.inj hat)).symm)
      · exact Or.inr (Or.inr (V.ref.inj (Option.some.inj hat)).symm)) with y | y | y
    · exact ne_of_none x.hl n1 (z.symm.trans y)
    · exact ne_of_none x1.hl n2 (z.symm.trans y)
    · exact ne_of_none x2.hl n3 (z.symm.trans y)
  have f05 : Fr b l H H5 := (Fr.of (((g1.trans g2).trans g3).trans g4)).trans f5
  refine l_ixL (by tm_at "hp") hat ?_
  tm_at "j"
  refine ⟨b, l, ns5, s5, _, rfl, x5, by omega, by omega, fun r2 ns6 s6 H6 f6 x6 r20 r21 => ?_⟩
  tm_at "j"
  refine ⟨b, l, ns6, s6, (1 + r2).toNat, t, ts, ?_, x6, by omega, by omega, by decide, tb, tl, f6.at tb tl ht, t0, t8, ti, fun v c ns7 s7 H7 f7 x7 hc ho hk hd => ?_⟩
  · rw [show (((1 + r2).toNat : Nat) : Int) = 1 + r2 by omega]
  have f07 := (f05.trans f6).trans f7
  tm_at "j"
  refine l_whileN (fun m σ' H' => ∃ v c, Same H7 H' ∧ σ' = [some (.ref b), some (.int (mx : Int)), some (.ref t), some v] ∧ CA H' v c ∧ c.ok ∧ c.looks ≤ mx ∧ c.deep ≤ 40 ∧ c.deep = m) c.deep ⟨v, c, Same.refl _, rfl, hc, ho, by omega, by omega, rfl⟩ ?_
  rintro m σ' H' ⟨v, c, g7, rfl, hc, ho, hk, hd, rfl⟩
  tm_at "j"
  refine ⟨v, c, rfl, hc, by omega, by decide, fun H8 g8 => ?_⟩
  tm_at "j"
  refine wb (fun e => ?_) (fun e => ?_)
  · have h10 := of_decide_eq_true e
    obtain ⟨p, xs, v1, c1, rfl, ep, ev1, hc1, hd1, hk1, ho1⟩ := down hc (by omega)
    tm_at "j"
    refine l_ixT (by tm_at "hp") ev1 ?_
    tm_at "j"
    exact ⟨c1.deep, hd1, v1, c1, by tm_at "hp", rfl, by tm_at "hp", ho1 ho, by omega, by omega, rfl⟩
  · have h10 := of_decide_eq_false e
    tm_at "j"
    have g78 := g7.trans g8
    exact q _ c ns7 s7 _ (f07.trans (Fr.of g78)) (x7.same g78) (hc.mono g8) ho hk (by omega)

/-! meant -/
def spMeant : Sp := fun vs H Q _ => ∃ v u c ws, vs = [v, u] ∧ CA H v c ∧ c.ok ∧ c.deep ≤ 10 ∧ c.looks ≤ 12 ∧ WA H u ws ∧ ∀ v' H', Same H H' → Told H H' v' (ev ws c) → Q v' H'
theorem Told.back {H H1 H2 : Hp} {v : V} {x : Bool × List Nat} (g : Same H H1) (h : Told H1 H2 v x) : Told H H2 v x := by
  obtain ⟨p, l, rfl, h0, hp, hq⟩ := h
  exact ⟨p, l, rfl, g.free h0, hp, hq⟩
theorem pure_meant {K : PySem.W.Frag} {w : World} (vs : List V) (H : Hp) (Q : VK) (E : XK) (h : spMeant vs H Q E) :
    t_meant K w spCheck spWorths (spOut 11) (Ends.mk (fun _ H' => Q .non H') Q (fun _ _ => False) (fun _ _ => False)) (start ["condition", "worths"] vs) H := by
  obtain ⟨v, u, c, ws, rfl, hc, ho, hd, hk, hw, q⟩ := h
  unfold t_meant
  tm_at "j"
  refine ⟨v, c, rfl, hc, ho, hd, hk, fun H1 g1 => ?_⟩
  tm_at "j"
  refine ⟨u, ws, rfl, hw.mono g1, fun H2 g2 => ?_⟩
  tm_at "j"
  refine ⟨v, u, c, ws, rfl, (hc.mono g1).mono g2, by omega, by decide, ho, (hw.mono g1).mono g2, fun v' H3 g3 ht => ?_⟩
  exact q _ _ ((g1.trans g2).trans g3) (ht.back (g1.trans g2))
/-! _law_meant -/
theorem pure_lmeant {K : PySem.W.Frag} {w : World} {n : Nat} (vs : List V) (H : Hp) (Q : VK) (E : XK) (h : spOut (n + 1) vs H Q E) :
    t_law_meant K w (spOut n) (Ends.mk (fun _ H' => Q .non H') Q (fun _ _ => False) (fun _ _ => False)) (start ["_law_part_here", "_law_worths_here", "_law_first", "_law_seen", "_law_other", "_law_more"] vs) H := by
  obtain ⟨v, u, c, ws, rfl, hc, hn, h12, ho, hw, q⟩ := h
  unfold t_law_meant
  cases hc with
  | look e =>
    rename_i i
    obtain ⟨a, rfl, ha, hl⟩ := id hw
    tm_at "j"
    refine l_ixT (by tm_at "hp") (at_map (d := false) (show i < ws.length by rw [hl]; exact ho)) ?_
    tm_at "j"
    exact q _ _ (by tm_at "hp") (told_mk (by tm_at "hp") (by tm_at "hp") (by tm_at "hp"))
  | not e hc =>
    rename_i c
    have hd : c.deep + 1 < n + 1 := hn
    tm_at "j"
    refine ⟨_, _, _, _, rfl, hc, by omega, by omega, ho, hw, ?_⟩
    rintro v' H1 g1 ⟨p, l, rfl, h0, hp, hq⟩
    tm_at "j"
    have e1 : V.int (1 - bi (ev ws c).1) = vb (ev ws c.not).1 := congrArg V.int (bi_not _)
    rw [show (vb (ev ws c).1) = V.int (bi (ev ws c).1) from rfl]
    tm_at "j"
    rw [e1] at *
    exact q _ _ (by tm_at "hp") (told_mk (by tm_at "hp") (by tm_at "hp") (by tm_at "hp"))
  | bin e h1 h2 =>
    rename_i a v1 v2 c d
    have hd : max c.deep d.deep + 1 < n + 1 := hn
    have hs1 := ev_small (ws := ws) (c := c) (by omega)
    have hs2 := ev_small (ws := ws) (c := d) (by omega)
    rcases hx : ev ws c with ⟨b, ls⟩
    rcases hy : ev ws d with ⟨b2, ls2⟩
    rw [hx] at hs1
    rw [hy] at hs2
    have hs3 : (ls.map vn).length + (ls2.map vn).length ≤ 100000 := by
      rw [List.length_map, List.length_map]
      show ls.length + ls2.length ≤ 100000
      have := show ls.length ≤ 4096 from hs1
      have := show ls2.length ≤ 4096 from hs2
      omega
    have eb : ev ws (.bin a c d) = if b = a then (b2, ls ++ ls2) else (b, ls) := by
      simp only [ev, hx, hy]
    rw [eb] at q
    cases a <;> cases b <;> (
      tm_at "j"
      refine ⟨_, _, _, _, rfl, h1, by omega, by omega, ho.1, hw, ?_⟩
      rw [hx]
      rintro v' H1 g1 ⟨p, l, rfl, h0, hp, hq⟩
      tm_at "j")
    · refine ⟨_, _, _, _, rfl, by tm_at "hp", by omega, by omega, ho.2, by tm_at "hp", ?_⟩
      rw [hy]
      rintro v' H2 g2 ⟨p2, l2, rfl, h02, hp2, hq2⟩
      tm_at "j"
      rw [if_pos rfl] at q
      rw [← List.map_append] at *
      exact q _ _ (by tm_at "hp") (told_mk (by tm_at "hp") (by tm_at "hp") (by tm_at "hp"))
    · exact q _ _ (by tm_at "hp") (told_mk (by tm_at "hp") (by tm_at "hp") (by tm_at "hp"))
    · exact q _ _ (by tm_at "hp") (told_mk (by tm_at "hp") (by tm_at "hp") (by tm_at "hp"))
    · refine ⟨_, _, _, _, rfl, by tm_at "hp", by omega, by omega, ho.2, by tm_at "hp", ?_⟩
      rw [hy]
      rintro v' H2 g2 ⟨p2, l2, rfl, h02, hp2, hq2⟩
      tm_at "j"
      rw [if_pos rfl] at q
      rw [← List.map_append] at *
      exact q _ _ (by tm_at "hp") (told_mk (by tm_at "hp") (by tm_at "hp") (by tm_at "hp"))

/-! _law_alike, of the same data -/
def spAlike (K : PySem.W.Frag) (n : Nat) : Sp := fun vs H Q _ => ∃ v u d, vs = [v, u] ∧ Dp K H v d ∧ Dp K H u d ∧ okd n d ∧ ∀ H', Same H H' → Q (.bl true) H'
theorem pure_alike {K : PySem.W.Frag} {w : World} {n : Nat} (vs : List V) (H : Hp) (Q : VK) (E : XK) (h : spAlike K (n + 1) vs H Q E) :
    t_law_alike K w (spAlike K n) (Ends.mk (fun _ H' => Q .non H') Q (fun _ _ => False) (fun _ _ => False)) (start ["_law_found", "_law_due", "_law_k"] vs) H := by
  obtain ⟨v, u, d, rfl, hv, hu, hn, q⟩ := h
  unfold t_law_alike
  cases hv with
  | non =>
    cases hu
    tm_at "j"
    exact q _ (Same.refl _)
  | bl b =>
    cases hu
    tm_at "j"
    rw [decide_eq_true rfl]
    exact q _ (Same.refl _)
  | int b =>
    cases hu
    tm_at "j"
    rw [decide_eq_true rfl]
    exact q _ (Same.refl _)
  | str b =>
    cases hu
    tm_at "j"
    rw [decide_eq_true rfl]
    exact q _ (Same.refl _)
  | lst hl ha =>
    cases hu with
    | lst hm hb =>
      rename_i a1 xs ds a2 ys
      have l1 := DpAll.len ha
      have l2 := DpAll.len hb
      have hsz : ds.length ≤ 1000 := hn.1
      tm_at "j"
      refine i_f ?_ ?_
      · rw [l1, l2, decide_eq_true rfl]; rfl
      tm_at "j"
      refine forR (n := ys.length) (by omega) (fun i σ' H' => Same H H' ∧ ∃ o, σ' = [some (.ref a1), some (.ref a2), o]) ⟨Same.refl _, none, rfl⟩ ?_ ?_
      · rintro i σ' H' hi ⟨g, o, rfl⟩
        obtain ⟨x, d, hx, hd, hxd⟩ := DpAll.get (i := i) ha (by omega)
        obtain ⟨y, d', hy, hd', hyd⟩ := DpAll.get (i := i) hb (by omega)
        rw [hd] at hd'
        obtain rfl := Option.some.inj hd'
        rw [Int.zero_add]
        tm_at "j"
        refine l_ixSL (by tm_at "hp") (atI_nat hx) ?_
        tm_at "j"
        refine l_ixSL (by tm_at "hp") (atI_nat hy) ?_
        tm_at "j"
        refine ⟨x, y, d, rfl, Dp.mono g hxd, Dp.mono g hyd, hn.2 d (List.mem_of_getElem? hd), fun H2 g2 => ?_⟩
        tm_at "j"
        exact ⟨g.trans g2, _, rfl⟩
      · rintro σ' H' ⟨g, o, rfl⟩
        tm_at "j"
        exact q _ g
  | tup hl ha =>
    cases hu with
    | tup hm hb =>
      rename_i a1 xs ds a2 ys
      have l1 := DpAll.len ha
      have l2 := DpAll.len hb
      have hsz : ds.length ≤ 1000 := hn.1
      tm_at "j"
      refine i_f ?_ ?_
      · rw [l1, l2, decide_eq_true rfl]; rfl
      tm_at "j"
      refine forR (n := ys.length) (by omega) (fun i σ' H' => Same H H' ∧ ∃ o, σ' = [some (.ref a1), some (.ref a2), o]) ⟨Same.refl _, none, rfl⟩ ?_ ?_
      · rintro i σ' H' hi ⟨g, o, rfl⟩
        obtain ⟨x, d, hx, hd, hxd⟩ := DpAll.get (i := i) ha (by omega)
        obtain ⟨y, d', hy, hd', hyd⟩ := DpAll.get (i := i) hb (by omega)
        rw [hd] at hd'
        obtain rfl := Option.some.inj hd'
        rw [Int.zero_add]
        tm_at "j"
        refine l_ixST (by tm_at "hp") (atI_nat hx) ?_
        tm_at "j"
        refine l_ixST (by tm_at "hp") (atI_nat hy) ?_
        tm_at "j"
        refine ⟨x, y, d, rfl, Dp.mono g hxd, Dp.mono g hyd, hn.2 d (List.mem_of_getElem? hd), fun H2 g2 => ?_⟩
        tm_at "j"
        exact ⟨g.trans g2, _, rfl⟩
      · rintro σ' H' ⟨g, o, rfl⟩
        tm_at "j"
        exact q _ g

/-! _law_worths -/
def wts (n : Nat) : List Bool := [128, 64, 32, 16, 8, 4, 2, 1].map fun d => n / d % 2 == 1
def spWts : Sp := fun vs H Q _ => ∃ n : Nat, vs = [.int (n : Int)] ∧ ∀ v H', Same H H' → WA H' v (wts n) → Q v H'
theorem bit_eq (n d : Nat) : (n : Int) / (d : Int) % 2 = bi (n / d % 2 == 1) := by
  have e : (n : Int) / (d : Int) % 2 = ((n / d % 2 : Nat) : Int) := by rw [Int.natCast_emod, Int.natCast_ediv]; rfl
  rw [e]
  have h : n / d % 2 < 2 := Nat.mod_lt _ (by decide)
  obtain h0 | h0 : n / d % 2 = 0 ∨ n / d % 2 = 1 := by omega
  · rw [h0]; rfl
  · rw [h0]; rfl
theorem pure_wts {K : PySem.W.Frag} {w : World} (vs : List V) (H : Hp) (Q : VK) (E : XK) (h : spWts vs H Q E) :
    t_law_worths K w (Ends.mk (fun _ H' => Q .non H') Q (fun _ _ => False) (fun _ _ => False)) (start ["_law_number", "_law_k"] vs) H := by
  obtain ⟨n, rfl, q⟩ := h
  unfold t_law_worths
  tm_at "j"
  refine lcR (n := 7) (ys := [64, 32, 16, 8, 4, 2, 1].map fun (d : Nat) => V.int ((n : Int) / (d : Int) % 2)) (fun _ => rfl) (by decide) ⟨rfl, ?_⟩ ?_
  · intro i x y H' Q' hx hy g k
    rcases i with _ | _ | _ | _ | _ | _ | _ | i
    case _ => (obtain rfl : V.int (0 + 0) = x := Option.some.inj hx); (obtain rfl := Option.some.inj hy); tm_at "j"; exact k _ (by tm_at "hp")
    case _ => (obtain rfl : V.int (0 + 1) = x := Option.some.inj hx); (obtain rfl := Option.some.inj hy); tm_at "j"; exact k _ (by tm_at "hp")
    case _ => (obtain rfl : V.int (0 + 2) = x := Option.some.inj hx); (obtain rfl := Option.some.inj hy); tm_at "j"; exact k _ (by tm_at "hp")
    case _ => (obtain rfl : V.int (0 + 3) = x := Option.some.inj hx); (obtain rfl := Option.some.inj hy); tm_at "j"; exact k _ (by tm_at "hp")
    case _ => (obtain rfl : V.int (0 + 4) = x := Option.some.inj hx); (obtain rfl := Option.some.inj hy); tm_at "j"; exact k _ (by tm_at "hp")
    case _ => (obtain rfl : V.int (0 + 5) = x := Option.some.inj hx); (obtain rfl := Option.some.inj hy); tm_at "j"; exact k _ (by tm_at "hp")
    case _ => (obtain rfl : V.int (0 + 6) = x := Option.some.inj hx); (obtain rfl := Option.some.inj hy); tm_at "j"; exact k _ (by tm_at "hp")
    case _ => cases hx
  · intro D H2 hD g e2
    tm_at "j"
    refine q _ _ (by tm_at "hp") ⟨_, rfl, ?_, rfl⟩
    have e := bit_eq n
    have e3 : ([V.int ((n : Int) / 128 % 2)] ++ [64, 32, 16, 8, 4, 2, 1].map fun (d : Nat) => V.int ((n : Int) / (d : Int) % 2)) = (wts n).map vb := by
      show [V.int ((n : Int) / 128 % 2), V.int ((n : Int) / 64 % 2), V.int ((n : Int) / 32 % 2), V.int ((n : Int) / 16 % 2), V.int ((n : Int) / 8 % 2), V.int ((n : Int) / 4 % 2), V.int ((n : Int) / 2 % 2), V.int ((n : Int) / 1 % 2)] =
        [vb (n / 128 % 2 == 1), vb (n / 64 % 2 == 1), vb (n / 32 % 2 == 1), vb (n / 16 % 2 == 1), vb (n / 8 % 2 == 1), vb (n / 4 % 2 == 1), vb (n / 2 % 2 == 1), vb (n / 1 % 2 == 1)]
      unfold vb
      rw [← e 128, ← e 64, ← e 32, ← e 16, ← e 8, ← e 4, ← e 2, ← e 1]
      rfl
    rw [← e3]
    tm_at "hp"

/-! _law_begun -/
def spBegun (K : PySem.W.Frag) : Sp := fun vs H Q _ => ∃ a ns, vs = [.ref a] ∧ SqL K H a (ns.map V.int) ∧ ns.length ≤ 63 ∧ ∀ b l s H', Same H H' → Bx H' b l ns s → H b = none → H l = none → Q (.ref b) H'
theorem pure_begun {K : PySem.W.Frag} {w : World} (vs : List V) (H : Hp) (Q : VK) (E : XK) (h : spBegun K vs H Q E) :
    t_law_begun K w (Ends.mk (fun _ H' => Q .non H') Q (fun _ _ => False) (fun _ _ => False)) (start ["_law_script", "_law_stirred", "_law_cell"] vs) H := by
  obtain ⟨a, ns, rfl, ha, n63, q⟩ := h
  unfold t_law_begun
  tm_at "j"
  refine forL (fun i σ' H' => H' = H ∧ ∃ s o, σ' = [some (.ref a), some (.int s), o] ∧ 0 ≤ s ∧ s < 2147483647) ⟨rfl, 0, none, rfl, by decide, by decide⟩ ha ?_ ?_ ?_
  · rintro i σ' H' hi ⟨rfl, _⟩
    exact ha
  · rintro i x σ' H' hx ⟨rfl, s, o, rfl, s0, s1⟩
    rw [List.getElem?_map] at hx
    cases hn : ns[i]? with
    | none => rw [hn] at hx; cases hx
    | some n =>
      rw [hn] at hx
      obtain rfl : V.int n = x := Option.some.inj hx
      tm_at "j"
      exact ⟨rfl, _, _, rfl, Int.emod_nonneg _ (by decide), Int.emod_lt_of_pos _ (by decide)⟩
  · rintro σ' H' ⟨rfl, s, o, rfl, s0, s1⟩
    tm_at "j"
    have hk : (-(2 ^ 64) < (if decide (2 < (((ns.map V.int).length : Nat) : Int)) = true then (1 : Int) else 0)) ∧ (if decide (2 < (((ns.map V.int).length : Nat) : Int)) = true then (1 : Int) else 0) < 2 ^ 64 ∧ 0 ≤ s * (if decide (2 < (((ns.map V.int).length : Nat) : Int)) = true then (1 : Int) else 0) ∧ s * (if decide (2 < (((ns.map V.int).length : Nat) : Int)) = true then (1 : Int) else 0) < 2147483647 := by
      split
      · exact ⟨by decide, by decide, by omega, by omega⟩
      · exact ⟨by decide, by decide, by omega, by omega⟩
    refine l_I (Or.inr ⟨hk.1, hk.2.1⟩) ?_
    tm_at "j"
    rename_i l H1 n1 g1 e1 b H2 n2 g2 e2
    exact q b l _ _ (g1.trans g2) ⟨fun z => ne_of_none e1 n2 z.symm, e2, g2 _ _ e1, hk.2.2.1, hk.2.2.2, n63⟩ (g1.free n2) n1

def spLaw (K : PySem.W.Frag) : Sp := fun vs H Q _ => ∃ (a : Addr) (ns : List Int), vs = [.ref a] ∧ SqL K H a (ns.map V.int) ∧ ns.length ≤ 63 ∧ ∀ H', Q (.bl true) H'
theorem pure_main {K : PySem.W.Frag} {w : World} (vs : List V) (H : Hp) (Q : VK) (E : XK) (h : spLaw K vs H Q E) :
    t_law K w (spBegun K) spCond spWts (spOut 11) spMeant (spAlike K 3) (Ends.mk (fun _ H' => Q .non H') Q (fun _ _ => False) (fun _ _ => False)) (start ["_law_script", "_law_box", "_law_turn", "_law_part_here", "_law_number", "_law_worths_here", "_law_due", "_law_found", "_law_again"] vs) H := by
  obtain ⟨a, ns, rfl, ha, n63, q⟩ := h
  unfold t_law
  tm_at "j"
  refine ⟨a, ns, rfl, ha, n63, fun b l s H1 g1 x1 nb nl => ?_⟩
  tm_at "j"
  refine forR (n := 2) (by decide) (fun i σ' H' => ∃ ns s o2 o3 o4 o5 o6 o7 o8, σ' = [some (.ref a), some (.ref b), o2, o3, o4, o5, o6, o7, o8] ∧ Bx H' b l ns s) ⟨ns, s, _, _, _, _, _, _, _, rfl, x1⟩ ?_ ?_
  · rintro i σ' H' hi ⟨ns, s, o2, o3, o4, o5, o6, o7, o8, rfl, x⟩
    tm_at "j"
    refine ⟨b, l, ns, s, 12, rfl, x, by decide, by decide, fun v c ns2 s2 H2 f2 x2 hc ho hk hd => ?_⟩
    tm_at "j"
    refine forR (n := 256) (by decide) (fun j σ' H' => ∃ ns s o2 o4 o5 o6 o7 o8, σ' = [some (.ref a), some (.ref b), o2, some v, o4, o5, o6, o7, o8] ∧ Bx H' b l ns s ∧ CA H' v c) ⟨ns2, s2, _, _, _, _, _, _, rfl, x2, hc⟩ ?_ ?_
    · rintro j σ' H' hj ⟨ns, s, o2, o4, o5, o6, o7, o8, rfl, x, hc⟩
      tm_at "j"
      rw [Int.zero_add]
      refine ⟨j, rfl, fun u H3 g3 hw => ?_⟩
      tm_at "j"
      have hc3 := hc.mono g3
      have x3 := x.same g3
      refine ⟨v, u, c, wts j, rfl, hc3, by omega, by decide, ho, hw, fun v1 H4 g4 t1 => ?_⟩
      tm_at "j"
      have hc4 := hc3.mono g4
      have hw4 := hw.mono g4
      have x4 := x3.same g4
      refine ⟨v, u, c, wts j, rfl, hc4, ho, hd, hk, hw4, fun v2 H5 g5 t2 => ?_⟩
      tm_at "j"
      have hlen : (ev (wts j) c).2.length ≤ 1000 := by have := ev_len (wts j) c; omega
      refine ⟨v2, v1, _, rfl, dp_told t2, Dp.mono g5 (dp_told t1), ok_told hlen, fun H6 g6 => ?_⟩
      tm_at "j"
      obtain ⟨p2, l2, rfl, n2, e2, e2'⟩ := t2
      have x6 := (x4.same g5).same g6
      tm_at "j"
      refine l_append' (g6 _ _ e2') (by rw [List.length_map]; omega) fun H7 g7 e7 => ?_
      have tp := g7.tups (g6 _ _ e2')
      have hc7 := (hc4.mono (g5.trans g6)).tups tp
      have hw7 := (hw4.mono (g5.trans g6)).tups tp
      have x7 := x6.but g7 (ne_of_none x4.hb n2) (ne_of_none x4.hl n2)
      tm_at "j"
      refine ⟨v, u, c, wts j, rfl, hc7, ho, hd, hk, hw7, fun v3 H8 g8 t3 => ?_⟩
      tm_at "j"
      refine ⟨v, u, c, wts j, rfl, hc7.mono g8, by omega, by decide, ho, hw7.mono g8, fun v4 H9 g9 t4 => ?_⟩
      refine l_neD (Dp.mono g9 (dp_told t3)) (dp_told t4) (shaped_told _) (shaped_told _) ?_
      rw [SeqAt.eqv_refl _ (lay_told _)]
      tm_at "j"
      exact ⟨ns, s, _, _, _, _, _, _, rfl, (x7.same g8).same g9, (hc7.mono g8).mono g9⟩
    · rintro σ' H' ⟨ns, s, o2, o4, o5, o6, o7, o8, rfl, x, hc⟩
      exact ⟨ns, s, _, _, _, _, _, _, _, rfl, x⟩
  · rintro σ' H' ⟨ns, s, o2, o3, o4, o5, o6, o7, o8, rfl, x⟩
    tm_at "j"
    exact q _

theorem ok_are_bits {P : Program} {w : World} {K : PySem.W.Frag} {mg : Str → Option Value} {base : Heap} (T : Tx K mg) {k : Nat} {sp_is_number_up_to sp : Sp} (G_is_number_up_to : FnOk P w K mg base CX0 k T.f_is_number_up_to T.d_is_number_up_to ["value", "most"] sp_is_number_up_to)
    (len : ∀ vs H Q E, sp vs H Q E → vs.length = 2)
    (pure : ∀ vs H Q E, sp vs H Q E → t_are_bits K w sp_is_number_up_to (Ends.mk (fun _ H' => Q .non H') Q (fun _ _ => False) (fun _ _ => False)) (start ["values", "many", "value"] vs) H) :
    FnOk P w K mg base CX0 (k + 1) T.f_are_bits T.d_are_bits ["values", "many"] sp := by
  refine T.F_are_bits.ok sc_are_bits len (fun cdv A outer s H vs Q E hr h => ⟨t_are_bits K w sp_is_number_up_to, ?_, pure vs H Q E h⟩)
  exact (pss_one (ps_ret (pe_and (pe_cmpR op_eq (pe_callB call_rLen (by rfl) T.n_len PySem.boot_len (pa_cons (pv 0) (pa_nil))) (pv 1) (nomark _)) (pe_one (pe_callB (cr_all rfl) (by rfl) T.n_all (by decide +kernel) (pa_cons (pe_lc (own := [("value", 2)]) rfl sc_are_bits.nd (pi_tup (pv 0)) (blkOk_by (own := [("value", 2)]) (N := ["values", "many", "value"]) (sc := defScope s_are_bits) (by decide +kernel)) (fun _ _ _ _ _ => pg_name (i := 2) sc_are_bits.nd rfl (by first | exact Or.inl rfl | exact Or.inr rfl)) (fun _ _ _ _ _ => pts_nil) (fun _ _ _ _ _ => pe_call G_is_number_up_to hr rfl T.m_is_number_up_to T.F_is_number_up_to.kp T.b_is_number_up_to .nil pass0 (pa_cons (pv 2) (pa_cons (pe_int) (pa_nil))))) (pa_nil)))))))

theorem ok_check_condition {P : Program} {w : World} {K : PySem.W.Frag} {mg : Str → Option Value} {base : Heap} (T : Tx K mg) {k : Nat} {sp_count_looks sp : Sp} (G_count_looks : FnOk P w K mg base CX0 k T.f_count_looks T.d_count_looks ["condition", "around"] sp_count_looks)
    (len : ∀ vs H Q E, sp vs H Q E → vs.length = 1)
    (pure : ∀ vs H Q E, sp vs H Q E → t_check_condition K w sp_count_looks (Ends.mk (fun _ H' => Q .non H') Q (fun _ _ => False) (fun _ _ => False)) (start ["condition"] vs) H) :
    FnOk P w K mg base CX0 (k + 1) T.f_check_condition T.d_check_condition ["condition"] sp := by
  refine T.F_check_condition.ok sc_check_condition len (fun cdv A outer s H vs Q E hr h => ⟨t_check_condition K w sp_count_looks, ?_, pure vs H Q E h⟩)
  exact (pss_one (ps_if (pt_cmpR op_gt (pe_call G_count_looks hr rfl T.m_count_looks T.F_count_looks.kp T.b_count_looks .nil pass0 (pa_cons (pv 0) (pa_cons (pe_int) (pa_nil)))) (pe_glob rfl T.c_MOST_LOOKS ⟨_, rfl⟩) (nomark _)) (pss_never) (pss_nil)))

theorem ok_check_worths {P : Program} {w : World} {K : PySem.W.Frag} {mg : Str → Option Value} {base : Heap} (T : Tx K mg) {k : Nat} {sp_are_bits sp : Sp} (G_are_bits : FnOk P w K mg base CX0 k T.f_are_bits T.d_are_bits ["values", "many"] sp_are_bits)
    (len : ∀ vs H Q E, sp vs H Q E → vs.length = 1)
    (pure : ∀ vs H Q E, sp vs H Q E → t_check_worths K w sp_are_bits (Ends.mk (fun _ H' => Q .non H') Q (fun _ _ => False) (fun _ _ => False)) (start ["worths"] vs) H) :
    FnOk P w K mg base CX0 (k + 1) T.f_check_worths T.d_check_worths ["worths"] sp := by
  refine T.F_check_worths.ok sc_check_worths len (fun cdv A outer s H vs Q E hr h => ⟨t_check_worths K w sp_are_bits, ?_, pure vs H Q E h⟩)
  exact (pss_one (ps_if (pt_not (pt_val (pe_call G_are_bits hr rfl T.m_are_bits T.F_are_bits.kp T.b_are_bits .nil pass0 (pa_cons (pv 0) (pa_cons (pe_glob rfl T.c_THINGS ⟨_, rfl⟩) (pa_nil)))))) (pss_never) (pss_nil)))

theorem ok_count_looks {P : Program} {w : World} {K : PySem.W.Frag} {mg : Str → Option Value} {base : Heap} (T : Tx K mg) {k : Nat} {sp_has_form sp_count_looks sp : Sp} (G_has_form : FnOk P w K mg base CX0 k T.f_has_form T.d_has_form ["condition"] sp_has_form) (G_count_looks : FnOk P w K mg base CX0 k T.f_count_looks T.d_count_looks ["condition", "around"] sp_count_looks)
    (len : ∀ vs H Q E, sp vs H Q E → vs.length = 2)
    (pure : ∀ vs H Q E, sp vs H Q E → t_count_looks K w sp_has_form sp_count_looks (Ends.mk (fun _ H' => Q .non H') Q (fun _ _ => False) (fun _ _ => False)) (start ["condition", "around", "side"] vs) H) :
    FnOk P w K mg base CX0 (k + 1) T.f_count_looks T.d_count_looks ["condition", "around"] sp := by
  refine T.F_count_looks.ok sc_count_looks len (fun cdv A outer s H vs Q E hr h => ⟨t_count_looks K w sp_has_form sp_count_looks, ?_, pure vs H Q E h⟩)
  exact (pss_cons (ps_if (pt_cmpR op_gt (pv 1) (pe_glob rfl T.c_MOST_AROUND ⟨_, rfl⟩) (nomark _)) (pss_never) (pss_nil))
      (pss_cons (ps_if (pt_not (pt_val (pe_call G_has_form hr rfl T.m_has_form T.F_has_form.kp T.b_has_form .nil pass0 (pa_cons (pv 0) (pa_nil))))) (pss_never) (pss_nil))
      (pss_cons (ps_if (pt_cmpR op_eq (pe_ix ix_tup (pv 0) (pe_int) (fun _ _ => rfl)) (pe_str) (nomark _)) (pss_one (ps_ret (pe_int))) (pss_nil))
      (pss_one (ps_ret (pe_callB (cr_sum rfl) (by rfl) T.n_sum (by decide +kernel) (pa_cons (pe_lc (own := [("side", 2)]) rfl sc_count_looks.nd (pi_tup (pe_slice sl_tup (pv 0) (po_some (pe_int)) (po_none))) (blkOk_by (own := [("side", 2)]) (N := ["condition", "around", "side"]) (sc := defScope s_count_looks) (by decide +kernel)) (fun _ _ _ _ _ => pg_name (i := 2) sc_count_looks.nd rfl (by first | exact Or.inl rfl | exact Or.inr rfl)) (fun _ _ _ _ _ => pts_nil) (fun _ _ _ _ _ => pe_call G_count_looks hr rfl T.m_count_looks T.F_count_looks.kp T.b_count_looks .nil pass0 (pa_cons (pv 2) (pa_cons (pe_op op_add (pv 1) (pe_int)) (pa_nil))))) (pa_nil))))))))

theorem ok_has_form {P : Program} {w : World} {K : PySem.W.Frag} {mg : Str → Option Value} {base : Heap} (T : Tx K mg) {k : Nat} {sp_is_number_up_to sp : Sp} (G_is_number_up_to : FnOk P w K mg base CX0 k T.f_is_number_up_to T.d_is_number_up_to ["value", "most"] sp_is_number_up_to)
    (len : ∀ vs H Q E, sp vs H Q E → vs.length = 1)
    (pure : ∀ vs H Q E, sp vs H Q E → t_has_form K w sp_is_number_up_to (Ends.mk (fun _ H' => Q .non H') Q (fun _ _ => False) (fun _ _ => False)) (start ["condition", "word"] vs) H) :
    FnOk P w K mg base CX0 (k + 1) T.f_has_form T.d_has_form ["condition"] sp := by
  refine T.F_has_form.ok sc_has_form len (fun cdv A outer s H vs Q E hr h => ⟨t_has_form K w sp_is_number_up_to, ?_, pure vs H Q E h⟩)
  exact (pss_cons (ps_if (PW.pt (pw_or (pt_not (pt_val (pe_callB call_isi (by rfl) T.n_isinstance (by decide +kernel) (pa_cons (pv 0) (pa_cons (pe_bltn (by rfl) T.n_tuple (by decide +kernel) rfl) (pa_nil)))))) (pw_or1 (pt_cmpR op_eq (pe_callB call_rLen (by rfl) T.n_len PySem.boot_len (pa_cons (pv 0) (pa_nil))) (pe_int) (nomark _))))) (pss_one (ps_ret (pe_bl))) (pss_nil))
      (pss_cons (ps_set (i := 1) sc_has_form.nd rfl (by first | exact Or.inl rfl | exact Or.inr rfl) (pe_ix ix_tup (pv 0) (pe_int) (fun _ _ => rfl)))
      (pss_cons (ps_if (pt_cmpR op_eq (pv 1) (pe_str) (nomark _)) (pss_one (ps_ret (pe_and (pe_cmpR op_eq (pe_callB call_rLen (by rfl) T.n_len PySem.boot_len (pa_cons (pv 0) (pa_nil))) (pe_int) (nomark _)) (pe_one (pe_call G_is_number_up_to hr rfl T.m_is_number_up_to T.F_is_number_up_to.kp T.b_is_number_up_to .nil pass0 (pa_cons (pe_ix ix_tup (pv 0) (pe_int) (fun _ _ => rfl)) (pa_cons (pe_op op_sub (pe_glob rfl T.c_THINGS ⟨_, rfl⟩) (pe_int)) (pa_nil)))))))) (pss_nil))
      (pss_cons (ps_if (pt_cmpR op_eq (pv 1) (pe_str) (nomark _)) (pss_one (ps_ret (pe_cmpR op_eq (pe_callB call_rLen (by rfl) T.n_len PySem.boot_len (pa_cons (pv 0) (pa_nil))) (pe_int) (nomark _)))) (pss_nil))
      (pss_one (ps_ret (pe_and (pe_cmpR op_in_seq (pv 1) (pe_tup (pa_cons (pe_str) (pa_cons (pe_str) (pa_nil)))) (by with_unfolding_all rfl)) (pe_one (pe_cmpR op_eq (pe_callB call_rLen (by rfl) T.n_len PySem.boot_len (pa_cons (pv 0) (pa_nil))) (pe_int) (nomark _))))))))))

theorem ok_is_number_up_to {P : Program} {w : World} {K : PySem.W.Frag} {mg : Str → Option Value} {base : Heap} (T : Tx K mg) {k : Nat} { sp : Sp} 
    (len : ∀ vs H Q E, sp vs H Q E → vs.length = 2)
    (pure : ∀ vs H Q E, sp vs H Q E → t_is_number_up_to K w (Ends.mk (fun _ H' => Q .non H') Q (fun _ _ => False) (fun _ _ => False)) (start ["value", "most"] vs) H) :
    FnOk P w K mg base CX0 (k + 1) T.f_is_number_up_to T.d_is_number_up_to ["value", "most"] sp := by
  refine T.F_is_number_up_to.ok sc_is_number_up_to len (fun cdv A outer s H vs Q E hr h => ⟨t_is_number_up_to K w, ?_, pure vs H Q E h⟩)
  exact (pss_cons (ps_if (PW.pt (pw_or (pt_val (pe_callB call_isi (by rfl) T.n_isinstance (by decide +kernel) (pa_cons (pv 0) (pa_cons (pe_bltn (by rfl) T.n_bool (by decide +kernel) rfl) (pa_nil))))) (pw_or1 (pt_not (pt_val (pe_callB call_isi (by rfl) T.n_isinstance (by decide +kernel) (pa_cons (pv 0) (pa_cons (pe_bltn (by rfl) T.n_int (by decide +kernel) rfl) (pa_nil))))))))) (pss_one (ps_ret (pe_bl))) (pss_nil))
      (pss_one (ps_ret (pe_chain op_le op_le (pe_int) (pv 0) (pv 1)))))

theorem ok_law {P : Program} {w : World} {K : PySem.W.Frag} {mg : Str → Option Value} {base : Heap} (T : Tx K mg) {k : Nat} {sp_law_begun sp_law_condition sp_law_worths sp_law_meant sp_meant sp_law_alike sp : Sp} (G_law_begun : FnOk P w K mg base CX0 k T.f_law_begun T.d_law_begun ["_law_script"] sp_law_begun) (G_law_condition : FnOk P w K mg base CX0 k T.f_law_condition T.d_law_condition ["_law_box", "_law_most"] sp_law_condition) (G_law_worths : FnOk P w K mg base CX0 k T.f_law_worths T.d_law_worths ["_law_number"] sp_law_worths) (G_law_meant : FnOk P w K mg base CX0 k T.f_law_meant T.d_law_meant ["_law_part_here", "_law_worths_here"] sp_law_meant) (G_meant : FnOk P w K mg base CX0 k T.f_meant T.d_meant ["condition", "worths"] sp_meant) (G_law_alike : FnOk P w K mg base CX0 k T.f_law_alike T.d_law_alike ["_law_found", "_law_due"] sp_law_alike)
    (len : ∀ vs H Q E, sp vs H Q E → vs.length = 1)
    (pure : ∀ vs H Q E, sp vs H Q E → t_law K w sp_law_begun sp_law_condition sp_law_worths sp_law_meant sp_meant sp_law_alike (Ends.mk (fun _ H' => Q .non H') Q (fun _ _ => False) (fun _ _ => False)) (start ["_law_script", "_law_box", "_law_turn", "_law_part_here", "_law_number", "_law_worths_here", "_law_due", "_law_found", "_law_again"] vs) H) :
    FnOk P w K mg base CX0 (k + 1) T.f_law T.d_law ["_law_script"] sp := by
  refine T.F_law.ok sc_law len (fun cdv A outer s H vs Q E hr h => ⟨t_law K w sp_law_begun sp_law_condition sp_law_worths sp_law_meant sp_meant sp_law_alike, ?_, pure vs H Q E h⟩)
  exact (pss_cons (ps_set (i := 1) sc_law.nd rfl (by first | exact Or.inl rfl | exact Or.inr rfl) (pe_call G_law_begun hr rfl T.m_law_begun T.F_law_begun.kp T.b_law_begun .nil pass0 (pa_cons (pv 0) (pa_nil))))
      (pss_cons (ps_for PassesOwn.never rfl (pi_range1 (by rfl) T.n_range (pa_cons (pe_int) (pa_nil))) (pg_name (i := 2) sc_law.nd rfl (by first | exact Or.inl rfl | exact Or.inr rfl)) (pss_cons (ps_set (i := 3) sc_law.nd rfl (by first | exact Or.inl rfl | exact Or.inr rfl) (pe_call G_law_condition hr rfl T.m_law_condition T.F_law_condition.kp T.b_law_condition .nil pass0 (pa_cons (pv 1) (pa_cons (pe_int) (pa_nil)))))
      (pss_one (ps_for PassesOwn.never rfl (pi_range1 (by rfl) T.n_range (pa_cons (pe_int) (pa_nil))) (pg_name (i := 4) sc_law.nd rfl (by first | exact Or.inl rfl | exact Or.inr rfl)) (pss_cons (ps_set (i := 5) sc_law.nd rfl (by first | exact Or.inl rfl | exact Or.inr rfl) (pe_call G_law_worths hr rfl T.m_law_worths T.F_law_worths.kp T.b_law_worths .nil pass0 (pa_cons (pv 4) (pa_nil))))
      (pss_cons (ps_set (i := 6) sc_law.nd rfl (by first | exact Or.inl rfl | exact Or.inr rfl) (pe_call G_law_meant hr rfl T.m_law_meant T.F_law_meant.kp T.b_law_meant .nil pass0 (pa_cons (pv 3) (pa_cons (pv 5) (pa_nil)))))
      (pss_cons (ps_set (i := 7) sc_law.nd rfl (by first | exact Or.inl rfl | exact Or.inr rfl) (pe_call G_meant hr rfl T.m_meant T.F_meant.kp T.b_meant .nil pass0 (pa_cons (pv 3) (pa_cons (pv 5) (pa_nil)))))
      (pss_cons (ps_if (pt_not (pt_val (pe_call G_law_alike hr rfl T.m_law_alike T.F_law_alike.kp T.b_law_alike .nil pass0 (pa_cons (pv 7) (pa_cons (pv 6) (pa_nil)))))) (pss_one (ps_ret (pe_bl))) (pss_nil))
      (pss_cons (ps_expr (pe_bm PySem.F.plainAttrs_list PySem.F.slot_list_append PySem.F.type_list_append mt_append (pe_ix ix_tup (pv 7) (pe_int) (fun _ _ => rfl)) (pa_cons (pe_int) (pa_nil))))
      (pss_cons (ps_set (i := 8) sc_law.nd rfl (by first | exact Or.inl rfl | exact Or.inr rfl) (pe_call G_meant hr rfl T.m_meant T.F_meant.kp T.b_meant .nil pass0 (pa_cons (pv 3) (pa_cons (pv 5) (pa_nil)))))
      (pss_one (ps_if (pt_cmpR (op_neD hr.units) (pv 8) (pe_call G_law_meant hr rfl T.m_law_meant T.F_law_meant.kp T.b_law_meant .nil pass0 (pa_cons (pv 3) (pa_cons (pv 5) (pa_nil)))) (nomark _)) (pss_one (ps_ret (pe_bl))) (pss_nil)))))))))))))
      (pss_one (ps_ret (pe_bl)))))

theorem ok_law_alike {P : Program} {w : World} {K : PySem.W.Frag} {mg : Str → Option Value} {base : Heap} (T : Tx K mg) {k : Nat} {sp_law_alike sp : Sp} (G_law_alike : FnOk P w K mg base CX0 k T.f_law_alike T.d_law_alike ["_law_found", "_law_due"] sp_law_alike)
    (len : ∀ vs H Q E, sp vs H Q E → vs.length = 2)
    (pure : ∀ vs H Q E, sp vs H Q E → t_law_alike K w sp_law_alike (Ends.mk (fun _ H' => Q .non H') Q (fun _ _ => False) (fun _ _ => False)) (start ["_law_found", "_law_due", "_law_k"] vs) H) :
    FnOk P w K mg base CX0 (k + 1) T.f_law_alike T.d_law_alike ["_law_found", "_law_due"] sp := by
  refine T.F_law_alike.ok sc_law_alike len (fun cdv A outer s H vs Q E hr h => ⟨t_law_alike K w sp_law_alike, ?_, pure vs H Q E h⟩)
  exact (pss_cons (ps_if (pt_cmpR op_isN (pv 1) (pe_non) (nomark _)) (pss_one (ps_ret (pe_cmpR op_isN (pv 0) (pe_non) (nomark _)))) (pss_nil))
      (pss_cons (ps_if (pt_val (pe_callB call_isi (by rfl) T.n_isinstance (by decide +kernel) (pa_cons (pv 1) (pa_cons (pe_bltn (by rfl) T.n_bool (by decide +kernel) rfl) (pa_nil))))) (pss_one (ps_ret (pe_and (pe_callB call_isi (by rfl) T.n_isinstance (by decide +kernel) (pa_cons (pv 0) (pa_cons (pe_bltn (by rfl) T.n_bool (by decide +kernel) rfl) (pa_nil)))) (pe_one (pe_cmpR op_eq (pv 0) (pv 1) (nomark _)))))) (pss_nil))
      (pss_cons (ps_if (pt_val (pe_callB call_isi (by rfl) T.n_isinstance (by decide +kernel) (pa_cons (pv 1) (pa_cons (pe_bltn (by rfl) T.n_int (by decide +kernel) rfl) (pa_nil))))) (pss_one (ps_ret (pe_and (pe_callB call_isi (by rfl) T.n_isinstance (by decide +kernel) (pa_cons (pv 0) (pa_cons (pe_bltn (by rfl) T.n_int (by decide +kernel) rfl) (pa_nil)))) (pe_and (pe_not (pe_callB call_isi (by rfl) T.n_isinstance (by decide +kernel) (pa_cons (pv 0) (pa_cons (pe_bltn (by rfl) T.n_bool (by decide +kernel) rfl) (pa_nil))))) (pe_one (pe_cmpR op_eq (pv 0) (pv 1) (nomark _))))))) (pss_nil))
      (pss_cons (ps_if (pt_val (pe_callB call_isi (by rfl) T.n_isinstance (by decide +kernel) (pa_cons (pv 1) (pa_cons (pe_bltn (by rfl) T.n_str (by decide +kernel) rfl) (pa_nil))))) (pss_one (ps_ret (pe_and (pe_callB call_isi (by rfl) T.n_isinstance (by decide +kernel) (pa_cons (pv 0) (pa_cons (pe_bltn (by rfl) T.n_str (by decide +kernel) rfl) (pa_nil)))) (pe_one (pe_cmpR op_eq (pv 0) (pv 1) (nomark _)))))) (pss_nil))
      (pss_cons (ps_if (PW.pt (pw_or (pt_cmpR op_ne (pe_callB call_isi (by rfl) T.n_isinstance (by decide +kernel) (pa_cons (pv 1) (pa_cons (pe_bltn (by rfl) T.n_tuple (by decide +kernel) rfl) (pa_nil)))) (pe_callB call_isi (by rfl) T.n_isinstance (by decide +kernel) (pa_cons (pv 0) (pa_cons (pe_bltn (by rfl) T.n_tuple (by decide +kernel) rfl) (pa_nil)))) (nomark _)) (pw_or1 (pt_cmpR op_ne (pe_callB call_isi (by rfl) T.n_isinstance (by decide +kernel) (pa_cons (pv 1) (pa_cons (pe_bltn (by rfl) T.n_list (by decide +kernel) rfl) (pa_nil)))) (pe_callB call_isi (by rfl) T.n_isinstance (by decide +kernel) (pa_cons (pv 0) (pa_cons (pe_bltn (by rfl) T.n_list (by decide +kernel) rfl) (pa_nil)))) (nomark _))))) (pss_one (ps_ret (pe_bl))) (pss_nil))
      (pss_cons (ps_if (pt_cmpR op_ne (pe_callB call_rLen (by rfl) T.n_len PySem.boot_len (pa_cons (pv 0) (pa_nil))) (pe_callB call_rLen (by rfl) T.n_len PySem.boot_len (pa_cons (pv 1) (pa_nil))) (nomark _)) (pss_one (ps_ret (pe_bl))) (pss_nil))
      (pss_cons (ps_for PassesOwn.never rfl (pi_range1 (by rfl) T.n_range (pa_cons (pe_callB call_rLen (by rfl) T.n_len PySem.boot_len (pa_cons (pv 1) (pa_nil))) (pa_nil))) (pg_name (i := 2) sc_law_alike.nd rfl (by first | exact Or.inl rfl | exact Or.inr rfl)) (pss_one (ps_if (pt_not (pt_val (pe_call G_law_alike hr rfl T.m_law_alike T.F_law_alike.kp T.b_law_alike .nil pass0 (pa_cons (pe_ix ix_seq (pv 0) (pv 2) (fun _ _ => rfl)) (pa_cons (pe_ix ix_seq (pv 1) (pv 2) (fun _ _ => rfl)) (pa_nil)))))) (pss_one (ps_ret (pe_bl))) (pss_nil))))
      (pss_one (ps_ret (pe_bl))))))))))

theorem ok_law_bare {P : Program} {w : World} {K : PySem.W.Frag} {mg : Str → Option Value} {base : Heap} (T : Tx K mg) {k : Nat} {sp_law_take sp_law_part sp : Sp} (G_law_take : FnOk P w K mg base CX0 k T.f_law_take T.d_law_take ["_law_box", "_law_many"] sp_law_take) (G_law_part : FnOk P w K mg base CX0 k T.f_law_part T.d_law_part ["_law_box", "_law_many", "_law_things"] sp_law_part)
    (len : ∀ vs H Q E, sp vs H Q E → vs.length = 3)
    (pure : ∀ vs H Q E, sp vs H Q E → t_law_bare K w sp_law_take sp_law_part (Ends.mk (fun _ H' => Q .non H') Q (fun _ _ => False) (fun _ _ => False)) (start ["_law_box", "_law_many", "_law_things", "_law_left", "_law_word"] vs) H) :
    FnOk P w K mg base CX0 (k + 1) T.f_law_bare T.d_law_bare ["_law_box", "_law_many", "_law_things"] sp := by
  refine T.F_law_bare.ok sc_law_bare len (fun cdv A outer s H vs Q E hr h => ⟨t_law_bare K w sp_law_take sp_law_part, ?_, pure vs H Q E h⟩)
  exact (pss_cons (ps_if (pt_cmpR op_eq (pv 1) (pe_int) (nomark _)) (pss_one (ps_ret (pe_tup (pa_cons (pe_str) (pa_cons (pe_ix ix_list (pv 2) (pe_call G_law_take hr rfl T.m_law_take T.F_law_take.kp T.b_law_take .nil pass0 (pa_cons (pv 0) (pa_cons (pe_callB call_rLen (by rfl) T.n_len PySem.boot_len (pa_cons (pv 2) (pa_nil))) (pa_nil)))) (fun _ _ => rfl)) (pa_nil)))))) (pss_nil))
      (pss_cons (ps_set (i := 3) sc_law_bare.nd rfl (by first | exact Or.inl rfl | exact Or.inr rfl) (pe_ix ix_list (pe_lst (pa_cons (pe_int) (pa_cons (pe_op op_sub (pv 1) (pe_int)) (pa_cons (pe_op op_add (pe_int) (pe_call G_law_take hr rfl T.m_law_take T.F_law_take.kp T.b_law_take .nil pass0 (pa_cons (pv 0) (pa_cons (pe_op op_sub (pv 1) (pe_int)) (pa_nil))))) (pa_cons (pe_op op_fdiv (pv 1) (pe_int)) (pa_nil)))))) (pe_call G_law_take hr rfl T.m_law_take T.F_law_take.kp T.b_law_take .nil pass0 (pa_cons (pv 0) (pa_cons (pe_int) (pa_nil)))) (fun _ _ => rfl)))
      (pss_cons (ps_set (i := 4) sc_law_bare.nd rfl (by first | exact Or.inl rfl | exact Or.inr rfl) (pe_ix ix_list (pe_lst (pa_cons (pe_str) (pa_cons (pe_str) (pa_nil)))) (pe_call G_law_take hr rfl T.m_law_take T.F_law_take.kp T.b_law_take .nil pass0 (pa_cons (pv 0) (pa_cons (pe_int) (pa_nil)))) (fun _ _ => rfl)))
      (pss_one (ps_ret (pe_tup (pa_cons (pv 4) (pa_cons (pe_call G_law_part hr rfl T.m_law_part T.F_law_part.kp T.b_law_part .nil pass0 (pa_cons (pv 0) (pa_cons (pv 3) (pa_cons (pv 2) (pa_nil))))) (pa_cons (pe_call G_law_part hr rfl T.m_law_part T.F_law_part.kp T.b_law_part .nil pass0 (pa_cons (pv 0) (pa_cons (pe_op op_sub (pv 1) (pv 3)) (pa_cons (pv 2) (pa_nil))))) (pa_nil))))))))))

theorem ok_law_begun {P : Program} {w : World} {K : PySem.W.Frag} {mg : Str → Option Value} {base : Heap} (T : Tx K mg) {k : Nat} { sp : Sp} 
    (len : ∀ vs H Q E, sp vs H Q E → vs.length = 1)
    (pure : ∀ vs H Q E, sp vs H Q E → t_law_begun K w (Ends.mk (fun _ H' => Q .non H') Q (fun _ _ => False) (fun _ _ => False)) (start ["_law_script", "_law_stirred", "_law_cell"] vs) H) :
    FnOk P w K mg base CX0 (k + 1) T.f_law_begun T.d_law_begun ["_law_script"] sp := by
  refine T.F_law_begun.ok sc_law_begun len (fun cdv A outer s H vs Q E hr h => ⟨t_law_begun K w, ?_, pure vs H Q E h⟩)
  exact (pss_cons (ps_set (i := 1) sc_law_begun.nd rfl (by first | exact Or.inl rfl | exact Or.inr rfl) (pe_int))
      (pss_cons (ps_for PassesOwn.never rfl (pi_list (pv 0)) (pg_name (i := 2) sc_law_begun.nd rfl (by first | exact Or.inl rfl | exact Or.inr rfl)) (pss_one (ps_set (i := 1) sc_law_begun.nd rfl (by first | exact Or.inl rfl | exact Or.inr rfl) (pe_op op_mod (pe_op op_add (pe_op op_add (pe_op op_mul (pv 1) (pe_int)) (pe_op op_mul (pv 2) (pe_int))) (pe_int)) (pe_int)))))
      (pss_one (ps_ret (pe_lst (pa_cons (pe_callTy call_rListOf (by rfl) T.n_list (by decide +kernel) (pa_cons (pv 0) (pa_nil))) (pa_cons (pe_op op_mul (pv 1) (pe_callTy call_rInt1 (by rfl) T.n_int (by decide +kernel) (pa_cons (pe_cmpR op_gt (pe_callB call_rLen (by rfl) T.n_len PySem.boot_len (pa_cons (pv 0) (pa_nil))) (pe_int) (nomark _)) (pa_nil)))) (pa_nil))))))))

theorem ok_law_condition {P : Program} {w : World} {K : PySem.W.Frag} {mg : Str → Option Value} {base : Heap} (T : Tx K mg) {k : Nat} {sp_law_take sp_law_part sp_law_deep sp : Sp} (G_law_take : FnOk P w K mg base CX0 k T.f_law_take T.d_law_take ["_law_box", "_law_many"] sp_law_take) (G_law_part : FnOk P w K mg base CX0 k T.f_law_part T.d_law_part ["_law_box", "_law_many", "_law_things"] sp_law_part) (G_law_deep : FnOk P w K mg base CX0 k T.f_law_deep T.d_law_deep ["_law_part_here"] sp_law_deep)
    (len : ∀ vs H Q E, sp vs H Q E → vs.length = 2)
    (pure : ∀ vs H Q E, sp vs H Q E → t_law_condition K w sp_law_take sp_law_part sp_law_deep (Ends.mk (fun _ H' => Q .non H') Q (fun _ _ => False) (fun _ _ => False)) (start ["_law_box", "_law_most", "_law_things", "_law_part_here"] vs) H) :
    FnOk P w K mg base CX0 (k + 1) T.f_law_condition T.d_law_condition ["_law_box", "_law_most"] sp := by
  refine T.F_law_condition.ok sc_law_condition len (fun cdv A outer s H vs Q E hr h => ⟨t_law_condition K w sp_law_take sp_law_part sp_law_deep, ?_, pure vs H Q E h⟩)
  exact (pss_cons (ps_set (i := 2) sc_law_condition.nd rfl (by first | exact Or.inl rfl | exact Or.inr rfl) (pe_ix ix_list (pe_lst (pa_cons (pe_lst (pa_cons (pe_int) (pa_cons (pe_int) (pa_cons (pe_int) (pa_nil))))) (pa_cons (pe_lst (pa_cons (pe_int) (pa_cons (pe_int) (pa_cons (pe_int) (pa_cons (pe_int) (pa_cons (pe_int) (pa_cons (pe_int) (pa_cons (pe_int) (pa_cons (pe_int) (pa_nil)))))))))) (pa_cons (pe_lst (pa_cons (pe_int) (pa_cons (pe_int) (pa_nil)))) (pa_nil))))) (pe_call G_law_take hr rfl T.m_law_take T.F_law_take.kp T.b_law_take .nil pass0 (pa_cons (pv 0) (pa_cons (pe_int) (pa_nil)))) (fun _ _ => rfl)))
      (pss_cons (ps_set (i := 3) sc_law_condition.nd rfl (by first | exact Or.inl rfl | exact Or.inr rfl) (pe_call G_law_part hr rfl T.m_law_part T.F_law_part.kp T.b_law_part .nil pass0 (pa_cons (pv 0) (pa_cons (pe_op op_add (pe_int) (pe_call G_law_take hr rfl T.m_law_take T.F_law_take.kp T.b_law_take .nil pass0 (pa_cons (pv 0) (pa_cons (pv 1) (pa_nil))))) (pa_cons (pv 2) (pa_nil))))))
      (pss_cons (ps_while PassesOwn.never (pt_cmpR op_gt (pe_call G_law_deep hr rfl T.m_law_deep T.F_law_deep.kp T.b_law_deep .nil pass0 (pa_cons (pv 3) (pa_nil))) (pe_int) (nomark _)) (pss_one (ps_set (i := 3) sc_law_condition.nd rfl (by first | exact Or.inl rfl | exact Or.inr rfl) (pe_ix ix_tup (pv 3) (pe_int) (fun _ _ => rfl)))))
      (pss_one (ps_ret (pv 3))))))

theorem ok_law_deep {P : Program} {w : World} {K : PySem.W.Frag} {mg : Str → Option Value} {base : Heap} (T : Tx K mg) {k : Nat} {sp_law_deep sp : Sp} (G_law_deep : FnOk P w K mg base CX0 k T.f_law_deep T.d_law_deep ["_law_part_here"] sp_law_deep)
    (len : ∀ vs H Q E, sp vs H Q E → vs.length = 1)
    (pure : ∀ vs H Q E, sp vs H Q E → t_law_deep K w sp_law_deep (Ends.mk (fun _ H' => Q .non H') Q (fun _ _ => False) (fun _ _ => False)) (start ["_law_part_here", "_law_one"] vs) H) :
    FnOk P w K mg base CX0 (k + 1) T.f_law_deep T.d_law_deep ["_law_part_here"] sp := by
  refine T.F_law_deep.ok sc_law_deep len (fun cdv A outer s H vs Q E hr h => ⟨t_law_deep K w sp_law_deep, ?_, pure vs H Q E h⟩)
  exact (pss_one (ps_ret (pe_ifExp (pt_cmpR op_eq (pe_ix ix_tup (pv 0) (pe_int) (fun _ _ => rfl)) (pe_str) (nomark _)) (pe_int) (pe_op op_add (pe_int) (pe_callB (cr_max rfl) (by rfl) T.n_max (by decide +kernel) (pa_cons (pe_lc (own := [("_law_one", 1)]) rfl sc_law_deep.nd (pi_tup (pe_slice sl_tup (pv 0) (po_some (pe_int)) (po_none))) (blkOk_by (own := [("_law_one", 1)]) (N := ["_law_part_here", "_law_one"]) (sc := defScope s_law_deep) (by decide +kernel)) (fun _ _ _ _ _ => pg_name (i := 1) sc_law_deep.nd rfl (by first | exact Or.inl rfl | exact Or.inr rfl)) (fun _ _ _ _ _ => pts_nil) (fun _ _ _ _ _ => pe_call G_law_deep hr rfl T.m_law_deep T.F_law_deep.kp T.b_law_deep .nil pass0 (pa_cons (pv 1) (pa_nil)))) (pa_nil)))))))

theorem ok_law_meant {P : Program} {w : World} {K : PySem.W.Frag} {mg : Str → Option Value} {base : Heap} (T : Tx K mg) {k : Nat} {sp_law_meant sp : Sp} (G_law_meant : FnOk P w K mg base CX0 k T.f_law_meant T.d_law_meant ["_law_part_here", "_law_worths_here"] sp_law_meant)
    (len : ∀ vs H Q E, sp vs H Q E → vs.length = 2)
    (pure : ∀ vs H Q E, sp vs H Q E → t_law_meant K w sp_law_meant (Ends.mk (fun _ H' => Q .non H') Q (fun _ _ => False) (fun _ _ => False)) (start ["_law_part_here", "_law_worths_here", "_law_first", "_law_seen", "_law_other", "_law_more"] vs) H) :
    FnOk P w K mg base CX0 (k + 1) T.f_law_meant T.d_law_meant ["_law_part_here", "_law_worths_here"] sp := by
  refine T.F_law_meant.ok sc_law_meant len (fun cdv A outer s H vs Q E hr h => ⟨t_law_meant K w sp_law_meant, ?_, pure vs H Q E h⟩)
  exact (pss_cons (ps_if (pt_cmpR op_eq (pe_ix ix_tup (pv 0) (pe_int) (fun _ _ => rfl)) (pe_str) (nomark _)) (pss_one (ps_ret (pe_tup (pa_cons (pe_ix ix_tup (pv 1) (pe_ix ix_tup (pv 0) (pe_int) (fun _ _ => rfl)) (fun _ _ => rfl)) (pa_cons (pe_lst (pa_cons (pe_ix ix_tup (pv 0) (pe_int) (fun _ _ => rfl)) (pa_nil))) (pa_nil)))))) (pss_nil))
      (pss_cons (ps_asg (pe_call G_law_meant hr rfl T.m_law_meant T.F_law_meant.kp T.b_law_meant .nil pass0 (pa_cons (pe_ix ix_tup (pv 0) (pe_int) (fun _ _ => rfl)) (pa_cons (pv 1) (pa_nil)))) (pg_tup rfl (pgs_cons (pg_name (i := 2) sc_law_meant.nd rfl (by first | exact Or.inl rfl | exact Or.inr rfl)) (pgs_cons (pg_name (i := 3) sc_law_meant.nd rfl (by first | exact Or.inl rfl | exact Or.inr rfl)) (pgs_nil)))))
      (pss_cons (ps_if (pt_cmpR op_eq (pe_ix ix_tup (pv 0) (pe_int) (fun _ _ => rfl)) (pe_str) (nomark _)) (pss_one (ps_ret (pe_tup (pa_cons (pe_op op_sub (pe_int) (pv 2)) (pa_cons (pv 3) (pa_nil)))))) (pss_nil))
      (pss_cons (ps_if (pt_cmpR op_ne (pe_cmpR op_eq (pe_ix ix_tup (pv 0) (pe_int) (fun _ _ => rfl)) (pe_str) (nomark _)) (pe_cmpR op_eq (pv 2) (pe_int) (nomark _)) (nomark _)) (pss_one (ps_ret (pe_tup (pa_cons (pv 2) (pa_cons (pv 3) (pa_nil)))))) (pss_nil))
      (pss_cons (ps_asg (pe_call G_law_meant hr rfl T.m_law_meant T.F_law_meant.kp T.b_law_meant .nil pass0 (pa_cons (pe_ix ix_tup (pv 0) (pe_int) (fun _ _ => rfl)) (pa_cons (pv 1) (pa_nil)))) (pg_tup rfl (pgs_cons (pg_name (i := 4) sc_law_meant.nd rfl (by first | exact Or.inl rfl | exact Or.inr rfl)) (pgs_cons (pg_name (i := 5) sc_law_meant.nd rfl (by first | exact Or.inl rfl | exact Or.inr rfl)) (pgs_nil)))))
      (pss_one (ps_ret (pe_tup (pa_cons (pv 4) (pa_cons (pe_op op_cat (pv 3) (pv 5)) (pa_nil)))))))))))

theorem ok_law_part {P : Program} {w : World} {K : PySem.W.Frag} {mg : Str → Option Value} {base : Heap} (T : Tx K mg) {k : Nat} {sp_law_take sp_law_bare sp : Sp} (G_law_take : FnOk P w K mg base CX0 k T.f_law_take T.d_law_take ["_law_box", "_law_many"] sp_law_take) (G_law_bare : FnOk P w K mg base CX0 k T.f_law_bare T.d_law_bare ["_law_box", "_law_many", "_law_things"] sp_law_bare)
    (len : ∀ vs H Q E, sp vs H Q E → vs.length = 3)
    (pure : ∀ vs H Q E, sp vs H Q E → t_law_part K w sp_law_take sp_law_bare (Ends.mk (fun _ H' => Q .non H') Q (fun _ _ => False) (fun _ _ => False)) (start ["_law_box", "_law_many", "_law_things"] vs) H) :
    FnOk P w K mg base CX0 (k + 1) T.f_law_part T.d_law_part ["_law_box", "_law_many", "_law_things"] sp := by
  refine T.F_law_part.ok sc_law_part len (fun cdv A outer s H vs Q E hr h => ⟨t_law_part K w sp_law_take sp_law_bare, ?_, pure vs H Q E h⟩)
  exact (pss_cons (ps_if (pt_cmpR op_eq (pe_call G_law_take hr rfl T.m_law_take T.F_law_take.kp T.b_law_take .nil pass0 (pa_cons (pv 0) (pa_cons (pe_int) (pa_nil)))) (pe_int) (nomark _)) (pss_one (ps_ret (pe_tup (pa_cons (pe_str) (pa_cons (pe_call G_law_bare hr rfl T.m_law_bare T.F_law_bare.kp T.b_law_bare .nil pass0 (pa_cons (pv 0) (pa_cons (pv 1) (pa_cons (pv 2) (pa_nil))))) (pa_nil)))))) (pss_nil))
      (pss_one (ps_ret (pe_call G_law_bare hr rfl T.m_law_bare T.F_law_bare.kp T.b_law_bare .nil pass0 (pa_cons (pv 0) (pa_cons (pv 1) (pa_cons (pv 2) (pa_nil))))))))

theorem ok_law_take {P : Program} {w : World} {K : PySem.W.Frag} {mg : Str → Option Value} {base : Heap} (T : Tx K mg) {k : Nat} { sp : Sp} 
    (len : ∀ vs H Q E, sp vs H Q E → vs.length = 2)
    (pure : ∀ vs H Q E, sp vs H Q E → t_law_take K w (Ends.mk (fun _ H' => Q .non H') Q (fun _ _ => False) (fun _ _ => False)) (start ["_law_box", "_law_many", "_law_number"] vs) H) :
    FnOk P w K mg base CX0 (k + 1) T.f_law_take T.d_law_take ["_law_box", "_law_many"] sp := by
  refine T.F_law_take.ok sc_law_take len (fun cdv A outer s H vs Q E hr h => ⟨t_law_take K w, ?_, pure vs H Q E h⟩)
  exact (pss_cons (ps_if (pt_cmpR (op_eqD hr.units) (pe_ix ix_list (pv 0) (pe_int) (fun _ _ => rfl)) (pe_lst (pa_nil)) (nomark _)) (pss_cons (ps_asg (pe_op op_mod (pe_op op_mul (pe_ix ix_list (pv 0) (pe_int) (fun _ _ => rfl)) (pe_int)) (pe_int)) (pg_sub (pv 0) (pe_int) set_list))
      (pss_one (ps_ret (pe_op op_mod (pe_op op_fdiv (pe_ix ix_list (pv 0) (pe_int) (fun _ _ => rfl)) (pe_int)) (pv 1))))) (pss_nil))
      (pss_cons (ps_set (i := 2) sc_law_take.nd rfl (by first | exact Or.inl rfl | exact Or.inr rfl) (pe_ix ix_list (pe_ix ix_list (pv 0) (pe_int) (fun _ _ => rfl)) (pe_int) (fun _ _ => rfl)))
      (pss_cons (ps_asg (pe_op op_fdiv (pv 2) (pv 1)) (pg_sub (pe_ix ix_list (pv 0) (pe_int) (fun _ _ => rfl)) (pe_int) set_list))
      (pss_cons (ps_if (PW.pt (pw_or (pt_cmpR op_eq (pe_ix ix_list (pe_ix ix_list (pv 0) (pe_int) (fun _ _ => rfl)) (pe_int) (fun _ _ => rfl)) (pe_int) (nomark _)) (pw_or1 (pt_cmpR op_eq (pe_ix ix_list (pe_ix ix_list (pv 0) (pe_int) (fun _ _ => rfl)) (pe_int) (fun _ _ => rfl)) (pe_un un_neg (pe_int)) (nomark _))))) (pss_one (ps_expr (pe_bm PySem.F.plainAttrs_list PySem.F.slot_list_pop PySem.F.type_list_pop mt_popAt (pe_ix ix_list (pv 0) (pe_int) (fun _ _ => rfl)) (pa_cons (pe_int) (pa_nil))))) (pss_nil))
      (pss_one (ps_ret (pe_op op_mod (pv 2) (pv 1))))))))

theorem ok_law_worths {P : Program} {w : World} {K : PySem.W.Frag} {mg : Str → Option Value} {base : Heap} (T : Tx K mg) {k : Nat} { sp : Sp} 
    (len : ∀ vs H Q E, sp vs H Q E → vs.length = 1)
    (pure : ∀ vs H Q E, sp vs H Q E → t_law_worths K w (Ends.mk (fun _ H' => Q .non H') Q (fun _ _ => False) (fun _ _ => False)) (start ["_law_number", "_law_k"] vs) H) :
    FnOk P w K mg base CX0 (k + 1) T.f_law_worths T.d_law_worths ["_law_number"] sp := by
  refine T.F_law_worths.ok sc_law_worths len (fun cdv A outer s H vs Q E hr h => ⟨t_law_worths K w, ?_, pure vs H Q E h⟩)
  exact (pss_one (ps_ret (pe_callTy call_rTupleOf (by rfl) T.n_tuple (by decide +kernel) (pa_cons (pe_op op_cat (pe_lst (pa_cons (pe_op op_mod (pe_op op_fdiv (pv 0) (pe_int)) (pe_int)) (pa_nil))) (pe_lc (own := [("_law_k", 1)]) rfl sc_law_worths.nd (pi_range1 (by rfl) T.n_range (pa_cons (pe_int) (pa_nil))) (blkOk_by (own := [("_law_k", 1)]) (N := ["_law_number", "_law_k"]) (sc := defScope s_law_worths) (by decide +kernel)) (fun _ _ _ _ _ => pg_name (i := 1) sc_law_worths.nd rfl (by first | exact Or.inl rfl | exact Or.inr rfl)) (fun _ _ _ _ _ => pts_nil) (fun _ _ _ _ _ => pe_op op_mod (pe_op op_fdiv (pv 0) (pe_ix ix_list (pe_lst (pa_cons (pe_int) (pa_cons (pe_int) (pa_cons (pe_int) (pa_cons (pe_int) (pa_cons (pe_int) (pa_cons (pe_int) (pa_cons (pe_int) (pa_nil))))))))) (pv 1) (fun _ _ => rfl))) (pe_int)))) (pa_nil)))))

theorem ok_meant {P : Program} {w : World} {K : PySem.W.Frag} {mg : Str → Option Value} {base : Heap} (T : Tx K mg) {k : Nat} {sp_check_condition sp_check_worths sp_outcome sp : Sp} (G_check_condition : FnOk P w K mg base CX0 k T.f_check_condition T.d_check_condition ["condition"] sp_check_condition) (G_check_worths : FnOk P w K mg base CX0 k T.f_check_worths T.d_check_worths ["worths"] sp_check_worths) (G_outcome : FnOk P w K mg base CX0 k T.f_outcome T.d_outcome ["condition", "worths"] sp_outcome)
    (len : ∀ vs H Q E, sp vs H Q E → vs.length = 2)
    (pure : ∀ vs H Q E, sp vs H Q E → t_meant K w sp_check_condition sp_check_worths sp_outcome (Ends.mk (fun _ H' => Q .non H') Q (fun _ _ => False) (fun _ _ => False)) (start ["condition", "worths"] vs) H) :
    FnOk P w K mg base CX0 (k + 1) T.f_meant T.d_meant ["condition", "worths"] sp := by
  refine T.F_meant.ok sc_meant len (fun cdv A outer s H vs Q E hr h => ⟨t_meant K w sp_check_condition sp_check_worths sp_outcome, ?_, pure vs H Q E h⟩)
  exact (pss_cons (ps_expr (pe_call G_check_condition hr rfl T.m_check_condition T.F_check_condition.kp T.b_check_condition .nil pass0 (pa_cons (pv 0) (pa_nil))))
      (pss_cons (ps_expr (pe_call G_check_worths hr rfl T.m_check_worths T.F_check_worths.kp T.b_check_worths .nil pass0 (pa_cons (pv 1) (pa_nil))))
      (pss_one (ps_ret (pe_call G_outcome hr rfl T.m_outcome T.F_outcome.kp T.b_outcome .nil pass0 (pa_cons (pv 0) (pa_cons (pv 1) (pa_nil))))))))

theorem ok_outcome {P : Program} {w : World} {K : PySem.W.Frag} {mg : Str → Option Value} {base : Heap} (T : Tx K mg) {k : Nat} {sp_outcome sp : Sp} (G_outcome : FnOk P w K mg base CX0 k T.f_outcome T.d_outcome ["condition", "worths"] sp_outcome)
    (len : ∀ vs H Q E, sp vs H Q E → vs.length = 2)
    (pure : ∀ vs H Q E, sp vs H Q E → t_outcome K w T.a_GOES_ON sp_outcome (Ends.mk (fun _ H' => Q .non H') Q (fun _ _ => False) (fun _ _ => False)) (start ["condition", "worths", "word", "thing", "worth", "looks", "second", "more"] vs) H) :
    FnOk P w K mg base CX0 (k + 1) T.f_outcome T.d_outcome ["condition", "worths"] sp := by
  refine T.F_outcome.ok sc_outcome len (fun cdv A outer s H vs Q E hr h => ⟨t_outcome K w T.a_GOES_ON sp_outcome, ?_, pure vs H Q E h⟩)
  exact (pss_cons (ps_set (i := 2) sc_outcome.nd rfl (by first | exact Or.inl rfl | exact Or.inr rfl) (pe_ix ix_tup (pv 0) (pe_int) (fun _ _ => rfl)))
      (pss_cons (ps_if (pt_cmpR op_eq (pv 2) (pe_str) (nomark _)) (pss_cons (ps_set (i := 3) sc_outcome.nd rfl (by first | exact Or.inl rfl | exact Or.inr rfl) (pe_ix ix_tup (pv 0) (pe_int) (fun _ _ => rfl)))
      (pss_one (ps_ret (pe_tup (pa_cons (pe_ix ix_tup (pv 1) (pv 3) (fun _ _ => rfl)) (pa_cons (pe_lst (pa_cons (pv 3) (pa_nil))) (pa_nil))))))) (pss_nil))
      (pss_cons (ps_asg (pe_call G_outcome hr rfl T.m_outcome T.F_outcome.kp T.b_outcome .nil pass0 (pa_cons (pe_ix ix_tup (pv 0) (pe_int) (fun _ _ => rfl)) (pa_cons (pv 1) (pa_nil)))) (pg_tup rfl (pgs_cons (pg_name (i := 4) sc_outcome.nd rfl (by first | exact Or.inl rfl | exact Or.inr rfl)) (pgs_cons (pg_name (i := 5) sc_outcome.nd rfl (by first | exact Or.inl rfl | exact Or.inr rfl)) (pgs_nil)))))
      (pss_cons (ps_if (pt_cmpR op_eq (pv 2) (pe_str) (nomark _)) (pss_one (ps_ret (pe_tup (pa_cons (pe_op op_sub (pe_int) (pv 4)) (pa_cons (pv 5) (pa_nil)))))) (pss_nil))
      (pss_cons (ps_if (pt_cmpR op_ne (pv 4) (pe_ix ix_kdict (pe_glob rfl T.c_GOES_ON rfl) (pv 2) (fun _ _ => rfl)) (nomark _)) (pss_one (ps_ret (pe_tup (pa_cons (pv 4) (pa_cons (pv 5) (pa_nil)))))) (pss_nil))
      (pss_cons (ps_asg (pe_call G_outcome hr rfl T.m_outcome T.F_outcome.kp T.b_outcome .nil pass0 (pa_cons (pe_ix ix_tup (pv 0) (pe_int) (fun _ _ => rfl)) (pa_cons (pv 1) (pa_nil)))) (pg_tup rfl (pgs_cons (pg_name (i := 6) sc_outcome.nd rfl (by first | exact Or.inl rfl | exact Or.inr rfl)) (pgs_cons (pg_name (i := 7) sc_outcome.nd rfl (by first | exact Or.inl rfl | exact Or.inr rfl)) (pgs_nil)))))
      (pss_one (ps_ret (pe_tup (pa_cons (pv 6) (pa_cons (pe_op op_cat (pv 5) (pv 7)) (pa_nil))))))))))))

/-! the defs keep their promises -/
theorem fn_no {P : Program} {w : World} {K : PySem.W.Frag} {mg : Str → Option Value} {base : Heap} {f : Addr} {fd : FuncData} {ps : List Str} {sp : Sp} {k : Nat} (no : ∀ vs H Q E, ¬ sp vs H Q E) : FnOk P w K mg base CX0 k f fd ps sp :=
  ⟨fun vs H Q E h => absurd h (no vs H Q E), fun A outer s H args us vs Q E _ _ _ _ h => absurd h (no vs H Q E)⟩
section
variable {P : Program} {w : World} {K : PySem.W.Frag} {mg : Str → Option Value} {base : Heap}
theorem fn_num (T : Tx K mg) : FnOk P w K mg base CX0 1 T.f_is_number_up_to T.d_is_number_up_to ["value", "most"] spNum := ok_is_number_up_to T (by tm_at "lnz") pure_num
theorem fn_form (T : Tx K mg) : FnOk P w K mg base CX0 2 T.f_has_form T.d_has_form ["condition"] spForm := ok_has_form T (fn_num T) (by tm_at "lnz") pure_form
theorem fn_count (T : Tx K mg) : ∀ n : Nat, FnOk P w K mg base CX0 (n + 3) T.f_count_looks T.d_count_looks ["condition", "around"] (spCount n)
  | 0 => fn_no fun vs H Q E ⟨_, _, _, _, _, _, _, h, _⟩ => absurd h (Nat.not_lt_zero _)
  | n + 1 => ok_count_looks T ((fn_form T).mono (by omega)) (fn_count T n) (by tm_at "lnz") pure_count
theorem fn_check (T : Tx K mg) : FnOk P w K mg base CX0 15 T.f_check_condition T.d_check_condition ["condition"] spCheck := ok_check_condition T (fn_count T 11) (by tm_at "lnz") pure_check
theorem fn_bits (T : Tx K mg) : FnOk P w K mg base CX0 2 T.f_are_bits T.d_are_bits ["values", "many"] spBits := ok_are_bits T (fn_num T) (by tm_at "lnz") pure_bits
theorem fn_worths (T : Tx K mg) : FnOk P w K mg base CX0 3 T.f_check_worths T.d_check_worths ["worths"] spWorths := ok_check_worths T (fn_bits T) (by tm_at "lnz") pure_worths
theorem no_out {vs : List V} {H : Hp} {Q : VK} {E : XK} : ¬ spOut 0 vs H Q E := fun ⟨_, _, _, _, _, _, h, _⟩ => absurd h (Nat.not_lt_zero _)
theorem fn_out (T : Tx K mg) (k1 : KDct K w T.a_GOES_ON "and" (.int 1)) (k0 : KDct K w T.a_GOES_ON "or" (.int 0)) : ∀ n : Nat, FnOk P w K mg base CX0 n T.f_outcome T.d_outcome ["condition", "worths"] (spOut n)
  | 0 => fn_no fun _ _ _ _ => no_out
  | n + 1 => ok_outcome T (fn_out T k1 k0 n) (by tm_at "lnz") (pure_outcome k1 k0)
theorem fn_meant (T : Tx K mg) (k1 : KDct K w T.a_GOES_ON "and" (.int 1)) (k0 : KDct K w T.a_GOES_ON "or" (.int 0)) : FnOk P w K mg base CX0 16 T.f_meant T.d_meant ["condition", "worths"] spMeant :=
  ok_meant T (fn_check T) ((fn_worths T).mono (by omega)) ((fn_out T k1 k0 11).mono (by omega)) (by tm_at "lnz") pure_meant
theorem fn_begun (T : Tx K mg) : FnOk P w K mg base CX0 1 T.f_law_begun T.d_law_begun ["_law_script"] (spBegun K) := ok_law_begun T (by tm_at "lnz") pure_begun
theorem fn_take (T : Tx K mg) : FnOk P w K mg base CX0 1 T.f_law_take T.d_law_take ["_law_box", "_law_many"] spTake := ok_law_take T (by tm_at "lnz") pure_take
theorem no_pb {x : Nat} {vs : List V} {H : Hp} {Q : VK} {E : XK} : ¬ spPB x 0 vs H Q E := fun ⟨_, _, _, _, _, _, _, _, _, h1, h2, _⟩ => by omega
theorem fn_pb (T : Tx K mg) : ∀ n : Nat, FnOk P w K mg base CX0 (2 * n + 1) T.f_law_bare T.d_law_bare ["_law_box", "_law_many", "_law_things"] (spPB 2 n) ∧ FnOk P w K mg base CX0 (2 * n + 2) T.f_law_part T.d_law_part ["_law_box", "_law_many", "_law_things"] (spPB 1 n)
  | 0 => ⟨fn_no fun _ _ _ _ => no_pb, fn_no fun _ _ _ _ => no_pb⟩
  | n + 1 => by
    have ih := fn_pb T n
    have hb : FnOk P w K mg base CX0 (2 * n + 2 + 1) T.f_law_bare T.d_law_bare ["_law_box", "_law_many", "_law_things"] (spPB 2 (n + 1)) := ok_law_bare T ((fn_take T).mono (by omega)) ih.2 (by tm_at "lnz") pure_bare
    exact ⟨hb, ok_law_part T ((fn_take T).mono (by omega)) hb (by tm_at "lnz") pure_part⟩
theorem fn_deep (T : Tx K mg) : ∀ n : Nat, FnOk P w K mg base CX0 n T.f_law_deep T.d_law_deep ["_law_part_here"] (spDeep n)
  | 0 => fn_no fun vs H Q E ⟨_, _, _, _, h, _⟩ => absurd h (Nat.not_lt_zero _)
  | n + 1 => ok_law_deep T (fn_deep T n) (by tm_at "lnz") pure_deep
theorem fn_cond (T : Tx K mg) : FnOk P w K mg base CX0 70 T.f_law_condition T.d_law_condition ["_law_box", "_law_most"] spCond :=
  (ok_law_condition T (k := 60) ((fn_take T).mono (by omega)) ((fn_pb T 20).2.mono (by omega)) (fn_deep T 60) (by tm_at "lnz") pure_condition).mono (by omega)
theorem fn_lmeant (T : Tx K mg) : ∀ n : Nat, FnOk P w K mg base CX0 n T.f_law_meant T.d_law_meant ["_law_part_here", "_law_worths_here"] (spOut n)
  | 0 => fn_no fun _ _ _ _ => no_out
  | n + 1 => ok_law_meant T (fn_lmeant T n) (by tm_at "lnz") pure_lmeant
theorem fn_wts (T : Tx K mg) : FnOk P w K mg base CX0 1 T.f_law_worths T.d_law_worths ["_law_number"] spWts := ok_law_worths T (by tm_at "lnz") pure_wts
theorem fn_alike (T : Tx K mg) : ∀ n : Nat, FnOk P w K mg base CX0 n T.f_law_alike T.d_law_alike ["_law_found", "_law_due"] (spAlike K n)
  | 0 => fn_no fun vs H Q E ⟨_, _, _, _, _, _, h, _⟩ => h
  | n + 1 => ok_law_alike T (fn_alike T n) (by tm_at "lnz") pure_alike
theorem main (T : Tx K mg) (k1 : KDct K w T.a_GOES_ON "and" (.int 1)) (k0 : KDct K w T.a_GOES_ON "or" (.int 0)) : FnOk P w K mg base CX0 200 T.f_law T.d_law ["_law_script"] (spLaw K) :=
  ok_law T (k := 199) ((fn_begun T).mono (by omega)) ((fn_cond T).mono (by omega)) ((fn_wts T).mono (by omega)) ((fn_lmeant T 11).mono (by omega)) ((fn_meant T k1 k0).mono (by omega)) ((fn_alike T 3).mono (by omega)) (by tm_at "lnz") pure_main
end

theorem all_mk {l : PySem.W.OpenLaw} {w : World} {K : PySem.W.Frag} {h : Heap} {mg : Str → Option Value} {fa : Addr} (X : K.In h) (G : h.Ns mainGlobals mg) (hfa : mg "law" = some (.ref fa))
    {f0 : Addr} {od0 an0 : Option Addr} {sl0 : Array (Option Value)} {oc0 kV0 dc0 pm0 cd0 ct0 : Value}
    {f1 : Addr} {od1 an1 : Option Addr} {sl1 : Array (Option Value)} {oc1 kV1 dc1 pm1 cd1 ct1 : Value}
    {f2 : Addr} {od2 an2 : Option Addr} {sl2 : Array (Option Value)} {oc2 kV2 dc2 pm2 cd2 ct2 : Value}
    {f3 : Addr} {od3 an3 : Option Addr} {sl3 : Array (Option Value)} {oc3 kV3 dc3 pm3 cd3 ct3 : Value}
    {f4 : Addr} {od4 an4 : Option Addr} {sl4 : Array (Option Value)} {oc4 kV4 dc4 pm4 cd4 ct4 : Value}
    {f5 : Addr} {od5 an5 : Option Addr} {sl5 : Array (Option Value)} {oc5 kV5 dc5 pm5 cd5 ct5 : Value}
    {f6 : Addr} {od6 an6 : Option Addr} {sl6 : Array (Option Value)} {oc6 kV6 dc6 pm6 cd6 ct6 : Value}
    {f7 : Addr} {od7 an7 : Option Addr} {sl7 : Array (Option Value)} {oc7 kV7 dc7 pm7 cd7 ct7 : Value}
    {f8 : Addr} {od8 an8 : Option Addr} {sl8 : Array (Option Value)} {oc8 kV8 dc8 pm8 cd8 ct8 : Value}
    {f9 : Addr} {od9 an9 : Option Addr} {sl9 : Array (Option Value)} {oc9 kV9 dc9 pm9 cd9 ct9 : Value}
    {f10 : Addr} {od10 an10 : Option Addr} {sl10 : Array (Option Value)} {oc10 kV10 dc10 pm10 cd10 ct10 : Value}
    {f11 : Addr} {od11 an11 : Option Addr} {sl11 : Array (Option Value)} {oc11 kV11 dc11 pm11 cd11 ct11 : Value}
    {f12 : Addr} {od12 an12 : Option Addr} {sl12 : Array (Option Value)} {oc12 kV12 dc12 pm12 cd12 ct12 : Value}
    {f13 : Addr} {od13 an13 : Option Addr} {sl13 : Array (Option Value)} {oc13 kV13 dc13 pm13 cd13 ct13 : Value}
    {f14 : Addr} {od14 an14 : Option Addr} {sl14 : Array (Option Value)} {oc14 kV14 dc14 pm14 cd14 ct14 : Value}
    {f15 : Addr} {od15 an15 : Option Addr} {sl15 : Array (Option Value)} {oc15 kV15 dc15 pm15 cd15 ct15 : Value}
    {f16 : Addr} {od16 an16 : Option Addr} {sl16 : Array (Option Value)} {oc16 kV16 dc16 pm16 cd16 ct16 : Value}
    {f17 : Addr} {od17 an17 : Option Addr} {sl17 : Array (Option Value)} {oc17 kV17 dc17 pm17 cd17 ct17 : Value}
    {u_MOST_LOOKS : Tok}
    {u_MOST_AROUND : Tok}
    {u_THINGS : Tok}
    {a_GOES_ON : Addr}
    {es_GOES_ON : Array DictEntry} {en_GOES_ON : Nat}
    {t_GOES_ON_and : Tok}
    {t_GOES_ON_or : Tok}
    (a0 : PySem.W.nsIn K mainGlobals "check_condition" = some (some (.ref f0)))
    (l0 : K.lookup f0 = some ⟨oc0, od0, .func (PySem.W.fnOf "check_condition" "check_condition" (defArgs s_check_condition) (defBody s_check_condition) (defScope s_check_condition) .none kV0 dc0 pm0 an0 cd0 ct0), sl0⟩)
    (c0 : PySem.W.codeIn K cd0 "check_condition" = true)
    (k0 : PySem.W.keepIn K (.ref f0) = true)
    (a1 : PySem.W.nsIn K mainGlobals "count_looks" = some (some (.ref f1)))
    (l1 : K.lookup f1 = some ⟨oc1, od1, .func (PySem.W.fnOf "count_looks" "count_looks" (defArgs s_count_looks) (defBody s_count_looks) (defScope s_count_looks) .none kV1 dc1 pm1 an1 cd1 ct1), sl1⟩)
    (c1 : PySem.W.codeIn K cd1 "count_looks" = true)
    (k1 : PySem.W.keepIn K (.ref f1) = true)
    (a2 : PySem.W.nsIn K mainGlobals "has_form" = some (some (.ref f2)))
    (l2 : K.lookup f2 = some ⟨oc2, od2, .func (PySem.W.fnOf "has_form" "has_form" (defArgs s_has_form) (defBody s_has_form) (defScope s_has_form) .none kV2 dc2 pm2 an2 cd2 ct2), sl2⟩)
    (c2 : PySem.W.codeIn K cd2 "has_form" = true)
    (k2 : PySem.W.keepIn K (.ref f2) = true)
    (a3 : PySem.W.nsIn K mainGlobals "is_number_up_to" = some (some (.ref f3)))
    (l3 : K.lookup f3 = some ⟨oc3, od3, .func (PySem.W.fnOf "is_number_up_to" "is_number_up_to" (defArgs s_is_number_up_to) (defBody s_is_number_up_to) (defScope s_is_number_up_to) .none kV3 dc3 pm3 an3 cd3 ct3), sl3⟩)
    (c3 : PySem.W.codeIn K cd3 "is_number_up_to" = true)
    (k3 : PySem.W.keepIn K (.ref f3) = true)
    (a4 : PySem.W.nsIn K mainGlobals "are_bits" = some (some (.ref f4)))
    (l4 : K.lookup f4 = some ⟨oc4, od4, .func (PySem.W.fnOf "are_bits" "are_bits" (defArgs s_are_bits) (defBody s_are_bits) (defScope s_are_bits) .none kV4 dc4 pm4 an4 cd4 ct4), sl4⟩)
    (c4 : PySem.W.codeIn K cd4 "are_bits" = true)
    (k4 : PySem.W.keepIn K (.ref f4) = true)
    (a5 : PySem.W.nsIn K mainGlobals "meant" = some (some (.ref f5)))
    (l5 : K.lookup f5 = some ⟨oc5, od5, .func (PySem.W.fnOf "meant" "meant" (defArgs s_meant) (defBody s_meant) (defScope s_meant) .none kV5 dc5 pm5 an5 cd5 ct5), sl5⟩)
    (c5 : PySem.W.codeIn K cd5 "meant" = true)
    (k5 : PySem.W.keepIn K (.ref f5) = true)
    (a6 : PySem.W.nsIn K mainGlobals "check_worths" = some (some (.ref f6)))
    (l6 : K.lookup f6 = some ⟨oc6, od6, .func (PySem.W.fnOf "check_worths" "check_worths" (defArgs s_check_worths) (defBody s_check_worths) (defScope s_check_worths) .none kV6 dc6 pm6 an6 cd6 ct6), sl6⟩)
    (c6 : PySem.W.codeIn K cd6 "check_worths" = true)
    (k6 : PySem.W.keepIn K (.ref f6) = true)
    (a7 : PySem.W.nsIn K mainGlobals "outcome" = some (some (.ref f7)))
    (l7 : K.lookup f7 = some ⟨oc7, od7, .func (PySem.W.fnOf "outcome" "outcome" (defArgs s_outcome) (defBody s_outcome) (defScope s_outcome) .none kV7 dc7 pm7 an7 cd7 ct7), sl7⟩)
    (c7 : PySem.W.codeIn K cd7 "outcome" = true)
    (k7 : PySem.W.keepIn K (.ref f7) = true)
    (a8 : PySem.W.nsIn K mainGlobals "_law_begun" = some (some (.ref f8)))
    (l8 : K.lookup f8 = some ⟨oc8, od8, .func (PySem.W.fnOf "_law_begun" "_law_begun" (defArgs s_law_begun) (defBody s_law_begun) (defScope s_law_begun) .none kV8 dc8 pm8 an8 cd8 ct8), sl8⟩)
    (c8 : PySem.W.codeIn K cd8 "_law_begun" = true)
    (k8 : PySem.W.keepIn K (.ref f8) = true)
    (a9 : PySem.W.nsIn K mainGlobals "_law_take" = some (some (.ref f9)))
    (l9 : K.lookup f9 = some ⟨oc9, od9, .func (PySem.W.fnOf "_law_take" "_law_take" (defArgs s_law_take) (defBody s_law_take) (defScope s_law_take) .none kV9 dc9 pm9 an9 cd9 ct9), sl9⟩)
    (c9 : PySem.W.codeIn K cd9 "_law_take" = true)
    (k9 : PySem.W.keepIn K (.ref f9) = true)
    (a10 : PySem.W.nsIn K mainGlobals "_law_alike" = some (some (.ref f10)))
    (l10 : K.lookup f10 = some ⟨oc10, od10, .func (PySem.W.fnOf "_law_alike" "_law_alike" (defArgs s_law_alike) (defBody s_law_alike) (defScope s_law_alike) .none kV10 dc10 pm10 an10 cd10 ct10), sl10⟩)
    (c10 : PySem.W.codeIn K cd10 "_law_alike" = true)
    (k10 : PySem.W.keepIn K (.ref f10) = true)
    (a11 : PySem.W.nsIn K mainGlobals "_law_part" = some (some (.ref f11)))
    (l11 : K.lookup f11 = some ⟨oc11, od11, .func (PySem.W.fnOf "_law_part" "_law_part" (defArgs s_law_part) (defBody s_law_part) (defScope s_law_part) .none kV11 dc11 pm11 an11 cd11 ct11), sl11⟩)
    (c11 : PySem.W.codeIn K cd11 "_law_part" = true)
    (k11 : PySem.W.keepIn K (.ref f11) = true)
    (a12 : PySem.W.nsIn K mainGlobals "_law_bare" = some (some (.ref f12)))
    (l12 : K.lookup f12 = some ⟨oc12, od12, .func (PySem.W.fnOf "_law_bare" "_law_bare" (defArgs s_law_bare) (defBody s_law_bare) (defScope s_law_bare) .none kV12 dc12 pm12 an12 cd12 ct12), sl12⟩)
    (c12 : PySem.W.codeIn K cd12 "_law_bare" = true)
    (k12 : PySem.W.keepIn K (.ref f12) = true)
    (a13 : PySem.W.nsIn K mainGlobals "_law_deep" = some (some (.ref f13)))
    (l13 : K.lookup f13 = some ⟨oc13, od13, .func (PySem.W.fnOf "_law_deep" "_law_deep" (defArgs s_law_deep) (defBody s_law_deep) (defScope s_law_deep) .none kV13 dc13 pm13 an13 cd13 ct13), sl13⟩)
    (c13 : PySem.W.codeIn K cd13 "_law_deep" = true)
    (k13 : PySem.W.keepIn K (.ref f13) = true)
    (a14 : PySem.W.nsIn K mainGlobals "_law_condition" = some (some (.ref f14)))
    (l14 : K.lookup f14 = some ⟨oc14, od14, .func (PySem.W.fnOf "_law_condition" "_law_condition" (defArgs s_law_condition) (defBody s_law_condition) (defScope s_law_condition) .none kV14 dc14 pm14 an14 cd14 ct14), sl14⟩)
    (c14 : PySem.W.codeIn K cd14 "_law_condition" = true)
    (k14 : PySem.W.keepIn K (.ref f14) = true)
    (a15 : PySem.W.nsIn K mainGlobals "_law_meant" = some (some (.ref f15)))
    (l15 : K.lookup f15 = some ⟨oc15, od15, .func (PySem.W.fnOf "_law_meant" "_law_meant" (defArgs s_law_meant) (defBody s_law_meant) (defScope s_law_meant) .none kV15 dc15 pm15 an15 cd15 ct15), sl15⟩)
    (c15 : PySem.W.codeIn K cd15 "_law_meant" = true)
    (k15 : PySem.W.keepIn K (.ref f15) = true)
    (a16 : PySem.W.nsIn K mainGlobals "_law_worths" = some (some (.ref f16)))
    (l16 : K.lookup f16 = some ⟨oc16, od16, .func (PySem.W.fnOf "_law_worths" "_law_worths" (defArgs s_law_worths) (defBody s_law_worths) (defScope s_law_worths) .none kV16 dc16 pm16 an16 cd16 ct16), sl16⟩)
    (c16 : PySem.W.codeIn K cd16 "_law_worths" = true)
    (k16 : PySem.W.keepIn K (.ref f16) = true)
    (a17 : PySem.W.nsIn K mainGlobals "law" = some (some (.ref f17)))
    (l17 : K.lookup f17 = some ⟨oc17, od17, .func (PySem.W.fnOf "law" "law" (defArgs s_law) (defBody s_law) (defScope s_law) .none kV17 dc17 pm17 an17 cd17 ct17), sl17⟩)
    (c17 : PySem.W.codeIn K cd17 "law" = true)
    (k17 : PySem.W.keepIn K (.ref f17) = true)
    (z_sum : PySem.W.nsIn K mainGlobals "sum" = some none)
    (z_tuple : PySem.W.nsIn K mainGlobals "tuple" = some none)
    (z_isinstance : PySem.W.nsIn K mainGlobals "isinstance" = some none)
    (z_len : PySem.W.nsIn K mainGlobals "len" = some none)
    (z_bool : PySem.W.nsIn K mainGlobals "bool" = some none)
    (z_int : PySem.W.nsIn K mainGlobals "int" = some none)
    (z_all : PySem.W.nsIn K mainGlobals "all" = some none)
    (z_list : PySem.W.nsIn K mainGlobals "list" = some none)
    (z_str : PySem.W.nsIn K mainGlobals "str" = some none)
    (z_range : PySem.W.nsIn K mainGlobals "range" = some none)
    (z_max : PySem.W.nsIn K mainGlobals "max" = some none)
    (y_MOST_LOOKS : PySem.W.nsIn K mainGlobals "MOST_LOOKS" = some (some (.int 12 u_MOST_LOOKS)))
    (y_MOST_AROUND : PySem.W.nsIn K mainGlobals "MOST_AROUND" = some (some (.int 10 u_MOST_AROUND)))
    (y_THINGS : PySem.W.nsIn K mainGlobals "THINGS" = some (some (.int 8 u_THINGS)))
    (y_GOES_ON : PySem.W.nsIn K mainGlobals "GOES_ON" = some (some (.ref a_GOES_ON)))
    (h_GOES_ON : K.lookup a_GOES_ON = some ⟨.type "dict", none, .dict es_GOES_ON en_GOES_ON, #[]⟩)
    (q_GOES_ON : PySem.W.KeysLit w.params es_GOES_ON.toList)
    (v_GOES_ON_and : PySem.W.nsIn K a_GOES_ON "and" = some (some (.int 1 t_GOES_ON_and)))
    (v_GOES_ON_or : PySem.W.nsIn K a_GOES_ON "or" = some (some (.int 0 t_GOES_ON_or))) :
    ∃ fd : FuncData, (∀ (s : Shared) (v : Value), BindsTo s fd ⟨[v], []⟩ [("_law_script", v)]) ∧ ∀ base : Heap, K.In base → base.Ns mainGlobals mg → FnOk l.prog w K mg base CX0 200 fa fd ["_law_script"] (spLaw K) := by
  have e := hfa.symm.trans (PySem.W.mg_of X G a17)
  cases e
  refine ⟨PySem.W.fnOf "law" "law" (defArgs s_law) (defBody s_law) (defScope s_law) .none kV17 dc17 pm17 an17 cd17 ct17, fun s v => .of_eq rfl, fun base _ _ => ?_⟩
  exact main (T := {
    f_check_condition := f0,
    d_check_condition := _,
    F_check_condition := fun_mk (st := s_check_condition) l0 c0 k0,
    m_check_condition := PySem.W.mg_of X G a0,
    b_check_condition := (fun_mk (st := s_check_condition) l0 c0 k0).binds (ps := ["condition"]) fun _ _ _ _ _ _ us hl => match us, hl with | [_], _ => rfl,
    f_count_looks := f1,
    d_count_looks := _,
    F_count_looks := fun_mk (st := s_count_looks) l1 c1 k1,
    m_count_looks := PySem.W.mg_of X G a1,
    b_count_looks := (fun_mk (st := s_count_looks) l1 c1 k1).binds (ps := ["condition", "around"]) fun _ _ _ _ _ _ us hl => match us, hl with | [_, _], _ => rfl,
    f_has_form := f2,
    d_has_form := _,
    F_has_form := fun_mk (st := s_has_form) l2 c2 k2,
    m_has_form := PySem.W.mg_of X G a2,
    b_has_form := (fun_mk (st := s_has_form) l2 c2 k2).binds (ps := ["condition"]) fun _ _ _ _ _ _ us hl => match us, hl with | [_], _ => rfl,
    f_is_number_up_to := f3,
    d_is_number_up_to := _,
    F_is_number_up_to := fun_mk (st := s_is_number_up_to) l3 c3 k3,
    m_is_number_up_to := PySem.W.mg_of X G a3,
    b_is_number_up_to := (fun_mk (st := s_is_number_up_to) l3 c3 k3).binds (ps := ["value", "most"]) fun _ _ _ _ _ _ us hl => match us, hl with | [_, _], _ => rfl,
    f_are_bits := f4,
    d_are_bits := _,
    F_are_bits := fun_mk (st := s_are_bits) l4 c4 k4,
    m_are_bits := PySem.W.mg_of X G a4,
    b_are_bits := (fun_mk (st := s_are_bits) l4 c4 k4).binds (ps := ["values", "many"]) fun _ _ _ _ _ _ us hl => match us, hl with | [_, _], _ => rfl,
    f_meant := f5,
    d_meant := _,
    F_meant := fun_mk (st := s_meant) l5 c5 k5,
    m_meant := PySem.W.mg_of X G a5,
    b_meant := (fun_mk (st := s_meant) l5 c5 k5).binds (ps := ["condition", "worths"]) fun _ _ _ _ _ _ us hl => match us, hl with | [_, _], _ => rfl,
    f_check_worths := f6,
    d_check_worths := _,
    F_check_worths := fun_mk (st := s_check_worths) l6 c6 k6,
    m_check_worths := PySem.W.mg_of X G a6,
    b_check_worths := (fun_mk (st := s_check_worths) l6 c6 k6).binds (ps := ["worths"]) fun _ _ _ _ _ _ us hl => match us, hl with | [_], _ => rfl,
    f_outcome := f7,
    d_outcome := _,
    F_outcome := fun_mk (st := s_outcome) l7 c7 k7,
    m_outcome := PySem.W.mg_of X G a7,
    b_outcome := (fun_mk (st := s_outcome) l7 c7 k7).binds (ps := ["condition", "worths"]) fun _ _ _ _ _ _ us hl => match us, hl with | [_, _], _ => rfl,
    f_law_begun := f8,
    d_law_begun := _,
    F_law_begun := fun_mk (st := s_law_begun) l8 c8 k8,
    m_law_begun := PySem.W.mg_of X G a8,
    b_law_begun := (fun_mk (st := s_law_begun) l8 c8 k8).binds (ps := ["_law_script"]) fun _ _ _ _ _ _ us hl => match us, hl with | [_], _ => rfl,
    f_law_take := f9,
    d_law_take := _,
    F_law_take := fun_mk (st := s_law_take) l9 c9 k9,
    m_law_take := PySem.W.mg_of X G a9,
    b_law_take := (fun_mk (st := s_law_take) l9 c9 k9).binds (ps := ["_law_box", "_law_many"]) fun _ _ _ _ _ _ us hl => match us, hl with | [_, _], _ => rfl,
    f_law_alike := f10,
    d_law_alike := _,
    F_law_alike := fun_mk (st := s_law_alike) l10 c10 k10,
    m_law_alike := PySem.W.mg_of X G a10,
    b_law_alike := (fun_mk (st := s_law_alike) l10 c10 k10).binds (ps := ["_law_found", "_law_due"]) fun _ _ _ _ _ _ us hl => match us, hl with | [_, _], _ => rfl,
    f_law_part := f11,
    d_law_part := _,
    F_law_part := fun_mk (st := s_law_part) l11 c11 k11,
    m_law_part := PySem.W.mg_of X G a11,
    b_law_part := (fun_mk (st := s_law_part) l11 c11 k11).binds (ps := ["_law_box", "_law_many", "_law_things"]) fun _ _ _ _ _ _ us hl => match us, hl with | [_, _, _], _ => rfl,
    f_law_bare := f12,
    d_law_bare := _,
    F_law_bare := fun_mk (st := s_law_bare) l12 c12 k12,
    m_law_bare := PySem.W.mg_of X G a12,
    b_law_bare := (fun_mk (st := s_law_bare) l12 c12 k12).binds (ps := ["_law_box", "_law_many", "_law_things"]) fun _ _ _ _ _ _ us hl => match us, hl with | [_, _, _], _ => rfl,
    f_law_deep := f13,
    d_law_deep := _,
    F_law_deep := fun_mk (st := s_law_deep) l13 c13 k13,
    m_law_deep := PySem.W.mg_of X G a13,
    b_law_deep := (fun_mk (st := s_law_deep) l13 c13 k13).binds (ps := ["_law_part_here"]) fun _ _ _ _ _ _ us hl => match us, hl with | [_], _ => rfl,
    f_law_condition := f14,
    d_law_condition := _,
    F_law_condition := fun_mk (st := s_law_condition) l14 c14 k14,
    m_law_condition := PySem.W.mg_of X G a14,
    b_law_condition := (fun_mk (st := s_law_condition) l14 c14 k14).binds (ps := ["_law_box", "_law_most"]) fun _ _ _ _ _ _ us hl => match us, hl with | [_, _], _ => rfl,
    f_law_meant := f15,
    d_law_meant := _,
    F_law_meant := fun_mk (st := s_law_meant) l15 c15 k15,
    m_law_meant := PySem.W.mg_of X G a15,
    b_law_meant := (fun_mk (st := s_law_meant) l15 c15 k15).binds (ps := ["_law_part_here", "_law_worths_here"]) fun _ _ _ _ _ _ us hl => match us, hl with | [_, _], _ => rfl,
    f_law_worths := f16,
    d_law_worths := _,
    F_law_worths := fun_mk (st := s_law_worths) l16 c16 k16,
    m_law_worths := PySem.W.mg_of X G a16,
    b_law_worths := (fun_mk (st := s_law_worths) l16 c16 k16).binds (ps := ["_law_number"]) fun _ _ _ _ _ _ us hl => match us, hl with | [_], _ => rfl,
    f_law := fa,
    d_law := _,
    F_law := fun_mk (st := s_law) l17 c17 k17,
    m_law := PySem.W.mg_of X G a17,
    b_law := (fun_mk (st := s_law) l17 c17 k17).binds (ps := ["_law_script"]) fun _ _ _ _ _ _ us hl => match us, hl with | [_], _ => rfl,
    n_sum := PySem.W.mg_none_of X G z_sum,
    n_tuple := PySem.W.mg_none_of X G z_tuple,
    n_isinstance := PySem.W.mg_none_of X G z_isinstance,
    n_len := PySem.W.mg_none_of X G z_len,
    n_bool := PySem.W.mg_none_of X G z_bool,
    n_int := PySem.W.mg_none_of X G z_int,
    n_all := PySem.W.mg_none_of X G z_all,
    n_list := PySem.W.mg_none_of X G z_list,
    n_str := PySem.W.mg_none_of X G z_str,
    n_range := PySem.W.mg_none_of X G z_range,
    n_max := PySem.W.mg_none_of X G z_max,
    u_MOST_LOOKS := u_MOST_LOOKS,
    c_MOST_LOOKS := PySem.W.mg_of X G y_MOST_LOOKS,
    u_MOST_AROUND := u_MOST_AROUND,
    c_MOST_AROUND := PySem.W.mg_of X G y_MOST_AROUND,
    u_THINGS := u_THINGS,
    c_THINGS := PySem.W.mg_of X G y_THINGS,
    a_GOES_ON := a_GOES_ON,
    c_GOES_ON := PySem.W.mg_of X G y_GOES_ON }) ⟨_, _, _, h_GOES_ON, q_GOES_ON, v_GOES_ON_and, ⟨_, rfl⟩⟩ ⟨_, _, _, h_GOES_ON, q_GOES_ON, v_GOES_ON_or, ⟨_, rfl⟩⟩
theorem walk {l : PySem.W.OpenLaw} {q : Program} {loose : List Str} {XP : (Str → Option Value) → Heap → Prop} {YP : World → Heap → Prop} {d : DefRec} {K : Params → PySem.W.Frag} (hn : l.most = some 63) (hdf : d.params.defaults = [])
    (hY : ∀ (w : World) (h : Heap), YP w h → (K w.params).In h)
    (F : ∀ (w : World) (mg : Str → Option Value) (fa : Addr) (h : Heap), (K w.params).In h → h.Ns mainGlobals mg → mg d.name = some (.ref fa) →
      ∃ fd : FuncData, (∀ (s : Shared) (u : Value), BindsTo s fd ⟨[u], []⟩ [("_law_script", u)]) ∧ ∀ base : Heap, (K w.params).In base → base.Ns mainGlobals mg → FnOk l.prog w (K w.params) mg base CX0 200 fa fd ["_law_script"] (spLaw (K w.params))) :
    PySem.W.WalkO q loose XP YP l.row.toRowW d [] (fun f vs => PySem.call f vs) :=
  L2.walk_of (n := 63) (k := 200) (x := "_law_script") (CX := fun _ => CX0) (sp := fun w => spLaw (K w.params)) hn (by decide) hdf ⟨rfl, by decide, by decide⟩ hY F (fun _ _ a ns hl _ hS => ⟨a, ns, rfl, hS, hl, fun _ => rfl⟩) fun _ _ _ _ _ z => z
end J
open PySem PySem.W PyProof.Rows
set_option maxRecDepth 100000 in
set_option maxHeartbeats 0 in
theorem PySem.Challenge.cw_jumpsay_k02_what_is_meant_holds : PySem.Challenge.rw_jumpsay_k02_what_is_meant.Holds := by
  w_on; o_law; k_head; (case hw => w_witness2)
  k_fill
  refine J.walk (l := PySem.Challenge.rw_jumpsay_k02_what_is_meant) rfl rfl (fun w h Y => PySem.W.kIn_of Y) ?F
  case F =>
    intro w mg fa h KX G hmg
    refine' J.all_mk KX G hmg ?a0 ?l0 ?c0 ?k0 ?a1 ?l1 ?c1 ?k1 ?a2 ?l2 ?c2 ?k2 ?a3 ?l3 ?c3 ?k3 ?a4 ?l4 ?c4 ?k4 ?a5 ?l5 ?c5 ?k5 ?a6 ?l6 ?c6 ?k6 ?a7 ?l7 ?c7 ?k7 ?a8 ?l8 ?c8 ?k8 ?a9 ?l9 ?c9 ?k9 ?a10 ?l10 ?c10 ?k10 ?a11 ?l11 ?c11 ?k11 ?a12 ?l12 ?c12 ?k12 ?a13 ?l13 ?c13 ?k13 ?a14 ?l14 ?c14 ?k14 ?a15 ?l15 ?c15 ?k15 ?a16 ?l16 ?c16 ?k16 ?a17 ?l17 ?c17 ?k17 ?z_sum ?z_tuple ?z_isinstance ?z_len ?z_bool ?z_int ?z_all ?z_list ?z_str ?z_range ?z_max ?y_MOST_LOOKS ?y_MOST_AROUND ?y_THINGS ?y_GOES_ON ?h_GOES_ON ?q_GOES_ON ?v_GOES_ON_and ?v_GOES_ON_or
    (case a0 => k_is); (case l0 => k_is); (case c0 => k_is); (case k0 => k_is)
    (case a1 => k_is); (case l1 => k_is); (case c1 => k_is); (case k1 => k_is)
    (case a2 => k_is); (case l2 => k_is); (case c2 => k_is); (case k2 => k_is)
    (case a3 => k_is); (case l3 => k_is); (case c3 => k_is); (case k3 => k_is)
    (case a4 => k_is); (case l4 => k_is); (case c4 => k_is); (case k4 => k_is)
    (case a5 => k_is); (case l5 => k_is); (case c5 => k_is); (case k5 => k_is)
    (case a6 => k_is); (case l6 => k_is); (case c6 => k_is); (case k6 => k_is)
    (case a7 => k_is); (case l7 => k_is); (case c7 => k_is); (case k7 => k_is)
    (case a8 => k_is); (case l8 => k_is); (case c8 => k_is); (case k8 => k_is)
    (case a9 => k_is); (case l9 => k_is); (case c9 => k_is); (case k9 => k_is)
    (case a10 => k_is); (case l10 => k_is); (case c10 => k_is); (case k10 => k_is)
    (case a11 => k_is); (case l11 => k_is); (case c11 => k_is); (case k11 => k_is)
    (case a12 => k_is); (case l12 => k_is); (case c12 => k_is); (case k12 => k_is)
    (case a13 => k_is); (case l13 => k_is); (case c13 => k_is); (case k13 => k_is)
    (case a14 => k_is); (case l14 => k_is); (case c14 => k_is); (case k14 => k_is)
    (case a15 => k_is); (case l15 => k_is); (case c15 => k_is); (case k15 => k_is)
    (case a16 => k_is); (case l16 => k_is); (case c16 => k_is); (case k16 => k_is)
    (case a17 => k_is); (case l17 => k_is); (case c17 => k_is); (case k17 => k_is)
    (case z_sum => k_is)
    (case z_tuple => k_is)
    (case z_isinstance => k_is)
    (case z_len => k_is)
    (case z_bool => k_is)
    (case z_int => k_is)
    (case z_all => k_is)
    (case z_list => k_is)
    (case z_str => k_is)
    (case z_range => k_is)
    (case z_max => k_is)
    (case y_MOST_LOOKS => k_is)
    (case y_MOST_AROUND => k_is)
    (case y_THINGS => k_is)
    (case y_GOES_ON => k_is)
    (case h_GOES_ON => k_is); (case q_GOES_ON => exact ⟨⟨_, _, rfl, rfl⟩, ⟨_, _, rfl, rfl⟩, trivial⟩)
    (case v_GOES_ON_and => k_is)
    (case v_GOES_ON_or => k_is)
