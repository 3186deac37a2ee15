import PyProof.Rows.All
import Wide.All
import OpenK.AllK
import Wide.FinOn
import HandS.ForMost
import HandS.ForExc
import HandS.IsInst
import HandS.More
import HandS.Conv
import HandS.TupAny
import HandS.Zip
import KE.DataMinMax
import KE.SortData
import HandS.FStr
import HandS.Text
import HandS.StrMore
import HandS.WrittenGet
import HandS.Iter
import HandS.HotCalls
import HandS.ExcIs
import HandS.ExcSuper
import KE.KExcIs
import HandS.SetFor
import KE.GoesRaise
import HandS.WordsExc
import HandS.ReplaceLit
import HandS.ReplaceList
import HandS.ExcInit
import HandS.ExcField
import HandS.Nested
import KE.KExcSuper
import HandS.Dict
import PyProof.Rows.StrMul
import PyProof.Rows.StrJoin2
import PyProof.CollectIter
import PyProof.ListStr
import PySem.Challenge.RW_jumpsay_k11_texts_refused
set_option Elab.async false
set_option linter.all false
set_option maxRecDepth 100000
set_option maxHeartbeats 4000000
namespace J
open PySem L2
/-! ### heaps -/
theorem sm_new {H : Hp} {p : Addr} (h : H p = none) (o : HO) : Same H (upd H p o) := fun b u q => by
  rw [upd_ne (ne_of_none q h)]
  exact q
theorem sm_ap {H H' : Hp} {b : Addr} {o : HO} (g : Same H H') (h : H b = some o) : H' b = some o := g _ _ h
theorem sm_l {K : PySem.W.Frag} {H H' : Hp} {a : Addr} {xs : List V} (g : Same H H') (h : SqL K H a xs) : SqL K H' a xs := g.seq h
theorem sm_t {K : PySem.W.Frag} {H H' : Hp} {a : Addr} {xs : List V} (e : Same H H') (h : SqT K H a xs) : SqT K H' a xs := by
  rcases h with (h | ⟨o, h⟩) | h
  · exact .inl (.inl (e _ _ h))
  · exact .inl (.inr ⟨o, e _ _ h⟩)
  · exact .inr h
theorem sm_tr {H H1 H2 : Hp} (b : Same H1 H2) (a : Same H H1) : Same H H2 := a.trans b
/-- the tuples stand -/
def Tups (H H' : Hp) : Prop := ∀ b xs, H b = some (.tup xs) → H' b = some (.tup xs)
theorem Same.tups {H H' : Hp} (g : Same H H') : Tups H H' := fun b xs h => g b _ h
theorem Tups.refl (H : Hp) : Tups H H := fun _ _ h => h
theorem Tups.trans {H H1 H2 : Hp} (a : Tups H H1) (b : Tups H1 H2) : Tups H H2 := fun c xs h => b c xs (a c xs h)
/-! ### what is new -/
def NewO (o : HO) (n : Nat) (H : Hp) (Q : VK) : Prop := n ≤ sizeLine ∧ ∀ p, H p = none → Q (.ref p) (upd H p o)
theorem l_new {o : HO} {n : Nat} {H : Hp} {Q : VK} (hn : n ≤ 100000) (h : ∀ (p : Addr) (H' : Hp), H p = none → Same H H' → H' p = some o → Q (.ref p) H') : NewO o n H Q :=
  ⟨Nat.le_trans hn (by decide), fun p hp => h p _ hp (sm_new hp o) upd_same⟩
/-! ### the readings, a step each -/
section
variable {K : PySem.W.Frag} {w : World} {σ : St} {H : Hp} {Q : VK} {QT : Bool → Hp → Prop} {QA : List V → Hp → Prop} {nx bk ct : St → Hp → Prop} {rt : VK} {ta tb tc te : TE} {t u : TT} {ts tu : TS} {g : TG} {r r' : R2} {x y v : V} {i j : Nat}
theorem l_seq (h : ts (Ends.mk (tu (Ends.mk nx rt bk ct)) rt bk ct) σ H) : tSeq ts tu (Ends.mk nx rt bk ct) σ H := h
theorem l_next (h : nx σ H) : tNext (Ends.mk nx rt bk ct) σ H := h
theorem l_brk (h : bk σ H) : tBreak (Ends.mk nx rt bk ct) σ H := h
theorem l_cnt (h : ct σ H) : tCont (Ends.mk nx rt bk ct) σ H := h
theorem l_asg (h : te σ H fun x H1 => g x σ H1 nx) : tAsg te g (Ends.mk nx rt bk ct) σ H := h
theorem l_drop (h : te σ H fun _ H1 => nx σ H1) : tDrop te (Ends.mk nx rt bk ct) σ H := h
theorem l_ret (h : te σ H rt) : tRet te (Ends.mk nx rt bk ct) σ H := h
theorem l_retN (h : rt .non H) : tRetN (Ends.mk nx rt bk ct) σ H := h
theorem l_ifS (h : t σ H fun b H1 => if b = true then ts (Ends.mk nx rt bk ct) σ H1 else tu (Ends.mk nx rt bk ct) σ H1) : tIfS t ts tu (Ends.mk nx rt bk ct) σ H := h
theorem l_name {QS : St → Hp → Prop} (h : QS (σ.set i (some v)) H) : gName i v σ H QS := h
theorem l_var (e : σ[i]? = some (some v)) (h : Q v H) : tVar i σ H Q := ⟨v, e, h⟩
theorem l_c (h : Q v H) : tC v σ H Q := h
theorem l_op (h : ta σ H fun x H1 => tb σ H1 fun y H2 => r x y H2 Q) : tOp r ta tb σ H Q := h
theorem l_un {ru : V → Hp → VK → Prop} (h : ta σ H fun x H1 => ru x H1 Q) : tUn ru ta σ H Q := h
theorem l_I0 {f : Int → Int → V} {a b : Int} (h : Q (f a b) H) : rI0 f (.int a) (.int b) H Q := ⟨a, b, rfl, rfl, h⟩
theorem l_I {C : Int → Int → Prop} {f : Int → Int → V} {a b : Int} (c : C a b) (h : Q (f a b) H) : rI C f (.int a) (.int b) H Q := ⟨a, b, rfl, rfl, c, h⟩
theorem l_U {f : Int → V} {a : Int} (h : Q (f a) H) : rU f (.int a) H Q := ⟨a, rfl, h⟩
theorem l_eq (e : scal x y = true) (h : Q (.bl (decide (x = y))) H) : rEq x y H Q := ⟨e, h⟩
theorem l_ne (e : scal x y = true) (h : Q (.bl (!decide (x = y))) H) : rNe x y H Q := ⟨e, h⟩
theorem l_ixT {p : Addr} {xs : List V} {k : Int} (ht : SqT K H p xs) (ha : atI xs k = some v) (h : Q v H) : rIxT K (.ref p) (.int k) H Q := ⟨p, xs, k, v, rfl, rfl, ht, ha, h⟩
theorem l_ixL {p : Addr} {xs : List V} {k : Int} (ht : SqL K H p xs) (ha : atI xs k = some v) (h : Q v H) : rIxL K (.ref p) (.int k) H Q := ⟨p, xs, k, v, rfl, rfl, ht, ha, h⟩
theorem l_test (h : te σ H fun x H' => ∃ k, x = .bl k ∧ QT k H') : tTest te σ H QT := h
theorem l_tB (h : te σ H fun x H' => ∃ k, x = .bl k ∧ QT k H') : tB te σ H QT := h
theorem l_bl {k : Bool} {G : Bool → Prop} (h : G k) : ∃ c, V.bl k = .bl c ∧ G c := ⟨k, rfl, h⟩
theorem l_and (h : t σ H fun c H1 => if c = true then u σ H1 QT else QT false H1) : tAnd t u σ H QT := h
theorem l_or (h : t σ H fun c H1 => if c = true then QT true H1 else u σ H1 QT) : tOr t u σ H QT := h
theorem l_not (h : t σ H fun c H1 => QT (!c) H1) : tNot t σ H QT := h
theorem l_andV (h : ta σ H fun x H1 => ∃ c, x = .bl c ∧ if c = true then tb σ H1 Q else Q (.bl false) H1) : tAndV ta tb σ H Q := h
theorem l_orV (h : ta σ H fun x H1 => ∃ c, x = .bl c ∧ if c = true then Q (.bl true) H1 else tb σ H1 Q) : tOrV ta tb σ H Q := h
theorem l_notV (h : ta σ H fun x H1 => ∃ c, x = .bl c ∧ Q (.bl (!c)) H1) : tNotV ta σ H Q := h
theorem l_if (h : t σ H fun c H1 => if c = true then ta σ H1 Q else tb σ H1 Q) : tIf t ta tb σ H Q := h
theorem l_chain (h : ta σ H fun x H1 => tb σ H1 fun y H2 => r x y H2 fun z H3 => ∃ k, z = .bl k ∧ (if k = true then tc σ H3 fun w' H4 => r' y w' H4 Q else Q (.bl false) H3)) : tChain r r' ta tb tc σ H Q := h
theorem l_nil (h : QA [] H) : tNil σ H QA := h
theorem l_cons {tr : TA} (h : te σ H fun x H1 => tr σ H1 fun xs H2 => QA (x :: xs) H2) : tCons te tr σ H QA := h
theorem l_tup {tr : TA} (h : tr σ H fun xs H1 => NewO (.tup xs) xs.length H1 Q) : tTup tr σ H Q := h
theorem l_lst {tr : TA} (h : tr σ H fun xs H1 => NewO (.lst xs) xs.length H1 Q) : tLst tr σ H Q := h
theorem l_CB {rc : List V → Hp → VK → Prop} {tr : TA} (h : tr σ H fun xs H1 => rc xs H1 Q) : tCB rc tr σ H Q := h
theorem l_call {sp : Sp} {E : XK} {tr : TA} (h : tr σ H fun vs H1 => sp vs H1 Q E) : tCall sp [] E tr σ H Q := by
  have e : (fun (vs : List V) (H1 : Hp) => sp (vs ++ []) H1 Q E) = fun vs H1 => sp vs H1 Q E := by
    funext vs H1
    rw [List.append_nil]
  show tr σ H (fun vs H1 => sp (vs ++ []) H1 Q E)
  rw [e]
  exact h
theorem l_bm {T : String} {rm : V → List V → Hp → VK → Prop} {tr : TA} (h : ta σ H fun x H1 => tyV K T x H1 ∧ tr σ H1 fun xs H2 => rm x xs H2 Q) : tBM K T rm ta tr σ H Q := h
theorem l_bm0 {T : String} {rm : V → List V → Hp → VK → Prop} (h : ta σ H fun x H1 => tyV K T x H1 ∧ rm x [] H1 Q) : tBM0 K T rm ta σ H Q := h
theorem l_sl {rs : V → Option Int → Option Int → Hp → VK → Prop} {tl th : TO} (h : te σ H fun x H1 => tl σ H1 fun l H2 => th σ H2 fun u H3 => rs x l u H3 Q) : tSl rs te tl th σ H Q := h
theorem l_noPart {QO : Option Int → Hp → Prop} (h : QO none H) : tNoPart σ H QO := h
theorem l_part {QO : Option Int → Hp → Prop} (h : te σ H fun x H1 => ∃ k, x = .int k ∧ QO (some k) H1) : tPart te σ H QO := h
theorem l_isInt {G : Int → Prop} {k : Int} (h : G k) : ∃ c, V.int k = .int c ∧ G c := ⟨k, rfl, h⟩
theorem l_slT {p : Addr} {xs : List V} {lo hi : Option Int} (ht : SqT K H p xs) (hw : ¬ (HT.sIx xs.length 0 lo = 0 ∧ HT.sIx xs.length xs.length hi = xs.length)) (h : ∀ (q : Addr) (H' : Hp), H q = none → Same H H' → H' q = some (.tup (cutV xs lo hi)) → Q (.ref q) H') : rSlT K (.ref p) lo hi H Q :=
  ⟨p, xs, rfl, ht, hw, fun q hq => h q _ hq (sm_new hq _) upd_same⟩
theorem l_slL {p : Addr} {xs : List V} {lo hi : Option Int} (ht : SqL K H p xs) (h : ∀ (q : Addr) (H' : Hp), H q = none → Same H H' → H' q = some (.lst (cutV xs lo hi)) → Q (.ref q) H') : rSlL K (.ref p) lo hi H Q :=
  ⟨p, xs, rfl, ht, fun q hq => h q _ hq (sm_new hq _) upd_same⟩
theorem l_cat {p q : Addr} {xs ys : List V} (hp : H p = some (.lst xs)) (hq : H q = some (.lst ys)) (hn : xs.length + ys.length ≤ 100000) (h : ∀ (p' : Addr) (H' : Hp), H p' = none → Same H H' → H' p' = some (.lst (xs ++ ys)) → Q (.ref p') H') : rCat (.ref p) (.ref q) H Q :=
  ⟨p, q, xs, ys, rfl, rfl, hp, hq, Nat.le_trans hn (by decide), fun p' hp' => h p' _ hp' (sm_new hp' _) upd_same⟩
theorem l_in {neg : Bool} {p : Addr} {xs : List V} (ht : SqT K H p xs) (hx : flatV x = true) (ha : xs.all flatV = true) (h : Q (.bl (if neg then !inV x xs else inV x xs)) H) : rIn K neg x (.ref p) H Q := ⟨p, xs, rfl, .inr ht, hx, ha, h⟩
theorem l_gtup {n : Nat} {tg : TGs} {p : Addr} {xs : List V} {QS : St → Hp → Prop} (ht : SqT K H p xs) (hn : xs.length = n) (h : tg xs σ H QS) : gTup K n tg (.ref p) σ H QS := ⟨p, xs, rfl, ht, hn, h⟩
theorem l_gnil {QS : St → Hp → Prop} (h : QS σ H) : gNil [] σ H QS := ⟨rfl, h⟩
theorem l_gcons {tg : TG} {tgs : TGs} {vs : List V} {QS : St → Hp → Prop} (h : tg v σ H fun σ' H' => tgs vs σ' H' QS) : gCons tg tgs (v :: vs) σ H QS := ⟨v, vs, rfl, h⟩
theorem l_gsub {to ti : TE} {tset : TSet} {QS : St → Hp → Prop} (h : to σ H fun o H1 => ti σ H1 fun k H2 => tset o k v H2 fun H3 => QS σ H3) : gSub to ti tset v σ H QS := h
/-! tests that are known -/
theorem i_t {A B : Prop} {b : Bool} (e : b = true) (h : A) : if b = true then A else B := by
  rw [if_pos e]
  exact h
theorem i_f {A B : Prop} {b : Bool} (e : b = false) (h : B) : if b = true then A else B := by
  rw [if_neg (by rw [e]; exact Bool.false_ne_true)]
  exact h
theorem i_b {A B : Prop} {b : Bool} (h1 : b = true → A) (h2 : b = false → B) : if b = true then A else B := by
  cases b
  · rw [if_neg Bool.false_ne_true]
    exact h2 rfl
  · rw [if_pos rfl]
    exact h1 rfl
end
/-! named forms of the library's unnamed ones -/
def rLen (K : PySem.W.Frag) : List V → Hp → VK → Prop := fun xs H Q => ∃ p ys, xs = [.ref p] ∧ (SqL K H p ys ∨ SqT K H p ys) ∧ Q (.int ys.length) H
theorem call_rLen {X : Cx} : CallR X (.builtin "len") (rLen X.K) := call_len_seq
def rListOf (K : PySem.W.Frag) : List V → Hp → VK → Prop := fun xs H Q => ∃ p ys, xs = [.ref p] ∧ (SqL K H p ys ∨ SqT K H p ys) ∧ ∀ l, H l = none → Q (.ref l) (upd H l (.lst ys))
theorem call_rListOf {X : Cx} : CallR X (.type "list") (rListOf X.K) := call_list_of
def rTupleOf (K : PySem.W.Frag) : List V → Hp → VK → Prop := fun xs H Q => ∃ p ys, xs = [.ref p] ∧ ((SqL K H p ys ∧ ∀ l, H l = none → Q (.ref l) (upd H l (.tup ys))) ∨ (SqT K H p ys ∧ Q (.ref p) H))
theorem call_rTupleOf {X : Cx} : CallR X (.type "tuple") (rTupleOf X.K) := call_tuple_of
def rInt1 : List V → Hp → VK → Prop := fun xs H Q => (∃ i, xs = [.int i] ∧ Q (.int i) H) ∨ ∃ k, xs = [.bl k] ∧ Q (.int (if k then 1 else 0)) H
theorem call_rInt1 {X : Cx} : CallR X (.type "int") rInt1 := call_int1
section
variable {K : PySem.W.Frag} {w : World} {σ : St} {H : Hp} {Q : VK} {p : Addr} {xs : List V}
theorem l_lenT (h : SqT K H p xs) (q : Q (.int xs.length) H) : rLen K [.ref p] H Q := ⟨p, xs, rfl, .inr h, q⟩
theorem l_lenL (h : SqL K H p xs) (q : Q (.int xs.length) H) : rLen K [.ref p] H Q := ⟨p, xs, rfl, .inl h, q⟩
theorem l_listL (h : SqL K H p xs) (q : ∀ (l : Addr) (H' : Hp), H l = none → Same H H' → H' l = some (.lst xs) → Q (.ref l) H') : rListOf K [.ref p] H Q := ⟨p, xs, rfl, .inl h, fun l hl => q l _ hl (sm_new hl _) upd_same⟩
theorem l_tupleL (h : SqL K H p xs) (q : ∀ (l : Addr) (H' : Hp), H l = none → Same H H' → H' l = some (.tup xs) → Q (.ref l) H') : rTupleOf K [.ref p] H Q := ⟨p, xs, rfl, .inl ⟨h, fun l hl => q l _ hl (sm_new hl _) upd_same⟩⟩
theorem l_intB {b : Bool} (q : Q (.int (if b then 1 else 0)) H) : rInt1 [.bl b] H Q := .inr ⟨b, rfl, q⟩
theorem l_intI {i : Int} (q : Q (.int i) H) : rInt1 [.int i] H Q := .inl ⟨i, rfl, q⟩
theorem l_sum {ns : List Int} (h : SqL K H p (ns.map V.int)) (q : Q (.int ns.sum) H) : rSum K [.ref p] H Q := ⟨p, ns, rfl, h, q⟩
theorem l_all {bs : List Bool} (h : SqL K H p (bs.map V.bl)) (q : Q (.bl (bs.all id)) H) : rAll K [.ref p] H Q := ⟨p, bs, rfl, h, q⟩
theorem l_isi {x c : V} {t u : Value} {b : Bool} (hc : ClsV c u) (ht : TyX K H x t) (hk : PySem.W.kitOne K t u = some b) (q : Q (.bl b) H) : rIsi K [x, c] H Q := ⟨x, c, t, u, b, rfl, hc, ht, hk, q⟩
theorem ty_tup (h : H p = some (.tup xs)) : TyX K H (.ref p) (.type "tuple") := .base (.tup h)
theorem ty_lst (h : H p = some (.lst xs)) : TyX K H (.ref p) (.type "list") := .base (.lst h)
theorem ty_int {i : Int} : TyX K H (.int i) (.type "int") := .base (.int i)
theorem ty_bl {i : Bool} : TyX K H (.bl i) (.type "bool") := .base (.bl i)
theorem ty_str {i : Str} : TyX K H (.str i) (.type "str") := .base (.str i)
theorem ty_non : TyX K H .non (.type "NoneType") := .base .non
theorem l_ixD {a : Addr} {z : Str} {v : V} (h : KDct K w a z v) (q : Q v H) : rIxD K w (.ref a) (.str z) H Q := ⟨a, z, v, rfl, rfl, h, q⟩
end
/-! more named forms -/
def rAddStr : R2 := fun x y H Q => ∃ i j, x = .str i ∧ y = .str j ∧ i.length + j.length ≤ sizeLine ∧ Q (.str (i ++ j)) H
def rIsNone : R2 := fun x y H Q => y = .non ∧ Q (.bl (decide (x = .non))) H
def rNotNone : R2 := fun x y H Q => y = .non ∧ Q (.bl (!decide (x = .non))) H
def rInStr : R2 := fun x y H Q => ∃ i j, x = .str i ∧ y = .str j ∧ Q (.bl (!(Builtin.Str.occurrences j i 0 j.length 1).isEmpty)) H
def rNotInStr : R2 := fun x y H Q => ∃ i j, x = .str i ∧ y = .str j ∧ Q (.bl (!(!(Builtin.Str.occurrences j i 0 j.length 1).isEmpty))) H
def rLenStr : List V → Hp → VK → Prop := fun xs H Q => ∃ z, xs = [.str z] ∧ z.length ≤ sizeLine ∧ Q (.int z.length) H
theorem l_isNone {x : V} {H : Hp} {Q : VK} (h : Q (.bl (decide (x = .non))) H) : rIsNone x .non H Q := ⟨rfl, h⟩
theorem l_notNone {x : V} {H : Hp} {Q : VK} (h : Q (.bl (!decide (x = .non))) H) : rNotNone x .non H Q := ⟨rfl, h⟩
/-! loops and comprehensions -/
theorem sm_mut {H H' : Hp} {p : Addr} {o : HO} (e : Same H H') (h : H p = none) : Same H (upd H' p o) := fun a u ha => by
  rw [upd_ne (ne_of_none ha h)]
  exact e a u ha
theorem take_snoc {α : Type} {l : List α} {i : Nat} {x : α} (h : l[i]? = some x) : l.take (i + 1) = l.take i ++ [x] := by
  rw [List.take_add_one, h]
  rfl
def LcB (g : TG) (tt : TT) (te : TE) (vs : List Nat) (σ : St) (Q : VK) : It → Hp → Prop := fun J H1 => ∀ D, H1 D = none → ∃ W : Nat → Nat → Hp → Prop, (∃ m, W 0 m (upd H1 D (.lst []))) ∧ ∀ i m H, W i m H →
  (J.stop i H ∧ Q (.ref D) H) ∨ (J.go i H ∧ ∃ Nx : Hp → Prop, (∀ H', Nx H' → ∃ m', m' < m ∧ W (i + 1) m' H') ∧ ∀ x H', J.yld i H x H' → g x (wipe σ vs) H' fun σ2 H2 => wipe σ2 vs = wipe σ vs ∧ tt σ2 H2 fun b H3 =>
    if b = true then te σ2 H3 fun y H4 => ∃ acc, H4 D = some (.lst acc) ∧ acc.length < sizeLine ∧ Nx (upd H4 D (.lst (acc ++ [y]))) else Nx H3)
def ForB (g : TG) (tb : TS) (D : Ends) (σ0 : St) : It → Hp → Prop := fun J H1 => ∃ W : Nat → Nat → St → Hp → Prop, (∃ m, W 0 m σ0 H1) ∧ ∀ i m σ H, W i m σ H →
  (J.stop i H ∧ D.nx σ H) ∨ (J.go i H ∧ ∃ N : St → Hp → Prop, (∀ σ' H', N σ' H' → ∃ m', m' < m ∧ W (i + 1) m' σ' H') ∧ ∀ x H', J.yld i H x H' → g x σ H' fun σ2 H2 => tb { D with nx := N, ct := N, bk := D.nx } σ2 H2)
def IT (K : PySem.W.Frag) (x : V) (H : Hp) (R : It → Hp → Prop) : Prop := ∃ a, x = .ref a ∧ (∃ xs, SqT K H a xs) ∧ R (Itt K a) H
def IL (K : PySem.W.Frag) (x : V) (H : Hp) (R : It → Hp → Prop) : Prop := ∃ a, x = .ref a ∧ (∃ xs, SqL K H a xs) ∧ R (Itl K a) H
def IR1 (vs : List V) (H : Hp) (R : It → Hp → Prop) : Prop := ∃ j : Int, vs = [.int j] ∧ -(2 ^ 62) ≤ j ∧ j < 2 ^ 62 ∧ R (Itr 0 j.toNat) H
def IR2 (vs : List V) (H : Hp) (R : It → Hp → Prop) : Prop := ∃ i j : Int, vs = [.int i, .int j] ∧ (-(2 ^ 62) ≤ i ∧ i < 2 ^ 62 ∧ -(2 ^ 62) ≤ j ∧ j < 2 ^ 62) ∧ R (Itr i (j - i).toNat) H
section
variable {K : PySem.W.Frag} {w : World} {σ : St} {H : Hp} {Q : VK} {nx bk ct : St → Hp → Prop} {rt : VK} {te tl : TE} {tt : TT} {tb : TS} {g : TG} {j : Nat} {vs : List Nat} {ta : TA} {wi : TI} {R : It → Hp → Prop} {D : Ends}
theorem l_lc (h : wi σ H (LcB g tt te vs σ Q)) : tLc wi g tt te vs σ H Q := h
theorem l_for (h : wi σ H (ForB g tb D σ)) : tFor wi g tb D σ H := h
theorem l_iTup (h : tl σ H fun x H1 => IT K x H1 R) : iTup K tl σ H R := h
theorem l_iList (h : tl σ H fun x H1 => IL K x H1 R) : iList K tl σ H R := h
theorem l_iRng1 (h : ta σ H fun vs H1 => IR1 vs H1 R) : iRng1 ta σ H R := h
theorem l_iRng2 (h : ta σ H fun vs H1 => IR2 vs H1 R) : iRng2 ta σ H R := h
/-- [e for x in ..], every item's value known, nothing that was known changes: the turns -/
def LcTurns (te : TE) (vs : List Nat) (σ : St) (j : Nat) (H1 : Hp) (xs ys : List V) : Prop :=
  ys.length = xs.length ∧ ∀ (i : Nat) (x y : V) H' (Q' : VK), xs[i]? = some x → ys[i]? = some y → Same H1 H' → (∀ H'', Same H' H'' → Q' y H'') → te ((wipe σ vs).set j (some x)) H' Q'
theorem lc_turn {te : TE} {vs : List Nat} {σ : St} {j : Nat} {H1 : Hp} {xs ys : List V} {D : Addr} (hD : H1 D = none) (hl : xs.length ≤ 100000) (h : LcTurns te vs σ j H1 xs ys) {i : Nat} {x : V} {H' : Hp} (hx : xs[i]? = some x)
    (p : Same H1 H' ∧ H' D = some (.lst (ys.take i))) :
    te ((wipe σ vs).set j (some x)) H' fun y H4 => ∃ acc, H4 D = some (.lst acc) ∧ acc.length < sizeLine ∧ (Same H1 (upd H4 D (.lst (acc ++ [y]))) ∧ upd H4 D (.lst (acc ++ [y])) D = some (.lst (ys.take (i + 1)))) := by
  have hi := (List.getElem?_eq_some_iff.mp hx).1
  have hy : ∃ y, ys[i]? = some y := ⟨ys[i]'(by rw [h.1]; exact hi), List.getElem?_eq_getElem _⟩
  obtain ⟨y, hy⟩ := hy
  refine h.2 i x y H' _ hx hy p.1 fun H'' g => ?_
  refine ⟨ys.take i, g _ _ p.2, ?_, sm_mut (p.1.trans g) hD, ?_⟩
  · rw [List.length_take]
    exact Nat.lt_of_le_of_lt (Nat.le_trans (Nat.min_le_left _ _) (Nat.le_trans (Nat.le_of_lt hi) hl)) (by decide)
  · rw [upd_same, take_snoc hy]
theorem lcT {a : Addr} {xs ys : List V} (hw : ∀ x, wipe ((wipe σ vs).set j (some x)) vs = wipe σ vs) (ht : SqT K H a xs) (hl : xs.length ≤ 100000) (h : LcTurns te vs σ j H xs ys) (q : ∀ D H2, H D = none → Same H H2 → H2 D = some (.lst ys) → Q (.ref D) H2) :
    IT K (.ref a) H (LcB (gName j) tYes te vs σ Q) :=
  ⟨a, rfl, ⟨xs, ht⟩, fun D hD => lc_tup (K := K) (a := a) (xs := xs) (fun i H' => Same H H' ∧ H' D = some (.lst (ys.take i))) ⟨sm_new hD _, upd_same⟩ (fun i H' _ p => sm_t p.1 ht)
    (fun i x H' hx p => ⟨hw x, lc_turn hD hl h hx p⟩) fun H' p => q D H' hD p.1 (by have e := p.2; rw [← h.1, List.take_length] at e; exact e)⟩
theorem lcL {a : Addr} {xs ys : List V} (hw : ∀ x, wipe ((wipe σ vs).set j (some x)) vs = wipe σ vs) (ht : SqL K H a xs) (hl : xs.length ≤ 100000) (h : LcTurns te vs σ j H xs ys) (q : ∀ D H2, H D = none → Same H H2 → H2 D = some (.lst ys) → Q (.ref D) H2) :
    IL K (.ref a) H (LcB (gName j) tYes te vs σ Q) :=
  ⟨a, rfl, ⟨xs, ht⟩, fun D hD => lc_list (K := K) (a := a) (xs := xs) (fun i H' => Same H H' ∧ H' D = some (.lst (ys.take i))) ⟨sm_new hD _, upd_same⟩ (fun i H' _ p => sm_l p.1 ht)
    (fun i x H' hx p => ⟨hw x, lc_turn hD hl h hx p⟩) fun H' p => q D H' hD p.1 (by have e := p.2; rw [← h.1, List.take_length] at e; exact e)⟩
/-- over range(n) -/
def irs (n : Nat) : List V := (List.range n).map vI where vI (i : Nat) : V := .int (0 + (i : Int))
theorem irs_at {n i : Nat} (h : i < n) : (irs n)[i]? = some (.int (0 + (i : Int))) := by
  unfold irs
  rw [List.getElem?_map, List.getElem?_range h]
  rfl
theorem lcR {n : Nat} {ys : List V} (hw : ∀ x, wipe ((wipe σ vs).set j (some x)) vs = wipe σ vs) (hl : n ≤ 100000) (h : LcTurns te vs σ j H (irs n) ys) (q : ∀ D H2, H D = none → Same H H2 → H2 D = some (.lst ys) → Q (.ref D) H2) :
    IR1 [.int (n : Int)] H (LcB (gName j) tYes te vs σ Q) := by
  have hz : (irs n).length = n := by unfold irs; rw [List.length_map, List.length_range]
  refine ⟨(n : Int), rfl, ?_, ?_, ?_⟩
  · have : (0 : Int) ≤ 2 ^ 62 := by decide
    omega
  · have : (100000 : Int) < 2 ^ 62 := by decide
    omega
  · intro D hD
    rw [Int.toNat_natCast]
    refine lc_range (lo := 0) (n := n) (fun i H' => Same H H' ∧ H' D = some (.lst (ys.take i))) ⟨sm_new hD _, upd_same⟩ (fun i H' hi p => ⟨hw _, ?_⟩) fun H' p => q D H' hD p.1 ?_
    · exact lc_turn (xs := irs n) hD (by rw [hz]; exact hl) h (irs_at hi) p
    · have e := p.2
      rw [← hz, ← h.1, List.take_length] at e
      exact e
/-! for -/
theorem forT {a : Addr} {xs : List V} (Pv : Nat → St → Hp → Prop) (h0 : Pv 0 σ H) (hx : SqT K H a xs) (hl : ∀ i σ' H', i ≤ xs.length → Pv i σ' H' → SqT K H' a xs) (hs : ∀ i x σ' H', xs[i]? = some x → Pv i σ' H' → g x σ' H' fun σ2 H2 => tb (Ends.mk (Pv (i + 1)) rt nx (Pv (i + 1))) σ2 H2) (hd : ∀ σ' H', Pv xs.length σ' H' → nx σ' H') :
    IT K (.ref a) H (ForB g tb (Ends.mk nx rt bk ct) σ) := ⟨a, rfl, ⟨xs, hx⟩, for_tup (D := Ends.mk nx rt bk ct) Pv h0 hl hs hd⟩
theorem forL {a : Addr} {xs : List V} (Pv : Nat → St → Hp → Prop) (h0 : Pv 0 σ H) (hx : SqL K H a xs) (hl : ∀ i σ' H', i ≤ xs.length → Pv i σ' H' → SqL K H' a xs) (hs : ∀ i x σ' H', xs[i]? = some x → Pv i σ' H' → g x σ' H' fun σ2 H2 => tb (Ends.mk (Pv (i + 1)) rt nx (Pv (i + 1))) σ2 H2) (hd : ∀ σ' H', Pv xs.length σ' H' → nx σ' H') :
    IL K (.ref a) H (ForB g tb (Ends.mk nx rt bk ct) σ) := ⟨a, rfl, ⟨xs, hx⟩, for_list (D := Ends.mk nx rt bk ct) Pv h0 hl hs hd⟩
theorem forR {n : Nat} (hn : n ≤ 100000) (Pv : Nat → St → Hp → Prop) (h0 : Pv 0 σ H) (hs : ∀ i σ' H', i < n → Pv i σ' H' → g (.int (0 + (i : Int))) σ' H' fun σ2 H2 => tb (Ends.mk (Pv (i + 1)) rt nx (Pv (i + 1))) σ2 H2) (hd : ∀ σ' H', Pv n σ' H' → nx σ' H') :
    IR1 [.int (n : Int)] H (ForB g tb (Ends.mk nx rt bk ct) σ) := by
  refine ⟨(n : Int), rfl, ?_, ?_, ?_⟩
  · have : (0 : Int) ≤ 2 ^ 62 := by decide
    omega
  · have : (100000 : Int) < 2 ^ 62 := by decide
    omega
  · rw [Int.toNat_natCast]
    exact for_range (D := Ends.mk nx rt bk ct) (lo := 0) (n := n) Pv h0 hs hd
/-- while -/
theorem l_while {t : TT} (Pv : St → Hp → Prop) (μ : St → Hp → Nat) (h0 : Pv σ H) (hs : ∀ σ' H', Pv σ' H' → t σ' H' fun b H1 => if b = true then tb (Ends.mk (fun σ2 H2 => Pv σ2 H2 ∧ μ σ2 H2 < μ σ' H') rt nx (fun σ2 H2 => Pv σ2 H2 ∧ μ σ2 H2 < μ σ' H')) σ' H1 else nx σ' H1)
    (hm : ∀ (σ : St) (H : Hp) (Q Q' : Bool → Hp → Prop), (∀ (b : Bool) (H1 : Hp), Q b H1 → Q' b H1) → t σ H Q → t σ H Q') :
    tWhile t tb (Ends.mk nx rt bk ct) σ H := while_by (D := Ends.mk nx rt bk ct) Pv μ h0 hs hm
end
section
variable {K : PySem.W.Frag} {w : World} {σ : St} {H : Hp} {Q : VK} {p : Addr} {xs : List V}
theorem l_ty {G : Prop} (h : SqL K H p xs) (q : G) : tyV K "list" (.ref p) H ∧ G := ⟨Or.inl ⟨rfl, _, h⟩, q⟩
theorem l_append {y : V} (h : H p = some (.lst xs)) (hn : xs.length < 100000) (q : Q .non (upd H p (.lst (xs ++ [y])))) : rAppend (.ref p) [y] H Q := ⟨p, xs, y, rfl, rfl, h, Nat.lt_of_lt_of_le hn (by decide), q⟩
theorem l_setL {k : Int} {i : Nat} {y : V} {Q' : Hp → Prop} (h : H p = some (.lst xs)) (hk : ixN xs.length k = some i) (q : Q' (upd H p (.lst (xs.set i y)))) : rSetL (.ref p) (.int k) y H Q' := ⟨p, xs, k, i, rfl, rfl, h, hk, q⟩
theorem l_max {ns : List Int} (h : SqL K H p (ns.map V.int)) (hn : 0 < ns.length) (q : ∀ m, m ∈ ns → (∀ y, y ∈ ns → y ≤ m) → Q (.int m) H) : rMax K [.ref p] H Q := ⟨p, ns, rfl, h, hn, q⟩
theorem l_pop0 {x : V} (h : H p = some (.lst (x :: xs))) (q : Q x (upd H p (.lst xs))) : rPopAt (.ref p) [.int 0] H Q :=
  ⟨p, x :: xs, 0, 0, x, rfl, rfl, h, by decide, by decide, by
    unfold seqIndex?
    simp, rfl, q⟩
theorem l_eqD {x y : V} {d e : PyData} (hx : Dp K H x d) (hy : Dp K H y e) (s1 : SeqAt.shaped d = true) (s2 : SeqAt.shaped e = true) (q : Q (.bl (PyData.eqv d e)) H) : rEqD K x y H Q := ⟨d, e, hx, hy, s1, s2, q⟩
theorem l_neD {x y : V} {d e : PyData} (hx : Dp K H x d) (hy : Dp K H y e) (s1 : SeqAt.shaped d = true) (s2 : SeqAt.shaped e = true) (q : Q (.bl (!PyData.eqv d e)) H) : rNeD K x y H Q := ⟨d, e, hx, hy, s1, s2, q⟩
end
theorem ix0 {n : Nat} (h : 0 < n) : ixN n 0 = some 0 := by
  unfold ixN
  rw [if_pos (Int.le_refl 0), if_pos (by omega)]
  rfl
theorem at0 {α : Type} {x : α} {xs : List α} : atI (x :: xs) 0 = some x := by
  unfold atI
  rw [ix0 (by simp)]
  rfl
theorem ixNat {n i : Nat} (h : i < n) : ixN n (i : Int) = some i := by
  unfold ixN
  rw [if_pos (by omega), if_pos (by omega)]
  rfl
/-! while, by a measure -/
def WB (W : Nat → St → Hp → Prop) (m : Nat) (tb : TS) (rt : VK) (nx : St → Hp → Prop) (σ : St) : Bool → Hp → Prop := fun b H1 =>
  if b = true then ∃ N : St → Hp → Prop, (∀ σ' H', N σ' H' → ∃ m', m' < m ∧ W m' σ' H') ∧ tb (Ends.mk N rt nx N) σ H1 else nx σ H1
theorem l_whileN {t : TT} {tb : TS} {σ : St} {H : Hp} {nx bk ct : St → Hp → Prop} {rt : VK} (W : Nat → St → Hp → Prop) (m0 : Nat) (h0 : W m0 σ H) (hs : ∀ m σ' H', W m σ' H' → t σ' H' (WB W m tb rt nx σ')) : tWhile t tb (Ends.mk nx rt bk ct) σ H := ⟨W, ⟨m0, h0⟩, hs⟩
theorem wb {W : Nat → St → Hp → Prop} {m : Nat} {tb : TS} {rt : VK} {nx : St → Hp → Prop} {σ : St} {b : Bool} {H1 : Hp} (h1 : b = true → tb (Ends.mk (fun σ2 H2 => ∃ m', m' < m ∧ W m' σ2 H2) rt nx (fun σ2 H2 => ∃ m', m' < m ∧ W m' σ2 H2)) σ H1) (h2 : b = false → nx σ H1) : WB W m tb rt nx σ b H1 := by
  cases b
  · exact i_f rfl (h2 rfl)
  · exact i_t rfl ⟨_, fun _ _ h => h, h1 rfl⟩
/-- [e for i in range(n) if t], t never true -/
theorem lcR_none {σ : St} {H : Hp} {Q : VK} {te : TE} {tt : TT} {j n : Nat} {vs : List Nat} (hw : ∀ x, wipe ((wipe σ vs).set j (some x)) vs = wipe σ vs) (hl : n ≤ 100000)
    (h : ∀ (i : Nat) H' (Q' : Bool → Hp → Prop), i < n → Same H H' → (∀ H'', Same H' H'' → Q' false H'') → tt ((wipe σ vs).set j (some (.int (0 + (i : Int))))) H' Q')
    (q : ∀ D H2, H D = none → Same H H2 → H2 D = some (.lst []) → Q (.ref D) H2) : IR1 [.int (n : Int)] H (LcB (gName j) tt te vs σ Q) := by
  refine ⟨(n : Int), rfl, ?_, ?_, ?_⟩
  · have : (0 : Int) ≤ 2 ^ 62 := by decide
    omega
  · have : (100000 : Int) < 2 ^ 62 := by decide
    omega
  · intro D hD
    rw [Int.toNat_natCast]
    refine lc_range (lo := 0) (n := n) (fun i H' => Same H H' ∧ H' D = some (.lst [])) ⟨sm_new hD _, upd_same⟩ (fun i H' hi p => ⟨hw _, ?_⟩) fun H' p => q D H' hD p.1 p.2
    refine h i H' _ hi p.1 fun H'' g => ?_
    exact i_f rfl ⟨p.1.trans g, g _ _ p.2⟩
theorem flat_one {α : Type} : ∀ (n : Nat) (x : α), (List.replicate n [x]).flatten = List.replicate n x
  | 0, _ => rfl
  | n + 1, x => by rw [List.replicate_succ, List.flatten_cons, flat_one n x]; rfl
theorem l_rep {p : Addr} {n : Nat} {x : V} {H : Hp} {Q : VK} (h : H p = some (.lst [x])) (hn : n ≤ 100000) (q : ∀ (l : Addr) (H' : Hp), H l = none → Same H H' → H' l = some (.lst (List.replicate n x)) → Q (.ref l) H') : rRep (.ref p) (.int (n : Int)) H Q := by
  have e : (List.replicate ((n : Int)).toNat [x]).flatten = List.replicate n x := by
    rw [Int.toNat_natCast]
    exact flat_one n x
  refine ⟨p, (n : Int), [x], rfl, rfl, h, ?_, ?_, ?_, fun l hl => ?_⟩
  · have : (-(2 ^ 63) : Int) < 0 := by decide
    omega
  · have : (100000 : Int) < 2 ^ 63 := by decide
    omega
  · rw [Int.toNat_natCast]
    exact Nat.le_trans (show 1 * n ≤ 100000 by omega) (by decide)
  · rw [e]
    exact q l _ hl (sm_new hl _) upd_same
end J

namespace J
open PySem L2
/-! conditions -/
inductive Cond where
  | look (i : Nat)
  | not (c : Cond)
  | bin (a : Bool) (l r : Cond)
  deriving DecidableEq
def wd : Bool → Str
  | true => "and"
  | false => "or"
def Cond.deep : Cond → Nat
  | .look _ => 0
  | .not c => c.deep + 1
  | .bin _ l r => max l.deep r.deep + 1
def Cond.looks : Cond → Nat
  | .look _ => 1
  | .not c => c.looks
  | .bin _ l r => l.looks + r.looks
def Cond.ok : Cond → Prop
  | .look i => i < 8
  | .not c => c.ok
  | .bin _ l r => l.ok ∧ r.ok
def vn (k : Nat) : V := .int (k : Int)
def bi (b : Bool) : Int := if b then 1 else 0
def vb (b : Bool) : V := .int (bi b)
/-- a condition at a value -/
inductive CA (H : Hp) : V → Cond → Prop
  | look {p : Addr} {i : Nat} : H p = some (.tup [.str "look", vn i]) → CA H (.ref p) (.look i)
  | not {p : Addr} {v : V} {c : Cond} : H p = some (.tup [.str "not", v]) → CA H v c → CA H (.ref p) (.not c)
  | bin {p : Addr} {a : Bool} {v u : V} {c d : Cond} : H p = some (.tup [.str (wd a), v, u]) → CA H v c → CA H u d → CA H (.ref p) (.bin a c d)
theorem CA.tups {H H' : Hp} (g : Tups H H') {v : V} {c : Cond} (h : CA H v c) : CA H' v c := by
  induction h with
  | look e => exact .look (g _ _ e)
  | not e _ ih => exact .not (g _ _ e) ih
  | bin e _ _ i1 i2 => exact .bin (g _ _ e) i1 i2
theorem CA.mono {H H' : Hp} (g : Same H H') {v : V} {c : Cond} (h : CA H v c) : CA H' v c := h.tups (Same.tups g)
/-- what a condition comes to, and the looks -/
def ev (ws : List Bool) : Cond → Bool × List Nat
  | .look i => (ws.getD i false, [i])
  | .not c => (!(ev ws c).1, (ev ws c).2)
  | .bin a l r => if (ev ws l).1 = a then ((ev ws r).1, (ev ws l).2 ++ (ev ws r).2) else ev ws l
theorem ev_len (ws : List Bool) (c : Cond) : (ev ws c).2.length ≤ c.looks := by
  induction c with
  | look i => exact Nat.le_refl _
  | not c ih => exact ih
  | bin a l r i1 i2 =>
    unfold ev Cond.looks
    split
    · simp only [List.length_append]; omega
    · omega
theorem looks_deep (c : Cond) : c.looks ≤ 2 ^ c.deep := by
  induction c with
  | look i => exact Nat.le_refl _
  | not c ih => exact Nat.le_trans ih (Nat.pow_le_pow_right (by decide) (Nat.le_succ _))
  | bin a l r i1 i2 =>
    unfold Cond.looks Cond.deep
    have h1 := Nat.pow_le_pow_right (n := 2) (by decide) (Nat.le_max_left l.deep r.deep)
    have h2 := Nat.pow_le_pow_right (n := 2) (by decide) (Nat.le_max_right l.deep r.deep)
    rw [Nat.pow_succ]; omega
theorem bi_not (b : Bool) : 1 - bi b = bi (!b) := by cases b <;> rfl
theorem at_map {α : Type} {f : α → V} {ws : List α} {i : Nat} {d : α} (h : i < ws.length) : atI (ws.map f) (i : Int) = some (f (ws.getD i d)) := by
  refine atI_nat ?_
  rw [List.getElem?_map, List.getD_eq_getElem?_getD, List.getElem?_eq_getElem h]
  rfl
/-- worths at a value -/
def WA (H : Hp) (v : V) (ws : List Bool) : Prop := ∃ a, v = .ref a ∧ H a = some (.tup (ws.map vb)) ∧ ws.length = 8
theorem WA.tups {H H' : Hp} (g : Tups H H') {v : V} {ws : List Bool} (h : WA H v ws) : WA H' v ws := by
  obtain ⟨a, e, q, l⟩ := h
  exact ⟨a, e, g _ _ q, l⟩
theorem WA.mono {H H' : Hp} (g : Same H H') {v : V} {ws : List Bool} (h : WA H v ws) : WA H' v ws := h.tups (Same.tups g)
/-- (a worth, things looked at): a tuple, with a list that is new -/
def Told (H H' : Hp) (v : V) (x : Bool × List Nat) : Prop := ∃ p l, v = .ref p ∧ H l = none ∧ H' p = some (.tup [vb x.1, .ref l]) ∧ H' l = some (.lst (x.2.map vn))
theorem told_mk {H H' : Hp} {p l : Addr} {x : Bool × List Nat} (hp : H' p = some (.tup [vb x.1, .ref l])) (hl : H' l = some (.lst (x.2.map vn))) (h0 : H l = none) : Told H H' (.ref p) x := ⟨p, l, rfl, h0, hp, hl⟩
def wts (n : Nat) : List Bool := [128, 64, 32, 16, 8, 4, 2, 1].map fun d => n / d % 2 == 1
end J

namespace J
open PySem L2
/-! data -/
theorem dp_ints {K : PySem.W.Frag} {H : Hp} : ∀ ns : List Int, DpAll K H (ns.map V.int) (ns.map PyData.int)
  | [] => .nil
  | n :: r => .cons (.int n) (dp_ints r)
theorem dp_vn {K : PySem.W.Frag} {H : Hp} : ∀ ns : List Nat, DpAll K H (ns.map vn) (ns.map fun (k : Nat) => PyData.int (k : Int))
  | [] => .nil
  | n :: r => .cons (.int n) (dp_vn r)
theorem lay_ints : ∀ ns : List Int, PyData.canLayAll0 (ns.map PyData.int) = true
  | [] => rfl
  | n :: r => by
    show (true && PyData.canLayAll0 (r.map PyData.int)) = true
    rw [lay_ints r]; rfl
theorem dep_ints : ∀ ns : List Int, PyData.depthAll (ns.map PyData.int) = 0
  | [] => rfl
  | n :: r => by
    show max _ (PyData.depthAll (r.map PyData.int)) = 0
    rw [dep_ints r]; rfl
theorem shaped_ints (ns : List Int) : SeqAt.shaped (.list (ns.map PyData.int)) = true := by
  show (PyData.canLayAll0 (ns.map PyData.int) && decide (PyData.depthAll (ns.map PyData.int) + 1 ≤ 64)) = true
  rw [lay_ints, dep_ints]; rfl
theorem lay_vn : ∀ ns : List Nat, PyData.canLayAll0 (ns.map fun (k : Nat) => PyData.int (k : Int)) = true
  | [] => rfl
  | n :: r => by
    show (true && PyData.canLayAll0 (r.map fun (k : Nat) => PyData.int (k : Int))) = true
    rw [lay_vn r]; rfl
theorem dep_vn : ∀ ns : List Nat, PyData.depthAll (ns.map fun (k : Nat) => PyData.int (k : Int)) = 0
  | [] => rfl
  | n :: r => by
    show max _ (PyData.depthAll (r.map fun (k : Nat) => PyData.int (k : Int))) = 0
    rw [dep_vn r]; rfl
theorem Dp.mono {K : PySem.W.Frag} {H H' : Hp} (g : Same H H') : ∀ {v : V} {d : PyData}, Dp K H v d → Dp K H' v d := by
  intro v d h
  refine Dp.rec (motive_1 := fun v d _ => Dp K H' v d) (motive_2 := fun vs ds _ => DpAll K H' vs ds) ?_ ?_ ?_ ?_ ?_ ?_ ?_ ?_ h
  · exact .non
  · intro b; exact .bl b
  · intro i; exact .int i
  · intro x; exact .str x
  · intro a xs ds hl _ ih; exact .lst (sm_l g hl) ih
  · intro a xs ds hl _ ih; exact .tup (sm_t g hl) ih
  · exact .nil
  · intro v vs d ds _ _ i1 i2; exact .cons i1 i2
/-! one object may change -/
def But (p : Addr) (H H' : Hp) : Prop := ∀ a o, a ≠ p → H a = some o → H' a = some o
theorem but_upd {H : Hp} {p : Addr} {o : HO} : But p H (upd H p o) := fun a u n h => by rw [upd_ne n]; exact h
theorem l_setL' {K : PySem.W.Frag} {H : Hp} {p : Addr} {xs : List V} {k : Int} {i : Nat} {y : V} {Q' : Hp → Prop} (h : H p = some (.lst xs)) (hk : ixN xs.length k = some i) (q : ∀ H', But p H H' → H' p = some (.lst (xs.set i y)) → Q' H') : rSetL (.ref p) (.int k) y H Q' := l_setL h hk (q _ but_upd upd_same)
theorem l_append' {H : Hp} {p : Addr} {xs : List V} {y : V} {Q : VK} (h : H p = some (.lst xs)) (hn : xs.length < 100000) (q : ∀ H', But p H H' → H' p = some (.lst (xs ++ [y])) → Q .non H') : rAppend (.ref p) [y] H Q := l_append h hn (q _ but_upd upd_same)
theorem l_pop0' {H : Hp} {p : Addr} {xs : List V} {x : V} {Q : VK} (h : H p = some (.lst (x :: xs))) (q : ∀ H', But p H H' → H' p = some (.lst xs) → Q x H') : rPopAt (.ref p) [.int 0] H Q := l_pop0 h (q _ but_upd upd_same)
/-! the box: [numbers, stirred] -/
structure Bx (H : Hp) (b l : Addr) (ns : List Int) (s : Int) : Prop where
  ne : b ≠ l
  hb : H b = some (.lst [.ref l, .int s])
  hl : H l = some (.lst (ns.map V.int))
  s0 : 0 ≤ s
  s1 : s < 2147483647
  n63 : ns.length ≤ 63
/-- all but the box stands -/
def Fr (b l : Addr) (H H' : Hp) : Prop := ∀ a o, a ≠ b → a ≠ l → H a = some o → H' a = some o
theorem Fr.of {b l : Addr} {H H' : Hp} (g : Same H H') : Fr b l H H' := fun a o _ _ h => g a o h
theorem Fr.b {b l : Addr} {H H' : Hp} (g : But b H H') : Fr b l H H' := fun a o n _ h => g a o n h
theorem Fr.l {b l : Addr} {H H' : Hp} (g : But l H H') : Fr b l H H' := fun a o _ n h => g a o n h
theorem Fr.refl {b l : Addr} (H : Hp) : Fr b l H H := fun _ _ _ _ h => h
theorem Fr.trans {b l : Addr} {H H1 H2 : Hp} (x : Fr b l H H1) (y : Fr b l H1 H2) : Fr b l H H2 := fun a o n m h => y a o n m (x a o n m h)
theorem Fr.at {b l a : Addr} {H H' : Hp} {o : HO} (g : Fr b l H H') (n : a ≠ b) (m : a ≠ l) (h : H a = some o) : H' a = some o := g a o n m h
theorem Bx.tups {H H' : Hp} {b l : Addr} {ns : List Int} {s : Int} (x : Bx H b l ns s) (g : Fr b l H H') : Tups H H' := fun a xs h => g a _ (ne_of h x.hb (by intro e; cases e)) (ne_of h x.hl (by intro e; cases e)) h
theorem Bx.same {H H' : Hp} {b l : Addr} {ns : List Int} {s : Int} (x : Bx H b l ns s) (g : Same H H') : Bx H' b l ns s := ⟨x.ne, g _ _ x.hb, g _ _ x.hl, x.s0, x.s1, x.n63⟩
/-! data of some height -/
def okd : Nat → PyData → Prop
  | 0, _ => False
  | n + 1, .list ds => ds.length ≤ 1000 ∧ ∀ x ∈ ds, okd n x
  | n + 1, .tuple ds => ds.length ≤ 1000 ∧ ∀ x ∈ ds, okd n x
  | _ + 1, .dict _ => False
  | _ + 1, _ => True
theorem DpAll.len {K : PySem.W.Frag} {H : Hp} : ∀ {xs : List V} {ds : List PyData}, DpAll K H xs ds → xs.length = ds.length
  | _, _, .nil => rfl
  | _, _, .cons _ t => by rw [List.length_cons, List.length_cons, DpAll.len t]
theorem DpAll.get {K : PySem.W.Frag} {H : Hp} : ∀ {xs : List V} {ds : List PyData} {i : Nat}, DpAll K H xs ds → i < ds.length → ∃ x d, xs[i]? = some x ∧ ds[i]? = some d ∧ Dp K H x d
  | _, _, _, .nil, h => absurd h (Nat.not_lt_zero _)
  | _, _, 0, .cons a _, _ => ⟨_, _, rfl, rfl, a⟩
  | _, _, i + 1, .cons _ t, h => by
    obtain ⟨x, d, h1, h2, h3⟩ := DpAll.get (i := i) t (Nat.lt_of_succ_lt_succ h)
    exact ⟨x, d, h1, h2, h3⟩
theorem ty_sqL {K : PySem.W.Frag} {H : Hp} {a : Addr} {xs : List V} (h : SqL K H a xs) : TyX K H (.ref a) (.type "list") := by
  rcases h with (h | ⟨o, h⟩) | ⟨o, its, n, h, c, _⟩
  · exact .base (.lst h)
  · exact .base (.frz h)
  · exact .kList h c
theorem ty_sqT {K : PySem.W.Frag} {H : Hp} {a : Addr} {xs : List V} (h : SqT K H a xs) : TyX K H (.ref a) (.type "tuple") := by
  rcases h with (h | ⟨o, h⟩) | ⟨o, its, n, h, c, _⟩
  · exact .base (.tup h)
  · exact .fTuple h
  · exact .kTuple h c
theorem l_ixSL {K : PySem.W.Frag} {H : Hp} {Q : VK} {p : Addr} {xs : List V} {k : Int} {v : V} (ht : SqL K H p xs) (ha : atI xs k = some v) (h : Q v H) : rIx K (.ref p) (.int k) H Q := .inl ⟨p, xs, k, v, rfl, rfl, ht, ha, h⟩
theorem l_ixST {K : PySem.W.Frag} {H : Hp} {Q : VK} {p : Addr} {xs : List V} {k : Int} {v : V} (ht : SqT K H p xs) (ha : atI xs k = some v) (h : Q v H) : rIx K (.ref p) (.int k) H Q := .inr (.inl ⟨p, xs, k, v, rfl, rfl, ht, ha, h⟩)
theorem But.tups {p : Addr} {H H' : Hp} {xs : List V} (g : But p H H') (h : H p = some (.lst xs)) : Tups H H' := fun a ys e => g a _ (fun z => by subst z; rw [h] at e; cases e) e
theorem Bx.but {p b l : Addr} {H H' : Hp} {ns : List Int} {s : Int} (x : Bx H b l ns s) (g : But p H H') (n1 : b ≠ p) (n2 : l ≠ p) : Bx H' b l ns s := ⟨x.ne, g _ _ n1 x.hb, g _ _ n2 x.hl, x.s0, x.s1, x.n63⟩
/-- what is told, as data -/
def dTold (x : Bool × List Nat) : PyData := .tuple [.int (bi x.1), .list (x.2.map fun (k : Nat) => PyData.int (k : Int))]
theorem dp_told {K : PySem.W.Frag} {H H' : Hp} {v : V} {x : Bool × List Nat} (h : Told H H' v x) : Dp K H' v (dTold x) := by
  obtain ⟨p, l, rfl, h0, hp, hl⟩ := h
  exact .tup (SqT.of hp) (.cons (.int _) (.cons (.lst (SqL.of hl) (dp_vn _)) .nil))
theorem lay_told (x : Bool × List Nat) : (dTold x).canLay0 = true := by
  show (true && ((PyData.canLayAll0 (x.2.map fun (k : Nat) => PyData.int (k : Int))) && true)) = true
  rw [lay_vn]; rfl
theorem shaped_told (x : Bool × List Nat) : SeqAt.shaped (dTold x) = true := by
  show ((dTold x).canLay0 && decide ((max 0 (max (PyData.depthAll (x.2.map fun (k : Nat) => PyData.int (k : Int)) + 1) 0)) + 1 ≤ 64)) = true
  rw [lay_told, dep_vn]; rfl
theorem ok_told {x : Bool × List Nat} (h : x.2.length ≤ 1000) : okd 3 (dTold x) := by
  refine ⟨by show 2 ≤ 1000; decide, fun y hy => ?_⟩
  rcases List.mem_cons.mp hy with rfl | hy
  · trivial
  · obtain rfl := List.mem_singleton.mp hy
    refine ⟨by rw [List.length_map]; exact h, fun z hz => ?_⟩
    obtain ⟨k, _, rfl⟩ := List.mem_map.mp hz
    trivial
theorem l_reverse' {H : Hp} {p : Addr} {xs : List V} {Q : VK} (h : H p = some (.lst xs)) (q : ∀ H', But p H H' → H' p = some (.lst xs.reverse) → Q .non H') : rReverse (.ref p) [] H Q := ⟨p, xs, rfl, rfl, h, q _ but_upd upd_same⟩
theorem But.of {p : Addr} {H H' : Hp} (g : Same H H') : But p H H' := fun a o _ h => g a o h
theorem But.refl {p : Addr} (H : Hp) : But p H H := fun _ _ _ h => h
theorem But.trans {p : Addr} {H H1 H2 : Hp} (x : But p H H1) (y : But p H1 H2) : But p H H2 := fun a o n h => y a o n (x a o n h)
theorem Fr.mut {b l D : Addr} {H H' : Hp} {o : HO} (f : Fr b l H H') (h : H D = none) : Fr b l H (upd H' D o) := fun a u n m e => by
  rw [upd_ne (ne_of_none e h)]
  exact f a u n m e
theorem Fr.fresh {b l D : Addr} {H H' : Hp} (f : Fr b l H H') (hb : D ≠ b) (hl : D ≠ l) (h : H' D = none) : H D = none := by
  cases e : H D with
  | none => rfl
  | some o => rw [f D o hb hl e] at h; cases h
/-- [e for i in range(n)], e draws from the box; every item is such as P says -/
theorem lcR_draw {σ : St} {H : Hp} {Q : VK} {te : TE} {j n : Nat} {vs : List Nat} {b l : Addr} {ns : List Int} {s : Int} (P : V → Prop) (hx : Bx H b l ns s) (hw : ∀ x, wipe ((wipe σ vs).set j (some x)) vs = wipe σ vs) (hl : n ≤ 100000)
    (h : ∀ (i : Nat) H' ns' s' (Q' : VK), i < n → Fr b l H H' → Bx H' b l ns' s' → (∀ y H'' ns'' s'', P y → Fr b l H' H'' → Bx H'' b l ns'' s'' → Q' y H'') → te ((wipe σ vs).set j (some (.int (0 + (i : Int))))) H' Q')
    (q : ∀ D ys H2 ns2 s2, H D = none → Fr b l H H2 → Bx H2 b l ns2 s2 → ys.length = n → (∀ y ∈ ys, P y) → H2 D = some (.lst ys) → Q (.ref D) H2) : IR1 [.int (n : Int)] H (LcB (gName j) tYes te vs σ Q) := by
  refine ⟨(n : Int), rfl, ?_, ?_, ?_⟩
  · have : (0 : Int) ≤ 2 ^ 62 := by decide
    omega
  · have : (100000 : Int) < 2 ^ 62 := by decide
    omega
  · intro D hD
    rw [Int.toNat_natCast]
    have nb : D ≠ b := (ne_of_none hx.hb hD).symm
    have nl : D ≠ l := (ne_of_none hx.hl hD).symm
    refine lc_range (lo := 0) (n := n) (fun i H' => ∃ ys ns' s', Fr b l H H' ∧ Bx H' b l ns' s' ∧ H' D = some (.lst ys) ∧ ys.length = i ∧ ∀ y ∈ ys, P y) ⟨[], ns, s, Fr.of (sm_new hD _), hx.same (sm_new hD _), upd_same, rfl, fun _ h => by cases h⟩ (fun i H' hi p => ⟨hw _, ?_⟩) fun H' p => ?_
    · obtain ⟨ys, ns', s', f, x, e, hn, hp⟩ := p
      refine h i H' ns' s' _ hi f x fun y H'' ns'' s'' py f2 x2 => ?_
      refine ⟨ys, f2.at nb nl e, Nat.lt_of_lt_of_le (show ys.length < 100001 by omega) (by decide), ys ++ [y], ns'', s'', (f.trans f2).mut hD, ⟨x2.ne, ?_, ?_, x2.s0, x2.s1, x2.n63⟩, upd_same, by rw [List.length_append, hn]; rfl, fun z hz => ?_⟩
      · rw [upd_ne nb.symm]; exact x2.hb
      · rw [upd_ne nl.symm]; exact x2.hl
      · rcases List.mem_append.mp hz with hz | hz
        · exact hp z hz
        · rw [List.mem_singleton.mp hz]; exact py
    · obtain ⟨ys, ns', s', f, x, e, hn, hp⟩ := p
      exact q D ys H' ns' s' hD f x hn hp e
/-- [e for x in a tuple], every item's value related, by what stands in tuples -/
theorem lcT_rel {K : PySem.W.Frag} {σ : St} {H : Hp} {Q : VK} {te : TE} {j : Nat} {vs : List Nat} {a : Addr} {xs : List V} (R : Nat → V → Hp → Prop) (mono : ∀ i y H H', Tups H H' → R i y H → R i y H') (hw : ∀ x, wipe ((wipe σ vs).set j (some x)) vs = wipe σ vs) (ht : SqT K H a xs) (hl : xs.length ≤ 100000)
    (h : ∀ (i : Nat) (x : V) H' (Q' : VK), xs[i]? = some x → Same H H' → (∀ y H'', Same H' H'' → R i y H'' → Q' y H'') → te ((wipe σ vs).set j (some x)) H' Q')
    (q : ∀ D ys H2, H D = none → Same H H2 → H2 D = some (.lst ys) → ys.length = xs.length → (∀ i y, ys[i]? = some y → R i y H2) → Q (.ref D) H2) : IT K (.ref a) H (LcB (gName j) tYes te vs σ Q) :=
  ⟨a, rfl, ⟨xs, ht⟩, fun D hD => by
    refine lc_tup (K := K) (a := a) (xs := xs) (fun i H' => ∃ ys, Same H H' ∧ H' D = some (.lst ys) ∧ ys.length = i ∧ i ≤ xs.length ∧ ∀ k y, ys[k]? = some y → R k y H') ⟨[], sm_new hD _, upd_same, rfl, Nat.zero_le _, fun k y e => by cases e⟩ (fun i H' _ ⟨_, g, _⟩ => sm_t g ht) (fun i x H' hx p => ⟨hw x, ?_⟩) fun H' ⟨ys, g, e, n, _, r⟩ => q D ys H' hD g e n r
    obtain ⟨ys, g, e, n, n2, r⟩ := p
    have hi := (List.getElem?_eq_some_iff.mp hx).1
    refine h i x H' _ hx g fun y H'' g2 ry => ?_
    have tp : Tups H'' (upd H'' D (.lst (ys ++ [y]))) := but_upd.tups (g2 _ _ e)
    refine ⟨ys, g2 _ _ e, Nat.lt_of_lt_of_le (show ys.length < 100001 by omega) (by decide), ys ++ [y], sm_mut (g.trans g2) hD, upd_same, by rw [List.length_append, n]; rfl, hi, fun k z hz => mono _ _ _ _ tp ?_⟩
    by_cases hk : k < ys.length
    · rw [List.getElem?_append_left hk] at hz
      exact mono _ _ _ _ (Same.tups g2) (r k z hz)
    · rw [List.getElem?_append_right (by omega)] at hz
      have hk2 : k - ys.length = 0 := by
        have := (List.getElem?_eq_some_iff.mp hz).1
        have : ([y] : List V).length = 1 := rfl
        omega
      rw [hk2] at hz
      obtain rfl := Option.some.inj hz
      have : k = i := by omega
      rw [this]
      exact ry⟩
/-! tuples joined, the written swap of and, or -/
theorem l_catT1 {K : PySem.W.Frag} {H : Hp} {Q : VK} {p r : Addr} {xs ys : List V} (hp : SqT K H p xs) (hr : SqT K H r ys) (hx : xs ≠ []) (hy : ys ≠ []) (hn : xs.length + ys.length ≤ 100000) (q : ∀ (l : Addr) (H' : Hp), H l = none → Same H H' → H' l = some (.tup (xs ++ ys)) → Q (.ref l) H') : rCatT K (.ref p) (.ref r) H Q :=
  ⟨p, r, xs, ys, rfl, rfl, hp, hr, hx, Nat.le_trans hn (by decide), fun e => absurd e hy, fun _ l hl => q l _ hl (sm_new hl _) upd_same⟩
theorem l_catT0 {K : PySem.W.Frag} {H : Hp} {Q : VK} {p r : Addr} {xs : List V} (hp : SqT K H p xs) (hr : SqT K H r []) (hx : xs ≠ []) (hn : xs.length ≤ 100000) (q : Q (.ref p) H) : rCatT K (.ref p) (.ref r) H Q :=
  ⟨p, r, xs, [], rfl, rfl, hp, hr, hx, Nat.le_trans hn (by decide), fun _ => q, fun e => absurd rfl e⟩
def swapD : List (Key × V) := [(Sum.inr "and", .str "or"), (Sum.inr "or", .str "and")]
theorem swap_merge : mergeK [] swapD = swapD := by decide +kernel
theorem swap_at (a : Bool) : valV swapD (Sum.inr (wd a)) = some (.str (wd (!a))) := by cases a <;> decide +kernel
theorem l_swapD {σ : St} {H : Hp} {Q : VK} (q : ∀ (p : Addr) (H' : Hp), H p = none → Same H H' → H' p = some (.dK swapD) → Q (.ref p) H') : tDisp [(tC (.str "and"), tC (.str "or")), (tC (.str "or"), tC (.str "and"))] σ H Q := fun p hp =>
  show upd H p (.dK []) p = some (.dK []) ∧ _ from ⟨upd_same, swapD, rfl, by decide, by rw [upd_upd, swap_merge]; exact q p _ hp (sm_new hp _) upd_same⟩
theorem l_dget {td ty : TE} {σ : St} {H : Hp} {Q : VK} (h : td σ H fun x H1 => ty σ H1 fun y H2 => ∃ a v, x = .ref a ∧ DGet H2 a y (some v) ∧ Q v H2) : tDGet td ty σ H Q := h
theorem l_dgetS {H : Hp} {G : V → Prop} {d : Addr} {a : Bool} (h : H d = some (.dK swapD)) (q : G (.str (wd (!a)))) : ∃ a' v, V.ref d = .ref a' ∧ DGet H a' (.str (wd a)) (some v) ∧ G v :=
  ⟨d, _, rfl, by have e := DGet.k (k := Sum.inr (wd a)) h; rw [swap_at] at e; exact e, q⟩
end J

namespace J
open PySem L2
/-! data of tuples -/
mutual
inductive TD (H : Hp) : V → PyData → Prop
  | non : TD H .non .none
  | bl (b : Bool) : TD H (.bl b) (.bool b)
  | int (i : Int) : TD H (.int i) (.int i)
  | str (x : Str) : TD H (.str x) (.str x)
  | tup {a : Addr} {xs : List V} {ds : List PyData} : H a = some (.tup xs) → TDA H xs ds → TD H (.ref a) (.tuple ds)
inductive TDA (H : Hp) : List V → List PyData → Prop
  | nil : TDA H [] []
  | cons {v : V} {vs : List V} {d : PyData} {ds : List PyData} : TD H v d → TDA H vs ds → TDA H (v :: vs) (d :: ds)
end
theorem TD.tups {H H' : Hp} (g : Tups H H') {v : V} {d : PyData} (h : TD H v d) : TD H' v d := by
  refine TD.rec (motive_1 := fun v d _ => TD H' v d) (motive_2 := fun vs ds _ => TDA H' vs ds) ?_ ?_ ?_ ?_ ?_ ?_ ?_ h
  · exact .non
  · intro b; exact .bl b
  · intro i; exact .int i
  · intro x; exact .str x
  · intro a xs ds e _ ih; exact .tup (g _ _ e) ih
  · exact .nil
  · intro v vs d ds _ _ i1 i2; exact .cons i1 i2
theorem TDA.tups {H H' : Hp} (g : Tups H H') : ∀ {vs : List V} {ds : List PyData}, TDA H vs ds → TDA H' vs ds
  | _, _, .nil => .nil
  | _, _, .cons a t => .cons (a.tups g) (TDA.tups g t)
theorem TD.mono {H H' : Hp} (g : Same H H') {v : V} {d : PyData} (h : TD H v d) : TD H' v d := h.tups (Same.tups g)
theorem TDA.mono {H H' : Hp} (g : Same H H') {vs : List V} {ds : List PyData} (h : TDA H vs ds) : TDA H' vs ds := h.tups (Same.tups g)
theorem TD.dp {K : PySem.W.Frag} {H : Hp} {v : V} {d : PyData} (h : TD H v d) : Dp K H v d := by
  refine TD.rec (motive_1 := fun v d _ => Dp K H v d) (motive_2 := fun vs ds _ => DpAll K H vs ds) ?_ ?_ ?_ ?_ ?_ ?_ ?_ h
  · exact .non
  · intro b; exact .bl b
  · intro i; exact .int i
  · intro x; exact .str x
  · intro a xs ds e _ ih; exact .tup (SqT.of e) ih
  · exact .nil
  · intro v vs d ds _ _ i1 i2; exact .cons i1 i2
theorem TDA.dp {K : PySem.W.Frag} {H : Hp} : ∀ {vs : List V} {ds : List PyData}, TDA H vs ds → DpAll K H vs ds
  | _, _, .nil => .nil
  | _, _, .cons a t => .cons a.dp (TDA.dp t)
theorem TDA.len {H : Hp} : ∀ {vs : List V} {ds : List PyData}, TDA H vs ds → vs.length = ds.length
  | _, _, .nil => rfl
  | _, _, .cons _ t => by rw [List.length_cons, List.length_cons, TDA.len t]
theorem TDA.append {H : Hp} : ∀ {vs us : List V} {ds es : List PyData}, TDA H vs ds → TDA H us es → TDA H (vs ++ us) (ds ++ es)
  | _, _, _, _, .nil, h => h
  | _, _, _, _, .cons a t, h => .cons a (TDA.append t h)
theorem TDA.get {H : Hp} : ∀ {vs : List V} {ds : List PyData} {i : Nat} {d : PyData}, TDA H vs ds → ds[i]? = some d → ∃ v, vs[i]? = some v ∧ TD H v d
  | _, _, 0, _, .cons a _, h => ⟨_, rfl, by cases h; exact a⟩
  | _, _, i + 1, _, .cons _ t, h => TDA.get (i := i) t h
theorem TDA.getV {H : Hp} : ∀ {vs : List V} {ds : List PyData} {i : Nat} {v : V}, TDA H vs ds → vs[i]? = some v → ∃ d, ds[i]? = some d ∧ TD H v d
  | _, _, 0, _, .cons a _, h => ⟨_, rfl, by cases h; exact a⟩
  | _, _, i + 1, _, .cons _ t, h => TDA.getV (i := i) t h
theorem TDA.take {H : Hp} : ∀ {vs : List V} {ds : List PyData} (n : Nat), TDA H vs ds → TDA H (vs.take n) (ds.take n)
  | _, _, 0, _ => .nil
  | _, _, _ + 1, .nil => .nil
  | _, _, n + 1, .cons a t => .cons a (TDA.take n t)
theorem TDA.drop {H : Hp} : ∀ {vs : List V} {ds : List PyData} (n : Nat), TDA H vs ds → TDA H (vs.drop n) (ds.drop n)
  | _, _, 0, h => h
  | _, _, _ + 1, .nil => .nil
  | _, _, n + 1, .cons _ t => TDA.drop n t
/-- what stands in a tuple -/
theorem TD.at {H : Hp} {v : V} {ds : List PyData} (h : TD H v (.tuple ds)) : ∃ a xs, v = .ref a ∧ H a = some (.tup xs) ∧ TDA H xs ds := by
  cases h with
  | tup e h => exact ⟨_, _, rfl, e, h⟩
theorem atI_get {α : Type} {xs : List α} {i : Nat} {v : α} (h : xs[i]? = some v) : atI xs (i : Int) = some v := atI_nat h
/-! conditions as data -/
def cdata : Cond → PyData
  | .look i => .tuple [.str "look", .int (i : Int)]
  | .not c => .tuple [.str "not", cdata c]
  | .bin a l r => .tuple [.str (wd a), cdata l, cdata r]
theorem CA.td {H : Hp} {v : V} {c : Cond} (h : CA H v c) : TD H v (cdata c) := by
  induction h with
  | look e => exact .tup e (.cons (.str _) (.cons (.int _) .nil))
  | not e _ ih => exact .tup e (.cons (.str _) (.cons ih .nil))
  | bin e _ _ i1 i2 => exact .tup e (.cons (.str _) (.cons i1 (.cons i2 .nil)))
theorem wd_inj {a b : Bool} (h : wd a = wd b) : a = b := by
  cases a <;> cases b <;> first | rfl | (exact absurd h (by decide +kernel))
theorem TD.ca {H : Hp} : ∀ {c : Cond} {v : V}, TD H v (cdata c) → CA H v c
  | .look i, v, h => by
    obtain ⟨a, xs, rfl, e, t⟩ := h.at
    cases t with
    | cons h1 t => cases t with
      | cons h2 t => cases t; cases h1; cases h2; exact .look e
  | .not c, v, h => by
    obtain ⟨a, xs, rfl, e, t⟩ := h.at
    cases t with
    | cons h1 t => cases t with
      | cons h2 t => cases t; cases h1; exact .not e (TD.ca h2)
  | .bin b l r, v, h => by
    obtain ⟨a, xs, rfl, e, t⟩ := h.at
    cases t with
    | cons h1 t => cases t with
      | cons h2 t => cases t with
        | cons h3 t => cases t; cases h1; exact .bin e (TD.ca h2) (TD.ca h3)
/-! pairs, exchanges -/
def Cond.pairs : Cond → Nat
  | .look _ => 0
  | .not c => c.pairs
  | .bin _ l r => 1 + l.pairs + r.pairs
theorem pairs_looks (c : Cond) : c.pairs + 1 = c.looks := by
  induction c with
  | look i => rfl
  | not c ih => exact ih
  | bin a l r i1 i2 => unfold Cond.pairs Cond.looks; omega
def exch : Cond → List Bool → Cond
  | .look i, _ => .look i
  | .not c, ts => .not (exch c ts)
  | .bin a l r, ts => if ts.getD 0 false then .bin a (exch r (ts.drop (1 + l.pairs))) (exch l ((ts.drop 1).take l.pairs)) else .bin a (exch l ((ts.drop 1).take l.pairs)) (exch r (ts.drop (1 + l.pairs)))
theorem exch_ok : ∀ (c : Cond) (ts : List Bool), c.ok → (exch c ts).ok
  | .look _, _, h => h
  | .not c, ts, h => exch_ok c ts h
  | .bin a l r, ts, h => by
    unfold exch
    split
    · exact ⟨exch_ok r _ h.2, exch_ok l _ h.1⟩
    · exact ⟨exch_ok l _ h.1, exch_ok r _ h.2⟩
theorem exch_deep : ∀ (c : Cond) (ts : List Bool), (exch c ts).deep = c.deep
  | .look _, _ => rfl
  | .not c, ts => congrArg (· + 1) (exch_deep c ts)
  | .bin a l r, ts => by
    unfold exch
    split
    · show max (exch r _).deep (exch l _).deep + 1 = max l.deep r.deep + 1
      rw [exch_deep r, exch_deep l, Nat.max_comm]
    · show max (exch l _).deep (exch r _).deep + 1 = max l.deep r.deep + 1
      rw [exch_deep r, exch_deep l]
theorem exch_looks : ∀ (c : Cond) (ts : List Bool), (exch c ts).looks = c.looks
  | .look _, _ => rfl
  | .not c, ts => exch_looks c ts
  | .bin a l r, ts => by
    unfold exch
    split
    · show (exch r _).looks + (exch l _).looks = l.looks + r.looks
      rw [exch_looks r, exch_looks l, Nat.add_comm]
    · show (exch l _).looks + (exch r _).looks = l.looks + r.looks
      rw [exch_looks r, exch_looks l]
/-! slices -/
theorem cut_lo {xs : List V} {i : Nat} (h : i ≤ xs.length) : cutV xs (some (i : Int)) none = xs.drop i := by
  unfold cutV
  rw [HT.sIx_nat, Nat.min_eq_left h, HT.sIx_none]
  exact List.take_of_length_le (by rw [List.length_drop]; exact Nat.le_refl _)
theorem cut_lohi {xs : List V} {i j : Nat} (h : i ≤ xs.length) (h2 : j ≤ xs.length) : cutV xs (some (i : Int)) (some (j : Int)) = (xs.drop i).take (j - i) := by
  unfold cutV
  rw [HT.sIx_nat, HT.sIx_nat, Nat.min_eq_left h, Nat.min_eq_left h2]
theorem cut_hi {xs : List V} {j : Nat} (h2 : j ≤ xs.length) : cutV xs none (some (j : Int)) = xs.take j := by
  unfold cutV
  rw [HT.sIx_nat, HT.sIx_none, Nat.min_eq_left h2]
  rfl
theorem exch_zero : ∀ (c : Cond) (ts : List Bool), (∀ b ∈ ts, b = false) → exch c ts = c
  | .look _, _, _ => rfl
  | .not c, ts, h => congrArg Cond.not (exch_zero c ts h)
  | .bin a l r, ts, h => by
    have h0 : ts.getD 0 false = false := by
      cases ts with
      | nil => rfl
      | cons b t => exact h b List.mem_cons_self
    unfold exch
    rw [h0, if_neg Bool.false_ne_true, exch_zero l _ (fun b hb => h b (List.mem_of_mem_drop (List.mem_of_mem_take hb))), exch_zero r _ (fun b hb => h b (List.mem_of_mem_drop hb))]
theorem exch_pairs (c : Cond) (ts : List Bool) : (exch c ts).pairs = c.pairs := by
  have h1 := pairs_looks c
  have h2 := pairs_looks (exch c ts)
  rw [exch_looks] at h2
  omega
end J

namespace J
open PySem L2
/-! codes -/
inductive Row where
  | look (t : Nat) (w : Bool) (to : Nat)
  | fin (b : Bool)
  deriving DecidableEq
def rowD : Row → PyData
  | .look t w to => .tuple [.str "look", .int (t : Int), .int (bi w), .int (to : Int)]
  | .fin b => .tuple [.str "end", .int (bi b)]
/-- where one may go on -/
def Row.okAt (n : Nat) (i : Nat) : Row → Prop
  | .look t _ to => t < 8 ∧ i + 2 < n ∧ i < to ∧ to < n
  | .fin _ => n ≤ i + 2
def okRows (rows : List Row) : Prop := 2 ≤ rows.length ∧ rows.length ≤ 1000 ∧ ∀ (i : Nat) (r : Row), rows[i]? = some r → Row.okAt rows.length i r
def runM (rows : List Row) (ws : List Bool) : Nat → Nat → Bool × List Nat × Nat
  | 0, _ => (false, [], 0)
  | f + 1, i => match rows[i]? with
    | some (.look t w to) => (fun (r : Bool × List Nat × Nat) => (r.1, t :: r.2.1, (if ws.getD t false == w then 1 else 0) + r.2.2)) (runM rows ws f (if ws.getD t false == w then to else i + 1))
    | some (.fin b) => (b, [], 0)
    | none => (false, [], 0)
theorem runM_more {rows : List Row} {ws : List Bool} (h : okRows rows) : ∀ (f i : Nat), i < rows.length → rows.length ≤ f + i → runM rows ws f i = runM rows ws (rows.length - i) i := by
  suffices hs : ∀ (m f i : Nat), rows.length - i ≤ m → i < rows.length → rows.length ≤ f + i → runM rows ws f i = runM rows ws (rows.length - i) i from fun f i h1 h2 => hs _ f i (Nat.le_refl _) h1 h2
  intro m
  induction m with
  | zero => intro f i h1 h2; omega
  | succ m ih =>
    intro f i h1 h2 h3
    obtain ⟨f', rfl⟩ : ∃ f', f = f' + 1 := ⟨f - 1, by omega⟩
    obtain ⟨g', hg⟩ : ∃ g', rows.length - i = g' + 1 := ⟨rows.length - i - 1, by omega⟩
    rw [hg]
    have hr : rows[i]? = some (rows[i]'h2) := List.getElem?_eq_getElem h2
    have hk := h.2.2 i _ hr
    unfold runM
    rw [hr]
    cases e : rows[i]'h2 with
    | fin b => rfl
    | look t w to =>
      rw [e] at hk
      obtain ⟨_, h5, h6, h7⟩ := hk
      show (fun (r : Bool × List Nat × Nat) => (r.1, t :: r.2.1, (if ws.getD t false == w then 1 else 0) + r.2.2)) (runM rows ws f' (if ws.getD t false == w then to else i + 1)) = (fun (r : Bool × List Nat × Nat) => (r.1, t :: r.2.1, (if ws.getD t false == w then 1 else 0) + r.2.2)) (runM rows ws g' (if ws.getD t false == w then to else i + 1))
      congr 1
      by_cases c : (ws.getD t false == w) = true
      · rw [if_pos c, ih f' to (by omega) h7 (by omega), ih g' to (by omega) h7 (by omega)]
      · rw [if_neg c, ih f' (i + 1) (by omega) (by omega) (by omega), ih g' (i + 1) (by omega) (by omega) (by omega)]
/-- what run tells -/
def runC (rows : List Row) (ws : List Bool) : Bool × List Nat × Nat := runM rows ws rows.length 0
/-- one row further -/
theorem runM_look {rows : List Row} {ws : List Bool} (h : okRows rows) {i t to : Nat} {w : Bool} (hr : rows[i]? = some (.look t w to)) :
    runM rows ws (rows.length - i) i = ((runM rows ws (rows.length - (if ws.getD t false == w then to else i + 1)) (if ws.getD t false == w then to else i + 1)).1, t :: (runM rows ws (rows.length - (if ws.getD t false == w then to else i + 1)) (if ws.getD t false == w then to else i + 1)).2.1, (if ws.getD t false == w then 1 else 0) + (runM rows ws (rows.length - (if ws.getD t false == w then to else i + 1)) (if ws.getD t false == w then to else i + 1)).2.2) := by
  have hi := (List.getElem?_eq_some_iff.mp hr).1
  obtain ⟨_, h5, h6, h7⟩ := h.2.2 i _ hr
  obtain ⟨g', hg⟩ : ∃ g', rows.length - i = g' + 1 := ⟨rows.length - i - 1, by omega⟩
  rw [hg]
  conv => lhs; unfold runM
  rw [hr]
  show ((runM rows ws g' (if ws.getD t false == w then to else i + 1)).1, t :: (runM rows ws g' (if ws.getD t false == w then to else i + 1)).2.1, (if ws.getD t false == w then 1 else 0) + (runM rows ws g' (if ws.getD t false == w then to else i + 1)).2.2) = _
  have e : runM rows ws g' (if ws.getD t false == w then to else i + 1) = runM rows ws (rows.length - (if ws.getD t false == w then to else i + 1)) (if ws.getD t false == w then to else i + 1) := by
    split
    · exact runM_more h g' to h7 (by omega)
    · exact runM_more h g' (i + 1) (by omega) (by omega)
  rw [e]
theorem runM_fin {rows : List Row} {ws : List Bool} {i : Nat} {b : Bool} (hr : rows[i]? = some (.fin b)) : runM rows ws (rows.length - i) i = (b, [], 0) := by
  have hi := (List.getElem?_eq_some_iff.mp hr).1
  obtain ⟨g', hg⟩ : ∃ g', rows.length - i = g' + 1 := ⟨rows.length - i - 1, by omega⟩
  rw [hg]
  unfold runM
  rw [hr]
theorem sm_but {H H' H'' : Hp} {p : Addr} (e : Same H H') (g : But p H' H'') (h : H p = none) : Same H H'' := fun a o ha => g a o (ne_of_none ha h) (e a o ha)
/-- (worth, looks, jumps): a tuple, its list new -/
def RTold (H H' : Hp) (v : V) (x : Bool × List Nat × Nat) : Prop := ∃ p l, v = .ref p ∧ H l = none ∧ H' p = some (.tup [vb x.1, .ref l, vn x.2.2]) ∧ H' l = some (.lst (x.2.1.map vn))
theorem rtold_mk {H H' : Hp} {p l : Addr} {x : Bool × List Nat × Nat} (hp : H' p = some (.tup [vb x.1, .ref l, vn x.2.2])) (hl : H' l = some (.lst (x.2.1.map vn))) (h0 : H l = none) : RTold H H' (.ref p) x := ⟨p, l, rfl, h0, hp, hl⟩
theorem RTold.back {H H1 H2 : Hp} {v : V} {x : Bool × List Nat × Nat} (g : Same H H1) (h : RTold H1 H2 v x) : RTold H H2 v x := by
  obtain ⟨p, l, rfl, h0, hp, hq⟩ := h
  exact ⟨p, l, rfl, g.free h0, hp, hq⟩
/-- rows at a list -/
def RA (K : PySem.W.Frag) (H : Hp) (p : Addr) (rows : List Row) : Prop := ∃ rs, SqL K H p rs ∧ TDA H rs (rows.map rowD)
theorem RA.mono {K : PySem.W.Frag} {H H' : Hp} {p : Addr} {rows : List Row} (g : Same H H') (h : RA K H p rows) : RA K H' p rows := by
  obtain ⟨rs, h1, h2⟩ := h
  exact ⟨rs, sm_l g h1, h2.mono g⟩
theorem RA.get {K : PySem.W.Frag} {H : Hp} {p : Addr} {rows : List Row} {i : Nat} {r : Row} (h : RA K H p rows) (hr : rows[i]? = some r) : ∃ rs v, SqL K H p rs ∧ atI rs (i : Int) = some v ∧ TD H v (rowD r) := by
  obtain ⟨rs, h1, h2⟩ := h
  obtain ⟨v, hv, ht⟩ := h2.get (i := i) (d := rowD r) (by rw [List.getElem?_map, hr]; rfl)
  exact ⟨rs, v, h1, atI_nat hv, ht⟩
theorem row_look {H : Hp} {v : V} {t to : Nat} {w : Bool} (h : TD H v (rowD (.look t w to))) : ∃ a, v = .ref a ∧ H a = some (.tup [.str "look", vn t, vb w, vn to]) := by
  obtain ⟨a, xs, rfl, e, t⟩ := h.at
  cases t with
  | cons h1 t => cases t with
    | cons h2 t => cases t with
      | cons h3 t => cases t with
        | cons h4 t => cases t; cases h1; cases h2; cases h3; cases h4; exact ⟨a, rfl, e⟩
theorem row_fin {H : Hp} {v : V} {b : Bool} (h : TD H v (rowD (.fin b))) : ∃ a, v = .ref a ∧ H a = some (.tup [.str "end", vb b]) := by
  obtain ⟨a, xs, rfl, e, t⟩ := h.at
  cases t with
  | cons h1 t => cases t with
    | cons h2 t => cases t; cases h1; cases h2; exact ⟨a, rfl, e⟩
theorem row_look_mk {H : Hp} {a : Addr} {t to : Nat} {w : Bool} (h : H a = some (.tup [.str "look", vn t, vb w, vn to])) : TD H (.ref a) (rowD (.look t w to)) := .tup h (.cons (.str _) (.cons (.int _) (.cons (.int _) (.cons (.int _) .nil))))
theorem row_fin_mk {H : Hp} {a : Addr} {b : Bool} (h : H a = some (.tup [.str "end", vb b])) : TD H (.ref a) (rowD (.fin b)) := .tup h (.cons (.str _) (.cons (.int _) .nil))
end J
namespace J
open PySem L2
/-! what is due behind each look -/
def dueM : Cond → Nat → Nat → Nat → List (Nat × Nat × Nat)
  | .look i, _, y, n => [(i, y, n)]
  | .not c, b, y, n => dueM c b n y
  | .bin a l r, b, y, n => (if a then dueM l b (b + l.looks) n else dueM l b y (b + l.looks)) ++ dueM r (b + l.looks) y n
theorem dueM_len : ∀ (c : Cond) (b y n : Nat), (dueM c b y n).length = c.looks
  | .look _, _, _, _ => rfl
  | .not c, b, y, n => dueM_len c b n y
  | .bin a l r, b, y, n => by
    unfold dueM Cond.looks
    rw [List.length_append, dueM_len r]
    cases a
    · rw [if_neg Bool.false_ne_true, dueM_len l]
    · rw [if_pos rfl, dueM_len l]
def tri (x : Nat × Nat × Nat) : PyData := .tuple [.int (x.1 : Int), .int (x.2.1 : Int), .int (x.2.2 : Int)]
def rowsM : Nat → List (Nat × Nat × Nat) → List Row
  | _, [] => []
  | k, x :: r => (if x.2.1 = k + 1 then .look x.1 false x.2.2 else .look x.1 true x.2.1) :: rowsM (k + 1) r
theorem rowsM_len : ∀ (k : Nat) (l : List (Nat × Nat × Nat)), (rowsM k l).length = l.length
  | _, [] => rfl
  | k, x :: r => congrArg (· + 1) (rowsM_len (k + 1) r)
theorem rowsM_app : ∀ (k : Nat) (l m : List (Nat × Nat × Nat)), rowsM k (l ++ m) = rowsM k l ++ rowsM (k + l.length) m
  | _, [], _ => rfl
  | k, x :: r, m => by
    show _ :: rowsM (k + 1) (r ++ m) = _ :: (rowsM (k + 1) r ++ rowsM (k + (r.length + 1)) m)
    rw [rowsM_app (k + 1) r m, Nat.add_assoc, Nat.add_comm 1]
def codeM (c : Cond) (f : Bool) : List Row := rowsM 0 (dueM c 0 (if f then c.looks else c.looks + 1) (if f then c.looks + 1 else c.looks)) ++ [.fin f, .fin (!f)]
theorem codeM_len (c : Cond) (f : Bool) : (codeM c f).length = c.looks + 2 := by
  unfold codeM
  rw [List.length_append, rowsM_len, dueM_len]
  rfl
/-- rows at a list that is new -/
def RN (H H' : Hp) (v : V) (rows : List Row) : Prop := ∃ l vs, v = .ref l ∧ H l = none ∧ H' l = some (.lst vs) ∧ TDA H' vs (rows.map rowD)
theorem RN.back {H H1 H2 : Hp} {v : V} {rows : List Row} (g : Same H H1) (h : RN H1 H2 v rows) : RN H H2 v rows := by
  obtain ⟨l, vs, e, h0, h1, h2⟩ := h
  exact ⟨l, vs, e, g.free h0, h1, h2⟩
theorem RN.ra {K : PySem.W.Frag} {H H' : Hp} {v : V} {rows : List Row} (h : RN H H' v rows) : ∃ l, v = .ref l ∧ H l = none ∧ RA K H' l rows := by
  obtain ⟨l, vs, e, h0, h1, h2⟩ := h
  exact ⟨l, e, h0, vs, SqL.of h1, h2⟩
end J
namespace J
open PySem L2
/-! small facts of values -/
theorem vb1 (b : Bool) : decide (vb b = V.int 1) = b := by cases b <;> decide
theorem vbb (a b : Bool) : decide (vb a = vb b) = (a == b) := by cases a <;> cases b <;> decide
theorem vnn {a b : Nat} : decide (vn a = V.int ((b : Int) + 1)) = decide (a = b + 1) := by
  by_cases h : a = b + 1
  · rw [decide_eq_true h, decide_eq_true]
    rw [h]
    exact congrArg V.int (by omega)
  · rw [decide_eq_false h, decide_eq_false]
    intro e
    have := V.int.inj e
    omega
end J
namespace J
open PySem L2
theorem dp_rows {K : PySem.W.Frag} {H : Hp} {l : Addr} {vs : List V} {rows : List Row} (e : H l = some (.lst vs)) (t : TDA H vs (rows.map rowD)) : Dp K H (.ref l) (.list (rows.map rowD)) := .lst (SqL.of e) t.dp
theorem ok_row (r : Row) : okd 2 (rowD r) := by
  cases r with
  | look t w to =>
    refine ⟨by show 4 ≤ 1000; decide, fun x hx => ?_⟩
    rcases List.mem_cons.mp hx with rfl | hx
    · trivial
    · rcases List.mem_cons.mp hx with rfl | hx
      · trivial
      · rcases List.mem_cons.mp hx with rfl | hx
        · trivial
        · obtain rfl := List.mem_singleton.mp hx
          trivial
  | fin b =>
    refine ⟨by show 2 ≤ 1000; decide, fun x hx => ?_⟩
    rcases List.mem_cons.mp hx with rfl | hx
    · trivial
    · obtain rfl := List.mem_singleton.mp hx
      trivial
theorem ok_rows {rows : List Row} (h : rows.length ≤ 1000) : okd 3 (.list (rows.map rowD)) := by
  refine ⟨by rw [List.length_map]; exact h, fun x hx => ?_⟩
  obtain ⟨r, _, rfl⟩ := List.mem_map.mp hx
  exact ok_row r
theorem str_look : PyData.strOk ("look" : Str) = true := by decide +kernel
theorem str_end : PyData.strOk ("end" : Str) = true := by decide +kernel
theorem lay_row (r : Row) : (rowD r).canLay0 = true := by
  cases r with
  | look t w to =>
    show (PyData.strOk ("look" : Str) && (true && (true && (true && true)))) = true
    rw [str_look]; rfl
  | fin b =>
    show (PyData.strOk ("end" : Str) && (true && true)) = true
    rw [str_end]; rfl
theorem lay_rows : ∀ rows : List Row, PyData.canLayAll0 (rows.map rowD) = true
  | [] => rfl
  | r :: rs => by
    show ((rowD r).canLay0 && PyData.canLayAll0 (rs.map rowD)) = true
    rw [lay_row, lay_rows rs]; rfl
theorem dep_row (r : Row) : (rowD r).depth = 1 := by
  cases r with
  | look t w to => rfl
  | fin b => rfl
theorem dep_rows : ∀ rows : List Row, PyData.depthAll (rows.map rowD) ≤ 1
  | [] => Nat.zero_le _
  | r :: rs => by
    show max (rowD r).depth (PyData.depthAll (rs.map rowD)) ≤ 1
    rw [dep_row]
    have := dep_rows rs
    omega
theorem shaped_rows (rows : List Row) : SeqAt.shaped (.list (rows.map rowD)) = true := by
  show (PyData.canLayAll0 (rows.map rowD) && decide (PyData.depthAll (rows.map rowD) + 1 ≤ 64)) = true
  have := dep_rows rows
  rw [lay_rows, decide_eq_true (by omega)]; rfl
end J
namespace J
open PySem L2
/-- rows at a tracked list -/
def RT (H : Hp) (l : Addr) (rows : List Row) : Prop := ∃ vs, H l = some (.lst vs) ∧ TDA H vs (rows.map rowD)
theorem RT.ra {K : PySem.W.Frag} {H : Hp} {l : Addr} {rows : List Row} (h : RT H l rows) : RA K H l rows := by
  obtain ⟨vs, h1, h2⟩ := h
  exact ⟨vs, SqL.of h1, h2⟩
theorem RT.mono {H H' : Hp} {l : Addr} {rows : List Row} (g : Same H H') (h : RT H l rows) : RT H' l rows := by
  obtain ⟨vs, h1, h2⟩ := h
  exact ⟨vs, g _ _ h1, h2.mono g⟩
theorem RT.but {H H' : Hp} {l p : Addr} {rows : List Row} (g : But p H H') (tp : Tups H H') (n : l ≠ p) (h : RT H l rows) : RT H' l rows := by
  obtain ⟨vs, h1, h2⟩ := h
  exact ⟨vs, g _ _ n h1, h2.tups tp⟩
theorem RN.rt {H H' : Hp} {v : V} {rows : List Row} (h : RN H H' v rows) : ∃ l, v = .ref l ∧ H l = none ∧ RT H' l rows := by
  obtain ⟨l, vs, e, h0, h1, h2⟩ := h
  exact ⟨l, e, h0, vs, h1, h2⟩
end J

namespace J
open PySem L2
/-! a condition's code comes to what the condition comes to -/
theorem ev_bin (ws : List Bool) (a : Bool) (l r : Cond) : ev ws (.bin a l r) = if (ev ws l).1 = a then ((ev ws r).1, (ev ws l).2 ++ (ev ws r).2) else ev ws l := rfl
theorem looks_pos (c : Cond) : 0 < c.looks := by
  have := pairs_looks c
  omega
def EntOk (M k : Nat) (x : Nat × Nat × Nat) : Prop := x.1 < 8 ∧ (x.2.1 = k + 1 ∨ x.2.2 = k + 1) ∧ x.2.1 ≠ x.2.2 ∧ k < x.2.1 ∧ k < x.2.2 ∧ x.2.1 ≤ M ∧ x.2.2 ≤ M
theorem due_ent : ∀ (c : Cond) (b y n M : Nat), c.ok → (y = b + c.looks ∨ n = b + c.looks) → y ≠ n → b + c.looks ≤ y → b + c.looks ≤ n → y ≤ M → n ≤ M → ∀ (j : Nat) (x : Nat × Nat × Nat), (dueM c b y n)[j]? = some x → EntOk M (b + j) x
  | .look i, b, y, n, M, ho, h1, h2, h3, h4, h5, h6, j, x, hx => by
    unfold dueM at hx
    unfold Cond.looks at h1 h3 h4
    cases j with
    | zero =>
      obtain rfl := Option.some.inj hx
      exact ⟨ho, h1, h2, by show b + 0 < y; omega, by show b + 0 < n; omega, h5, h6⟩
    | succ j => cases hx
  | .not c, b, y, n, M, ho, h1, h2, h3, h4, h5, h6, j, x, hx => due_ent c b n y M ho h1.symm h2.symm h4 h3 h6 h5 j x hx
  | .bin a l r, b, y, n, M, ho, h1, h2, h3, h4, h5, h6, j, x, hx => by
    have hr := looks_pos r
    have hl := looks_pos l
    unfold Cond.looks at h1 h3 h4
    unfold dueM at hx
    have hlen : (if a = true then dueM l b (b + l.looks) n else dueM l b y (b + l.looks)).length = l.looks := by cases a <;> exact dueM_len _ _ _ _
    by_cases hj : j < l.looks
    · rw [List.getElem?_append_left (by omega)] at hx
      cases a
      · exact due_ent l b y (b + l.looks) M ho.1 (.inr rfl) (by omega) (by omega) (by omega) h5 (by omega) j x hx
      · exact due_ent l b (b + l.looks) n M ho.1 (.inl rfl) (by omega) (by omega) (by omega) (by omega) h6 j x hx
    · rw [List.getElem?_append_right (by omega), hlen] at hx
      have := due_ent r (b + l.looks) y n M ho.2 (by omega) h2 (by omega) (by omega) h5 h6 (j - l.looks) x hx
      rw [show b + l.looks + (j - l.looks) = b + j by omega] at this
      exact this
def entRow (k : Nat) (x : Nat × Nat × Nat) : Row := if x.2.1 = k + 1 then .look x.1 false x.2.2 else .look x.1 true x.2.1
theorem rowsM_get : ∀ (k : Nat) (l : List (Nat × Nat × Nat)) (j : Nat), (rowsM k l)[j]? = (l[j]?).map (entRow (k + j))
  | _, [], _ => rfl
  | k, x :: r, 0 => rfl
  | k, x :: r, j + 1 => by
    show (rowsM (k + 1) r)[j]? = (r[j]?).map (entRow (k + (j + 1)))
    rw [rowsM_get (k + 1) r j, show k + 1 + j = k + (j + 1) by omega]
theorem ent_row {M k : Nat} {x : Nat × Nat × Nat} (h : EntOk M k x) : ∃ w to, entRow k x = .look x.1 w to ∧ x.1 < 8 ∧ k + 1 < to ∧ to ≤ M ∧ ∀ b : Bool, (if b == w then to else k + 1) = if b then x.2.1 else x.2.2 := by
  obtain ⟨h8, h1, h2, h3, h4, h5, h6⟩ := h
  unfold entRow
  by_cases e : x.2.1 = k + 1
  · rw [if_pos e]
    refine ⟨false, x.2.2, rfl, h8, by omega, h6, fun b => ?_⟩
    cases b
    · rfl
    · show k + 1 = x.2.1
      omega
  · rw [if_neg e]
    refine ⟨true, x.2.1, rfl, h8, by omega, h5, fun b => ?_⟩
    cases b
    · show k + 1 = x.2.2
      omega
    · rfl
/-- the code's rows -/
theorem codeM_at (c : Cond) (f : Bool) (ho : c.ok) (i : Nat) (r : Row) (h : (codeM c f)[i]? = some r) :
    (i < c.looks ∧ ∃ t w to, r = .look t w to ∧ t < 8 ∧ i + 1 < to ∧ to < c.looks + 2) ∨ (i = c.looks ∧ r = .fin f) ∨ (i = c.looks + 1 ∧ r = .fin (!f)) := by
  unfold codeM at h
  have hl : (rowsM 0 (dueM c 0 (if f then c.looks else c.looks + 1) (if f then c.looks + 1 else c.looks))).length = c.looks := by rw [rowsM_len, dueM_len]
  by_cases hi : i < c.looks
  · rw [List.getElem?_append_left (by omega), rowsM_get] at h
    left
    refine ⟨hi, ?_⟩
    cases hd : (dueM c 0 (if f then c.looks else c.looks + 1) (if f then c.looks + 1 else c.looks))[i]? with
    | none => rw [hd] at h; cases h
    | some x =>
      rw [hd] at h
      obtain rfl := Option.some.inj h
      have he : EntOk (c.looks + 1) (0 + i) x := due_ent c 0 _ _ (c.looks + 1) ho (by cases f <;> simp) (by cases f <;> simp) (by cases f <;> simp) (by cases f <;> simp) (by cases f <;> simp) (by cases f <;> simp) i x hd
      obtain ⟨w, to, e, h8, h1, h2, _⟩ := ent_row he
      exact ⟨x.1, w, to, e, h8, by omega, by omega⟩
  · right
    rw [List.getElem?_append_right (by omega), hl] at h
    obtain ⟨k, hk⟩ : ∃ k, i - c.looks = k := ⟨_, rfl⟩
    rw [hk] at h
    match k, h with
    | 0, h => exact .inl ⟨by omega, (Option.some.inj h).symm⟩
    | 1, h => exact .inr ⟨by omega, (Option.some.inj h).symm⟩
    | k + 2, h => cases h
theorem codeM_ok (c : Cond) (f : Bool) (ho : c.ok) (hk : c.looks ≤ 900) : okRows (codeM c f) := by
  have hl := codeM_len c f
  refine ⟨by omega, by omega, fun i r h => ?_⟩
  rw [hl]
  rcases codeM_at c f ho i r h with ⟨h1, t, w, to, rfl, h2, h3, h4⟩ | ⟨h1, rfl⟩ | ⟨h1, rfl⟩
  · exact ⟨h2, by omega, by omega, h4⟩
  · show c.looks + 2 ≤ i + 2
    omega
  · show c.looks + 2 ≤ i + 2
    omega
theorem run_part {rows : List Row} {ws : List Bool} (hok : okRows rows) : ∀ (c : Cond) (b y n : Nat), c.ok → (y = b + c.looks ∨ n = b + c.looks) → y ≠ n → b + c.looks ≤ y → b + c.looks ≤ n →
    (∀ j, j < c.looks → rows[b + j]? = (rowsM b (dueM c b y n))[j]?) →
    ∃ j : Nat, j ≤ (ev ws c).2.length ∧ runM rows ws (rows.length - b) b = ((runM rows ws (rows.length - (if (ev ws c).1 then y else n)) (if (ev ws c).1 then y else n)).1, (ev ws c).2 ++ (runM rows ws (rows.length - (if (ev ws c).1 then y else n)) (if (ev ws c).1 then y else n)).2.1, j + (runM rows ws (rows.length - (if (ev ws c).1 then y else n)) (if (ev ws c).1 then y else n)).2.2)
  | .look i, b, y, n, ho, h1, h2, h3, h4, hr => by
    have h0 := hr 0 (by unfold Cond.looks; decide)
    rw [rowsM_get] at h0
    have he : EntOk (max y n) (b + 0) (i, y, n) := due_ent (.look i) b y n (max y n) ho h1 h2 h3 h4 (Nat.le_max_left _ _) (Nat.le_max_right _ _) 0 _ rfl
    obtain ⟨w, to, e, _, _, _, hg⟩ := ent_row he
    have h0' : rows[b]? = some (.look i w to) := by rw [← e]; exact h0
    have hl := runM_look (ws := ws) hok h0'
    have hg' : (if ws.getD i false == w then to else b + 1) = if ws.getD i false then y else n := hg (ws.getD i false)
    rw [hg'] at hl
    refine ⟨if ws.getD i false == w then 1 else 0, ?_, hl⟩
    show (if ws.getD i false == w then 1 else 0) ≤ 1
    split <;> decide
  | .not c, b, y, n, ho, h1, h2, h3, h4, hr => by
    obtain ⟨j, hj, e⟩ := run_part (ws := ws) hok c b n y ho h1.symm h2.symm h4 h3 hr
    refine ⟨j, hj, ?_⟩
    have e2 : (if (ev ws c).1 then n else y) = if (ev ws c.not).1 then y else n := by
      show _ = if (!(ev ws c).1) = true then y else n
      cases (ev ws c).1 <;> rfl
    rw [e2] at e
    exact e
  | .bin a l r, b, y, n, ho, h1, h2, h3, h4, hr => by
    have hrp := looks_pos r
    have hlp := looks_pos l
    unfold Cond.looks at h1 h3 h4
    have hsplit : ∀ (A : List (Nat × Nat × Nat)), A.length = l.looks → dueM (.bin a l r) b y n = A ++ dueM r (b + l.looks) y n →
        (∀ j, j < l.looks → rows[b + j]? = (rowsM b A)[j]?) ∧ ∀ j, j < r.looks → rows[b + l.looks + j]? = (rowsM (b + l.looks) (dueM r (b + l.looks) y n))[j]? := by
      intro A hA hd
      rw [hd, rowsM_app] at hr
      constructor
      · intro j hj
        have := hr j (by show j < l.looks + r.looks; omega)
        rw [List.getElem?_append_left (by rw [rowsM_len]; omega)] at this
        exact this
      · intro j hj
        have := hr (l.looks + j) (by show l.looks + j < l.looks + r.looks; omega)
        rw [List.getElem?_append_right (by rw [rowsM_len]; omega), rowsM_len, hA, Nat.add_sub_cancel_left, ← Nat.add_assoc] at this
        exact this
    cases a
    · obtain ⟨hL, hR⟩ := hsplit (dueM l b y (b + l.looks)) (dueM_len _ _ _ _) rfl
      obtain ⟨j1, hj1, e1⟩ := run_part (ws := ws) hok l b y (b + l.looks) ho.1 (.inr rfl) (by omega) (by omega) (by omega) hL
      obtain ⟨j2, hj2, e2⟩ := run_part (ws := ws) hok r (b + l.looks) y n ho.2 (by omega) h2 (by omega) (by omega) hR
      cases hx : (ev ws l).1
      · have ee : ev ws (.bin false l r) = ((ev ws r).1, (ev ws l).2 ++ (ev ws r).2) := by rw [ev_bin, if_pos hx]
        rw [hx, if_neg Bool.false_ne_true, e2] at e1
        rw [ee]
        refine ⟨j1 + j2, by show j1 + j2 ≤ ((ev ws l).2 ++ (ev ws r).2).length; rw [List.length_append]; omega, ?_⟩
        rw [e1, List.append_assoc, Nat.add_assoc]
      · have ee : ev ws (.bin false l r) = ev ws l := by rw [ev_bin, if_neg (by rw [hx]; decide)]
        rw [ee]
        refine ⟨j1, hj1, ?_⟩
        rw [hx] at e1 ⊢
        exact e1
    · obtain ⟨hL, hR⟩ := hsplit (dueM l b (b + l.looks) n) (dueM_len _ _ _ _) rfl
      obtain ⟨j1, hj1, e1⟩ := run_part (ws := ws) hok l b (b + l.looks) n ho.1 (.inl rfl) (by omega) (by omega) (by omega) hL
      obtain ⟨j2, hj2, e2⟩ := run_part (ws := ws) hok r (b + l.looks) y n ho.2 (by omega) h2 (by omega) (by omega) hR
      cases hx : (ev ws l).1
      · have ee : ev ws (.bin true l r) = ev ws l := by rw [ev_bin, if_neg (by rw [hx]; decide)]
        rw [ee]
        refine ⟨j1, hj1, ?_⟩
        rw [hx] at e1 ⊢
        exact e1
      · have ee : ev ws (.bin true l r) = ((ev ws r).1, (ev ws l).2 ++ (ev ws r).2) := by rw [ev_bin, if_pos hx]
        rw [hx, if_pos rfl, e2] at e1
        rw [ee]
        refine ⟨j1 + j2, by show j1 + j2 ≤ ((ev ws l).2 ++ (ev ws r).2).length; rw [List.length_append]; omega, ?_⟩
        rw [e1, List.append_assoc, Nat.add_assoc]
/-- POINT 8 -/
theorem run_code (c : Cond) (f : Bool) (ws : List Bool) (ho : c.ok) (hk : c.looks ≤ 900) : ∃ j : Nat, j ≤ (ev ws c).2.length ∧ runC (codeM c f) ws = ((ev ws c).1, (ev ws c).2, j) := by
  have hok := codeM_ok c f ho hk
  have hl := codeM_len c f
  obtain ⟨j, hj, e⟩ := run_part (ws := ws) hok c 0 (if f then c.looks else c.looks + 1) (if f then c.looks + 1 else c.looks) ho (by cases f <;> simp) (by cases f <;> simp) (by cases f <;> simp) (by cases f <;> simp) (by
    intro j hj
    unfold codeM
    rw [Nat.zero_add, List.getElem?_append_left (by rw [rowsM_len, dueM_len]; exact hj)])
  refine ⟨j, hj, ?_⟩
  have h0 : (codeM c f)[c.looks]? = some (.fin f) := by
    unfold codeM
    rw [List.getElem?_append_right (by rw [rowsM_len, dueM_len]; omega), rowsM_len, dueM_len, Nat.sub_self]
    rfl
  have h1 : (codeM c f)[c.looks + 1]? = some (.fin (!f)) := by
    unfold codeM
    rw [List.getElem?_append_right (by rw [rowsM_len, dueM_len]; omega), rowsM_len, dueM_len, Nat.add_sub_cancel_left]
    rfl
  have hfin : runM (codeM c f) ws ((codeM c f).length - (if (ev ws c).1 then (if f then c.looks else c.looks + 1) else (if f then c.looks + 1 else c.looks))) (if (ev ws c).1 then (if f then c.looks else c.looks + 1) else (if f then c.looks + 1 else c.looks)) = ((ev ws c).1, [], 0) := by
    cases hx : (ev ws c).1 <;> cases f
    · exact runM_fin h0
    · exact runM_fin h1
    · exact runM_fin h1
    · exact runM_fin h0
  rw [hfin, List.append_nil] at e
  unfold runC
  rw [← Nat.sub_zero (codeM c f).length, e]
  rfl
end J
namespace J
open PySem L2
/-- a code as the document has it -/
def GoodCode (rows : List Row) : Prop := ∃ (ls : List Row) (f : Bool), rows = ls ++ [.fin f, .fin (!f)] ∧ ls.length ≤ 38 ∧ ∀ (i : Nat) (r : Row), ls[i]? = some r → ∃ t w to, r = .look t w to ∧ t < 8 ∧ i < to ∧ to < ls.length + 2
theorem codeM_good (c : Cond) (f : Bool) (ho : c.ok) (hk : c.looks ≤ 38) : GoodCode (codeM c f) := by
  refine ⟨_, f, rfl, by rw [rowsM_len, dueM_len]; exact hk, fun i r h => ?_⟩
  rw [rowsM_len, dueM_len]
  have hi : i < c.looks := by
    have := (List.getElem?_eq_some_iff.mp h).1
    rw [rowsM_len, dueM_len] at this
    exact this
  have h2 : (codeM c f)[i]? = some r := by
    unfold codeM
    rw [List.getElem?_append_left (by rw [rowsM_len, dueM_len]; exact hi)]
    exact h
  rcases codeM_at c f ho i r h2 with ⟨_, t, w, to, e, h3, h4, h5⟩ | ⟨h1, _⟩ | ⟨h1, _⟩
  · exact ⟨t, w, to, e, h3, by omega, h5⟩
  · omega
  · omega
theorem GoodCode.ok {rows : List Row} (h : GoodCode rows) : okRows rows := by
  obtain ⟨ls, f, rfl, hl, hr⟩ := h
  have hlen : (ls ++ [Row.fin f, Row.fin (!f)]).length = ls.length + 2 := by rw [List.length_append]; rfl
  refine ⟨by omega, by omega, fun i r hi => ?_⟩
  rw [hlen]
  by_cases h1 : i < ls.length
  · rw [List.getElem?_append_left h1] at hi
    obtain ⟨t, w, to, rfl, h2, h3, h4⟩ := hr i r hi
    exact ⟨h2, by omega, h3, h4⟩
  · rw [List.getElem?_append_right (by omega)] at hi
    obtain ⟨k, hk⟩ : ∃ k, i - ls.length = k := ⟨_, rfl⟩
    rw [hk] at hi
    match k, hi with
    | 0, hi =>
      obtain rfl := Option.some.inj hi
      show ls.length + 2 ≤ i + 2
      omega
    | 1, hi =>
      obtain rfl := Option.some.inj hi
      show ls.length + 2 ≤ i + 2
      omega
    | k + 2, hi => cases hi
/-- what is told of a run, as data -/
def rTold (x : Bool × List Nat × Nat) : PyData := .tuple [.int (bi x.1), .list (x.2.1.map fun (k : Nat) => PyData.int (k : Int)), .int (x.2.2 : Int)]
theorem dp_rtold {K : PySem.W.Frag} {H H' : Hp} {v : V} {x : Bool × List Nat × Nat} (h : RTold H H' v x) : Dp K H' v (rTold x) := by
  obtain ⟨p, l, rfl, h0, hp, hl⟩ := h
  exact .tup (SqT.of hp) (.cons (.int _) (.cons (.lst (SqL.of hl) (dp_vn _)) (.cons (.int _) .nil)))
theorem lay_rtold (x : Bool × List Nat × Nat) : (rTold x).canLay0 = true := by
  show (true && ((PyData.canLayAll0 (x.2.1.map fun (k : Nat) => PyData.int (k : Int))) && (true && true))) = true
  rw [lay_vn]; rfl
theorem shaped_rtold (x : Bool × List Nat × Nat) : SeqAt.shaped (rTold x) = true := by
  show ((rTold x).canLay0 && decide ((max 0 (max (PyData.depthAll (x.2.1.map fun (k : Nat) => PyData.int (k : Int)) + 1) (max 0 0))) + 1 ≤ 64)) = true
  rw [lay_rtold, dep_vn]; rfl
end J

namespace J
open PySem L2
/-! counted over all worths -/
def sumN (n : Nat) (g : Nat → Nat) : Nat := match n with
  | 0 => 0
  | n + 1 => sumN n g + g n
def tmsN (ch : List Nat) (ws : List Bool) : Nat → Nat
  | 0 => 1
  | n + 1 => tmsN ch ws n * (if ws.getD n false then ch.getD n 0 else 100 - ch.getD n 0)
def looksM (ch : List Nat) (c : Cond) : Nat := sumN 256 fun n => tmsN ch (wts n) 8 * (ev (wts n) c).2.length
def jumpsM (ch : List Nat) (f : Bool) (c : Cond) : Nat := sumN 256 fun n => tmsN ch (wts n) 8 * (runC (codeM c f) (wts n)).2.2
theorem tmsN_le (ch : List Nat) (ws : List Bool) (h : ∀ x ∈ ch, x ≤ 100) : ∀ n, tmsN ch ws n ≤ 100 ^ n
  | 0 => Nat.le_refl _
  | n + 1 => by
    unfold tmsN
    rw [Nat.pow_succ]
    refine Nat.mul_le_mul (tmsN_le ch ws h n) ?_
    split
    · rw [List.getD_eq_getElem?_getD]
      cases e : ch[n]? with
      | none => exact Nat.zero_le _
      | some x => exact h x (List.mem_of_getElem? e)
    · omega
/-- chances at a value -/
def ChA (H : Hp) (v : V) (ch : List Nat) : Prop := ∃ a, v = .ref a ∧ H a = some (.tup (ch.map vn)) ∧ ch.length = 8 ∧ ∀ x ∈ ch, x ≤ 100
theorem ChA.tups {H H' : Hp} (g : Tups H H') {v : V} {ch : List Nat} (h : ChA H v ch) : ChA H' v ch := by
  obtain ⟨a, e, q, l⟩ := h
  exact ⟨a, e, g _ _ q, l⟩
theorem ChA.mono {H H' : Hp} (g : Same H H') {v : V} {ch : List Nat} (h : ChA H v ch) : ChA H' v ch := h.tups (Same.tups g)
theorem vals_vn : ∀ {ys : List V}, (∀ y ∈ ys, ∃ k : Nat, y = vn k ∧ k ≤ 100) → ∃ ch : List Nat, ys = ch.map vn ∧ ∀ x ∈ ch, x ≤ 100
  | [], _ => ⟨[], rfl, fun _ h => by cases h⟩
  | y :: r, h => by
    obtain ⟨k, rfl, hk⟩ := h y List.mem_cons_self
    obtain ⟨ch, rfl, hc⟩ := vals_vn (ys := r) fun z hz => h z (List.mem_cons_of_mem _ hz)
    exact ⟨k :: ch, rfl, fun x hx => by
      rcases List.mem_cons.mp hx with rfl | hx
      · exact hk
      · exact hc x hx⟩
theorem vals_vb : ∀ {ys : List V}, (∀ y ∈ ys, ∃ b : Bool, y = vb b) → ∃ ts : List Bool, ys = ts.map vb
  | [], _ => ⟨[], rfl⟩
  | y :: r, h => by
    obtain ⟨b, rfl⟩ := h y List.mem_cons_self
    obtain ⟨ts, rfl⟩ := vals_vb (ys := r) fun z hz => h z (List.mem_cons_of_mem _ hz)
    exact ⟨b :: ts, rfl⟩
theorem lay_cond : ∀ c : Cond, (cdata c).canLay0 = true
  | .look i => by
    show (PyData.strOk ("look" : Str) && (true && true)) = true
    rw [str_look]; rfl
  | .not c => by
    show (PyData.strOk ("not" : Str) && ((cdata c).canLay0 && true)) = true
    rw [lay_cond c, show PyData.strOk ("not" : Str) = true by decide +kernel]; rfl
  | .bin a l r => by
    show (PyData.strOk (wd a) && ((cdata l).canLay0 && ((cdata r).canLay0 && true))) = true
    rw [lay_cond l, lay_cond r, show PyData.strOk (wd a) = true by cases a <;> decide +kernel]; rfl
theorem ok_cond : ∀ (c : Cond) (n : Nat), c.deep + 2 ≤ n → okd n (cdata c)
  | .look i, n + 2, _ => by
    refine ⟨by show 2 ≤ 1000; decide, fun x hx => ?_⟩
    rcases List.mem_cons.mp hx with rfl | hx
    · trivial
    · obtain rfl := List.mem_singleton.mp hx
      trivial
  | .not c, n + 1, h => by
    have h' : c.deep + 1 + 2 ≤ n + 1 := h
    refine ⟨by show 2 ≤ 1000; decide, fun x hx => ?_⟩
    rcases List.mem_cons.mp hx with rfl | hx
    · obtain ⟨m, rfl⟩ : ∃ m, n = m + 1 := ⟨n - 1, by omega⟩
      trivial
    · obtain rfl := List.mem_singleton.mp hx
      exact ok_cond c n (by omega)
  | .bin a l r, n + 1, h => by
    have h' : max l.deep r.deep + 1 + 2 ≤ n + 1 := h
    refine ⟨by show 3 ≤ 1000; decide, fun x hx => ?_⟩
    rcases List.mem_cons.mp hx with rfl | hx
    · obtain ⟨m, rfl⟩ : ∃ m, n = m + 1 := ⟨n - 1, by omega⟩
      trivial
    · rcases List.mem_cons.mp hx with rfl | hx
      · exact ok_cond l n (by omega)
      · obtain rfl := List.mem_singleton.mp hx
        exact ok_cond r n (by omega)
theorem dep_cond : ∀ c : Cond, (cdata c).depth ≤ c.deep + 1
  | .look i => Nat.le_refl _
  | .not c => by
    show max 0 (max (cdata c).depth 0) + 1 ≤ c.deep + 1 + 1
    have := dep_cond c
    omega
  | .bin a l r => by
    show max 0 (max (cdata l).depth (max (cdata r).depth 0)) + 1 ≤ max l.deep r.deep + 1 + 1
    have := dep_cond l
    have := dep_cond r
    omega
theorem shaped_cond {c : Cond} (h : c.deep ≤ 40) : SeqAt.shaped (cdata c) = true := by
  show ((cdata c).canLay0 && decide ((cdata c).depth ≤ 64)) = true
  have := dep_cond c
  rw [lay_cond, decide_eq_true (by omega)]; rfl
end J

namespace J
open PySem L2
/-! what parts two conditions -/
def unlike (c d : Cond) (n : Nat) : Bool := !decide (ev (wts n) c = ev (wts n) d)
def partM (c d : Cond) : Nat → Option Nat
  | 0 => none
  | n + 1 => match partM c d n with
    | some m => some m
    | none => if unlike c d n then some n else none
def sameM (c d : Cond) : Nat → Bool
  | 0 => true
  | n + 1 => sameM c d n && ((ev (wts n) c).1 == (ev (wts n) d).1)
theorem unlike_comm (c d : Cond) (n : Nat) : unlike c d n = unlike d c n := by
  unfold unlike
  by_cases h : ev (wts n) c = ev (wts n) d
  · rw [decide_eq_true h, decide_eq_true h.symm]
  · rw [decide_eq_false h, decide_eq_false fun e => h e.symm]
theorem partM_comm (c d : Cond) : ∀ n, partM c d n = partM d c n
  | 0 => rfl
  | n + 1 => by
    unfold partM
    rw [partM_comm c d n, unlike_comm]
theorem eqv_vn : ∀ l m : List Nat, PyData.eqvAll (l.map fun (k : Nat) => PyData.int (k : Int)) (m.map fun (k : Nat) => PyData.int (k : Int)) = decide (l = m)
  | [], [] => rfl
  | [], _ :: _ => rfl
  | _ :: _, [] => rfl
  | a :: l, b :: m => by
    show ((a : Int) == (b : Int) && PyData.eqvAll (l.map _) (m.map _)) = decide (a :: l = b :: m)
    rw [eqv_vn l m]
    by_cases h : a = b
    · subst h
      by_cases h2 : l = m
      · subst h2; simp
      · rw [decide_eq_false h2, decide_eq_false fun e => h2 (List.cons.inj e).2, Bool.and_false]
    · rw [decide_eq_false (show ¬ a :: l = b :: m from fun e => h (List.cons.inj e).1)]
      have : ((a : Int) == (b : Int)) = false := by
        rw [beq_eq_false_iff_ne]
        omega
      rw [this, Bool.false_and]
theorem eqv_told (x y : Bool × List Nat) : PyData.eqv (dTold x) (dTold y) = decide (x = y) := by
  obtain ⟨a, l⟩ := x
  obtain ⟨b, m⟩ := y
  show (bi a == bi b && (PyData.eqvAll (l.map _) (m.map _) && true)) = decide ((a, l) = (b, m))
  rw [eqv_vn, Bool.and_true]
  by_cases h2 : l = m
  · subst h2
    cases a <;> cases b <;> simp [bi]
  · rw [decide_eq_false h2, decide_eq_false fun e => h2 (Prod.mk.inj e).2, Bool.and_false]
/-- a telling, its list tracked -/
def TT (H : Hp) (v : V) (x : Bool × List Nat) : Prop := ∃ p l, v = .ref p ∧ H p = some (.tup [vb x.1, .ref l]) ∧ H l = some (.lst (x.2.map vn))
theorem TT.mono {H H' : Hp} {v : V} {x : Bool × List Nat} (g : Same H H') (h : TT H v x) : TT H' v x := by
  obtain ⟨p, l, rfl, h1, h2⟩ := h
  exact ⟨p, l, rfl, g _ _ h1, g _ _ h2⟩
theorem Told.tt {H H' : Hp} {v : V} {x : Bool × List Nat} (h : Told H H' v x) : TT H' v x := by
  obtain ⟨p, l, e, _, h1, h2⟩ := h
  exact ⟨p, l, e, h1, h2⟩
theorem TT.dp {K : PySem.W.Frag} {H : Hp} {v : V} {x : Bool × List Nat} (h : TT H v x) : Dp K H v (dTold x) := by
  obtain ⟨p, l, rfl, hp, hl⟩ := h
  exact .tup (SqT.of hp) (.cons (.int _) (.cons (.lst (SqL.of hl) (dp_vn _)) .nil))
def wdata (ws : List Bool) : PyData := .tuple (ws.map fun b => PyData.int (bi b))
theorem wa_dp {K : PySem.W.Frag} {H : Hp} {v : V} {ws : List Bool} (h : WA H v ws) : Dp K H v (wdata ws) := by
  obtain ⟨a, rfl, e, h8⟩ := h
  refine .tup (SqT.of e) ?_
  clear e h8
  induction ws with
  | nil => exact .nil
  | cons b r ih => exact .cons (.int _) ih
/-- None, or (worths, telling, telling) -/
def DueAt (H : Hp) (v : V) (o : Option Nat) (c d : Cond) : Prop := match o with
  | none => v = .non
  | some n => ∃ p u t1 t2, v = .ref p ∧ H p = some (.tup [u, t1, t2]) ∧ WA H u (wts n) ∧ TT H t1 (ev (wts n) c) ∧ TT H t2 (ev (wts n) d)
theorem DueAt.mono {H H' : Hp} {v : V} {o : Option Nat} {c d : Cond} (g : Same H H') (h : DueAt H v o c d) : DueAt H' v o c d := by
  cases o with
  | none => exact h
  | some n =>
    obtain ⟨p, u, t1, t2, e, h1, h2, h3, h4⟩ := h
    exact ⟨p, u, t1, t2, e, g _ _ h1, h2.mono g, h3.mono g, h4.mono g⟩
def dueD (o : Option Nat) (c d : Cond) : PyData := match o with
  | none => .none
  | some n => .tuple [wdata (wts n), dTold (ev (wts n) c), dTold (ev (wts n) d)]
theorem DueAt.dp {K : PySem.W.Frag} {H : Hp} {v : V} {o : Option Nat} {c d : Cond} (h : DueAt H v o c d) : Dp K H v (dueD o c d) := by
  cases o with
  | none =>
    obtain rfl := h
    exact .non
  | some n =>
    obtain ⟨p, u, t1, t2, rfl, h1, h2, h3, h4⟩ := h
    exact .tup (SqT.of h1) (.cons (wa_dp h2) (.cons h3.dp (.cons h4.dp .nil)))
theorem okd_more : ∀ (n : Nat) (d : PyData), okd n d → okd (n + 1) d
  | 0, _, h => h.elim
  | n + 1, .list ds, h => ⟨h.1, fun x hx => okd_more n x (h.2 x hx)⟩
  | n + 1, .tuple ds, h => ⟨h.1, fun x hx => okd_more n x (h.2 x hx)⟩
  | _ + 1, .dict _, h => h
  | _ + 1, .none, _ => trivial
  | _ + 1, .bool _, _ => trivial
  | _ + 1, .int _, _ => trivial
  | _ + 1, .str _, _ => trivial
theorem ok_due {o : Option Nat} {c d : Cond} (h1 : c.looks ≤ 1000) (h2 : d.looks ≤ 1000) : okd 4 (dueD o c d) := by
  cases o with
  | none => trivial
  | some n =>
    refine ⟨by show 3 ≤ 1000; decide, fun x hx => ?_⟩
    rcases List.mem_cons.mp hx with rfl | hx
    · refine ⟨by rw [List.length_map]; show 8 ≤ 1000; decide, fun y hy => ?_⟩
      obtain ⟨b, _, rfl⟩ := List.mem_map.mp hy
      trivial
    · rcases List.mem_cons.mp hx with rfl | hx
      · exact ok_told (Nat.le_trans (ev_len _ c) h1)
      · obtain rfl := List.mem_singleton.mp hx
        exact ok_told (Nat.le_trans (ev_len _ d) h2)
/-- what parting tells: its lists new -/
def PTold (H H' : Hp) (v : V) (o : Option Nat) (c d : Cond) : Prop := match o with
  | none => v = .non
  | some n => ∃ p u t1 t2, v = .ref p ∧ H' p = some (.tup [u, t1, t2]) ∧ WA H' u (wts n) ∧ Told H H' t1 (ev (wts n) c) ∧ Told H H' t2 (ev (wts n) d)
theorem PTold.due {H H' : Hp} {v : V} {o : Option Nat} {c d : Cond} (h : PTold H H' v o c d) : DueAt H' v o c d := by
  cases o with
  | none => exact h
  | some n =>
    obtain ⟨p, u, t1, t2, e, h1, h2, h3, h4⟩ := h
    exact ⟨p, u, t1, t2, e, h1, h2, h3.tt, h4.tt⟩
/-! two names at once -/
theorem l_par {i j : Nat} {ta : TA} {nx bk ct : L2.St → Hp → Prop} {rt : VK} {σ : L2.St} {H : Hp} (h : ta σ H fun vs H1 => ∃ v w, vs = [v, w] ∧ nx ((σ.set i (some v)).set j (some w)) H1) : tPar i j ta (Ends.mk nx rt bk ct) σ H := h
theorem l_two {v w : V} {G : V → V → Prop} (h : G v w) : ∃ v' w', [v, w] = [v', w'] ∧ G v' w' := ⟨v, w, rfl, h⟩
end J

namespace J
open PySem L2
/-! ands for ors with nots about looks -/
def dualM : Cond → Cond
  | .look i => .not (.look i)
  | .not c => .not (dualM c)
  | .bin a l r => .bin (!a) (dualM l) (dualM r)
theorem dual_looks : ∀ c : Cond, (dualM c).looks = c.looks
  | .look _ => rfl
  | .not c => dual_looks c
  | .bin a l r => by
    show (dualM l).looks + (dualM r).looks = l.looks + r.looks
    rw [dual_looks l, dual_looks r]
theorem dual_ok : ∀ c : Cond, c.ok → (dualM c).ok
  | .look _, h => h
  | .not c, h => dual_ok c h
  | .bin a l r, h => ⟨dual_ok l h.1, dual_ok r h.2⟩
theorem dual_deep : ∀ c : Cond, (dualM c).deep ≤ c.deep + 1
  | .look _ => Nat.le_refl _
  | .not c => Nat.succ_le_succ (dual_deep c)
  | .bin a l r => by
    show max (dualM l).deep (dualM r).deep + 1 ≤ max l.deep r.deep + 1 + 1
    have := dual_deep l
    have := dual_deep r
    omega
theorem ev_dual (ws : List Bool) : ∀ c : Cond, ev ws (dualM c) = (!(ev ws c).1, (ev ws c).2)
  | .look _ => rfl
  | .not c => by
    show (!(ev ws (dualM c)).1, (ev ws (dualM c)).2) = (!(!(ev ws c).1), (ev ws c).2)
    rw [ev_dual ws c]
  | .bin a l r => by
    show (if (ev ws (dualM l)).1 = !a then ((ev ws (dualM r)).1, (ev ws (dualM l)).2 ++ (ev ws (dualM r)).2) else ev ws (dualM l)) = (!(ev ws (.bin a l r)).1, (ev ws (.bin a l r)).2)
    rw [ev_bin, ev_dual ws l, ev_dual ws r]
    obtain ⟨x, y⟩ := ev ws l
    cases a <;> cases x <;> rfl
theorem ev_contrary (ws : List Bool) (c : Cond) : ev ws (.not (dualM c)) = ev ws c := by
  show (!(ev ws (dualM c)).1, (ev ws (dualM c)).2) = ev ws c
  rw [ev_dual]
  cases e : ev ws c with
  | mk a b => rw [Bool.not_not]
theorem due_dual : ∀ (c : Cond) (b y n : Nat), dueM (dualM c) b y n = dueM c b n y
  | .look _, _, _, _ => rfl
  | .not c, b, y, n => due_dual c b n y
  | .bin a l r, b, y, n => by
    unfold dualM dueM
    rw [dual_looks, due_dual l, due_dual l, due_dual r]
    cases a <;> rfl
def lookRows (c : Cond) (f : Bool) : List Row := rowsM 0 (dueM c 0 (if f then c.looks else c.looks + 1) (if f then c.looks + 1 else c.looks))
theorem code_split (c : Cond) (f : Bool) : codeM c f = lookRows c f ++ [.fin f, .fin (!f)] := rfl
theorem lookRows_len (c : Cond) (f : Bool) : (lookRows c f).length = c.looks := by
  unfold lookRows
  rw [rowsM_len, dueM_len]
theorem code_contrary (c : Cond) (f : Bool) : codeM (.not (dualM c)) f = codeM c f := by
  have e : (Cond.not (dualM c)).looks = c.looks := dual_looks c
  unfold codeM
  rw [e]
  show rowsM 0 (dueM (dualM c) 0 _ _) ++ _ = _
  rw [due_dual]
theorem look_not (c : Cond) (f : Bool) : lookRows (.not c) (!f) = lookRows c f := by
  unfold lookRows
  show rowsM 0 (dueM c 0 (if (!f) = true then c.looks + 1 else c.looks) (if (!f) = true then c.looks else c.looks + 1)) = _
  cases f <;> rfl
/-! other numbers -/
def mapC (f : Nat → Nat) : Cond → Cond
  | .look i => .look (f i)
  | .not c => .not (mapC f c)
  | .bin a l r => .bin a (mapC f l) (mapC f r)
theorem map_looks (f : Nat → Nat) : ∀ c : Cond, (mapC f c).looks = c.looks
  | .look _ => rfl
  | .not c => map_looks f c
  | .bin a l r => by
    show (mapC f l).looks + (mapC f r).looks = l.looks + r.looks
    rw [map_looks f l, map_looks f r]
theorem map_deep (f : Nat → Nat) : ∀ c : Cond, (mapC f c).deep = c.deep
  | .look _ => rfl
  | .not c => congrArg (· + 1) (map_deep f c)
  | .bin a l r => by
    show max (mapC f l).deep (mapC f r).deep + 1 = max l.deep r.deep + 1
    rw [map_deep f l, map_deep f r]
theorem map_ok {f : Nat → Nat} (hf : ∀ i, i < 8 → f i < 8) : ∀ c : Cond, c.ok → (mapC f c).ok
  | .look i, h => hf i h
  | .not c, h => map_ok hf c h
  | .bin a l r, h => ⟨map_ok hf l h.1, map_ok hf r h.2⟩
theorem ev_map {f : Nat → Nat} {ws us : List Bool} (h : ∀ i, i < 8 → us.getD i false = ws.getD (f i) false) : ∀ c : Cond, c.ok → ev ws (mapC f c) = ((ev us c).1, (ev us c).2.map f)
  | .look i, ho => by
    show (ws.getD (f i) false, [f i]) = (us.getD i false, [f i])
    rw [h i ho]
  | .not c, ho => by
    show (!(ev ws (mapC f c)).1, (ev ws (mapC f c)).2) = _
    rw [ev_map h c ho]
    rfl
  | .bin a l r, ho => by
    show (if (ev ws (mapC f l)).1 = a then ((ev ws (mapC f r)).1, (ev ws (mapC f l)).2 ++ (ev ws (mapC f r)).2) else ev ws (mapC f l)) = ((ev us (.bin a l r)).1, (ev us (.bin a l r)).2.map f)
    rw [ev_bin, ev_map h l ho.1, ev_map h r ho.2]
    show (if (ev us l).1 = a then _ else _) = _
    by_cases e : (ev us l).1 = a
    · rw [if_pos e, if_pos e, List.map_append]
    · rw [if_neg e, if_neg e]
def mapR (f : Nat → Nat) : Row → Row
  | .look t w to => .look (f t) w to
  | .fin b => .fin b
theorem due_map (f : Nat → Nat) : ∀ (c : Cond) (b y n : Nat), dueM (mapC f c) b y n = (dueM c b y n).map fun x => (f x.1, x.2)
  | .look _, _, _, _ => rfl
  | .not c, b, y, n => due_map f c b n y
  | .bin a l r, b, y, n => by
    unfold mapC dueM
    rw [map_looks, due_map f l, due_map f l, due_map f r, List.map_append]
    cases a <;> rfl
theorem rows_map (f : Nat → Nat) : ∀ (k : Nat) (l : List (Nat × Nat × Nat)), rowsM k (l.map fun x => (f x.1, x.2)) = (rowsM k l).map (mapR f)
  | _, [] => rfl
  | k, x :: r => by
    show (if x.2.1 = k + 1 then Row.look (f x.1) false x.2.2 else Row.look (f x.1) true x.2.1) :: rowsM (k + 1) (r.map _) = mapR f (if x.2.1 = k + 1 then .look x.1 false x.2.2 else .look x.1 true x.2.1) :: (rowsM (k + 1) r).map (mapR f)
    rw [rows_map f (k + 1) r]
    congr 1
    split <;> rfl
theorem code_map (f : Nat → Nat) (c : Cond) (b : Bool) : codeM (mapC f c) b = (codeM c b).map (mapR f) := by
  unfold codeM
  rw [map_looks, due_map, rows_map, List.map_append]
  rfl
theorem runM_map {f : Nat → Nat} {ws us : List Bool} (h : ∀ i, i < 8 → us.getD i false = ws.getD (f i) false) {rows : List Row} (hr : ∀ (i : Nat) (t : Nat) (w : Bool) (to : Nat), rows[i]? = some (.look t w to) → t < 8) : ∀ (k i : Nat), runM (rows.map (mapR f)) ws k i = ((runM rows us k i).1, (runM rows us k i).2.1.map f, (runM rows us k i).2.2)
  | 0, _ => rfl
  | k + 1, i => by
    unfold runM
    rw [List.getElem?_map]
    cases e : rows[i]? with
    | none => rfl
    | some r =>
      cases r with
      | fin b => rfl
      | look t w to =>
        have h8 := hr i t w to e
        show (fun (r : Bool × List Nat × Nat) => (r.1, f t :: r.2.1, (if ws.getD (f t) false == w then 1 else 0) + r.2.2)) (runM (rows.map (mapR f)) ws k (if ws.getD (f t) false == w then to else i + 1)) = _
        rw [← h t h8, runM_map h hr k]
        rfl
theorem runC_map {f : Nat → Nat} {ws us : List Bool} (h : ∀ i, i < 8 → us.getD i false = ws.getD (f i) false) {rows : List Row} (hr : okRows rows) : runC (rows.map (mapR f)) ws = ((runC rows us).1, (runC rows us).2.1.map f, (runC rows us).2.2) := by
  unfold runC
  rw [List.length_map]
  exact runM_map h (fun i t w to e => (hr.2.2 i _ e).1) _ _
/-! a turn of the things: all worths once each -/
def pw (nm : List Nat) (ws : List Bool) : List Bool := nm.map fun j => ws.getD j false
theorem pw_get {nm : List Nat} {ws : List Bool} {i : Nat} (h : i < nm.length) : (pw nm ws).getD i false = ws.getD (nm.getD i 0) false := by
  unfold pw
  rw [List.getD_eq_getElem?_getD, List.getElem?_map, List.getD_eq_getElem?_getD (l := nm), List.getElem?_eq_getElem h]
  rfl
def allW : List (List Bool) := (List.range 256).map wts
theorem allW_nodup : allW.Nodup := by decide +kernel
theorem mem_all {l : List Bool} (h : l.length = 8) : l ∈ allW := by
  match l, h with
  | [a, b, c, d, e, f, g, i], _ =>
    have : ∀ a b c d e f g i : Bool, [a, b, c, d, e, f, g, i] ∈ allW := by decide +kernel
    exact this a b c d e f g i
theorem wts_len (n : Nat) : (wts n).length = 8 := rfl
theorem all_len {l : List Bool} (h : l ∈ allW) : l.length = 8 := by
  obtain ⟨n, _, rfl⟩ := List.mem_map.mp h
  rfl
theorem perm_sub {α : Type} [DecidableEq α] : ∀ {l m : List α}, l.Nodup → (∀ x ∈ l, x ∈ m) → l.length = m.length → l.Perm m
  | [], m, _, _, hl => by
    obtain rfl : m = [] := List.length_eq_zero_iff.mp hl.symm
    exact List.Perm.nil
  | a :: r, m, hn, hs, hl => by
    have ha := hs a List.mem_cons_self
    have pe := List.perm_cons_erase ha
    obtain ⟨h1, h2⟩ := List.nodup_cons.mp hn
    refine (List.Perm.cons a (perm_sub (m := m.erase a) h2 (fun x hx => ?_) ?_)).trans pe.symm
    · refine (List.mem_erase_of_ne ?_).mpr (hs x (List.mem_cons_of_mem _ hx))
      rintro rfl
      exact h1 hx
    · rw [List.length_erase_of_mem ha, ← hl]
      rfl
theorem pw_inj {nm : List Nat} (hp : nm.Perm (List.range 8)) {a b : List Bool} (ha : a.length = 8) (hb : b.length = 8) (e : pw nm a = pw nm b) : a = b := by
  refine List.ext_getElem (by omega) fun i h1 h2 => ?_
  have hi : i ∈ nm := hp.mem_iff.mpr (List.mem_range.mpr (by omega))
  have := List.map_inj_left.mp e i hi
  rw [List.getD_eq_getElem?_getD, List.getD_eq_getElem?_getD, List.getElem?_eq_getElem h1, List.getElem?_eq_getElem h2] at this
  exact this
theorem nodup_map {α β : Type} {f : α → β} : ∀ {l : List α}, l.Nodup → (∀ x ∈ l, ∀ y ∈ l, f x = f y → x = y) → (l.map f).Nodup
  | [], _, _ => List.nodup_nil
  | a :: r, hn, hi => by
    obtain ⟨h1, h2⟩ := List.nodup_cons.mp hn
    refine List.nodup_cons.mpr ⟨fun h => ?_, nodup_map h2 fun x hx y hy => hi x (List.mem_cons_of_mem _ hx) y (List.mem_cons_of_mem _ hy)⟩
    obtain ⟨y, hy, e⟩ := List.mem_map.mp h
    have := hi y (List.mem_cons_of_mem _ hy) a List.mem_cons_self e
    subst this
    exact h1 hy
theorem pw_all {nm : List Nat} (hp : nm.Perm (List.range 8)) : (allW.map (pw nm)).Perm allW := by
  refine perm_sub (nodup_map allW_nodup fun x hx y hy e => pw_inj hp (all_len hx) (all_len hy) e) (fun x hx => ?_) (List.length_map ..)
  obtain ⟨y, _, rfl⟩ := List.mem_map.mp hx
  refine mem_all ?_
  unfold pw
  rw [List.length_map, hp.length_eq]
  rfl
def sumL : List Nat → Nat
  | [] => 0
  | a :: r => a + sumL r
theorem sumL_perm {l m : List Nat} (h : l.Perm m) : sumL l = sumL m := by
  induction h with
  | nil => rfl
  | cons a _ ih => exact congrArg (a + ·) ih
  | swap a b l =>
    show b + (a + sumL l) = a + (b + sumL l)
    omega
  | trans _ _ i1 i2 => exact i1.trans i2
theorem sumL_app : ∀ l m : List Nat, sumL (l ++ m) = sumL l + sumL m
  | [], m => (Nat.zero_add _).symm
  | a :: r, m => by
    show a + sumL (r ++ m) = a + sumL r + sumL m
    rw [sumL_app r m, Nat.add_assoc]
theorem sumN_eq (g : Nat → Nat) : ∀ n, sumN n g = sumL ((List.range n).map g)
  | 0 => rfl
  | n + 1 => by
    rw [List.range_succ, List.map_append, sumL_app, ← sumN_eq g n]
    rfl
theorem sum_turn {nm : List Nat} (hp : nm.Perm (List.range 8)) (A : List Bool → Nat) : (sumN 256 fun n => A (pw nm (wts n))) = sumN 256 fun n => A (wts n) := by
  have e : ∀ B : List Bool → Nat, (sumN 256 fun n => B (wts n)) = sumL (allW.map B) := fun B => by
    rw [sumN_eq]
    unfold allW
    rw [List.map_map]
    rfl
  rw [e A, e fun ws => A (pw nm ws), ← sumL_perm ((pw_all hp).map A), List.map_map]
  rfl
def prodL (F : Nat → Nat) : List Nat → Nat
  | [] => 1
  | a :: r => prodL F r * F a
theorem prodL_perm {F : Nat → Nat} {l m : List Nat} (h : l.Perm m) : prodL F l = prodL F m := by
  induction h with
  | nil => rfl
  | cons a _ ih => exact congrArg (· * F a) ih
  | swap a b l =>
    show prodL F l * F a * F b = prodL F l * F b * F a
    rw [Nat.mul_assoc, Nat.mul_comm (F a), ← Nat.mul_assoc]
  | trans _ _ i1 i2 => exact i1.trans i2
theorem prodL_app {F : Nat → Nat} : ∀ l m : List Nat, prodL F (l ++ m) = prodL F m * prodL F l
  | [], m => (Nat.mul_one _).symm
  | a :: r, m => by
    show prodL F (r ++ m) * F a = prodL F m * (prodL F r * F a)
    rw [prodL_app r m, Nat.mul_assoc]
def tmF (ch : List Nat) (ws : List Bool) (j : Nat) : Nat := if ws.getD j false then ch.getD j 0 else 100 - ch.getD j 0
theorem tmsN_eq (ch : List Nat) (ws : List Bool) : ∀ n, tmsN ch ws n = prodL (tmF ch ws) (List.range n)
  | 0 => rfl
  | n + 1 => by
    rw [List.range_succ, prodL_app, ← tmsN_eq ch ws n]
    show tmsN ch ws n * tmF ch ws n = 1 * tmF ch ws n * tmsN ch ws n
    rw [Nat.one_mul, Nat.mul_comm]
theorem prodL_map {F G : Nat → Nat} (f : Nat → Nat) : ∀ {l : List Nat}, (∀ t ∈ l, F (f t) = G t) → prodL F (l.map f) = prodL G l
  | [], _ => rfl
  | a :: r, h => by
    show prodL F (r.map f) * F (f a) = prodL G r * G a
    rw [prodL_map f fun t ht => h t (List.mem_cons_of_mem _ ht), h a List.mem_cons_self]
theorem list_getD {nm : List Nat} (h : nm.length = 8) : nm = (List.range 8).map fun t => nm.getD t 0 := by
  refine List.ext_getElem (by rw [List.length_map, List.length_range]; exact h) fun i h1 h2 => ?_
  rw [List.getElem_map, List.getElem_range, List.getD_eq_getElem?_getD, List.getElem?_eq_getElem h1]
  rfl
theorem tms_turn {nm : List Nat} (hp : nm.Perm (List.range 8)) {ch th : List Nat} (h : ∀ t, t < 8 → th.getD (nm.getD t 0) 0 = ch.getD t 0) (ws : List Bool) : tmsN th ws 8 = tmsN ch (pw nm ws) 8 := by
  have hl : nm.length = 8 := hp.length_eq
  rw [tmsN_eq, tmsN_eq, ← prodL_perm hp]
  conv => lhs; rw [list_getD hl]
  refine prodL_map _ fun t ht => ?_
  have ht8 := List.mem_range.mp ht
  unfold tmF
  rw [pw_get (by omega), h t ht8]
theorem sumN_congr {g f : Nat → Nat} (h : ∀ n, g n = f n) (n : Nat) : sumN n g = sumN n f := by
  rw [funext h]
theorem looks_turn {nm : List Nat} (hp : nm.Perm (List.range 8)) {ch th : List Nat} (h : ∀ t, t < 8 → th.getD (nm.getD t 0) 0 = ch.getD t 0) {c : Cond} (ho : c.ok) : looksM th (mapC (fun i => nm.getD i 0) c) = looksM ch c := by
  unfold looksM
  rw [← sum_turn hp fun ws => tmsN ch ws 8 * (ev ws c).2.length]
  refine sumN_congr (fun n => ?_) _
  have hl : nm.length = 8 := hp.length_eq
  rw [tms_turn hp h, ev_map (us := pw nm (wts n)) (fun i hi => pw_get (by omega)) c ho, List.length_map]
theorem jumps_turn {nm : List Nat} (hp : nm.Perm (List.range 8)) {ch th : List Nat} (h : ∀ t, t < 8 → th.getD (nm.getD t 0) 0 = ch.getD t 0) {c : Cond} (f : Bool) (ho : c.ok) (hk : c.looks ≤ 900) : jumpsM th f (mapC (fun i => nm.getD i 0) c) = jumpsM ch f c := by
  unfold jumpsM
  rw [← sum_turn hp fun ws => tmsN ch ws 8 * (runC (codeM c f) ws).2.2]
  refine sumN_congr (fun n => ?_) _
  have hl : nm.length = 8 := hp.length_eq
  rw [tms_turn hp h, code_map, runC_map (us := pw nm (wts n)) (fun i hi => pw_get (by omega)) (codeM_ok c f ho hk)]
/-! the place of a number among the names -/
theorem nm_nodup {nm : List Nat} (hp : nm.Perm (List.range 8)) : nm.Nodup := hp.nodup_iff.mpr List.nodup_range
theorem nm_lt {nm : List Nat} (hp : nm.Perm (List.range 8)) {t : Nat} (ht : t < 8) : nm.getD t 0 < 8 := by
  have hl : nm.length = 8 := hp.length_eq
  rw [List.getD_eq_getElem?_getD, List.getElem?_eq_getElem (show t < nm.length by omega)]
  exact List.mem_range.mp (hp.mem_iff.mp (List.getElem_mem _))
theorem idx_lt {nm : List Nat} (hp : nm.Perm (List.range 8)) {t : Nat} (ht : t < 8) : nm.idxOf t < 8 := by
  have hl : nm.length = 8 := hp.length_eq
  have := List.idxOf_lt_length_of_mem (hp.mem_iff.mpr (List.mem_range.mpr ht))
  omega
theorem nm_idx {nm : List Nat} (hp : nm.Perm (List.range 8)) {t : Nat} (ht : t < 8) : nm.getD (nm.idxOf t) 0 = t := by
  have h : nm.idxOf t < nm.length := List.idxOf_lt_length_of_mem (hp.mem_iff.mpr (List.mem_range.mpr ht))
  rw [List.getD_eq_getElem?_getD, List.getElem?_eq_getElem h, List.getElem_idxOf h]
  rfl
theorem nm_ne {nm : List Nat} (hp : nm.Perm (List.range 8)) {t m : Nat} (ht : t < 8) (hm : m < nm.idxOf t) : nm.getD m 0 ≠ t := fun e => by
  have hl : nm.length = 8 := hp.length_eq
  have h := idx_lt hp ht
  rw [← nm_idx hp ht] at e
  have := (List.getD_inj (fallback := 0) (by omega) (by omega) (nm_nodup hp)).mp e
  omega
theorem idx_nm {nm : List Nat} (hp : nm.Perm (List.range 8)) {t : Nat} (ht : t < 8) : nm.idxOf (nm.getD t 0) = t := by
  have hl : nm.length = 8 := hp.length_eq
  have h8 := nm_lt hp ht
  have h := idx_lt hp h8
  exact (List.getD_inj (fallback := 0) (by omega) (by omega) (nm_nodup hp)).mp (nm_idx hp h8)
theorem erase_perm : ∀ {l : List Nat} {i : Nat}, i < l.length → (l.getD i 0 :: l.eraseIdx i).Perm l
  | a :: r, 0, _ => List.Perm.refl _
  | a :: r, i + 1, h => by
    have ih := erase_perm (l := r) (i := i) (Nat.lt_of_succ_lt_succ h)
    show (r.getD i 0 :: a :: r.eraseIdx i).Perm (a :: r)
    exact (List.Perm.swap a (r.getD i 0) (r.eraseIdx i)).trans (List.Perm.cons a ih)
theorem pop_perm {done left : List Nat} {i : Nat} (h : i < left.length) : ((done ++ [left.getD i 0]) ++ left.eraseIdx i).Perm (done ++ left) := by
  rw [List.append_assoc]
  exact List.Perm.append_left done (erase_perm h)
theorem erase_map : ∀ {l : List Nat} {i : Nat}, (l.map vn).eraseIdx i = (l.eraseIdx i).map vn
  | [], _ => rfl
  | a :: r, 0 => rfl
  | a :: r, i + 1 => congrArg (vn a :: ·) (erase_map (l := r) (i := i))
theorem l_popAt {H : Hp} {p : Addr} {xs : List Nat} {i : Nat} {Q : VK} (h : H p = some (.lst (xs.map vn))) (hi : i < xs.length) (hl : xs.length ≤ 1000) (q : ∀ H', But p H H' → H' p = some (.lst ((xs.eraseIdx i).map vn)) → Q (vn (xs.getD i 0)) H') : rPopAt (.ref p) [.int (i : Int)] H Q := by
  refine ⟨p, xs.map vn, (i : Int), i, vn (xs.getD i 0), rfl, rfl, h, ?_, ?_, ?_, ?_, ?_⟩
  · have : (-(2 ^ 63) : Int) ≤ 0 := by decide
    omega
  · have : (1000 : Int) < 2 ^ 63 := by decide
    omega
  · rw [List.length_map]
    show (if (decide (0 ≤ (if (i : Int) < 0 then (i : Int) + (xs.length : Int) else (i : Int))) && decide ((if (i : Int) < 0 then (i : Int) + (xs.length : Int) else (i : Int)) < (xs.length : Int))) = true then some (if (i : Int) < 0 then (i : Int) + (xs.length : Int) else (i : Int)).toNat else none) = some i
    rw [if_neg (show ¬ ((i : Int) < 0) by omega), decide_eq_true (show (0 : Int) ≤ (i : Int) by omega), decide_eq_true (show (i : Int) < (xs.length : Int) by omega)]
    rfl
  · rw [List.getElem?_map, List.getElem?_eq_getElem hi, List.getD_eq_getElem?_getD, List.getElem?_eq_getElem hi]
    rfl
  · rw [erase_map]
    exact q _ but_upd upd_same
/-- [e for i in range(n)], by an invariant that stands a store at a new place -/
theorem lcR_inv {σ : St} {H : Hp} {Q : VK} {te : TE} {j n : Nat} {vs : List Nat} (J : Nat → List V → Hp → Prop) (hw : ∀ x, wipe ((wipe σ vs).set j (some x)) vs = wipe σ vs) (hl : n ≤ 100000)
    (h0 : ∀ H', Same H H' → J 0 [] H') (keep : ∀ i ys (D : Addr) H' o, H D = none → J i ys H' → J i ys (upd H' D o)) (len : ∀ i ys H', J i ys H' → ys.length = i)
    (h : ∀ (i : Nat) (D : Addr) ys H' (Q' : VK), i < n → H D = none → J i ys H' → H' D = some (.lst ys) → (∀ y H'', J (i + 1) (ys ++ [y]) H'' → H'' D = some (.lst ys) → Q' y H'') → te ((wipe σ vs).set j (some (.int (0 + (i : Int))))) H' Q')
    (q : ∀ D ys H2, H D = none → J n ys H2 → H2 D = some (.lst ys) → Q (.ref D) H2) : IR1 [.int (n : Int)] H (LcB (gName j) tYes te vs σ Q) := by
  refine ⟨(n : Int), rfl, ?_, ?_, ?_⟩
  · have : (0 : Int) ≤ 2 ^ 62 := by decide
    omega
  · have : (100000 : Int) < 2 ^ 62 := by decide
    omega
  · intro D hD
    rw [Int.toNat_natCast]
    refine lc_range (lo := 0) (n := n) (fun i H' => ∃ ys, J i ys H' ∧ H' D = some (.lst ys)) ⟨[], h0 _ (sm_new hD _), upd_same⟩ (fun i H' hi p => ⟨hw _, ?_⟩) fun H' p => ?_
    · obtain ⟨ys, jj, e⟩ := p
      refine h i D ys H' _ hi hD jj e fun y H'' j2 e2 => ?_
      have hn := len _ _ _ jj
      refine ⟨ys, e2, Nat.lt_of_lt_of_le (show ys.length < 100001 by omega) (by decide), ys ++ [y], keep _ _ _ _ _ hD j2, upd_same⟩
    · obtain ⟨ys, jj, e⟩ := p
      exact q D ys H' hD jj e
theorem lcRm {σ : St} {H : Hp} {Q : VK} {te : TE} {j n : Nat} {vs : List Nat} (F : Nat → V) (hw : ∀ x, wipe ((wipe σ vs).set j (some x)) vs = wipe σ vs) (hl : n ≤ 100000)
    (h : ∀ (i : Nat) H' (Q' : VK), i < n → Same H H' → (∀ H'', Same H' H'' → Q' (F i) H'') → te ((wipe σ vs).set j (some (.int (i : Int)))) H' Q')
    (q : ∀ D H2, H D = none → Same H H2 → H2 D = some (.lst ((List.range n).map F)) → Q (.ref D) H2) : IR1 [.int (n : Int)] H (LcB (gName j) tYes te vs σ Q) := by
  refine lcR (ys := (List.range n).map F) hw hl ⟨?_, fun i x y H' Q' hx hy g k => ?_⟩ q
  · unfold irs
    rw [List.length_map, List.length_map]
  · have hi : i < n := by
      have := (List.getElem?_eq_some_iff.mp hx).1
      unfold irs at this
      rw [List.length_map, List.length_range] at this
      exact this
    rw [irs_at hi] at hx
    obtain rfl := Option.some.inj hx
    rw [List.getElem?_map, List.getElem?_range hi] at hy
    obtain rfl : F i = y := Option.some.inj hy
    rw [Int.zero_add]
    exact h i H' Q' hi g k
theorem lcLm {K : PySem.W.Frag} {σ : St} {H : Hp} {Q : VK} {te : TE} {j : Nat} {vs : List Nat} {a : Addr} {l : List Nat} (F : Nat → V) (hw : ∀ x, wipe ((wipe σ vs).set j (some x)) vs = wipe σ vs) (ht : SqL K H a (l.map vn)) (hl : l.length ≤ 100000)
    (h : ∀ (k : Nat) H' (Q' : VK), k ∈ l → Same H H' → (∀ H'', Same H' H'' → Q' (F k) H'') → te ((wipe σ vs).set j (some (vn k))) H' Q')
    (q : ∀ D H2, H D = none → Same H H2 → H2 D = some (.lst (l.map F)) → Q (.ref D) H2) : IL K (.ref a) H (LcB (gName j) tYes te vs σ Q) := by
  refine lcL (ys := l.map F) hw ht (by rw [List.length_map]; exact hl) ⟨?_, fun i x y H' Q' hx hy g k => ?_⟩ q
  · rw [List.length_map, List.length_map]
  · rw [List.getElem?_map] at hx hy
    cases e : l[i]? with
    | none => rw [e] at hx; cases hx
    | some m =>
      rw [e] at hx hy
      obtain rfl : vn m = x := Option.some.inj hx
      obtain rfl : F m = y := Option.some.inj hy
      exact h m H' Q' (List.mem_of_getElem? e) g k
theorem pw_range {nm : List Nat} (hl : nm.length = 8) (ws : List Bool) : (List.range 8).map (fun t => vb (ws.getD (nm.getD t 0) false)) = (pw nm ws).map vb := by
  unfold pw
  conv => rhs; rw [list_getD hl]
  rw [List.map_map, List.map_map]
  rfl
theorem RT.fr {b l lr : Addr} {H H' : Hp} {rows : List Row} (f : Fr b l H H') (tp : Tups H H') (n1 : lr ≠ b) (n2 : lr ≠ l) (h : RT H lr rows) : RT H' lr rows := by
  obtain ⟨vs, h1, h2⟩ := h
  exact ⟨vs, f.at n1 n2 h1, h2.tups tp⟩
theorem ev_lt (ws : List Bool) : ∀ c : Cond, c.ok → ∀ t ∈ (ev ws c).2, t < 8
  | .look i, ho, t, h => by
    obtain rfl := List.mem_singleton.mp h
    exact ho
  | .not c, ho, t, h => ev_lt ws c ho t h
  | .bin a l r, ho, t, h => by
    rw [ev_bin] at h
    split at h
    · rcases List.mem_append.mp h with h | h
      · exact ev_lt ws l ho.1 t h
      · exact ev_lt ws r ho.2 t h
    · exact ev_lt ws l ho.1 t h
theorem part_same {c d : Cond} (h : ∀ ws, ev ws c = ev ws d) : ∀ n, partM c d n = none
  | 0 => rfl
  | n + 1 => by
    unfold partM
    rw [part_same h n]
    show (if unlike c d n then some n else none) = none
    unfold unlike
    rw [h, decide_eq_true rfl]
    rfl
theorem same_not (c : Cond) : ∀ n, sameM c (.not c) (n + 1) = false
  | 0 => by
    show (true && ((ev (wts 0) c).1 == !(ev (wts 0) c).1)) = false
    cases (ev (wts 0) c).1 <;> rfl
  | n + 1 => by
    show (sameM c (.not c) (n + 1) && _) = false
    rw [same_not c n]
    rfl
theorem cut_2 {vs : List V} {k : Nat} (h : vs.length = k + 2) : cutV vs none (some (-2)) = vs.take k := by
  unfold cutV
  rw [HT.sIx_none, h]
  show (vs.drop 0).take (((-2 : Int) + ((k + 2 : Nat) : Int)).toNat - 0) = vs.take k
  rw [List.drop_zero, Nat.sub_zero]
  congr 1
  omega
theorem l_listRg {σ : St} {H : Hp} {Q : VK} {n : Nat} (hn : n ≤ 10000) (q : ∀ p H', H p = none → Same H H' → H' p = some (.lst ((List.range n).map vn)) → Q (.ref p) H') : tLstRg (tRg1 (tC (.int (n : Int)))) σ H Q := by
  refine ⟨(n : Int), rfl, ⟨?_, ?_, ?_, ?_, ?_⟩, fun p hp => ?_⟩
  · decide
  · decide
  · have : (-(2 ^ 62) : Int) ≤ 0 := by decide
    omega
  · have : (10000 : Int) < 2 ^ 62 := by decide
    omega
  · have : (10000 : Nat) ≤ 2 ^ 24 := by decide
    omega
  · refine q p _ hp (sm_new hp _) ?_
    rw [upd_same]
    unfold rgV
    rw [Int.sub_zero, Int.toNat_natCast]
    congr 2
    refine List.map_congr_left fun i _ => ?_
    rw [Int.zero_add]
    rfl
end J

namespace J
open PySem L2
theorem lcR_invD {σ : St} {H : Hp} {Q : VK} {te : TE} {j n : Nat} {vs : List Nat} (J : Addr → Nat → List V → Hp → Prop) (hw : ∀ x, wipe ((wipe σ vs).set j (some x)) vs = wipe σ vs) (hl : n ≤ 100000)
    (h0 : ∀ D H', H D = none → Same H H' → J D 0 [] H') (keep : ∀ i ys (D : Addr) H' o, H D = none → J D i ys H' → J D i ys (upd H' D o)) (len : ∀ D i ys H', J D i ys H' → ys.length = i)
    (h : ∀ (i : Nat) (D : Addr) ys H' (Q' : VK), i < n → H D = none → J D i ys H' → H' D = some (.lst ys) → (∀ y H'', J D (i + 1) (ys ++ [y]) H'' → H'' D = some (.lst ys) → Q' y H'') → te ((wipe σ vs).set j (some (.int (0 + (i : Int))))) H' Q')
    (q : ∀ D ys H2, H D = none → J D n ys H2 → H2 D = some (.lst ys) → Q (.ref D) H2) : IR1 [.int (n : Int)] H (LcB (gName j) tYes te vs σ Q) := by
  refine ⟨(n : Int), rfl, ?_, ?_, ?_⟩
  · have : (0 : Int) ≤ 2 ^ 62 := by decide
    omega
  · have : (100000 : Int) < 2 ^ 62 := by decide
    omega
  · intro D hD
    rw [Int.toNat_natCast]
    refine lc_range (lo := 0) (n := n) (fun i H' => ∃ ys, J D i ys H' ∧ H' D = some (.lst ys)) ⟨[], h0 D _ hD (sm_new hD _), upd_same⟩ (fun i H' hi p => ⟨hw _, ?_⟩) fun H' p => ?_
    · obtain ⟨ys, jj, e⟩ := p
      refine h i D ys H' _ hi hD jj e fun y H'' j2 e2 => ?_
      have hn := len _ _ _ _ jj
      refine ⟨ys, e2, Nat.lt_of_lt_of_le (show ys.length < 100001 by omega) (by decide), ys ++ [y], keep _ _ _ _ _ hD j2, upd_same⟩
    · obtain ⟨ys, jj, e⟩ := p
      exact q D ys H' hD jj e
theorem ev_exch (ws : List Bool) : ∀ (c : Cond) (ts : List Bool), (ev ws (exch c ts)).1 = (ev ws c).1
  | .look _, _ => rfl
  | .not c, ts => by
    show (!(ev ws (exch c ts)).1) = !(ev ws c).1
    rw [ev_exch ws c]
  | .bin a l r, ts => by
    have hb : ∀ x y : Cond, (ev ws (.bin a x y)).1 = if (ev ws x).1 = a then (ev ws y).1 else (ev ws x).1 := fun x y => by
      rw [ev_bin]
      split <;> rfl
    rw [hb l r]
    unfold exch
    split
    · rw [hb, ev_exch ws r, ev_exch ws l]
      cases a <;> cases (ev ws l).1 <;> cases (ev ws r).1 <;> rfl
    · rw [hb, ev_exch ws r, ev_exch ws l]
theorem same_exch (c : Cond) (ts : List Bool) : ∀ n, sameM c (exch c ts) n = true
  | 0 => rfl
  | n + 1 => by
    show (sameM c (exch c ts) n && ((ev (wts n) c).1 == (ev (wts n) (exch c ts)).1)) = true
    rw [same_exch c ts n, ev_exch, beq_self_eq_true]
    rfl
/-! the least, and of several the first -/
def lexB : List Bool → List Bool → Bool
  | [], _ => true
  | _ :: _, [] => false
  | a :: r, b :: s => if a = b then lexB r s else b
def BestL (ch : List Nat) (c : Cond) (ts : List Bool) : Prop := ts.length = c.pairs ∧ ∀ us : List Bool, us.length = c.pairs → looksM ch (exch c ts) < looksM ch (exch c us) ∨ looksM ch (exch c ts) = looksM ch (exch c us) ∧ lexB ts us = true
def BestJ (ch : List Nat) (c : Cond) (ts : List Bool) (f : Bool) : Prop := ts.length = c.pairs ∧ ∀ (us : List Bool) (g : Bool), us.length = c.pairs → jumpsM ch f (exch c ts) < jumpsM ch g (exch c us) ∨ jumpsM ch f (exch c ts) = jumpsM ch g (exch c us) ∧ (ts ≠ us ∧ lexB ts us = true ∨ ts = us ∧ (f = true → g = true))
theorem BestL.le {ch : List Nat} {c : Cond} {ts us : List Bool} (h : BestL ch c ts) (hu : us.length = c.pairs) : looksM ch (exch c ts) ≤ looksM ch (exch c us) := by
  rcases h.2 us hu with h | h
  · omega
  · omega
theorem BestJ.le {ch : List Nat} {c : Cond} {ts us : List Bool} {f g : Bool} (h : BestJ ch c ts f) (hu : us.length = c.pairs) : jumpsM ch f (exch c ts) ≤ jumpsM ch g (exch c us) := by
  rcases h.2 us g hu with h | h
  · omega
  · omega
/-- what fewest_looks, fewest_jumps tell: their lists new -/
def FL (H H' : Hp) (v : V) (ch : List Nat) (c : Cond) : Prop := ∃ p t ts, v = .ref p ∧ H t = none ∧ H' p = some (.tup [.int (looksM ch (exch c ts) : Int), .ref t]) ∧ H' t = some (.lst (ts.map vb)) ∧ BestL ch c ts
def FJ (H H' : Hp) (v : V) (ch : List Nat) (c : Cond) : Prop := ∃ p t ts f, v = .ref p ∧ H t = none ∧ H' p = some (.tup [.int (jumpsM ch f (exch c ts) : Int), .ref t, vb f]) ∧ H' t = some (.lst (ts.map vb)) ∧ BestJ ch c ts f
/-- one exchange more or less -/
def flipT (ts : List Bool) (i : Nat) : List Bool := ts.take i ++ [!ts.getD i false] ++ ts.drop (i + 1)
theorem flip_len {ts : List Bool} {i : Nat} (h : i < ts.length) : (flipT ts i).length = ts.length := by
  unfold flipT
  rw [List.length_append, List.length_append, List.length_take, List.length_drop, Nat.min_eq_left (by omega)]
  show i + 1 + (ts.length - (i + 1)) = ts.length
  omega
theorem flip_vb {ts : List Bool} {i : Nat} (h : i < ts.length) : (cutV (ts.map vb) none (some (i : Int)) ++ [V.int (1 - bi (ts.getD i false))]) ++ cutV (ts.map vb) (some ((i : Int) + 1)) none = (flipT ts i).map vb := by
  rw [cut_hi (by rw [List.length_map]; omega), show ((i : Int) + 1) = ((i + 1 : Nat) : Int) from rfl, cut_lo (by rw [List.length_map]; omega)]
  unfold flipT
  rw [List.map_append, List.map_append, List.map_take, List.map_drop]
  cases ts.getD i false <;> rfl
end J

namespace J
open PySem L2
def Good (c : Cond) : Prop := c.ok ∧ c.deep ≤ 10 ∧ c.looks ≤ 12
/-! x += e -/
section
variable {K : PySem.W.Frag} {w : World} {σ : St} {H : Hp} {Q : VK} {nx bk ct : St → Hp → Prop} {rt : VK} {te : TE} {i : Nat}
theorem l_aug {ti : TIp} {x : V} (e : σ[i]? = some (some x)) (h : te σ H fun y H1 => ti x y H1 fun z H2 => nx (σ.set i (some z)) H2) : tAug i te ti (Ends.mk nx rt bk ct) σ H := ⟨x, e, h⟩
theorem l_ipI {f : Int → Int → Int} {a b : Int} (h : Q (.int (f a b)) H) : ipI f (.int a) (.int b) H Q := ⟨a, b, rfl, rfl, h⟩
theorem l_catA {p r : Addr} {xs : List V} {y : V} (hp : H p = some (.tup xs)) (hr : H r = some (.tup [y])) (hn : xs.length ≤ 1000) (q : ∀ (l : Addr) (H' : Hp), Same H H' → H' l = some (.tup (xs ++ [y])) → Q (.ref l) H') : rCatA K (.ref p) (.ref r) H Q := by
  refine ⟨p, r, xs, [y], rfl, rfl, SqT.of hp, SqT.of hr, Nat.le_trans (show xs.length + 1 ≤ 100000 by omega) (by decide), fun e => ?_, fun _ e => absurd e (List.cons_ne_nil _ _), fun _ _ l hl => q l _ (sm_new hl _) upd_same⟩
  subst e
  exact q r _ (Same.refl _) hr
theorem l_listT {p : Addr} {xs : List V} (h : SqT K H p xs) (q : ∀ (l : Addr) (H' : Hp), H l = none → Same H H' → H' l = some (.lst xs) → Q (.ref l) H') : rListOf K [.ref p] H Q := ⟨p, xs, rfl, .inr h, fun l hl => q l _ hl (sm_new hl _) upd_same⟩
theorem yes_t {F : Bool → Hp → Prop} (h : F true H) : tYes σ H F := h
/-- zip of two tuples -/
def IZ (K : PySem.W.Frag) (vs : List V) (H : Hp) (R : It → Hp → Prop) : Prop := ∃ a b xs ys, vs = [.ref a, .ref b] ∧ ((SqL K H a xs ∧ SqL K H b ys ∧ R (Itz K a b) H) ∨ (SqT K H a xs ∧ SqT K H b ys ∧ R (RZ.ItzT K a b) H))
theorem l_iZip {ta : TA} {R : It → Hp → Prop} (h : ta σ H fun vs H1 => IZ K vs H1 R) : RZ.iZipA K ta σ H R := h
theorem forZ {a b : Addr} {xs ys : List V} {g : TG} {tb : TS} (hl : xs.length = ys.length) (ha : SqT K H a xs) (hb : SqT K H b ys) (Pv : Nat → St → Hp → Prop) (h0 : Pv 0 σ H) (hq : ∀ i σ' H', Pv i σ' H' → Same H H')
    (hs : ∀ (i : Nat) (x y : V) (T : Addr) σ' H' H'', xs[i]? = some x → ys[i]? = some y → Pv i σ' H' → Same H' H'' → H'' T = some (.tup [x, y]) → g (.ref T) σ' H'' fun σ2 H2 => tb (Ends.mk (Pv (i + 1)) rt nx (Pv (i + 1))) σ2 H2)
    (hd : ∀ σ' H', Pv xs.length σ' H' → nx σ' H') : IZ K [.ref a, .ref b] H (ForB g tb (Ends.mk nx rt bk ct) σ) :=
  ⟨a, b, xs, ys, rfl, .inr ⟨ha, hb, RZ.for_zipT (D := Ends.mk nx rt bk ct) hl Pv h0 (fun i σ' H' p => ⟨sm_t (hq i σ' H' p) ha, sm_t (hq i σ' H' p) hb⟩) (fun i x y T σ' H' hx hy p hT => hs i x y T σ' H' _ hx hy p (sm_new hT _) upd_same) hd⟩⟩
end
/-! bits, all of some length -/
def bitsM : Nat → List (List Bool)
  | 0 => [[]]
  | n + 1 => (bitsM n).flatMap fun b => [b ++ [false], b ++ [true]]
theorem bits8 : bitsM 8 = (List.range 256).map wts := by decide +kernel
theorem flat_at {α β : Type} (f g : α → β) : ∀ (l : List α) (i : Nat), ((l.flatMap fun b => [f b, g b])[2 * i]? = (l[i]?).map f) ∧ ((l.flatMap fun b => [f b, g b])[2 * i + 1]? = (l[i]?).map g)
  | [], i => ⟨rfl, rfl⟩
  | x :: r, 0 => ⟨rfl, rfl⟩
  | x :: r, i + 1 => by
    have := flat_at f g r i
    exact this
theorem flat_len {α β : Type} (f g : α → β) : ∀ (l : List α), (l.flatMap fun b => [f b, g b]).length = 2 * l.length
  | [] => rfl
  | x :: r => by
    show (r.flatMap fun b => [f b, g b]).length + 1 + 1 = 2 * (r.length + 1)
    rw [flat_len f g r]; omega
theorem bitsM_len : ∀ n, (bitsM n).length = 2 ^ n
  | 0 => rfl
  | n + 1 => by
    unfold bitsM
    rw [flat_len, bitsM_len n, Nat.pow_succ, Nat.mul_comm]
theorem bitsM_mem : ∀ (n : Nat) (b : List Bool), b ∈ bitsM n → b.length = n
  | 0, b, h => by obtain rfl := List.mem_singleton.mp h; rfl
  | n + 1, b, h => by
    obtain ⟨x, hx, hb⟩ := List.mem_flatMap.mp h
    have := bitsM_mem n x hx
    rcases List.mem_cons.mp hb with rfl | hb
    · rw [List.length_append, this]; rfl
    · obtain rfl := List.mem_singleton.mp hb
      rw [List.length_append, this]; rfl
theorem bitsM_all : ∀ (b : List Bool) , b ∈ bitsM b.length := by
  have hs : ∀ (n : Nat) (b : List Bool), b.length = n → b ∈ bitsM n := by
    intro n
    induction n with
    | zero => intro b h; obtain rfl := List.length_eq_zero_iff.mp h; exact List.mem_singleton.mpr rfl
    | succ n ih =>
      intro b h
      have hne : b ≠ [] := by intro e; subst e; cases h
      have hd : b = b.dropLast ++ [b.getLast hne] := (List.dropLast_concat_getLast hne).symm
      have hl : b.dropLast.length = n := by rw [List.length_dropLast, h]; rfl
      refine List.mem_flatMap.mpr ⟨b.dropLast, ih _ hl, ?_⟩
      rw [hd]
      cases b.getLast hne
      · rw [List.dropLast_concat]; exact List.mem_cons_self
      · rw [List.dropLast_concat]; exact List.mem_cons_of_mem _ (List.mem_singleton.mpr rfl)
  exact fun b => hs _ b rfl
/-- tuples of bits at values -/
def BTA (H : Hp) (v : V) (b : List Bool) : Prop := ∃ a, v = .ref a ∧ H a = some (.tup (b.map vb))
theorem BTA.tups {H H' : Hp} (g : Tups H H') {v : V} {b : List Bool} (h : BTA H v b) : BTA H' v b := by
  obtain ⟨a, e, h⟩ := h
  exact ⟨a, e, g _ _ h⟩
def BT (H : Hp) (vs : List V) (bs : List (List Bool)) : Prop := vs.length = bs.length ∧ ∀ (i : Nat) (y : V), vs[i]? = some y → ∃ b, bs[i]? = some b ∧ BTA H y b
theorem BT.tups {H H' : Hp} (g : Tups H H') {vs : List V} {bs : List (List Bool)} (h : BT H vs bs) : BT H' vs bs :=
  ⟨h.1, fun i y e => by obtain ⟨b, e1, e2⟩ := h.2 i y e; exact ⟨b, e1, e2.tups g⟩⟩
theorem BT.mono {H H' : Hp} (g : Same H H') {vs : List V} {bs : List (List Bool)} (h : BT H vs bs) : BT H' vs bs := h.tups (Same.tups g)
theorem BT.get {H : Hp} {vs : List V} {bs : List (List Bool)} {i : Nat} {y : V} (h : BT H vs bs) (e : vs[i]? = some y) : ∃ b, bs[i]? = some b ∧ BTA H y b := h.2 i y e
def Lc2B (g : TG) (tt : L2.TT) (wi1 : TI) (g1 : TG) (tt1 : L2.TT) (te : TE) (vs vs1 : List Nat) (σ : St) (Q : VK) : It → Hp → Prop := fun J H1 => ∀ D, H1 D = none → ∃ W : Nat → Nat → Hp → Prop, (∃ m, W 0 m (upd H1 D (.lst []))) ∧ ∀ i m H, W i m H →
  (J.stop i H ∧ Q (.ref D) H) ∨ (J.go i H ∧ ∃ Nx : Hp → Prop, (∀ H', Nx H' → ∃ m', m' < m ∧ W (i + 1) m' H') ∧ ∀ x H', J.yld i H x H' → g x (wipe σ vs) H' fun σ2 H2 => wipe σ2 vs = wipe σ vs ∧ tt σ2 H2 fun b H3 =>
    if b = true then wi1 σ2 H3 fun J1 H4 => ∃ W1 : Nat → Nat → Hp → Prop, (∃ m, W1 0 m H4) ∧ ∀ j k H, W1 j k H →
      (J1.stop j H ∧ Nx H) ∨ (J1.go j H ∧ ∃ Nx1 : Hp → Prop, (∀ H', Nx1 H' → ∃ k', k' < k ∧ W1 (j + 1) k' H') ∧ ∀ x H', J1.yld j H x H' → g1 x (wipe σ2 vs1) H' fun σ3 H5 => wipe σ3 vs1 = wipe σ2 vs1 ∧ tt1 σ3 H5 fun b H6 =>
        if b = true then te σ3 H6 fun y H7 => ∃ acc, H7 D = some (.lst acc) ∧ acc.length < sizeLine ∧ Nx1 (upd H7 D (.lst (acc ++ [y]))) else Nx1 H6)
    else Nx H3)
theorem l_lc2 {wi wi1 : TI} {g g1 : TG} {tt tt1 : L2.TT} {te : TE} {vs vs1 : List Nat} {σ : St} {H : Hp} {Q : VK} (h : wi σ H (Lc2B g tt wi1 g1 tt1 te vs vs1 σ Q)) : tLc2 wi g tt wi1 g1 tt1 te vs vs1 σ H Q := h
/-- [e for x in a list for b in (0, 1)], every item's value related, by what stands in tuples -/
theorem lc2_rel {K : PySem.W.Frag} {σ : St} {H : Hp} {Q : VK} {te : TE} {j j1 : Nat} {vs vs1 : List Nat} {a : Addr} {xs : List V} (E : Nat → V → Hp → Prop) (mono : ∀ m y H H', Tups H H' → E m y H → E m y H') (ht : SqL K H a xs) (hl : xs.length ≤ 40000)
    (hw0 : ∀ x, wipe ((wipe σ vs).set j (some x)) vs = wipe σ vs) (hw1 : ∀ x y, wipe ((wipe ((wipe σ vs).set j (some x)) vs1).set j1 (some y)) vs1 = wipe ((wipe σ vs).set j (some x)) vs1)
    (h : ∀ (i : Nat) (x : V) (b : Bool) H' (Q' : VK), xs[i]? = some x → Same H H' → (∀ y H'', Same H' H'' → E (2 * i + b.toNat) y H'' → Q' y H'') → te ((wipe ((wipe σ vs).set j (some x)) vs1).set j1 (some (vb b))) H' Q')
    (q : ∀ D ys H2, H D = none → Same H H2 → H2 D = some (.lst ys) → ys.length = 2 * xs.length → (∀ m y, ys[m]? = some y → E m y H2) → Q (.ref D) H2) :
    IL K (.ref a) H (Lc2B (gName j) tYes (iTup K (tTup (tCons (tC (.int 0)) (tCons (tC (.int 1)) tNil)))) (gName j1) tYes te vs vs1 σ Q) := by
  refine ⟨a, rfl, ⟨xs, ht⟩, fun D hD => ?_⟩
  let Pv : Nat → Hp → Prop := fun k H' => ∃ ys, Same H H' ∧ H' D = some (.lst ys) ∧ ys.length = k ∧ ∀ m y, ys[m]? = some y → E m y H'
  refine ⟨fun i m H' => m = xs.length - i ∧ i ≤ xs.length ∧ Pv (2 * i) H', ⟨xs.length, by simp, Nat.zero_le _, [], sm_new hD _, upd_same, rfl, fun m y e => by cases e⟩, ?_⟩
  rintro i m H' ⟨rfl, hi, p⟩
  have qt : SqL K H' a xs := sm_l p.choose_spec.1 ht
  by_cases hlt : i < xs.length
  · refine .inr ⟨⟨xs, xs[i], qt, by simp [hlt]⟩, Pv (2 * (i + 1)), fun H' p' => ⟨xs.length - (i + 1), by omega, rfl, hlt, p'⟩, fun x H'' y => ?_⟩
    obtain ⟨e, y⟩ := y
    subst e
    have hx := y xs qt
    show wipe _ vs = _ ∧ _
    refine ⟨hw0 x, ?_⟩
    refine yes_t ?_
    show ite _ _ _
    rw [if_pos rfl]
    refine l_iTup (l_tup (l_cons (l_c (l_cons (l_c (l_nil (l_new (by decide) fun t H4 nt g4 e4 => ?_)))))))
    refine ⟨t, rfl, ⟨_, SqT.of e4⟩, ?_⟩
    refine ⟨fun k m H' => m = 2 - k ∧ k ≤ 2 ∧ Pv (2 * i + k) H' ∧ H' t = some (.tup [.int 0, .int 1]), ⟨2, rfl, by omega, ?_, e4⟩, ?_⟩
    · obtain ⟨ys, s1, s2, s3, s4⟩ := p
      exact ⟨ys, s1.trans g4, g4 _ _ s2, s3, fun m y e => mono _ _ _ _ (Same.tups g4) (s4 m y e)⟩
    rintro k m H5 ⟨rfl, hk, p5, e5⟩
    by_cases hk2 : k < 2
    · obtain ⟨b, hb, hbk⟩ : ∃ b : Bool, [V.int 0, V.int 1][k]? = some (vb b) ∧ b.toNat = k := by
        obtain rfl | rfl : k = 0 ∨ k = 1 := by omega
        · exact ⟨false, rfl, rfl⟩
        · exact ⟨true, rfl, rfl⟩
      refine .inr ⟨⟨_, _, SqT.of e5, hb⟩, fun H' => Pv (2 * i + (k + 1)) H' ∧ H' t = some (.tup [.int 0, .int 1]), fun H' p' => ⟨2 - (k + 1), by omega, rfl, hk2, p'⟩, fun z H6 y6 => ?_⟩
      obtain ⟨e, y6⟩ := y6
      subst e
      have hz := y6 _ (SqT.of e5)
      rw [hb] at hz
      obtain rfl := Option.some.inj hz
      show wipe _ vs1 = _ ∧ _
      refine ⟨hw1 x _, ?_⟩
      refine yes_t ?_
      show ite _ _ _
      rw [if_pos rfl]
      obtain ⟨ys, s1, s2, s3, s4⟩ := p5
      refine h i x b _ _ hx s1 fun y H7 g7 ey => ?_
      have tp : Tups H7 (upd H7 D (.lst (ys ++ [y]))) := but_upd.tups (g7 _ _ s2)
      have nt : t ≠ D := ne_of e5 s2 (by intro z; cases z)
      refine ⟨ys, g7 _ _ s2, Nat.lt_of_lt_of_le (show ys.length < 100001 by omega) (by decide), ⟨ys ++ [y], sm_mut (s1.trans g7) hD, upd_same, by rw [List.length_append, s3]; rfl, fun m z hz => mono _ _ _ _ tp ?_⟩, by rw [upd_ne nt]; exact g7 _ _ e5⟩
      by_cases hm : m < ys.length
      · rw [List.getElem?_append_left hm] at hz
        exact mono _ _ _ _ (Same.tups g7) (s4 m z hz)
      · rw [List.getElem?_append_right (by omega)] at hz
        have hm2 : m - ys.length = 0 := by
          have := (List.getElem?_eq_some_iff.mp hz).1
          have : ([y] : List V).length = 1 := rfl
          omega
        rw [hm2] at hz
        obtain rfl := Option.some.inj hz
        have : m = 2 * i + b.toNat := by omega
        rw [this]
        exact ey
    · have : k = 2 := by omega
      subst this
      exact .inl ⟨⟨_, SqT.of e5, Nat.le_refl 2⟩, p5⟩
  · have e : i = xs.length := by omega
    subst e
    obtain ⟨ys, s1, s2, s3, s4⟩ := p
    exact .inl ⟨⟨xs, qt, Nat.le_refl _⟩, q D ys H' hD s1 s2 s3 s4⟩
/-- [e for x, y in a list of pairs], every item's value known -/
theorem lcL2 {K : PySem.W.Frag} {σ : St} {H : Hp} {Q : VK} {te : TE} {j j1 : Nat} {vs : List Nat} {a : Addr} {xs ys : List V} {n : Nat} (hn : xs.length = n) (hy : ys.length = n) (hw : ∀ x y, wipe (((wipe σ vs).set j (some x)).set j1 (some y)) vs = wipe σ vs) (ht : SqL K H a xs) (hl : n ≤ 100000)
    (P : ∀ (i : Nat) (v : V), xs[i]? = some v → ∃ t x y, v = .ref t ∧ H t = some (.tup [x, y]))
    (h : ∀ (i : Nat) (x y z : V) (t : Addr) H' (Q' : VK), xs[i]? = some (.ref t) → H t = some (.tup [x, y]) → ys[i]? = some z → Same H H' → (∀ H'', Same H' H'' → Q' z H'') → te (((wipe σ vs).set j (some x)).set j1 (some y)) H' Q')
    (q : ∀ D H2, H D = none → Same H H2 → H2 D = some (.lst ys) → Q (.ref D) H2) :
    IL K (.ref a) H (LcB (gTup K 2 (gCons (gName j) (gCons (gName j1) gNil))) tYes te vs σ Q) :=
  ⟨a, rfl, ⟨xs, ht⟩, fun D hD => lc_list (K := K) (a := a) (xs := xs) (fun i H' => Same H H' ∧ H' D = some (.lst (ys.take i))) ⟨sm_new hD _, upd_same⟩ (fun i H' _ p => sm_l p.1 ht)
    (fun i v H' hx p => by
      obtain ⟨t, x, y, rfl, e⟩ := P i v hx
      refine l_gtup (SqT.of (p.1 _ _ e)) rfl (l_gcons (l_name (l_gcons (l_name (l_gnil ?_)))))
      refine ⟨hw x y, yes_t ?_⟩
      show ite _ _ _
      rw [if_pos rfl]
      have hi := (List.getElem?_eq_some_iff.mp hx).1
      obtain ⟨z, hz⟩ : ∃ z, ys[i]? = some z := ⟨ys[i]'(by omega), List.getElem?_eq_getElem _⟩
      refine h i x y z t _ _ hx e hz p.1 fun H'' g => ?_
      refine ⟨ys.take i, g _ _ p.2, ?_, sm_mut (p.1.trans g) hD, ?_⟩
      · rw [List.length_take]
        exact Nat.lt_of_le_of_lt (Nat.le_trans (Nat.min_le_left _ _) (Nat.le_trans (Nat.le_of_lt hi) (show xs.length ≤ 100000 by omega))) (by decide)
      · rw [upd_same, take_snoc hz])
    fun H' p => q D H' hD p.1 (by have e := p.2; rw [hn, ← hy, List.take_length] at e; exact e)⟩
end J

namespace J
open PySem PySem.W PySem.SeqAt PyProof.Rows L2
section
variable {prog : Program} {w : World} {A : Around} {E : Value → Shared → Prop} {s : Shared}
theorem min_list_at {l : Addr} {vs : Array Value} {x : PyData} {xs : List PyData} {as : List Addr} {Q : Value → Shared → Prop} (hh : A.handled = none) (hl : s.heap.IsList l vs) (hr : ReadsAll s.heap vs.toList (x :: xs) as) (ha : AlikeAll (x :: xs)) (hu : A.units + 1 + PyData.depthAll (x :: xs) < cLine)
    (h : ∀ (i : Nat) v h' tk, vs[i]? = some v → (x :: xs).getD i .none = minD x xs → (∀ b o, s.heap.get? b = some o → h'.get? b = some o) → Q v { s with heap := h', toks := tk }) :
    wpAny (model prog w) A (call (.builtin "min") [.ref l]) Q E s := by
  have hn : vs.size = xs.length + 1 := readsAll_len hr
  refine call_min_walkH (iter_listW (A := A.in1) hh hl fun s₂ e W st hfp hw hk => ?_)
  refine ⟨_, _, _, _, _, _, _, s.heap, _, rfl, W, st, hfp, by omega, hw, hk, cmpIn_lt (A := A.in1) hr ha (by show A.units + 1 + _ < _; exact hu), fun v s' hP m => ?_⟩
  obtain ⟨h', tk, rfl, hk'⟩ := moved_old e rfl m
  have e1 : vs.size - 1 = xs.length := by omega
  have e2 := (argBest_fold dataLt PyData.none x xs xs.length (Nat.le_refl _)).2
  rw [List.take_length] at e2
  rw [e1] at hP
  exact h _ v h' tk hP e2 hk'
end
/-- min of a list of alike data -/
def rMinD (K : PySem.W.Frag) : List V → Hp → VK → Prop := fun vs H Q => ∃ (a : Addr) (xs : List V) (x : PyData) (ds : List PyData), vs = [V.ref a] ∧ SqL K H a xs ∧ DpAll K H xs (x :: ds) ∧ AlikeAll (x :: ds) ∧ PyData.depthAll (x :: ds) ≤ 60 ∧
  ∀ (i : Nat) (v : V), xs[i]? = some v → (x :: ds).getD i .none = minD x ds → Q v H
theorem cr_minD {X : Cx} (hc : X.calm = true) (hu : X.A.units + 64 < cLine) : CallR X (.builtin "min") (rMinD X.K) := by
  intro pins s σ H vs us Q I r h
  obtain ⟨a, xs, x, ds, rfl, hs, hd, ha, hp, q⟩ := h
  obtain ⟨its, rv, hl, _⟩ := I.list hs
  rw [Vals.ref1 r]
  obtain ⟨as, hr⟩ := Dp.readsAll I (x :: ds) xs its hd rv
  refine min_list_at (I.ok.hd hc) hl.isList (by simpa using hr) ha (by omega) fun i v h' tk hv he hk => ?_
  have hv' : its[i]? = some v := by simpa using hv
  cases hx : xs[i]? with
  | none =>
    have := rv.none_of hx
    rw [hv'] at this
    cases this
  | some y =>
    obtain ⟨u, hu1, ru⟩ := rv.get hx
    rw [hv'] at hu1
    obtain rfl := Option.some.inj hu1
    exact ⟨y, H, I.kept hk, ru, q i y hx he⟩
/-! the order -/
def lexS : List Bool → List Bool → Bool
  | [], [] => false
  | [], _ :: _ => true
  | _ :: _, [] => false
  | a :: r, b :: s => if a = b then lexS r s else b
theorem lexS_asym : ∀ a b, lexS a b = true → lexS b a = false
  | [], [], h => by cases h
  | [], _ :: _, _ => rfl
  | _ :: _, [], h => by cases h
  | a :: r, b :: s, h => by
    unfold lexS at h ⊢
    by_cases e : a = b
    · subst e
      rw [if_pos rfl] at h ⊢
      exact lexS_asym r s h
    · rw [if_neg e] at h
      rw [if_neg fun z => e z.symm]
      subst h
      cases a
      · rfl
      · exact absurd rfl e
theorem lexS_tr : ∀ x y z, lexS y x = false → lexS z y = false → lexS z x = false
  | [], [], z, _, h => h
  | [], _ :: _, [], h1, h2 => by cases h2
  | [], _ :: _, _ :: _, h1, h2 => rfl
  | _ :: _, [], _, h1, _ => by cases h1
  | _ :: _, _ :: _, [], _, h2 => by cases h2
  | a :: r, b :: s, c :: t, h1, h2 => by
    unfold lexS at h1 h2 ⊢
    by_cases e1 : b = a
    · subst e1
      rw [if_pos rfl] at h1
      by_cases e2 : c = b
      · subst e2
        rw [if_pos rfl] at h2 ⊢
        exact lexS_tr r s t h1 h2
      · rw [if_neg e2] at h2 ⊢
        exact h2
    · rw [if_neg e1] at h1
      subst h1
      by_cases e2 : c = b
      · subst e2
        rw [if_neg e1]
      · rw [if_neg e2] at h2
        subst h2
        cases c
        · exact absurd rfl e2
        · rw [if_neg (by decide)]
theorem lexS_B : ∀ ts us : List Bool, ts.length = us.length → lexS us ts = false → lexB ts us = true
  | [], _, _, _ => rfl
  | _ :: _, [], h, _ => by cases h
  | a :: r, b :: s, hl, h => by
    unfold lexS at h
    unfold lexB
    by_cases e : a = b
    · subst e
      rw [if_pos rfl] at h ⊢
      exact lexS_B r s (Nat.succ.inj hl) h
    · rw [if_neg fun z => e z.symm] at h
      rw [if_neg e]
      subst h
      cases b
      · exact absurd rfl e
      · rfl
theorem lexS_eq : ∀ ts us : List Bool, lexS us ts = false → lexS ts us = false → ts = us
  | [], [], _, _ => rfl
  | [], _ :: _, _, h => by cases h
  | _ :: _, [], h, _ => by cases h
  | a :: r, b :: s, h1, h2 => by
    unfold lexS at h1 h2
    by_cases e : a = b
    · subst e
      rw [if_pos rfl] at h1 h2
      rw [lexS_eq r s h1 h2]
    · rw [if_neg fun z => e z.symm] at h1
      rw [if_neg e] at h2
      rw [h1, h2] at e
      exact absurd rfl e
abbrev KL := Nat × List Bool
abbrev KJ := Nat × List Bool × Bool
def ltL (x y : KL) : Bool := decide (x.1 < y.1) || (decide (x.1 = y.1) && lexS x.2 y.2)
def ltJ (x y : KJ) : Bool := decide (x.1 < y.1) || (decide (x.1 = y.1) && (lexS x.2.1 y.2.1 || (decide (x.2.1 = y.2.1) && (!x.2.2 && y.2.2))))
theorem ltL_no {x y : KL} : ltL x y = false ↔ y.1 < x.1 ∨ (y.1 = x.1 ∧ lexS x.2 y.2 = false) := by
  unfold ltL
  by_cases h1 : x.1 < y.1
  · rw [decide_eq_true h1]; simp; omega
  · rw [decide_eq_false h1]
    by_cases h2 : x.1 = y.1
    · rw [decide_eq_true h2]; simp [h2]
    · rw [decide_eq_false h2]; simp; omega
theorem ltJ_no {x y : KJ} : ltJ x y = false ↔ y.1 < x.1 ∨ (y.1 = x.1 ∧ lexS x.2.1 y.2.1 = false ∧ (x.2.1 = y.2.1 → x.2.2 = true ∨ y.2.2 = false)) := by
  unfold ltJ
  by_cases h1 : x.1 < y.1
  · rw [decide_eq_true h1]; simp; omega
  · rw [decide_eq_false h1]
    by_cases h2 : x.1 = y.1
    · rw [decide_eq_true h2]
      have h3 : ¬ y.1 < x.1 := by omega
      by_cases h4 : x.2.1 = y.2.1
      · rw [decide_eq_true h4]; simp [h2, h3, h4]; intro _; cases x.2.2 <;> simp
      · rw [decide_eq_false h4]; simp [h2, h3, h4]
    · rw [decide_eq_false h2]; simp; omega
theorem trL (x y z : KL) (h1 : ltL y x = false) (h2 : ltL z y = false) : ltL z x = false := by
  rw [ltL_no] at *
  rcases h1 with h1 | ⟨e1, h1⟩ <;> rcases h2 with h2 | ⟨e2, h2⟩
  · exact .inl (by omega)
  · exact .inl (by omega)
  · exact .inl (by omega)
  · exact .inr ⟨by omega, lexS_tr _ _ _ h1 h2⟩
theorem trJ (x y z : KJ) (h1 : ltJ y x = false) (h2 : ltJ z y = false) : ltJ z x = false := by
  rw [ltJ_no] at *
  rcases h1 with h1 | ⟨e1, h1, k1⟩ <;> rcases h2 with h2 | ⟨e2, h2, k2⟩
  · exact .inl (by omega)
  · exact .inl (by omega)
  · exact .inl (by omega)
  · refine .inr ⟨by omega, lexS_tr _ _ _ h1 h2, fun e => ?_⟩
    have ey : y.2.1 = x.2.1 := by
      rw [e] at h2
      exact (lexS_eq x.2.1 y.2.1 h1 h2).symm
    rcases k2 (e.trans ey.symm) with k | k
    · exact .inl k
    · rcases k1 ey with k' | k'
      · rw [k] at k'; cases k'
      · exact .inr k'
theorem asymL (x y : KL) (h : ltL x y = true) : ltL y x = false := by
  cases e : ltL y x with
  | false => rfl
  | true =>
    unfold ltL at h e
    simp at h e
    rcases h with h | ⟨h1, h2⟩ <;> rcases e with e | ⟨e1, e2⟩
    · omega
    · omega
    · omega
    · rw [lexS_asym _ _ h2] at e2; cases e2
theorem asymJ (x y : KJ) (h : ltJ x y = true) : ltJ y x = false := by
  cases e : ltJ y x with
  | false => rfl
  | true =>
    unfold ltJ at h e
    simp at h e
    rcases h with h | ⟨h1, h2⟩ <;> rcases e with e | ⟨e1, e2⟩
    · omega
    · omega
    · omega
    · rcases h2 with h2 | ⟨h3, h4, h5⟩ <;> rcases e2 with e2 | ⟨e3, e4, e5⟩
      · rw [lexS_asym _ _ h2] at e2; cases e2
      · rw [e3] at h2; have := lexS_asym _ _ h2; rw [this] at h2; cases h2
      · rw [h3] at e2; have := lexS_asym _ _ e2; rw [this] at e2; cases e2
      · rw [h4] at e5; cases e5
theorem fold_least {α : Type} {lt : α → α → Bool} (tr : ∀ x y z, lt y x = false → lt z y = false → lt z x = false) (asym : ∀ x y, lt x y = true → lt y x = false) : ∀ (xs : List α) (x : α),
    xs.foldl (fun a y => if lt y a then y else a) x ∈ x :: xs ∧ ∀ y ∈ x :: xs, lt y (xs.foldl (fun a y => if lt y a then y else a) x) = false
  | [], x => ⟨List.mem_cons_self, fun y hy => by
      rw [List.mem_singleton.mp hy]
      show lt x x = false
      cases e : lt x x with
      | false => rfl
      | true => rw [asym x x e] at e; cases e⟩
  | z :: xs, x => by
    rw [List.foldl_cons]
    by_cases h : lt z x = true
    · rw [if_pos h]
      obtain ⟨m1, m2⟩ := fold_least tr asym xs z
      refine ⟨List.mem_cons_of_mem _ m1, fun y hy => ?_⟩
      rcases List.mem_cons.mp hy with rfl | hy
      · exact tr _ _ _ (m2 z List.mem_cons_self) (asym _ _ h)
      · exact m2 y hy
    · rw [if_neg h]
      obtain ⟨m1, m2⟩ := fold_least tr asym xs x
      refine ⟨?_, fun y hy => ?_⟩
      · rcases List.mem_cons.mp m1 with m1 | m1
        · rw [m1]; exact List.mem_cons_self
        · exact List.mem_cons_of_mem _ (List.mem_cons_of_mem _ m1)
      · rcases List.mem_cons.mp hy with rfl | hy
        · exact m2 _ List.mem_cons_self
        · rcases List.mem_cons.mp hy with rfl | hy
          · exact tr _ _ _ (m2 x List.mem_cons_self) (by cases e : lt y x with | false => rfl | true => exact absurd e h)
          · exact m2 y (List.mem_cons_of_mem _ hy)
/-! as data -/
def bd (ts : List Bool) : List PyData := ts.map fun b => PyData.int (bi b)
def eL (x : KL) : PyData := .tuple [.int (x.1 : Int), .list (bd x.2)]
def eJ (x : KJ) : PyData := .tuple [.int (x.1 : Int), .list (bd x.2.1), .int (bi x.2.2)]
theorem alike_bd : ∀ ts us : List Bool, alikeAll (bd ts) (bd us) = true
  | [], _ => by unfold bd; rw [List.map_nil]; unfold alikeAll; rfl
  | _ :: _, [] => by unfold bd; rw [List.map_nil, List.map_cons]; unfold alikeAll; rfl
  | a :: r, b :: s => by
    show alikeAll (PyData.int (bi a) :: bd r) (PyData.int (bi b) :: bd s) = true
    rw [alikeAll, alike_bd r s]
    simp [alike]
theorem eqv_bd : ∀ ts us : List Bool, PyData.eqvAll (bd ts) (bd us) = decide (ts = us)
  | [], [] => rfl
  | [], _ :: _ => rfl
  | _ :: _, [] => rfl
  | a :: r, b :: s => by
    show (bi a == bi b && PyData.eqvAll (bd r) (bd s)) = _
    rw [eqv_bd r s]
    by_cases h : r = s
    · subst h; cases a <;> cases b <;> simp [bi]
    · rw [decide_eq_false h, decide_eq_false (fun e => h (List.cons.inj e).2), Bool.and_false]
theorem dlt_int (a b : Int) : dataLt (.int a) (.int b) = decide (a < b) := by
  show PyProof.Rows.lexLt itemOrd [.inl a] [.inl b] = _
  by_cases h : a = b
  · subst h
    rw [lex_self (O := itemOrd) (.inl a) [] []]
    rw [decide_eq_false (by omega)]; rfl
  · rw [lex_diff (O := itemOrd) (by intro e; exact h (Sum.inl.inj e))]; rfl
theorem dlt_bd : ∀ ts us : List Bool, dataLt (.list (bd ts)) (.list (bd us)) = lexS ts us
  | [], [] => by
    show PyProof.Rows.lexLt itemOrd [.inl 0] [.inl 0] = false
    rw [lex_self (O := itemOrd) (.inl 0) [] []]; rfl
  | [], b :: s => by
    show PyProof.Rows.lexLt itemOrd [.inl 0] (.inl 1 :: _) = true
    rw [lex_diff (O := itemOrd) (by decide)]; rfl
  | a :: r, [] => by
    show PyProof.Rows.lexLt itemOrd (.inl 1 :: _) [.inl 0] = false
    rw [lex_diff (O := itemOrd) (by decide)]; rfl
  | a :: r, b :: s => by
    have ih := dlt_bd r s
    unfold lexS
    show PyProof.Rows.lexLt itemOrd (keyToksAll (.int (bi a) :: bd r)) (keyToksAll (.int (bi b) :: bd s)) = _
    by_cases h : a = b
    · subst h
      rw [if_pos rfl, dataLt_all_yes (by simp [alike]) (by show (bi a == bi a) = true; simp)]
      exact ih
    · rw [if_neg h, dataLt_all_no (by simp [alike]) (by show (bi a == bi b) = false; cases a <;> cases b <;> simp [bi] at h ⊢), dlt_int]
      cases a <;> cases b <;> first | rfl | exact absurd rfl h
theorem lt_nil2 : PyProof.Rows.lexLt itemOrd (keyToksAll []) (keyToksAll []) = false := by
  show PyProof.Rows.lexLt itemOrd [.inl 0] [.inl 0] = false
  rw [lex_self (O := itemOrd) (.inl 0) [] []]; rfl
theorem alike_l (ts us : List Bool) : alike (.list (bd ts)) (.list (bd us)) = true := by
  unfold alike; exact alike_bd ts us
theorem dlt_L (x y : KL) : dataLt (eL x) (eL y) = ltL x y := by
  obtain ⟨n, ts⟩ := x
  obtain ⟨m, us⟩ := y
  show PyProof.Rows.lexLt itemOrd (keyToksAll [.int (n : Int), .list (bd ts)]) (keyToksAll [.int (m : Int), .list (bd us)]) = _
  unfold ltL
  by_cases h : n = m
  · subst h
    rw [dataLt_all_yes (by simp [alike]) (by show ((n : Int) == (n : Int)) = true; simp), decide_eq_false (Nat.lt_irrefl _), decide_eq_true rfl, Bool.false_or, Bool.true_and]
    by_cases h2 : ts = us
    · subst h2
      rw [dataLt_all_yes (alike_l ts ts) (by show PyData.eqvAll (bd ts) (bd ts) = true; rw [eqv_bd]; exact decide_eq_true rfl), lt_nil2]
      cases e : lexS ts ts with
      | false => rfl
      | true => rw [lexS_asym _ _ e] at e; cases e
    · rw [dataLt_all_no (alike_l ts us) (by show PyData.eqvAll (bd ts) (bd us) = false; rw [eqv_bd]; exact decide_eq_false h2), dlt_bd]
  · rw [dataLt_all_no (by simp [alike]) (by show ((n : Int) == (m : Int)) = false; rw [beq_eq_false_iff_ne]; omega), dlt_int, decide_eq_false h, Bool.false_and, Bool.or_false]
    by_cases h2 : n < m
    · rw [decide_eq_true h2, decide_eq_true (by omega)]
    · rw [decide_eq_false h2, decide_eq_false (by omega)]
theorem dlt_J (x y : KJ) : dataLt (eJ x) (eJ y) = ltJ x y := by
  obtain ⟨n, ts, f⟩ := x
  obtain ⟨m, us, g⟩ := y
  show PyProof.Rows.lexLt itemOrd (keyToksAll [.int (n : Int), .list (bd ts), .int (bi f)]) (keyToksAll [.int (m : Int), .list (bd us), .int (bi g)]) = _
  unfold ltJ
  by_cases h : n = m
  · subst h
    rw [dataLt_all_yes (by simp [alike]) (by show ((n : Int) == (n : Int)) = true; simp), decide_eq_false (Nat.lt_irrefl _), decide_eq_true rfl, Bool.false_or, Bool.true_and]
    by_cases h2 : ts = us
    · subst h2
      rw [dataLt_all_yes (alike_l ts ts) (by show PyData.eqvAll (bd ts) (bd ts) = true; rw [eqv_bd]; exact decide_eq_true rfl), decide_eq_true rfl, Bool.true_and]
      have e0 : lexS ts ts = false := by
        cases e : lexS ts ts with
        | false => rfl
        | true => rw [lexS_asym _ _ e] at e; cases e
      show _ = (lexS ts ts || (!f && g))
      rw [e0, Bool.false_or]
      by_cases h3 : f = g
      · subst h3
        rw [dataLt_all_yes (by simp [alike]) (by show (bi f == bi f) = true; simp), lt_nil2]
        cases f <;> rfl
      · rw [dataLt_all_no (by simp [alike]) (by show (bi f == bi g) = false; cases f <;> cases g <;> simp [bi] at h3 ⊢), dlt_int]
        cases f <;> cases g <;> first | rfl | exact absurd rfl h3
    · rw [dataLt_all_no (alike_l ts us) (by show PyData.eqvAll (bd ts) (bd us) = false; rw [eqv_bd]; exact decide_eq_false h2), dlt_bd, decide_eq_false h2, Bool.false_and, Bool.or_false]
  · rw [dataLt_all_no (by simp [alike]) (by show ((n : Int) == (m : Int)) = false; rw [beq_eq_false_iff_ne]; omega), dlt_int, decide_eq_false h, Bool.false_and, Bool.or_false]
    by_cases h2 : n < m
    · rw [decide_eq_true h2, decide_eq_true (by omega)]
    · rw [decide_eq_false h2, decide_eq_false (by omega)]
theorem fold_map {α : Type} (e : α → PyData) (lt : α → α → Bool) (h : ∀ x y, dataLt (e x) (e y) = lt x y) : ∀ (xs : List α) (x : α), minD (e x) (xs.map e) = e (xs.foldl (fun a y => if lt y a then y else a) x)
  | [], _ => rfl
  | z :: xs, x => by
    have ih := fold_map e lt h xs
    show minD (if dataLt (e z) (e x) then e z else e x) (xs.map e) = e (xs.foldl _ (if lt z x then z else x))
    rw [h]
    split
    · exact ih z
    · exact ih x
/-! sorted, of lists of bits -/
def rSortedD (K : PySem.W.Frag) : List V → Hp → VK → Prop := fun vs H Q => ∃ (a : Addr) (bs : List (V × List Bool)), vs = [V.ref a] ∧ SqL K H a (bs.map Prod.fst) ∧ (∀ b ∈ bs, Dp K H b.1 (.list (bd b.2))) ∧ bs.length ≤ 1000 ∧
  ∀ (cs : List (V × List Bool)) (p : Addr), cs.Perm bs → H p = none → Q (.ref p) (upd H p (.lst (cs.map Prod.fst)))
theorem each_fst : ∀ {bs : List (V × List Bool)} {us : List Value}, Vals (bs.map Prod.fst) us → EachIs (fun v (b : V × List Bool) => RelV b.1 v) us bs
  | [], _, r => by cases r; exact .nil
  | b :: bs, _, r => by
    cases r with
    | cons h t => exact .cons h (each_fst t)
theorem fst_each : ∀ {bs : List (V × List Bool)} {us : List Value}, EachIs (fun v (b : V × List Bool) => RelV b.1 v) us bs → Vals (bs.map Prod.fst) us
  | _, _, .nil => .nil
  | _, _, .cons h t => .cons h (fst_each t)
theorem dep_bds : ∀ ts : List Bool, PyData.depthAll (bd ts) = 0
  | [] => rfl
  | b :: r => by
    show max 0 (PyData.depthAll (bd r)) = 0
    rw [dep_bds r]; rfl
theorem each_reads {X : Cx} {pins : List (Addr × Obj)} {σ : L2.St} {H : Hp} {s : Shared} (I : Inv X pins σ H s) : ∀ {bs : List (V × List Bool)} {us : List Value}, EachIs (fun v (b : V × List Bool) => RelV b.1 v) us bs → (∀ b ∈ bs, Dp X.K H b.1 (.list (bd b.2))) → EachIs (fun v (b : V × List Bool) => ∃ as, Reads s.heap v (.list (bd b.2)) as) us bs
  | _, _, .nil, _ => .nil
  | _, _, .cons h t, hd => .cons (Dp.reads I _ _ _ (hd _ List.mem_cons_self) h) (each_reads I t fun b hb => hd b (List.mem_cons_of_mem _ hb))
theorem cr_sortedD {X : Cx} (hu : X.A.units + 64 < cLine) : CallR X (.builtin "sorted") (rSortedD X.K) := by
  intro pins s σ H vs us Q I r h
  obtain ⟨a, bs, rfl, hs, hd, hl, q⟩ := h
  obtain ⟨its, rv, hL, hz⟩ := I.list hs
  rw [Vals.ref1 r]
  have hsz : bs.length ≤ sizeLine := Nat.le_trans (show bs.length ≤ 100000 by omega) (by decide)
  refine sorted_data (enc := fun b : V × List Bool => PyData.list (bd b.2)) hL.isList (each_fst rv) (each_reads I (each_fst rv) hd) (AllAlike.of fun b b' => alike_l b.2 b'.2) (Sortable.others fun b => ⟨PyData.noConfusion, fun xs => PyData.noConfusion⟩) hsz (fun b _ => ?_) fun out hlen eo => ?_
  · show X.A.units + 2 + (PyData.depthAll (bd b.2) + 1) < cLine
    rw [dep_bds]
    omega
  · obtain ⟨ep, he'⟩ := PyProof.Rows.sortedAll_at s.heap its out.toArray
    refine ⟨.ref _, upd H (s.heap.objs.size + 1) (.lst ((bs.mergeSort (dataLe false fun b : V × List Bool => PyData.list (bd b.2))).map Prod.fst)), I.laid (t' := s.toks) (fun _ _ => PyProof.Rows.sortedAll_old) (Nat.le_succ _) ⟨?_, out, ep, fst_each eo, he'⟩, rfl, q _ _ (List.mergeSort_perm _ _) (I.hok.fresh (Nat.le_succ _))⟩
    rw [List.length_map, (List.mergeSort_perm _ _).length_eq]
    exact hsz
theorem dp_bds {K : PySem.W.Frag} {H : Hp} : ∀ ts : List Bool, DpAll K H (ts.map vb) (bd ts)
  | [] => .nil
  | b :: r => .cons (.int _) (dp_bds r)
theorem lcL_invD {K : PySem.W.Frag} {σ : L2.St} {H : Hp} {Q : VK} {te : TE} {j : Nat} {vs : List Nat} {a : Addr} {xs : List V} (J : Addr → Nat → List V → Hp → Prop) (hw : ∀ x, wipe ((wipe σ vs).set j (some x)) vs = wipe σ vs) (ht : SqL K H a xs) (hl : xs.length ≤ 100000)
    (st : ∀ D i ys H', J D i ys H' → Same H H') (h0 : ∀ D H', H D = none → Same H H' → J D 0 [] H') (keep : ∀ i ys (D : Addr) H' o, H D = none → J D i ys H' → J D i ys (upd H' D o)) (len : ∀ D i ys H', J D i ys H' → ys.length = i)
    (h : ∀ (i : Nat) (x : V) (D : Addr) ys H' (Q' : VK), xs[i]? = some x → H D = none → J D i ys H' → H' D = some (.lst ys) → (∀ y H'', J D (i + 1) (ys ++ [y]) H'' → H'' D = some (.lst ys) → Q' y H'') → te ((wipe σ vs).set j (some x)) H' Q')
    (q : ∀ D ys H2, H D = none → J D xs.length ys H2 → H2 D = some (.lst ys) → Q (.ref D) H2) : IL K (.ref a) H (LcB (gName j) tYes te vs σ Q) :=
  ⟨a, rfl, ⟨xs, ht⟩, fun D hD => by
    refine lc_list (K := K) (a := a) (xs := xs) (fun i H' => ∃ ys, J D i ys H' ∧ H' D = some (.lst ys)) ⟨[], h0 D _ hD (sm_new hD _), upd_same⟩ (fun i H' _ ⟨ys, jj, _⟩ => sm_l (st _ _ _ _ jj) ht) (fun i x H' hx p => ⟨hw x, ?_⟩) fun H' ⟨ys, jj, e⟩ => q D ys H' hD jj e
    obtain ⟨ys, jj, e⟩ := p
    have hi := (List.getElem?_eq_some_iff.mp hx).1
    refine h i x D ys H' _ hx hD jj e fun y H'' j2 e2 => ?_
    have hn := len _ _ _ _ jj
    exact ⟨ys, e2, Nat.lt_of_lt_of_le (show ys.length < 100001 by omega) (by decide), ys ++ [y], keep _ _ _ _ _ hD j2, upd_same⟩⟩
end J

namespace J
open PySem PySem.Spec PyProof.Rows L2
/-! for i, c in enumerate(s), s a text -/
def ItES (x : Str) : It := ⟨fun i _ => i < x.cps.size, fun i H v H' => ∃ T c, v = .ref T ∧ H T = none ∧ H' = upd H T (.tup [.int (i : Nat), .str ⟨#[c]⟩]) ∧ x.cps[i]? = some c, fun i _ => x.cps.size ≤ i⟩
theorem turn_enumS {P : Program} {w : World} {K : PySem.W.Frag} {elts : List Expr} {kk : Nat} {tpos : Pos} (e it : Addr) (x : Str) (t : Tok) (ty : String) (hty : ty = "str_ascii_iterator" ∨ ty = "str_iterator") :
    Turn P w K (.Tuple elts kk tpos) (ItES x) [e, it] e (fun i h => (∃ old, IsEnum h e it ((i : Nat) : Int) old) ∧ h.IsStrIter it ty x t i ∧ e ≠ it ∧ i ≤ x.cps.size) where
  mem := by simp
  obj := fun i h st b hb => by
    obtain ⟨⟨old, he⟩, ⟨o, ho, hc, hd⟩, _⟩ := st
    have e' : b = e ∨ b = it := by simpa using hb
    rcases e' with z | z
    · rw [z]; exact ⟨_, he, fun v q => nomatch q⟩
    · rw [z]; exact ⟨o, ho, fun v q => by rw [hd] at q; cases q⟩
  keep := fun i h h' st k => let ⟨⟨old, he⟩, ⟨o, ho, r⟩, hne, hle⟩ := st; ⟨⟨old, k e (by simp) _ he⟩, ⟨o, k it (by simp) o ho, r⟩, hne, hle⟩
  item := by
    intro X hP hw hK hc i pins s σ H E I hf st hg
    subst hP hw hK
    obtain ⟨⟨old, he⟩, hit, hne, hle⟩ := st
    have hel : e < s.heap.objs.size := Heap.lt_size he
    have hil : it < s.heap.objs.size := by obtain ⟨_, q, _⟩ := hit; exact Heap.lt_size q
    have D : Draws X.prog X.w X.A.in1 it [it] x.cps.size (fun i v => ∃ c u, x.cps[i]? = some c ∧ v = .str ⟨#[c]⟩ u) (fun i h => h.IsStrIter it ty x t i) := by
      rcases hty with z | z
      · rw [z]; exact Draws.strAscii (by exact I.ok.hd hc) it x t
      · rw [z]; exact Draws.strWide (by exact I.ok.hd hc) it x t
    have hef : e ∉ [it] := by simpa using hne
    refine wpAny_pyNext_enum_itemD D he hit hg hne hef fun v h' tk hv ho hit' hT hsz hk => ?_
    obtain ⟨c, u, hcx, rfl⟩ := hv
    refine ⟨_, rfl, wpAny_letOwnedTupleGo_enum (s := { s with heap := h', toks := tk + 1 }) ho fun h'' he' sb => ?_⟩
    have hT2 : h''.get? s.heap.objs.size = some { cls := .type "tuple", data := .seq #[.int i tk, .str ⟨#[c]⟩ u] } := (sb.2 _ (Nat.ne_of_gt hel)).trans hT
    have new : ObjOk X.prog X.w (upd H s.heap.objs.size (.tup [.int (i : Nat), .str ⟨#[c]⟩])) h'' s.heap.objs.size (.tup [.int (i : Nat), .str ⟨#[c]⟩]) :=
      ⟨by show 2 ≤ sizeLine; decide, [.int i tk, .str ⟨#[c]⟩ u], .cons ⟨_, rfl⟩ (.cons ⟨_, rfl⟩ .nil), ⟨_, hT2, rfl, _, rfl⟩⟩
    have I1 : Inv X pins σ (upd H s.heap.objs.size (.tup [.int (i : Nat), .str ⟨#[c]⟩])) { s with heap := h'', toks := tk + 1 } :=
      I.turnedNew (ch := [e, it]) (fun b ob hb q => (sb.2 b (fun z => hb (by simp [z]))).trans (hk b ob (fun z => hb (by simp [z])) (fun z => hb (by simp [z])) q)) hf (Nat.le_refl _) new
    have hit2 : h''.IsStrIter it ty x t (i + 1) := by
      obtain ⟨o, ho2, r⟩ := hit'
      exact ⟨o, (sb.2 it (Ne.symm hne)).trans ho2, r⟩
    refine ⟨.ref s.heap.objs.size, _, I1, rfl, ⟨_, c, rfl, I.hok.fresh (Nat.le_refl _), rfl, hcx⟩, ⟨⟨.str ⟨#[c]⟩ u, ?_⟩, hit2, hne, hg⟩, fun b hb => ?_⟩
    · have e1 : ((i + 1 : Nat) : Int) = (i : Int) + 1 := by omega
      rw [e1]; exact he'
    · have hb' : b < s.heap.objs.size := by
        have e' : b = e ∨ b = it := by simpa using hb
        rcases e' with z | z
        · rw [z]; exact hel
        · rw [z]; exact hil
      rw [upd_ne (Nat.ne_of_lt hb')]
      exact (hf b hb).1
  done := by
    intro X hP hw hK hc i pins s σ H E I hf st hg
    subst hP hw hK
    obtain ⟨⟨old, he⟩, hit, hne, hle⟩ := st
    obtain ⟨f0, f1, f2, f3, f4, f5⟩ := hf it (by simp)
    have hge : x.cps.size ≤ i := hg
    obtain rfl : i = x.cps.size := Nat.le_antisymm hle hge
    have D : Draws X.prog X.w X.A.in1 it [it] x.cps.size (fun i v => ∃ c u, x.cps[i]? = some c ∧ v = .str ⟨#[c]⟩ u) (fun i h => h.IsStrIter it ty x t i) := by
      rcases hty with z | z
      · rw [z]; exact Draws.strAscii (by exact I.ok.hd hc) it x t
      · rw [z]; exact Draws.strWide (by exact I.ok.hd hc) it x t
    exact wpAny_pyNext_enum_endD D he hit fun h' eb => ⟨rfl, I.turned (t' := s.toks) (fun b o hb q => eb b o hb q) f0 f1 f3 f4 f5⟩
  self := fun A i s Q E st h => let ⟨⟨_, he⟩, _⟩ := st; wpAny_pyIter_enum he h
def iEnumS (ta : TA) : TI := fun σ H R => ta σ H fun vs H1 => ∃ x, vs = [.str x] ∧ R (ItES x) H1
theorem pi_enumS {X : Cx} {e : Expr} {ta : TA} {p pos tpos : Pos} {elts : List Expr} {kk : Nat} (hg : Gl X "enumerate") (hm : X.mg "enumerate" = none) (ha : PA X [e] ta) (hs : starEach [e] X.env = [(false, eval e X.env)] := by rfl) :
    PI X (.Tuple elts kk tpos) (.Call (.Name "enumerate" p) [e] [] pos) (iEnumS ta) := by
  refine ⟨fun pins s σ H R I h => ?_⟩
  refine Call_ (ld_blt I hg hm boot_enumerate (PyProof.Rows.callWith_type1 (thn (ha.run pos pins s σ H _ I h) fun us s1 ⟨vs, H1, I1, r1, q1⟩ => ?_) hs rfl))
  obtain ⟨x, ex, q⟩ := q1
  subst ex
  cases r1 with
  | cons r rr =>
    cases rr
    obtain ⟨t, rfl⟩ := r
    refine call_enumerate_str fun h' he hit hsz hk => wpAny_pyIter_enum he ?_
    have I2 : Inv X pins σ H1 { s1 with heap := h' } := I1.kept (t' := s1.toks) hk
    refine ⟨s1.heap.objs.size + 1, [s1.heap.objs.size + 1, s1.heap.objs.size], _, _, H1, rfl, I2, turn_enumS (s1.heap.objs.size + 1) s1.heap.objs.size x t (strIterType x) (by unfold strIterType; split <;> first | exact .inl rfl | exact .inr rfl), ⟨⟨.none, he⟩, hit, Nat.succ_ne_self _, Nat.zero_le _⟩, fun b hb => ?_, q⟩
    have e' : b = s1.heap.objs.size + 1 ∨ b = s1.heap.objs.size := by simpa using hb
    have hle : s1.heap.objs.size ≤ b := by
      rcases e' with z | z
      · rw [z]; exact Nat.le_add_right _ _
      · rw [z]; exact Nat.le_refl _
    exact I1.fpOk hle (I1.hok.fresh hle)
/-! k in d, d a written dict -/
def KHas (K : PySem.W.Frag) (w : World) (a : Addr) (x : Str) (b : Bool) : Prop := ∃ es n r, K.lookup a = some ⟨.type "dict", none, .dict es n, #[]⟩ ∧ PySem.W.KeysLit w.params es.toList ∧ (a == sysModules) = false ∧ PySem.W.nsIn K a x = some r ∧ r.isSome = b
def rInKD (K : PySem.W.Frag) (w : World) : R2 := fun x y H Q => ∃ z p b, x = .str z ∧ y = .ref p ∧ KHas K w p z b ∧ Q (.bl b) H
theorem op_inKD {X : Cx} : OpR X (compareOp .In) (rInKD X.K X.w) := by
  intro pins s σ H x y v u Q I rx ry h
  obtain ⟨z, p, b, rfl, rfl, ⟨es, n, r, hl, hk, low, e, eb⟩, q⟩ := h
  obtain ⟨t, rfl⟩ := rx
  obtain rfl : u = Value.ref p := ry
  have hm := PySem.W.mapOf_K (prog := X.prog) (w := X.w) I.kIn hl hk
  refine wpAny_in_of (strKind_is X.prog X.w z t) low hm ?_
  rw [PySem.W.find_K hl e, eb]
  exact ⟨.bl b, H, I.tok _, rfl, q⟩
def tJoin (ts : List TE) : TE := fun σ H Q => tJs ts Str.empty σ H fun out H1 => Q (.str out) H1
def rInSign : R2 := fun x y H Q => ∃ (c : Nat) (z : Str), x = .str ⟨#[c]⟩ ∧ y = .str z ∧ Q (.bl (decide (c ∈ z.cps.toList))) H
/-- s.index(t), there -/
def rIndexS : V → List V → Hp → VK → Prop := fun x xs H Q => ∃ (a b : Str) (k : Nat), x = .str a ∧ xs = [.str b] ∧ Txt.index0 a b = some k ∧ Q (.int (k : Nat)) H
theorem mt_indexS {X : Cx} : MtR X "str.index" rIndexS := by
  intro pins s σ H x xs v us Q I rx rs h
  obtain ⟨a, b, k, rfl, rfl, e, w⟩ := h
  obtain ⟨t, rfl⟩ := rx
  cases rs with
  | cons r1 rs =>
    cases rs
    obtain ⟨u, rfl⟩ := r1
    cases q : Builtin.Str.occurrences a b 0 a.length 1 with
    | nil =>
      unfold Txt.index0 at e
      rw [q] at e
      cases e
    | cons k' rest =>
      unfold Txt.index0 at e
      rw [q] at e
      obtain rfl : k' = k := Option.some.inj e
      exact PySem.SC.index q ⟨.int (k' : Nat), H, I.tok _, ⟨_, rfl⟩, w⟩
end J

namespace J
open PySem L2
/-! trees of data: lists of their own -/
/-- what stands but for the lists of F -/
def Off (F : Addr → Prop) (H H' : Hp) : Prop := ∀ a o, H a = some o → (¬ F a ∨ ∃ xs, o = .tup xs) → H' a = some o
def New (H H' : Hp) (a : Addr) : Prop := H a = none ∧ H' a ≠ none
def Atm (v : V) (d : PyData) : Prop := (v = .non ∧ d = .none) ∨ (∃ b, v = .bl b ∧ d = .bool b) ∨ (∃ i, v = .int i ∧ d = .int i) ∨ ∃ x, v = .str x ∧ d = .str x ∧ PyData.strOk x = true
def Parts (T : (Addr → Prop) → V → PyData → Prop) (F : Addr → Prop) (G : Nat → Addr → Prop) (xs : List V) (ds : List PyData) : Prop :=
  xs.length = ds.length ∧ xs.length ≤ 1000 ∧ (∀ (i : Nat) x e, xs[i]? = some x → ds[i]? = some e → T (G i) x e) ∧ (∀ i a, G i a → F a) ∧ ∀ (i j : Nat) a, i ≠ j → G i a → ¬ G j a
def Tr (H : Hp) : Nat → (Addr → Prop) → V → PyData → Prop
  | 0, _, _, _ => False
  | n + 1, F, v, d => Atm v d ∨
      (∃ a xs ds G, v = .ref a ∧ d = .tuple ds ∧ H a = some (.tup xs) ∧ Parts (Tr H n) F G xs ds) ∨
      (∃ a xs ds G, v = .ref a ∧ d = .list ds ∧ H a = some (.lst xs) ∧ F a ∧ (∀ i, ¬ G i a) ∧ Parts (Tr H n) F G xs ds)
theorem Tr.frame {H H' : Hp} : ∀ {n : Nat} {F : Addr → Prop} {v : V} {d : PyData}, (∀ a o, H a = some o → (F a ∨ ∃ xs, o = .tup xs) → H' a = some o) → Tr H n F v d → Tr H' n F v d
  | 0, _, _, _, _, h => h
  | n + 1, F, v, d, g, h => by
    have hp : ∀ {G xs ds}, Parts (Tr H n) F G xs ds → Parts (Tr H' n) F G xs ds := fun {G xs ds} p =>
      ⟨p.1, p.2.1, fun i x e hx he => Tr.frame (fun a o ho hf => g a o ho (hf.imp (p.2.2.2.1 i a) id)) (p.2.2.1 i x e hx he), p.2.2.2⟩
    rcases h with h | ⟨a, xs, ds, G, e1, e2, e3, p⟩ | ⟨a, xs, ds, G, e1, e2, e3, fa, ng, p⟩
    · exact .inl h
    · exact .inr (.inl ⟨a, xs, ds, G, e1, e2, g _ _ e3 (.inr ⟨_, rfl⟩), hp p⟩)
    · exact .inr (.inr ⟨a, xs, ds, G, e1, e2, g _ _ e3 (.inl fa), fa, ng, hp p⟩)
theorem Tr.mono {H H' : Hp} {n : Nat} {F : Addr → Prop} {v : V} {d : PyData} (h : Tr H n F v d) (g : Same H H') : Tr H' n F v d := Tr.frame (fun a o e _ => g a o e) h
theorem Tr.off {H H' : Hp} {n : Nat} {F F' : Addr → Prop} {v : V} {d : PyData} (h : Tr H n F v d) (g : Off F' H H') (n1 : ∀ a, F a → ¬ F' a) : Tr H' n F v d := Tr.frame (fun a o e hf => g a o e (hf.imp (n1 a) id)) h
theorem Parts.sub {T : (Addr → Prop) → V → PyData → Prop} {F F' : Addr → Prop} {G xs ds} (s : ∀ a, F a → F' a) (p : Parts T F G xs ds) : Parts T F' G xs ds := ⟨p.1, p.2.1, p.2.2.1, fun i a h => s a (p.2.2.2.1 i a h), p.2.2.2.2⟩
theorem Tr.sub {H : Hp} {n : Nat} {F F' : Addr → Prop} {v : V} {d : PyData} (h : Tr H n F v d) (s : ∀ a, F a → F' a) : Tr H n F' v d := by
  cases n with
  | zero => exact h
  | succ n =>
    rcases h with h | ⟨a, xs, ds, G, e1, e2, e3, p⟩ | ⟨a, xs, ds, G, e1, e2, e3, fa, ng, p⟩
    · exact .inl h
    · exact .inr (.inl ⟨a, xs, ds, G, e1, e2, e3, p.sub s⟩)
    · exact .inr (.inr ⟨a, xs, ds, G, e1, e2, e3, s a fa, ng, p.sub s⟩)
theorem Tr.up {H : Hp} : ∀ {n : Nat} {F : Addr → Prop} {v : V} {d : PyData}, Tr H n F v d → Tr H (n + 1) F v d
  | 0, _, _, _, h => h.elim
  | n + 1, F, v, d, h => by
    have hp : ∀ {G xs ds}, Parts (Tr H n) F G xs ds → Parts (Tr H (n + 1)) F G xs ds := fun {G xs ds} p => ⟨p.1, p.2.1, fun i x e hx he => (p.2.2.1 i x e hx he).up, p.2.2.2⟩
    rcases h with h | ⟨a, xs, ds, G, e1, e2, e3, p⟩ | ⟨a, xs, ds, G, e1, e2, e3, fa, ng, p⟩
    · exact .inl h
    · exact .inr (.inl ⟨a, xs, ds, G, e1, e2, e3, hp p⟩)
    · exact .inr (.inr ⟨a, xs, ds, G, e1, e2, e3, fa, ng, hp p⟩)
theorem Tr.le {H : Hp} {n m : Nat} {F : Addr → Prop} {v : V} {d : PyData} (h : Tr H n F v d) (l : n ≤ m) : Tr H m F v d := by
  induction l with
  | refl => exact h
  | step _ ih => exact ih.up
theorem dpAll_tr {K : PySem.W.Frag} {H : Hp} : ∀ {xs : List V} {ds : List PyData}, xs.length = ds.length → (∀ (i : Nat) x e, xs[i]? = some x → ds[i]? = some e → Dp K H x e) → DpAll K H xs ds
  | [], [], _, _ => .nil
  | [], _ :: _, h, _ => nomatch h
  | _ :: _, [], h, _ => nomatch h
  | x :: xs, d :: ds, h, f => .cons (f 0 x d rfl rfl) (dpAll_tr (Nat.succ.inj h) fun i x e hx he => f (i + 1) x e hx he)
theorem Tr.dp {K : PySem.W.Frag} {H : Hp} : ∀ {n : Nat} {F : Addr → Prop} {v : V} {d : PyData}, Tr H n F v d → Dp K H v d
  | 0, _, _, _, h => h.elim
  | n + 1, F, v, d, h => by
    rcases h with h | ⟨a, xs, ds, G, rfl, rfl, e3, p⟩ | ⟨a, xs, ds, G, rfl, rfl, e3, fa, ng, p⟩
    · rcases h with ⟨rfl, rfl⟩ | ⟨b, rfl, rfl⟩ | ⟨i, rfl, rfl⟩ | ⟨x, rfl, rfl, sx⟩
      · exact .non
      · exact .bl b
      · exact .int i
      · exact .str x
    · exact .tup (SqT.of e3) (dpAll_tr p.1 fun i x e hx he => (p.2.2.1 i x e hx he).dp)
    · exact .lst (SqL.of e3) (dpAll_tr p.1 fun i x e hx he => (p.2.2.1 i x e hx he).dp)
theorem layAll_tr : ∀ {ds : List PyData}, (∀ e ∈ ds, e.canLay0 = true) → PyData.canLayAll0 ds = true
  | [], _ => rfl
  | d :: ds, f => by
    show (d.canLay0 && PyData.canLayAll0 ds) = true
    rw [f d List.mem_cons_self, layAll_tr fun e he => f e (List.mem_cons_of_mem _ he)]; rfl
theorem depAll_tr {n : Nat} : ∀ {ds : List PyData}, (∀ e ∈ ds, e.depth ≤ n) → PyData.depthAll ds ≤ n
  | [], _ => Nat.zero_le _
  | d :: ds, f => by
    show max d.depth (PyData.depthAll ds) ≤ n
    exact Nat.max_le.mpr ⟨f d List.mem_cons_self, depAll_tr fun e he => f e (List.mem_cons_of_mem _ he)⟩
theorem eqvAll_tr : ∀ {ds : List PyData}, (∀ e ∈ ds, PyData.eqv e e = true) → PyData.eqvAll ds ds = true
  | [], _ => rfl
  | d :: ds, f => by
    show (PyData.eqv d d && PyData.eqvAll ds ds) = true
    rw [f d List.mem_cons_self, eqvAll_tr fun e he => f e (List.mem_cons_of_mem _ he)]; rfl
theorem Parts.all {T : (Addr → Prop) → V → PyData → Prop} {F G xs ds} (p : Parts T F G xs ds) {P : PyData → Prop} (f : ∀ G x e, T G x e → P e) : ∀ e ∈ ds, P e := by
  intro e he
  obtain ⟨i, hi, rfl⟩ := List.getElem_of_mem he
  exact f _ _ _ (p.2.2.1 i (xs[i]'(by rw [p.1]; exact hi)) _ (List.getElem?_eq_getElem _) (List.getElem?_eq_getElem _))
theorem Tr.good {H : Hp} : ∀ {n : Nat} {F : Addr → Prop} {v : V} {d : PyData}, Tr H n F v d → d.canLay0 = true ∧ d.depth ≤ n ∧ PyData.eqv d d = true
  | 0, _, _, _, h => h.elim
  | n + 1, F, v, d, h => by
    rcases h with h | ⟨a, xs, ds, G, rfl, rfl, e3, p⟩ | ⟨a, xs, ds, G, rfl, rfl, e3, fa, ng, p⟩
    · rcases h with ⟨rfl, rfl⟩ | ⟨b, rfl, rfl⟩ | ⟨i, rfl, rfl⟩ | ⟨x, rfl, rfl, sx⟩
      · exact ⟨rfl, Nat.zero_le _, rfl⟩
      · exact ⟨rfl, Nat.zero_le _, by cases b <;> rfl⟩
      · exact ⟨rfl, Nat.zero_le _, by show (i == i) = true; exact beq_self_eq_true i⟩
      · exact ⟨sx, Nat.zero_le _, by show (x == x) = true; exact beq_self_eq_true x⟩
    · have A := p.all (P := fun d => d.canLay0 = true ∧ d.depth ≤ n ∧ PyData.eqv d d = true) fun G x e t => t.good
      exact ⟨layAll_tr fun e he => (A e he).1, Nat.succ_le_succ (depAll_tr fun e he => (A e he).2.1), eqvAll_tr fun e he => (A e he).2.2⟩
    · have A := p.all (P := fun d => d.canLay0 = true ∧ d.depth ≤ n ∧ PyData.eqv d d = true) fun G x e t => t.good
      exact ⟨layAll_tr fun e he => (A e he).1, Nat.succ_le_succ (depAll_tr fun e he => (A e he).2.1), eqvAll_tr fun e he => (A e he).2.2⟩
theorem Tr.shaped {H : Hp} {n : Nat} {F : Addr → Prop} {v : V} {d : PyData} (h : Tr H n F v d) (l : n ≤ 64) : SeqAt.shaped d = true := by
  show (d.canLay0 && decide (d.depth ≤ 64)) = true
  rw [h.good.1, decide_eq_true (Nat.le_trans h.good.2.1 l)]; rfl
/-- tuples alone -/
def okT : Nat → PyData → Prop
  | 0, _ => False
  | n + 1, .tuple ds => ds.length ≤ 1000 ∧ ∀ x ∈ ds, okT n x
  | _ + 1, .str x => PyData.strOk x = true
  | _ + 1, .none => True
  | _ + 1, .bool _ => True
  | _ + 1, .int _ => True
  | _ + 1, _ => False
theorem okT.up : ∀ {n : Nat} {d : PyData}, okT n d → okT (n + 1) d
  | 0, _, h => h.elim
  | n + 1, .tuple ds, h => ⟨h.1, fun x hx => okT.up (h.2 x hx)⟩
  | _ + 1, .str _, h => h
  | _ + 1, .none, _ => trivial
  | _ + 1, .bool _, _ => trivial
  | _ + 1, .int _, _ => trivial
  | _ + 1, .list _, h => h.elim
  | _ + 1, .dict _, h => h.elim
theorem okT.le {n m : Nat} {d : PyData} (h : okT n d) (l : n ≤ m) : okT m d := by
  induction l with
  | refl => exact h
  | step _ ih => exact ih.up
theorem okT_cond : ∀ c : Cond, okT (c.deep + 2) (cdata c)
  | .look i => ⟨by show 2 ≤ 1000; decide, fun x hx => by
      rcases List.mem_cons.mp hx with rfl | hx
      · show PyData.strOk "look" = true; decide +kernel
      · obtain rfl := List.mem_singleton.mp hx
        exact trivial⟩
  | .not c => ⟨by show 2 ≤ 1000; decide, fun x hx => by
      rcases List.mem_cons.mp hx with rfl | hx
      · show PyData.strOk "not" = true; decide +kernel
      · obtain rfl := List.mem_singleton.mp hx
        exact okT_cond c |>.le (by show c.deep + 2 ≤ c.deep + 1 + 1; omega)⟩
  | .bin a l r => ⟨by show 3 ≤ 1000; decide, fun x hx => by
      rcases List.mem_cons.mp hx with rfl | hx
      · show PyData.strOk (wd a) = true; cases a <;> decide +kernel
      · have e : (Cond.bin a l r).deep = max l.deep r.deep + 1 := rfl
        rcases List.mem_cons.mp hx with rfl | hx
        · exact okT_cond l |>.le (by omega)
        · obtain rfl := List.mem_singleton.mp hx
          exact okT_cond r |>.le (by omega)⟩
theorem TD.tr {H : Hp} : ∀ {n : Nat} {v : V} {d : PyData}, TD H v d → okT n d → Tr H n (fun _ => False) v d
  | 0, _, _, _, h => h.elim
  | n + 1, v, d, t, h => by
    cases t with
    | non => exact .inl (.inl ⟨rfl, rfl⟩)
    | bl b => exact .inl (.inr (.inl ⟨b, rfl, rfl⟩))
    | int i => exact .inl (.inr (.inr (.inl ⟨i, rfl, rfl⟩)))
    | str x => exact .inl (.inr (.inr (.inr ⟨x, rfl, rfl, h⟩)))
    | @tup a xs ds e t =>
      refine .inr (.inl ⟨a, xs, ds, fun _ _ => False, rfl, rfl, e, t.len, by rw [t.len]; exact h.1, fun i x d hx hd => ?_, fun _ _ h => h, fun _ _ _ _ h => h.elim⟩)
      obtain ⟨d', hd', td⟩ := t.getV hx
      rw [hd] at hd'
      obtain rfl := Option.some.inj hd'
      exact td.tr (h.2 d (List.mem_of_getElem? hd))
theorem Tr.td {H : Hp} : ∀ {n : Nat} {v : V} {d : PyData}, Tr H n (fun _ => False) v d → TD H v d
  | 0, _, _, h => h.elim
  | n + 1, v, d, h => by
    rcases h with h | ⟨a, xs, ds, G, rfl, rfl, e3, p⟩ | ⟨a, xs, ds, G, rfl, rfl, e3, fa, ng, p⟩
    · rcases h with ⟨rfl, rfl⟩ | ⟨b, rfl, rfl⟩ | ⟨i, rfl, rfl⟩ | ⟨x, rfl, rfl, sx⟩
      · exact .non
      · exact .bl b
      · exact .int i
      · exact .str x
    · refine .tup e3 ?_
      have f : ∀ (i : Nat) x e, xs[i]? = some x → ds[i]? = some e → TD H x e := fun i x e hx he => ((p.2.2.1 i x e hx he).sub (F' := fun _ => False) fun a h => p.2.2.2.1 i a h).td
      have l := p.1
      clear p e3
      induction xs generalizing ds with
      | nil => cases ds with
        | nil => exact .nil
        | cons _ _ => cases l
      | cons x xs ih => cases ds with
        | nil => cases l
        | cons d ds => exact .cons (f 0 x d rfl rfl) (ih ds (fun i x e hx he => f (i + 1) x e hx he) (Nat.succ.inj l))
    · exact fa.elim
/-! a row of trees, each with lists of its own, none of them in the first heap -/
def Line (n : Nat) (H0 H : Hp) (xs : List V) (ds : List PyData) : Prop := ∃ G : Nat → Addr → Prop, xs.length = ds.length ∧ (∀ (i : Nat) x e, xs[i]? = some x → ds[i]? = some e → Tr H n (G i) x e) ∧ (∀ i a, G i a → New H0 H a) ∧ ∀ (i j : Nat) a, i ≠ j → G i a → ¬ G j a
theorem Line.nil {n : Nat} {H0 H : Hp} : Line n H0 H [] [] := ⟨fun _ _ => False, rfl, by intro i x e h; simp at h, fun _ _ h => absurd h id, fun _ _ _ _ h => absurd h id⟩
theorem some_of_same {H H' : Hp} {a : Addr} (g : Same H H') (h : H a ≠ none) : H' a ≠ none := by
  cases e : H a with
  | none => exact absurd e h
  | some o => rw [g _ _ e]; exact fun z => nomatch z
theorem Line.frame {n : Nat} {H0 H H' : Hp} {xs : List V} {ds : List PyData} (l : Line n H0 H xs ds) (g : ∀ a o, H a = some o → (H0 a = none ∨ ∃ xs, o = .tup xs) → H' a = some o) : Line n H0 H' xs ds := by
  obtain ⟨G, e, t, s, d⟩ := l
  refine ⟨G, e, fun i x e hx he => Tr.frame (fun a o ho hf => g a o ho (hf.imp (fun z => (s i a z).1) id)) (t i x e hx he), fun i a z => ⟨(s i a z).1, ?_⟩, d⟩
  cases ho : H a with
  | none => exact absurd ho (s i a z).2
  | some o => rw [g _ _ ho (.inl (s i a z).1)]; exact fun z => nomatch z
theorem Line.same {n : Nat} {H0 H H' : Hp} {xs : List V} {ds : List PyData} (l : Line n H0 H xs ds) (g : Same H H') : Line n H0 H' xs ds := l.frame fun a o e _ => g a o e
theorem snoc_at {α : Type} {l : List α} {x y : α} {i : Nat} (h : (l ++ [x])[i]? = some y) : l[i]? = some y ∧ i < l.length ∨ i = l.length ∧ x = y := by
  by_cases hi : i < l.length
  · rw [List.getElem?_append_left hi] at h
    exact .inl ⟨h, hi⟩
  · rw [List.getElem?_append_right (Nat.le_of_not_lt hi)] at h
    by_cases h0 : i = l.length
    · subst h0
      rw [Nat.sub_self] at h
      exact .inr ⟨rfl, Option.some.inj h⟩
    · have : i - l.length = (i - l.length - 1) + 1 := by omega
      rw [this] at h
      cases h
theorem Line.snoc {n : Nat} {H0 H H' : Hp} {xs : List V} {ds : List PyData} {v : V} {d : PyData} (l : Line n H0 H xs ds) (g0 : ∀ a, H a = none → H0 a = none) (g : Same H H') (t : Tr H' n (New H H') v d) : Line n H0 H' (xs ++ [v]) (ds ++ [d]) := by
  obtain ⟨G, e, t0, s, ds0⟩ := l
  refine ⟨fun i a => i < xs.length ∧ G i a ∨ i = xs.length ∧ New H H' a, by rw [List.length_append, List.length_append, e]; rfl, fun i x e' hx he => ?_, fun i a z => ?_, fun i j a hij zi zj => ?_⟩
  · rcases snoc_at hx with ⟨hx, hi⟩ | ⟨rfl, rfl⟩
    · rcases snoc_at he with ⟨he, _⟩ | ⟨h, _⟩
      · exact ((t0 i x e' hx he).mono g).sub fun a z => .inl ⟨hi, z⟩
      · omega
    · rcases snoc_at he with ⟨_, h⟩ | ⟨_, rfl⟩
      · omega
      · exact t.sub fun a z => .inr ⟨rfl, z⟩
  · rcases z with ⟨_, z⟩ | ⟨_, z⟩
    · exact ⟨(s i a z).1, some_of_same g (s i a z).2⟩
    · exact ⟨g0 a z.1, z.2⟩
  · rcases zi with ⟨hi, zi⟩ | ⟨hi, zi⟩ <;> rcases zj with ⟨hj, zj⟩ | ⟨hj, zj⟩
    · exact ds0 i j a hij zi zj
    · exact (s i a zi).2 zj.1
    · exact (s j a zj).2 zi.1
    · omega
theorem Line.list {n : Nat} {H0 H H' : Hp} {xs : List V} {ds : List PyData} {p : Addr} (l : Line n H0 H xs ds) (hl : xs.length ≤ 1000) (h0 : H0 p = none) (hn : H p = none) (g : Same H H') (e : H' p = some (.lst xs)) : Tr H' (n + 1) (New H0 H') (.ref p) (.list ds) := by
  obtain ⟨G, e1, t0, s, ds0⟩ := l
  exact .inr (.inr ⟨p, xs, ds, G, rfl, rfl, e, ⟨h0, by rw [e]; exact fun z => nomatch z⟩, fun i z => (s i p z).2 hn, e1, hl, fun i x d hx hd => (t0 i x d hx hd).mono g, fun i a z => ⟨(s i a z).1, some_of_same g (s i a z).2⟩, ds0⟩)
theorem Line.tup {n : Nat} {H0 H : Hp} {xs : List V} {ds : List PyData} {p : Addr} (l : Line n H0 H xs ds) (hl : xs.length ≤ 1000) (e : H p = some (.tup xs)) : Tr H (n + 1) (New H0 H) (.ref p) (.tuple ds) := by
  obtain ⟨G, e1, t0, s, ds0⟩ := l
  exact .inr (.inl ⟨p, xs, ds, G, rfl, rfl, e, e1, hl, t0, s, ds0⟩)
/-- a list of atoms -/
theorem Tr.flatL {H : Hp} {n : Nat} {F : Addr → Prop} {p : Addr} {xs : List V} {ds : List PyData} (e : H p = some (.lst xs)) (f : F p) (hl : xs.length ≤ 1000) (l : xs.length = ds.length) (h : ∀ (i : Nat) x d, xs[i]? = some x → ds[i]? = some d → Tr H n (fun _ => False) x d) : Tr H (n + 1) F (.ref p) (.list ds) :=
  .inr (.inr ⟨p, xs, ds, fun _ _ => False, rfl, rfl, e, f, fun _ h => h, l, hl, h, fun _ _ h => h.elim, fun _ _ _ _ h => h.elim⟩)
theorem Off.refl {F : Addr → Prop} (H : Hp) : Off F H H := fun _ _ h _ => h
theorem Off.trans {F : Addr → Prop} {H H1 H2 : Hp} (x : Off F H H1) (y : Off F H1 H2) : Off F H H2 := fun a o h z => y a o (x a o h z) z
theorem Off.sub {F F' : Addr → Prop} {H H1 : Hp} (x : Off F H H1) (s : ∀ a, F a → F' a) : Off F' H H1 := fun a o h z => x a o h (z.imp (fun n f => n (s a f)) id)
theorem Off.same {F : Addr → Prop} {H H1 : Hp} (g : Same H H1) : Off F H H1 := fun a o h _ => g a o h
theorem Off.tups {F : Addr → Prop} {H H1 : Hp} (x : Off F H H1) : Tups H H1 := fun a xs h => x a _ h (.inr ⟨xs, rfl⟩)
/-! isinstance with (list, tuple) -/
theorem l_isiLT {K : PySem.W.Frag} {H : Hp} {Q : VK} {x : V} {tp : Addr} {t : Value} {b : Bool} (h : H tp = some (.tup [.ty "list", .ty "tuple"])) (ht : TyX K H x t) (hk : PySem.W.kitAny K t [.type "list", .type "tuple"] = some b) (q : Q (.bl b) H) : rIsiT K [x, .ref tp] H Q :=
  ⟨x, tp, _, t, _, b, rfl, h, .cons (L2.ClsV.ty _) (.cons (L2.ClsV.ty _) .nil), ht, hk, q⟩
end J

namespace J
open PySem L2
/-! a def called while one error is handled, that error known to it -/
structure FnP (P : Program) (w : World) (K : PySem.W.Frag) (mg : Str → Option Value) (base : Heap) (CX : CXT) (k : Nat) (f : Addr) (fd : FuncData) (ps : List Str) (sp : Sp) (p : Addr × Obj) : Prop where
  len : ∀ vs H Q E, sp vs H Q E → vs.length = ps.length
  run : ∀ A outer s H args us vs Q E, L2H.RoomH k A → L2H.PinOk outer H s p → Env0 P w K mg base A outer s H → BindsTo s fd args (ps.zip us) → Vals vs us → sp vs H Q E →
    codeAny (model P w) A (Code.call (Value.ref f) args) (CR CX outer P w H s Q E) s
theorem hot_run {X : Cx} {CX : CXT} {k : Nat} {f : Addr} {fd : FuncData} {ps : List Str} {sp : Sp} {E : L2.St → XK} {pins : List (Addr × Obj)} {σ : L2.St} {H : Hp} {s : Shared} {Q : VK} {us : List Value} {vs : List V} {p : Addr × Obj}
    (F : FnP X.prog X.w X.K X.mg X.base CX k f fd ps sp p) (hr : L2H.RoomH k X.A) (hp : p ∈ X.pn) (hb : Binds X.K fd ps []) (hx : PassesAt CX X σ (E σ)) (I : L2.Inv X pins σ H s) (r : Vals vs us) (h : sp vs H Q (E σ)) :
    wpAny (model X.prog X.w) X.A (PySem.call (Value.ref f) us) (EP X pins σ Q) X.xe s := by
  have hl : us.length = ps.length := by rw [← Vals.length r]; exact F.len _ _ _ _ h
  have b := hb s us (L2.Inv.kIn I) (by rw [List.append_nil]; exact hl)
  rw [List.append_nil] at b
  have P1 := I.pin p (List.mem_append_left pins hp)
  have hpin : L2H.PinOk X.stack H s p := ⟨P1.1, P1.2.1, fun hm => (List.mem_cons.mp (L2.Inv.stkSub I p.1 hm)).elim P1.2.2.1 P1.2.2.2.1, P1.2.2.2.2⟩
  refine wpAny_call (codeAny_mono (F.run X.A X.stack s H { pos := us } us vs Q (E σ) hr hpin (L2.Inv.env0 I) b r h) fun r s' hq => ?_)
  match r, hq with
  | .error e, hq => exact hx pins H s e s' I hq
  | .ok (.ret v), hq => exact L2.Inv.after I hq
theorem pe_callP {X : Cx} {CX : CXT} {k : Nat} {f : Addr} {fd : FuncData} {ps : List Str} {sp : Sp} {E : L2.St → XK} {x : Str} {q pos : Pos} {e : PySem.Expr} {es : List PySem.Expr} {t : TA} {p : Addr × Obj}
    (F : FnP X.prog X.w X.K X.mg X.base CX k f fd ps sp p) (hr : L2H.RoomH k X.A) (hp : p ∈ X.pn) (hg : Gl X x) (hm : X.mg x = some (.ref f)) (hk : PySem.W.keepIn X.K (.ref f) = true) (hb : Binds X.K fd ps []) (hx : ∀ σ, PassesAt CX X σ (E σ)) (ha : PA X (e :: es) t)
    (hdb : (x == Str.ofString "__debug__") = false := by decide +kernel) (he : starEach (e :: es) X.env = (false, eval e X.env) :: starEach es X.env := by rfl) (hpl : ((backTo pos (starEach es X.env)).any fun x => x.fst) = false := by rfl) :
    PE X ((Expr.Name x q).Call (e :: es) [] pos) (tCallS sp E t) := by
  refine ⟨fun pins s σ H Q I h => ?_⟩
  refine wpAny_Call_Name_kw ?_
  refine ld_glob I hg hm ?_ hdb
  refine PySem.W.callWith_K I.ok.mod.kin hk ?_ he hpl
  exact thn (ha.run pos pins s σ H (fun vs H1 => sp vs H1 Q (E σ)) I h) fun us s1 ⟨vs, H1, I1, r, q⟩ => ⟨L2.Inv.kIn I1, hot_run F hr hp hb (hx σ) I1 r q⟩
/-- isinstance of the known error -/
structure ExcW (K : PySem.W.Frag) (D : Addr) : Prop where
  hc : (PySem.W.clsIn K D).isSome = true
  hg : PySem.W.findIn K (.ref D) "__getattribute__" = some (some (.builtin "BaseException.__getattribute__"))
  hk : PySem.W.findIn K (.ref D) "__getattr__" = some none
  hs : PySem.W.subIn K (.ref D) (.type "BaseException") = some true
  ha : PySem.W.findIn K (.ref D) "__class__" = some (some (.builtin "object.__class__"))
  hn : PySem.W.specialIn K (.builtin "object.__class__") "__get__" = some (some (.builtin "getset_descriptor.__get__"))
  ht : PySem.W.takesIn K (.builtin "object.__class__") = some true
  hm : PySem.W.mroIn K D (.type "object") = some true
theorem call_isP {X : Cx} {p : Addr × Obj} {D : Addr} {d : Option Addr} (C : ExcW X.K D) (hp : p ∈ X.pn) (hz : Zc (.ref D) d p.2) (hf : ∃ vs, p.2.data = .fields vs)
    (r : List V → Hp → VK → Prop) (hr : ∀ xs H Q, r xs H Q → ∃ (c : V) (cv : Value) (b : Bool), xs = [.ref p.1, c] ∧ (∀ u, RelV c u → u = cv) ∧ PySem.W.kitOne X.K (.ref D) cv = some b ∧ (∀ dx, d = some dx → ∃ kvs, H dx = some (.xd kvs)) ∧ Q (.bl b) H) : CallR X (.builtin "isinstance") r := by
  intro pins s σ H xs us Q I rv h
  obtain ⟨c, cv, b, rfl, hcv, e, hd, q⟩ := hr xs H Q h
  match us, rv with
  | [u, v], .cons ru (.cons rc .nil) =>
    obtain rfl : u = .ref p.1 := ru
    obtain rfl := hcv v rc
    have P1 := I.pin p (List.mem_append_left pins hp)
    obtain ⟨vs, hv⟩ := hf
    have no : PySem.W.notCls p.2 = true := by unfold PySem.W.notCls; rw [hv]
    have J : ∃ od, PySem.W.InstAt s.heap p.1 p.2 D od := by
      cases hdd : d with
      | none => exact ⟨none, P1.1, hz.1, no, by rw [hz.2, hdd]; trivial⟩
      | some dx =>
        obtain ⟨kvs, hn⟩ := hd dx hdd
        have z := I.hok dx _ hn
        simp only [ObjOk] at z
        obtain ⟨mA, ⟨o, _, _, ho, _⟩, _⟩ := z
        exact ⟨some o, P1.1, hz.1, no, by rw [hz.2, hdd]; exact ho⟩
    obtain ⟨od, J⟩ := J
    exact PySem.W.kia_one (PySem.W.kitx_exc C.hc C.hg C.hk C.hs C.ha C.hn C.ht C.hm) (L2.Inv.kIn I) J e (fun z => by cases z) fun tk => ⟨.bl b, H, L2.Inv.kept I fun _ _ z => z, rfl, q⟩
/-- a def keeps its promise while the error is handled -/
theorem fun_okP {P : Program} {w : World} {K : PySem.W.Frag} {mg : Str → Option Value} {base : Heap} {CX : CXT} {x qual : Str} {st : Stmt} {f : Addr} {fd : FuncData} {N ps : List Str} {k : Nat} {sp : Sp} {p : Addr × Obj}
    (F : Fun K x qual st f fd) (S : FnScope N ps (defScope st)) (len : ∀ vs H Q E, sp vs H Q E → vs.length = ps.length)
    (hbody : ∀ cdv A outer s H vs Q E, L2H.RoomH k (A.deeper (PyProof.Rows.envOfC qual (defScope st) s.heap.objs.size f cdv)) → sp vs H Q E →
      ∃ t, PSs (L2H.cxH CX P w K mg base N qual (defScope st) f cdv A outer s H E p) (defBody st) t ∧ t (Ends.mk (fun _ H' => Q .non H') Q (fun _ _ => False) (fun _ _ => False)) (L2.start N vs) H) :
    FnP P w K mg base CX (k + 1) f fd ps sp p := by
  obtain ⟨oc, od, kV, doc, pm, an, cdv, ct, osl, rfl, lk, hcd⟩ := F.ex
  refine ⟨len, fun A outer s H args us vs Q E hr hpin e0 hb r hsp => ?_⟩
  have hl := len vs H Q E hsp
  have KX := PySem.W.Frag.In.keeps e0.mod.kin fun b o e => (e0.bs b o e).1
  have lim := Heap.NoLimit.keeps e0.mod.nolimit fun b o e => (e0.bs b o e).1
  refine codeAny_call_function (L2H.RoomH.depth hr) (KX f _ lk) rfl S.co S.gen rfl (PySem.W.codeRec_of KX hcd) (hb (model P w) A.in1 (fun e s' => CR CX outer P w H s Q E (Except.error e) s') _ ?_)
  refine wpAny_newFunctionEnv_cells S.kind (fun y hy => ?_) fun env he s1 z => ?_
  · obtain ⟨n, v⟩ := y
    exact (S.par n (List.of_mem_zip hy).1).elim (fun q => Or.inl q) fun q => Or.inr ⟨q, PySem.W.cellsFrom_some _ (s.heap.objs.size + 1) [] (Or.inl q)⟩
  · subst he
    refine ⟨Heap.NoLimit.keeps lim z.toInCall.keep, codeAny_func ?_⟩
    obtain ⟨t, ht, hq⟩ := hbody cdv A outer s H vs Q E (L2H.RoomH.deeper hr _) hsp
    have I := L2H.inv_startH (CX := CX) (E := E) S hpin e0 hl r z
    refine wpAny_mono (ht.run [] s1 (L2.start N vs) H _ I hq) (fun fl s' hs => ?_) fun e s' hs => hs
    match fl, hs with
    | .next, ⟨σ', H', J, q⟩ => exact ⟨.non, H', J.os, J.bare, J.base, J.hok, rfl, q⟩
    | .ret u, ⟨v, σ', H', J, rv, q⟩ => exact ⟨v, H', J.os, J.bare, J.base, J.hok, rv, q⟩
    | .brk, ⟨_, _, _, q⟩ => exact q.elim
    | .cont, ⟨_, _, _, q⟩ => exact q.elim
/-! isinstance(e, C), e known, in a def or in the suite -/
def rIs (K : PySem.W.Frag) (a D : Addr) (d : Option Addr) : List V → Hp → VK → Prop := fun xs H Q => ∃ (c : V) (cv : Value) (b : Bool), xs = [.ref a, c] ∧ (∀ u, RelV c u → u = cv) ∧ PySem.W.kitOne K (.ref D) cv = some b ∧ (∀ dx, d = some dx → ∃ kvs, H dx = some (.xd kvs)) ∧ Q (.bl b) H
theorem call_rIs {X : Cx} {a D : Addr} {oe : Obj} {d : Option Addr} (C : ExcW X.K D) (hp : (a, oe) ∈ X.pn) (hz : Zc (.ref D) d oe) (hf : ∃ vs, oe.data = .fields vs) : CallR X (.builtin "isinstance") (rIs X.K a D d) :=
  call_isP (p := (a, oe)) C hp hz hf _ fun _ _ _ h => h
theorem l_is {K : PySem.W.Frag} {a D : Addr} {d : Option Addr} {c : V} {cv : Value} {b : Bool} {H : Hp} {Q : VK} (hc : ∀ u, RelV c u → u = cv) (hk : PySem.W.kitOne K (.ref D) cv = some b) (hd : ∀ dx, d = some dx → ∃ kvs, H dx = some (.xd kvs)) (q : Q (.bl b) H) : rIs K a D d [.ref a, c] H Q := ⟨c, cv, b, rfl, hc, hk, hd, q⟩
/-! xs.count(True), xs of truth values -/
def eqb (k : Bool) : Value → Bool
  | .bool b => b == k
  | _ => false
def rCntB (K : PySem.W.Frag) : V → List V → Hp → VK → Prop := fun x xs H Q => ∃ (p : Addr) (bs : List Bool) (k : Bool), x = .ref p ∧ xs = [.bl k] ∧ SqL K H p (bs.map V.bl) ∧ Q (.int (bs.count k : Nat)) H
theorem cnt_bools {k : Bool} : ∀ {bs : List Bool} {us : List Value}, Vals (bs.map V.bl) us → us.countP (eqb k) = bs.count k ∧ ∀ y ∈ us, ∃ b, y = .bool b
  | [], _, .nil => ⟨rfl, fun y hy => absurd hy List.not_mem_nil⟩
  | b :: bs, _, .cons r t => by
    obtain ⟨h1, h2⟩ := cnt_bools (k := k) t
    have e : _ = Value.bool b := r
    subst e
    refine ⟨?_, fun y hy => ?_⟩
    · rw [List.countP_cons, List.count_cons, h1] <;> rfl
    · rcases List.mem_cons.mp hy with rfl | hy
      · exact ⟨b, rfl⟩
      · exact h2 y hy
theorem mt_countB {X : Cx} : MtR X "list.count" (rCntB X.K) := by
  intro pins s σ H x xs v us Q I rx rxs h
  obtain ⟨p, bs, k, rfl, rfl, hs, q⟩ := h
  obtain rfl : v = Value.ref p := rx
  obtain ⟨u, rfl, ru⟩ := Vals.one rxs
  obtain rfl : u = Value.bool k := ru
  obtain ⟨its, rv, ⟨⟨cls, dd, data, sl⟩, n, ho, hc, hdn, hd⟩, hlen⟩ := L2.Inv.list I hs
  dsimp only at hc hd
  subst hc hd
  obtain ⟨h1, h2⟩ := cnt_bools (k := k) rv
  refine call_meets PySem.F.slot_list_count ⟨_, ho, rfl⟩ PySem.F.entry_list_count (PySem.F.args_list_count_2 _ _) (SeqAt.list_countAt p its.toArray n dd sl (.bool k) (eqb k)) ⟨ho, fun y hy => ?_, ?_⟩
  · obtain ⟨b, rfl⟩ := h2 y (by simpa using hy)
    exact SeqAt.EqAt.bool_bool b k
  · have ec : ((its.toArray.toList.countP (eqb k) : Nat) : Int) = ((bs.count k : Nat) : Int) := congrArg Nat.cast h1
    rw [ec]
    exact ⟨.int (bs.count k : Nat), H, L2.Inv.tok I _, ⟨s.toks, rfl⟩, q⟩
end J

namespace J
open PySem PySem.Spec PyProof.Rows L2
/-! a comprehension whose step may raise -/
/-- the block of a comprehension out of which an exception may fly -/
abbrev BX (X : Cx) (t : Shared) (G : Hp) (sc : Scope) (ce : Env) (fp : List Addr) : Cx :=
  (X.blk t G sc ce fp).wish fun e r => notedBy (model X.prog X.w) X.A ce (CompFails (model X.prog X.w) X.A X.xe ce) e r
/-- FlyingZ is neither new nor held -/
theorem sky_flies {B B' : Heap} {l l' : List Env} {a L : Addr} {Z Z' : Obj → Prop} {h : Heap} (f : HandSPX.FlyingZ B l a Z h) (k : Sky B' l' a Z' L h) : HandSPX.FlyingZ B' l' a Z' h := by
  obtain ⟨_, _, _, o1, v1, T1, p1, t1, g1, _, d1, e1, _, _, q1, r1, u1⟩ := f
  rcases k with ⟨_, _, _, o2, v2, g2, _, d2, e2⟩ | k | ⟨_, _, _, o2, v2, T2, p2, t2, g2, _, d2, e2, _, _, q2, r2, u2⟩
  · rw [g1] at g2
    obtain rfl := Option.some.inj g2
    rw [d1] at d2
    obtain rfl := Data.fields.inj d2
    rw [e1] at e2
    cases e2
  · exact k
  · rw [g1] at g2
    obtain rfl := Option.some.inj g2
    rw [d1] at d2
    obtain rfl := Data.fields.inj d2
    rw [e1] at e2
    obtain rfl := Value.ref.inj (Option.some.inj e2)
    rw [q1] at q2
    obtain rfl := Option.some.inj q2
    rw [r1] at r2
    obtain rfl := Data.fields.inj r2
    rw [u1] at u2
    exact absurd (Option.some.inj u2) (by unfold rawInt; intro z; cases z)
theorem traced_past {B B' h h' : Heap} {a C : Addr} {Z : Obj → Prop} {fl : Value} {m : Str → Option Value} (t : HandSPX.TracedZ h B a Z fl) (n : h.Ns C m) (s : Heap.SameBut C h h') (b : ∀ x, B.get? x = none → B'.get? x = none) : HandSPX.TracedZ h' B' a Z fl := by
  obtain ⟨o, vs, T, p, ts, g, z, d, e, f, ne, q, r, u⟩ := t
  obtain ⟨oC, es, ep, gC, dC, _⟩ := n
  have far : ∀ {x : Addr} {ox : Obj} {xs : Array Value}, h.get? x = some ox → ox.data = .fields xs → x ≠ C := fun {x ox xs} k l w => by
    subst w
    rw [gC] at k
    obtain rfl := Option.some.inj k
    rw [dC] at l
    cases l
  exact ⟨o, vs, T, p, ts, (s.2 a (far g d)).trans g, z, d, e, b T f, ne, (s.2 T (far q r)).trans q, r, u⟩
theorem block_raises {X : Cx} {pins : List (Addr × Obj)} {σ : L2.St} {H3 : Hp} {s3 : Shared} {sc : Scope} {cl : List (Str × Addr)} {fp : List Addr} {W : WX} {E : XK} (I3 : L2.Inv X pins σ H3 s3) (f3 : ∀ b ∈ fp, FpOk X pins H3 b)
    (hs : X.stack = X.env :: X.outer) (hf : X.env.frame = some X.env.locals) (tk : Takes X W) (hW : ∀ c d H', E c d H' → W c d σ H') :
    Passes (L2.CX X.prog X.w) (BX X s3 H3 sc (compEnvC sc cl s3.heap.objs.size X.env) fp) E := by
  intro pp τ G t e t' I c
  obtain ⟨a, B0, G', cls, d, rfl, fl0, rest⟩ := id c
  obtain ⟨a', B, sI, pq, τ', HQ, cls', d', ea, J, nb, up, sky, na, os, ag, w⟩ := L2.XE.of_call (W := fun k x _ h => E k x h) I (fun _ _ _ z => z) c
  obtain rfl := Value.ref.inj ea
  have fl := sky_flies fl0 sky
  have Jb : Un (frs X.stack) fp H3 HQ s3.heap sI.heap := J.base
  have J7 : L2.Inv X pins σ HQ sI := L2.Inv.call' (ch := fp) I3 J.os Jb J.hok J.bare fun b hb =>
    let z := f3 b hb
    ⟨z.2.2.2.1, z.2.1, z.2.2.2.2.1, z.2.2.2.2.2⟩
  have nC : HQ s3.heap.objs.size = none := J.free
  have fC := I3.fpOk (Nat.le_refl s3.heap.objs.size) nC
  obtain ⟨m, nsI, _⟩ := J.loc
  have nsI : sI.heap.Ns s3.heap.objs.size m := nsI
  have hfr : X.A.frames = some (X.env :: X.outer) := by rw [I3.ok.frames, hs]
  have fl : HandSPX.FlyingZ B (X.env :: X.outer) a (Zc cls' d') t'.heap := by
    rw [← hs]
    exact fl
  show wpAny _ X.A (noteFrame (.ref a) (compEnvC sc cl s3.heap.objs.size X.env)) _ _ t'
  rw [noteFrame_env (Value.ref a) (show (compEnvC sc cl s3.heap.objs.size X.env).frame = X.env.frame from rfl)]
  refine HandSPX.looks_onZ Zc.steady hfr hf fl fun h3 hH up3 => ?_
  have ns3 : h3.Ns s3.heap.objs.size m := nsI.upToSlots (up.trans up3)
  refine ⟨m, ns3, fun h4 m4 ns4 sb => ?_⟩
  have ns4 : h4.Ns s3.heap.objs.size m4 := ns4
  have sb : Heap.SameBut s3.heap.objs.size h3 h4 := sb
  obtain ⟨B', b1, b2⟩ := restrict h4 fun b => (B.get? b).isSome
  have bn : ∀ x, B.get? x = none → B'.get? x = none := fun x z => b2 x (by rw [z]; rfl)
  have bs : ∀ x o, B'.get? x = some o → h4.get? x = some o := fun x o z => by
    cases q : (B.get? x).isSome with
    | false => rw [b2 x q] at z; cases z
    | true => rw [b1 x q] at z; exact z
  have hH4 : HandSPX.HeldZ B' (X.env :: X.outer) a (Zc cls' d') X.env.locals h4 := by
    obtain ⟨k1, k2, k3, k4⟩ := hH
    refine ⟨bs, bn a k2, ?_, traced_past k4 ns3 sb bn⟩
    refine funFrames_none (Heap.FunFrames.sameBut sb ns4 k3) fun L hL => bn L ?_
    exact (Heap.FunFrames.mem k3 hL).1
  obtain ⟨oC, es, ep, gI, dI, _⟩ := id nsI
  obtain ⟨o4, es4, ep4, g4, d4, _⟩ := id ns4
  have G1 : (sI.heap.update s3.heap.objs.size fun _ => o4).get? s3.heap.objs.size = some o4 := Heap.get?_update_self (fun _ => o4) gI (by
    have := Heap.get?_some_iff.mp g4
    exact this.2)
  have G2 : ∀ b, b ≠ s3.heap.objs.size → (sI.heap.update s3.heap.objs.size fun _ => o4).get? b = sI.heap.get? b := fun b ne => Heap.get?_update_other _ _ (Ne.symm ne)
  obtain ⟨oe, vs, T, oT, ts, ga, _, da, ea, _⟩ := id hH4.2.2.2
  unfold PySem.passOn
  refine wpAny_bind (wpAny_field ga da ea ?_)
  rw [if_neg (show ¬ ((Value.ref T == Value.none) = true) from by simp)]
  rw [show (compEnvC sc cl s3.heap.objs.size X.env).frame = some X.env.locals from hf]
  refine wpAny_bind (HandSPX.setFlight_onZ hH4 fun h5 hH5 up5 => wpAny_throw (tk _ _ ?_))
  refine ⟨a, B', { sI with heap := sI.heap.update s3.heap.objs.size fun _ => o4 }, pins, σ, HQ, cls', d', rfl, ?_, fun b o gb hb => ?_, fun b o gb nd => ?_, .inr (.inr (by rw [hs]; exact hH5)), na, os, ag, hW _ _ _ w⟩
  · exact L2.Inv.turned (t' := sI.toks) J7 (fun b o ne gb => (G2 b ne).trans gb) nC fC.2.1 fC.2.2.2.1 fC.2.2.2.2.1 fC.2.2.2.2.2
  · by_cases ne : b = s3.heap.objs.size
    · subst ne
      have gb : (sI.heap.update s3.heap.objs.size fun _ => o4).get? s3.heap.objs.size = some o := gb
      rw [G1] at gb
      obtain rfl := Option.some.inj gb
      rw [b1 _ (by rw [nb _ _ gI hb]; rfl)]
      exact g4
    · have gb : sI.heap.get? b = some o := (G2 b ne).symm.trans gb
      have q := nb b o gb hb
      rw [b1 _ (by rw [q]; rfl)]
      exact (sb.2 b ne).trans (hH.1 b o q)
  · by_cases ne : b = s3.heap.objs.size
    · subst ne
      have gb : (sI.heap.update s3.heap.objs.size fun _ => o4).get? s3.heap.objs.size = some o := gb
      rw [G1] at gb
      obtain rfl := Option.some.inj gb
      exact up5 _ _ g4 nd
    · have gb : sI.heap.get? b = some o := (G2 b ne).symm.trans gb
      obtain ⟨sl, q⟩ := (up.trans up3) b o gb nd
      exact up5 b { o with slots := sl } ((sb.2 b ne).trans q) nd
/-- a list comprehension with one clause, whose step may raise what E wishes -/
theorem pe_lcX {X : Cx} {W : WX} {E : XK} {elt tg iter : Expr} {ifs : List Expr} {scope : Scope} {own : List (Str × Nat)} {pos : Pos} {wi : L2.TI} {g : L2.TG} {tt : L2.TT} {te : L2.TE} (hc : X.calm = true) (hN : X.N.Nodup)
    (hs : X.stack = X.env :: X.outer) (hf : X.env.frame = some X.env.locals) (tk : Takes X W) (hW : ∀ c d σ H', E c d H' → W c d σ H')
    (hi : PI X tg iter wi) (ok : BlkOk X.N X.env.scope scope own)
    (hg : ∀ (t : Shared) (G : Hp) (C : Addr) (cl : List (Str × Addr)) (fp : List Addr), PG (BX X t G scope (compEnvC scope cl C X.env) fp) tg g)
    (ht : ∀ (t : Shared) (G : Hp) (C : Addr) (cl : List (Str × Addr)) (fp : List Addr), PTs (BX X t G scope (compEnvC scope cl C X.env) fp) ifs tt)
    (he : ∀ (t : Shared) (G : Hp) (C : Addr) (cl : List (Str × Addr)) (fp : List Addr), Passes (L2.CX X.prog X.w) (BX X t G scope (compEnvC scope cl C X.env) fp) E → PE (BX X t G scope (compEnvC scope cl C X.env) fp) elt te)
    (hfold : ∀ x, foldedSetIterable iter X.env x = pure x := by intro _; rfl) :
    PE X (.ListComp elt [⟨tg, iter, ifs, 0⟩] scope pos) (tLc wi g tt te (own.map (·.2))) := by
  refine ⟨fun pins s σ H Q I h => ?_⟩
  rw [eval_ListComp]
  have cells : ∀ y ∈ scope.names, y.2 = .free → ∃ c, X.env.cells.lookup y.1 = some c := fun y hy e =>
    (ok.free y hy e).elim (fun k => I.ok.has _ (.inl k)) fun k => I.ok.has _ (.inr k)
  refine comprehension_at (use := none) rfl hfold (closure_ok cells) ok.kind (fun y hy e => (ok.uniq y hy).trans (by rw [e]))
    (thn (hi.run pins s σ H _ I h) fun xv s1 hx => thn hx fun itv s2 h2 => ?_)
  obtain ⟨it, fp, tn, J, H2, rfl, I2, T, st2, f2, q⟩ := h2
  refine wpAny_newObj_type (newEnv_comp ?_) (Nat.zero_le _)
  have nD : H2 s2.heap.objs.size = none := I2.hok.fresh (Nat.le_refl _)
  obtain ⟨Wv, ⟨m0, w0⟩, turn⟩ := q _ nD
  generalize eD : s2.heap.objs.size = D at *
  generalize e3 : ({ s2 with heap := s2.heap.push { cls := .type "list", data := .seq ([] : List Value).toArray } } : Shared) = s3
  have h3 : s3.heap = s2.heap.push { cls := .type "list", data := .seq ([] : List Value).toArray } := by subst e3; rfl
  have old3 : ∀ b o, s2.heap.get? b = some o → s3.heap.get? b = some o := fun b o z => by rw [h3]; exact Heap.get?_push_of_some _ z
  have I3 : L2.Inv X pins σ (upd H2 D (.lst [])) s3 := by
    subst e3
    refine L2.Inv.laid (t' := s2.toks) I2 old3 (Nat.le_of_eq eD) ⟨Nat.zero_le _, [], 0, .nil, ?_⟩
    subst eD
    exact Heap.get?_push_size _ rfl
  have f3 : ∀ b ∈ fp, FpOk X pins (upd H2 D (.lst [])) b ∧ b < s3.heap.objs.size := fun b hb => by
    obtain ⟨o, z, _⟩ := T.obj _ _ st2 b hb
    have lt : b < D := eD ▸ Heap.lt_size z
    exact ⟨⟨(upd_ne (Nat.ne_of_lt lt)).trans (f2 b hb).1, (f2 b hb).2⟩, Heap.lt_size (old3 b o z)⟩
  have st3 : tn 0 s3.heap := T.keep _ _ _ st2 fun b _ o z => old3 b o z
  generalize eH : upd H2 D (.lst []) = H3 at I3 f3 w0
  have I4 := block_start I3 ok hN f3
  have pass : Passes (L2.CX X.prog X.w) (BX X s3 H3 scope (compEnvC scope (cellsFrom (s3.heap.objs.size + 1) scope.names (cloFrom X.env.cells scope.names [])) s3.heap.objs.size X.env) fp) E :=
    block_raises (W := W) I3 (fun b hb => (f3 b hb).1) hs hf tk fun c d H' z => hW c d σ H' z
  have pg := hg s3 H3 s3.heap.objs.size (cellsFrom (s3.heap.objs.size + 1) scope.names (cloFrom X.env.cells scope.names [])) fp
  have pt := ht s3 H3 s3.heap.objs.size (cellsFrom (s3.heap.objs.size + 1) scope.names (cloFrom X.env.cells scope.names [])) fp
  have pe := he s3 H3 s3.heap.objs.size (cellsFrom (s3.heap.objs.size + 1) scope.names (cloFrom X.env.cells scope.names [])) fp pass
  clear pass
  show codeAny _ _ (.compStart (.ListComp elt [⟨tg, iter, ifs, 0⟩] scope pos) 0 (.ref it) (.ref D) (compEnvC scope (cellsFrom (s3.heap.objs.size + 1) scope.names (cloFrom X.env.cells scope.names [])) s3.heap.objs.size X.env))
    (compEnds (model X.prog X.w) X.A X.xe none (EP X pins σ Q) (.ref D) (compEnvC scope (cellsFrom (s3.heap.objs.size + 1) scope.names (cloFrom X.env.cells scope.names [])) s3.heap.objs.size X.env)) { s3 with heap := pushCells (s3.heap.push { cls := .type "dict", data := .dict #[] }) scope.names }
  have old4 : ∀ b o, s3.heap.get? b = some o → (pushCells (s3.heap.push { cls := .type "dict", data := .dict #[] }) scope.names).get? b = some o := fun b o z => pushCells_keeps _ _ _ _ (Heap.get?_push_of_some _ z)
  generalize ec : compEnvC scope (cellsFrom (s3.heap.objs.size + 1) scope.names (cloFrom X.env.cells scope.names [])) s3.heap.objs.size X.env = ce at I4 pg pt pe ⊢
  have cL : ce.locals = s3.heap.objs.size := by subst ec; rfl
  generalize e4 : ({ s3 with heap := pushCells (s3.heap.push { cls := .type "dict", data := .dict #[] }) scope.names } : Shared) = s4 at I4 ⊢
  have st4 : tn 0 s4.heap := T.keep _ _ _ st3 fun b _ o z => by subst e4; exact old4 b o z
  have n3 : ∀ b ∈ fp, H3 b = none := fun b hb => (f3 b hb).1.1
  have I4 : L2.Inv (BX X s3 H3 scope ce fp) [] (wipe σ (own.map (·.2))) H3 s4 := L2.Inv.wish I4 _
  have fpB : ∀ {τ : L2.St} {G : Hp} {t : Shared}, L2.Inv (BX X s3 H3 scope ce fp) [] τ G t → (∀ b ∈ fp, G b = none) → ∀ b ∈ fp, FpOk (BX X s3 H3 scope ce fp) [] G b := fun {τ G t} K z b hb =>
    ⟨z b hb, (K.ok.exf b hb).1, K.ok.exfs b hb, .inl hb, fun x c z => (K.ok.exf b hb).2 x c z, fun p hp => by cases hp⟩
  have loop : codeAny (model X.prog X.w) X.A (.compLoop (.ListComp elt [⟨tg, iter, ifs, 0⟩] scope pos) 0 (.ref it) (.ref D) ce) (compEnds (model X.prog X.w) X.A X.xe none (EP X pins σ Q) (.ref D) ce) s4 := by
    refine compLoop_any (fun n t => ∃ i G, L2.Inv (BX X s3 H3 scope ce fp) [] (wipe σ (own.map (·.2))) G t ∧ tn i t.heap ∧ (∀ b ∈ fp, G b = none) ∧ Wv i n G) ?_ m0 ⟨0, H3, I4, st4, n3, w0⟩
    rintro n t ⟨i, G, K, stt, nn, ww⟩
    rcases turn i n G ww with ⟨halt, qq⟩ | ⟨go, Nx, hNx, step⟩
    · refine thnF (T.done (BX X s3 H3 scope ce fp) rfl rfl rfl hc i [] t _ G (fun _ _ => False) K (fpB K nn) stt halt) fun r t' ⟨er, K'⟩ => ?_
      subst er
      have back : L2.Inv X pins σ G t' := L2.Inv.call' (ch := fp) I3 K'.os K'.base K'.hok K'.bare fun b hb =>
        let z := (f3 b hb).1
        ⟨z.2.2.2.1, z.2.1, z.2.2.2.2.1, z.2.2.2.2.2⟩
      obtain ⟨m, nl, _⟩ := K'.loc
      have nl : t'.heap.Ns ce.locals m := nl
      have nC : G ce.locals = none := K'.free
      obtain ⟨_, c1, _, c3, c4, c5⟩ := I3.fpOk (Nat.le_refl _) (cL ▸ nC)
      refine ⟨m, nl, fun h'' sb => ⟨.ref D, G, ?_, rfl, qq⟩⟩
      rw [cL] at sb nC
      exact L2.Inv.turned (t' := t'.toks) back (fun b o hb z => (sb.2 b hb).trans z) nC c1 c3 c4 c5
    · refine thnF (T.item (BX X s3 H3 scope ce fp) rfl rfl rfl hc i [] t _ G (fun _ _ => False) K (fpB K nn) stt go) fun r t1 ⟨u, er, k1⟩ => ?_
      subst er
      refine thnF k1 fun _ t2 ⟨x, G2, K2, r2, y2, tn2, nn2⟩ => ?_
      refine thn (pg.run _ t2 _ G2 x u _ (K2.pinned (fpB K2 nn2) (T.obj _ _ tn2)) r2 (step x G2 y2)) fun _ t3 ⟨τ, G3, K3, hw, q3⟩ => ?_
      refine thn (pt.run _ t3 τ G3 _ K3 q3) fun b t4 ⟨G4, K4, q4⟩ => ?_
      have next : ∀ {t' : Shared} {G' : Hp}, L2.Inv (BX X s3 H3 scope ce fp) ([] ++ pinsAt fp t2.heap) τ G' t' → Nx G' → ∃ m, m < n ∧ ∃ i G, L2.Inv (BX X s3 H3 scope ce fp) [] (wipe σ (own.map (·.2))) G t' ∧ tn i t'.heap ∧ (∀ b ∈ fp, G b = none) ∧ Wv i m G := fun {t' G'} K' nx => by
        obtain ⟨m', lt, w'⟩ := hNx G' nx
        have pin : ∀ b ∈ fp, ∀ o, t2.heap.get? b = some o → t'.heap.get? b = some o ∧ G' b = none := fun b hb o z =>
          have := K'.pin (b, o) (List.mem_append_right _ (List.mem_append_right _ (mem_pinsAt hb z)))
          ⟨this.1, this.2.1⟩
        refine ⟨m', lt, i + 1, G', L2.Inv.weak (L2.Inv.unpinned (pins := []) K') (by rw [← hw, wipe_length]) (fun j v z => ?_), T.keep _ _ _ tn2 fun b hb o z => (pin b hb o z).1, fun b hb => ?_, w'⟩
        · rw [← hw] at z
          exact (wipe_some z).1
        · obtain ⟨o, z, _⟩ := T.obj _ _ tn2 b hb
          exact (pin b hb o z).2
      cases b with
      | false => exact next K4 q4
      | true =>
        refine thn (pe.run _ t4 τ G4 _ K4 q4) fun z t5 ⟨yv, G5, K5, r5, acc, gD, zD, nx⟩ => ?_
        exact app_ok (X := BX X s3 H3 scope ce fp) K5 gD zD r5 fun t6 K6 => next K6 nx
  exact codeAny_compStart_list loop (T.self X.A 0 _ _ _ st4 loop)
/-! readings of raise and try -/
def tRaise (c : Value) (E : XK) : L2.TS := fun _ _ H => E c none H
def tTryO (K : PySem.W.Frag) (c : Value) (tb : WX → L2.TS) (ts : Addr → Value → Option Addr → L2.TS) : L2.TS := fun D σ H => tb (wOnly K c ts (fun _ _ _ _ => False) D) D σ H
def tTryA (K : PySem.W.Frag) (c : Value) (i : Nat) (tb : WX → L2.TS) (ts : Addr → Value → Option Addr → L2.TS) : L2.TS := fun D σ H => tb (wAs K c i ts (fun _ _ _ _ => False) D) D σ H
theorem l_raise {c : Value} {E : XK} {D : Ends} {σ : L2.St} {H : Hp} (h : E c none H) : tRaise c E D σ H := h
theorem l_callE {sp : Sp} {E : XK} {tr : L2.TA} {σ : L2.St} {H : Hp} {Q : VK} (h : tr σ H fun vs H1 => sp vs H1 Q E) : tCall sp [] E tr σ H Q := l_call h
theorem l_callS {sp : Sp} {E : L2.St → XK} {tr : L2.TA} {σ : L2.St} {H : Hp} {Q : VK} (h : tr σ H fun vs H1 => sp vs H1 Q (E σ)) : tCallS sp E tr σ H Q := h
theorem exm_at {K : PySem.W.Frag} {S T : Addr} {b : Bool} (h1 : PySem.W.subIn K (.ref S) (.type "BaseException") = some true) (h2 : PySem.W.isClsIn K S = true) (h3 : PySem.W.typeIn K (.ref S) = some (.type "type")) (h4 : PySem.W.subIn K (.ref T) (.ref S) = some b) :
    PySem.W.exmOne K (.ref T) (.ref S) = some b := by
  have u1 : (PySem.W.subIn K (.ref S) (.type "BaseException") == some true) = true := by rw [h1] <;> rfl
  have u2 : ((PySem.W.clsIn K S).isSome && PySem.W.typeIn K (.ref S) == some (.type "type")) = true := by
    rw [show (PySem.W.clsIn K S).isSome = true from h2, h3] <;> rfl
  have u3 : (if ((PySem.W.clsIn K S).isSome && PySem.W.typeIn K (.ref S) == some (.type "type")) = true then PySem.W.subIn K (.ref T) (.ref S) else none) = some b := (if_pos u2).trans h4
  exact (if_pos u1).trans u3
/-! [e for x in xs], a step of which may raise: every item's value where all goes well -/
def LcTX (te : L2.TE) (vs : List Nat) (σ : L2.St) (j : Nat) (H1 : Hp) (xs ys : List V) (G : Nat → Prop) : Prop :=
  ys.length = xs.length ∧ ∀ (i : Nat) (x y : V) H' (Q' : VK), xs[i]? = some x → ys[i]? = some y → Same H1 H' → (∀ k, k < i → G k) → (G i → ∀ H'', Same H' H'' → Q' y H'') → te ((wipe σ vs).set j (some x)) H' Q'
theorem lcTX {K : PySem.W.Frag} {σ : L2.St} {H : Hp} {Q : VK} {te : L2.TE} {j : Nat} {vs : List Nat} {a : Addr} {xs ys : List V} (G : Nat → Prop) (hw : ∀ x, wipe ((wipe σ vs).set j (some x)) vs = wipe σ vs) (ht : SqT K H a xs) (hl : xs.length ≤ 100000) (h : LcTX te vs σ j H xs ys G)
    (q : (∀ k, k < xs.length → G k) → ∀ D H2, H D = none → Same H H2 → H2 D = some (.lst ys) → Q (.ref D) H2) : IT K (.ref a) H (LcB (gName j) tYes te vs σ Q) := by
  refine ⟨a, rfl, ⟨xs, ht⟩, fun D hD => lc_tup (K := K) (a := a) (xs := xs) (fun i H' => (∀ k, k < i → G k) ∧ Same H H' ∧ H' D = some (.lst (ys.take i))) ⟨fun _ z => absurd z (Nat.not_lt_zero _), sm_new hD _, upd_same⟩ (fun i H' _ p => sm_t p.2.1 ht) (fun i x H' hx p => ⟨hw x, ?_⟩) fun H' p => ?_⟩
  · have hi := (List.getElem?_eq_some_iff.mp hx).1
    obtain ⟨y, hy⟩ : ∃ y, ys[i]? = some y := ⟨ys[i]'(by rw [h.1]; exact hi), List.getElem?_eq_getElem _⟩
    refine h.2 i x y H' _ hx hy p.2.1 p.1 fun g H'' s => ?_
    refine ⟨ys.take i, s _ _ p.2.2, ?_, fun k hk => ?_, sm_mut (p.2.1.trans s) hD, ?_⟩
    · rw [List.length_take]
      exact Nat.lt_of_le_of_lt (Nat.le_trans (Nat.min_le_left _ _) (Nat.le_trans (Nat.le_of_lt hi) hl)) (by decide)
    · rcases Nat.lt_succ_iff_lt_or_eq.mp hk with hk | rfl
      · exact p.1 k hk
      · exact g
    · rw [upd_same, take_snoc hy]
  · have e := p.2.2
    rw [← h.1, List.take_length] at e
    exact q p.1 D H' hD p.2.1 e
end J

namespace J
open PySem L2
/-! str.replace of written texts, in a statement behind one that made a text -/
def PE1 (X : Cx) (e : PySem.Expr) (t : TE) : Prop :=
  ∀ (pins : List (Addr × Obj)) (s : Shared) (σ : L2.St) (H : Hp) (Q : VK), L2.Inv X pins σ H s → t σ H Q → wpAny (model X.prog X.w) X.A (eval e X.env) (fun u r => 1 ≤ r.toks ∧ EP X pins σ Q u r) X.xe s
section
variable {X : Cx} {e f : PySem.Expr} {te tf : TE} {pos : Pos}
theorem pe1_str {z : Str} {j : Nat} : PE1 X (.Constant (.str z) j pos) (tC (.str z)) := by
  intro pins s σ H Q I h
  exact Calls.Constant_str ⟨Nat.succ_pos _, .str z, H, L2.Inv.tok I _, ⟨_, rfl⟩, h⟩
theorem pe1_op {op : Operator} {r : R2} (ho : OpR X (binaryOp op) r) (ha : PE1 X e te) (hb : PE X f tf) : PE1 X (.BinOp e op f pos) (tOp r te tf) := by
  intro pins s σ H Q I h
  refine wpAny_BinOp (thn (ha pins s σ H _ I h) fun v s1 ⟨h1, x, H1, I1, r1, q1⟩ => ?_)
  refine wpAny_mono (PySem.wpAny_toks_of h1 (hb.run pins s1 σ H1 _ I1 q1)) (fun u s2 ⟨h2, y, H2, I2, r2, q2⟩ => ?_) fun _ _ z => z.2
  exact wpAny_mono (PySem.wpAny_toks_of h2 (ho pins s2 σ H2 x y v u Q I2 r1 r2 q2)) (fun _ _ z => z) fun _ _ z => z.2
theorem pss_set1 {i : Nat} {x : Str} {rest : List Stmt} {u : TS} {q : Pos} (hN : X.N.Nodup) (hi : X.N[i]? = some x) (hx : Loc X.env.scope x) (he : PE1 X e te) (h2 : PSsT X rest u)
    (hs : swapsWith e (some (.Name x q)) pos.line X.env = pure false := by rfl) (hf : X.fn x = true ∨ X.env.scope.names.lookup x = some .local := by first | exact .inl rfl | exact .inr rfl) :
    PSs X (.Assign [.Name x q] e pos :: rest) (tSeq (tAsg te (gName i)) u) := by
  refine ⟨fun pins s σ H D I h => ?_⟩
  refine wpAny_execs_cons (wpAny_Assign_Name (thn (he pins s σ H _ I h) fun v s1 ⟨h1, y, H1, I1, r1, q1⟩ => ?_) hs)
  refine wpAny_mono (PySem.wpAny_toks_of h1 (store_ok (Q := fun _ s2 => L2.Inv X pins (σ.set i (some y)) H1 s2) I1 hN hi hx r1 (fun _ I2 => I2) hf)) (fun _ s2 z => ?_) fun _ _ z => z.2
  exact h2 pins s2 _ H1 D z.1 z.2 q1
theorem pst_set {i : Nat} {x : Str} {q : Pos} (hN : X.N.Nodup) (hi : X.N[i]? = some x) (hx : Loc X.env.scope x) (he : PET X e te)
    (hs : swapsWith e (some (.Name x q)) pos.line X.env = pure false := by rfl) (hf : X.fn x = true ∨ X.env.scope.names.lookup x = some .local := by first | exact .inl rfl | exact .inr rfl) :
    PST X (.Assign [.Name x q] e pos) (tAsg te (gName i)) := by
  intro pins s σ H D h0 I h
  exact wpAny_Assign_Name (thn (he pins s σ H _ h0 I h) fun v s1 ⟨y, H1, I1, r1, q1⟩ => store_ok I1 hN hi hx r1 (fun s2 I2 => ⟨_, H1, I2, q1⟩) hf) hs
end
end J

namespace J
open PySem PySem.Spec PyProof.Rows L2
/-! an own error that says super().__init__(f'..{place}..') and keeps its place -/
def plA (p1 p2 : Pos) : Arguments := { posonlyargs := [], args := [⟨"self", none, p1⟩, ⟨"place", none, p2⟩], vararg := none, kwonlyargs := [], kw_defaults := [], kwarg := none, defaults := [] }
def plB (ps : List Expr) (p : Nat → Pos) : List Stmt :=
  [.Expr (.Call (.Attribute (.Call (.Name "super" (p 0)) [] [] (p 1)) "__init__" (p 2)) [.JoinedStr ps (p 7)] [] (p 8)) (p 9),
   .Assign [.Attribute (.Name "self" (p 10)) "place" (p 11)] (.Name "place" (p 12)) (p 13)]
def plS : Scope := { kind := .function, names := [("self", .local), ("place", .local), ("__class__", .free), ("super", .globalImplicit)], isGenerator := false, isCoroutine := false, more := [] }
abbrev plF (q : Str) (ps : List Expr) (p : Nat → Pos) (p1 p2 : Pos) (cc cda : Addr) : NdefX.NF := ⟨"__init__", q, plA p1 p2, plB ps p, plS, [("__class__", cc)], cda⟩
/-- how the call of the bound method goes, at these places of the text -/
def plGoes (ps : List Expr) (p : Nat → Pos) : Prop := ∃ pl : Sem Bool, ∀ env : Env,
  eval (.Call (.Attribute (.Call (.Name "super" (p 0)) [] [] (p 1)) "__init__" (p 2)) [.JoinedStr ps (p 7)] [] (p 8)) env =
    (attributeBase (.Call (.Name "super" (p 0)) [] [] (p 1)) "__init__" env (eval (.Call (.Name "super" (p 0)) [] [] (p 1)) env) >>= fun ov => standAt (p 2).atName >>= fun _ => holding [ov] (getMethod ov "__init__" pl) >>= fun x =>
      callWith (p 8) x.1 x.2 (backTo (p 8) (starEach [.JoinedStr ps (p 7)] env)) [])
/-- the error's words, of whatever place -/
def plText (ps : List Expr) : Prop := ∀ (X : Cx) (q : Pos), (∀ p, PE X (.Name "place" p) (tVar 1)) → ∃ t : TE, PE X (.JoinedStr ps q) t ∧ ∀ (σ : L2.St) (H : Hp) (i : Int) (Q : VK), σ[1]? = some (some (.int i)) → i.natAbs < 10 ^ 40 → (∀ z : Str, Q (.str z) H) → t σ H Q
/-- what the written part says of the class at C and its __init__ at fI -/
structure Plc (P : Program) (K : PySem.W.Frag) (mg : Str → Option Value) (C fI : Addr) (fd : FuncData) : Prop where
  ox : OexC K C
  iC : PySem.W.findIn K (.ref C) "__init__" = some (some (.ref fI))
  tI : PySem.W.typeIn K (.ref fI) = some (.type "function")
  np : PySem.W.findIn K (.ref C) "place" = some none
  sup : mg "super" = none
  via : PySem.W.ks_superIn K C C "__init__" = some (some (.builtin "ValueError.__init__"))
  ve : PySem.W.subIn K (.ref C) (.type "ValueError") = some true
  opq : PySem.W.nsIn K cStatics "thirdparty.any" = some none
  slf : PySem.W.mroIn K C (.ref C) = some true
  fn : ∃ (oc : Value) (od : Option Addr) (doc pm ct : Value) (kV : Value) (an : Option Addr) (osl : Array (Option Value)) (q : Str) (ps : List Expr) (p : Nat → Pos) (p1 p2 : Pos) (cc cda : Addr),
    fd = PySem.W.fnX "__init__" q (plA p1 p2) (plB ps p) plS [("__class__", cc)] .none kV doc pm an (.ref cda) ct ∧ K.lookup fI = some ⟨oc, od, .func fd, osl⟩ ∧ PySem.W.codeIn K (.ref cda) q = true ∧ plText ps ∧ plGoes ps p ∧
    (∃ (c3 : Value) (d3 : Option Addr) (vs : Array Value) (s3 : Array (Option Value)) (file : Str) (tf : Tok), K.lookup cda = some ⟨c3, d3, .fields vs, s3⟩ ∧ vs[2]? = some (.str file tf) ∧ ((P.main.file : Str) == file) = true) ∧
    ∃ (c4 : Value) (d4 : Option Addr) (s4 : Array (Option Value)), K.lookup cc = some ⟨c4, d4, .cell (some (.ref C)), s4⟩
  nosup : (P.main.scope.names.lookup ("super" : Str)).isSome = false
def spPlc (C : Addr) : Sp := fun vs H Q _ => ∃ (a : Addr) (i : Int), vs = [.ref a, .int i] ∧ i.natAbs < 10 ^ 40 ∧ H a = some (exo a C none) ∧ ∀ d, H d = none → d ≠ a → Q .non (upd (upd H d (exd d [("place", .int i)])) a (exo a C (some d)))
theorem z_of {i : Int} (h : i.natAbs < 10 ^ 40) : (toString i : Str).length ≤ 41 ∧ i.natAbs.log2 < 1920 := by
  refine ⟨?_, ?_⟩
  · have e := int_text_length_le10 (k := 40) (by decide) h
    show (Str.ofString (toString i)).length ≤ 41
    rw [PySem.ofString_length]
    omega
  · by_cases z : i.natAbs = 0
    · rw [z]; decide
    · exact (Nat.log2_lt z).mpr (Nat.lt_of_lt_of_le h (by decide +kernel))
theorem plText3 {z1 z2 : Str} {a b c d : Pos} (l1 : z1.length ≤ 1000) (l2 : z2.length ≤ 1000) : plText [.Constant (.str z1) 0 a, .FormattedValue (.Name "place" b) (-1) none c, .Constant (.str z2) 0 d] := fun X q hv => by
  refine ⟨fun σ H Q => tJs [tC (.str z1), tFmt (tVar 1), tC (.str z2)] Str.empty σ H fun out H1 => Q (.str out) H1, pe_joined (.cons pe_str (.cons (pe_fmt (hv b)) (.cons pe_str .nil))), fun σ H i Q e hi hq => ?_⟩
  have hz := z_of hi
  have e0 : Str.empty ++ z1 = z1 := by
    show Str.mk (#[] ++ z1.cps) = z1
    rw [Array.empty_append]
  have lsz : (5000 : Nat) ≤ sizeLine := by decide
  have la : ∀ x y : Str, (x ++ y).length = x.length + y.length := fun x y => Array.size_append
  refine ⟨z1, rfl, by rw [e0]; omega, .int i, e, .inr ⟨i, rfl, hz.2, toString i, rfl, ?_, z2, rfl, ?_, hq _⟩⟩
  · rw [la, e0]; have := hz.1; omega
  · rw [la, la, e0]; have := hz.1; omega
theorem plText2 {z1 : Str} {a b c : Pos} (l1 : z1.length ≤ 1000) : plText [.Constant (.str z1) 0 a, .FormattedValue (.Name "place" b) (-1) none c] := fun X q hv => by
  refine ⟨fun σ H Q => tJs [tC (.str z1), tFmt (tVar 1)] Str.empty σ H fun out H1 => Q (.str out) H1, pe_joined (.cons pe_str (.cons (pe_fmt (hv b)) .nil)), fun σ H i Q e hi hq => ?_⟩
  have hz := z_of hi
  have e0 : Str.empty ++ z1 = z1 := by
    show Str.mk (#[] ++ z1.cps) = z1
    rw [Array.empty_append]
  have lsz : (5000 : Nat) ≤ sizeLine := by decide
  have la : ∀ x y : Str, (x ++ y).length = x.length + y.length := fun x y => Array.size_append
  refine ⟨z1, rfl, by rw [e0]; omega, .int i, e, .inr ⟨i, rfl, hz.2, toString i, rfl, ?_, hq _⟩⟩
  rw [la, e0]; have := hz.1; omega
/-- the built-in __init__ bound to a new error, called -/
theorem bound_init {X : Cx} {pins : List (Addr × Obj)} {σ : L2.St} {H : Hp} {s : Shared} {a C u : Addr} {us : List Value} {Q : Value → Shared → Prop} {E : Value → Shared → Prop} {A : Around} (T : OexC X.K C) (I : L2.Inv X pins σ H s) (e : H a = some (exo a C none)) (hu : s.heap.get? u = some (PySem.W.kxs_mw "ValueError.__init__" a)) (hl : us.length ≤ sizeLine)
    (h : ∀ s', L2.Inv X pins σ H s' → Q .none s') : wpAny (model X.prog X.w) A (call (.ref u) us) Q E s := by
  obtain ⟨nm, q, N, bs, bm, sn, sub, ab, col, dd, k0, k1, k2, k3, k5, hC, hbm⟩ := T.cls
  obtain ⟨t1, ho⟩ := exo_at I.hok e
  obtain ⟨hp, g, d, t, os⟩ := s
  refine wpAny_call (codeAny_of_tree ?_)
  show wpAny _ A.in1 (callAny (.ref u) ⟨us, []⟩) _ _ _
  simp only [callAny]
  refine wpAny_bind (wpAny_load hu ?_)
  simp only [PySem.W.kxs_mw, show (Value.type "method-wrapper" == Value.type "method" || Value.type "method-wrapper" == Value.type "builtin_function_or_method" || Value.type "method-wrapper" == Value.type "method-wrapper") = true by decide, if_true]
  refine PySem.W.KFB.if_so (show _ = true by decide) ?_
  refine wpAny_bind (PySem.W.check_bound_init F.excBase_ValueError.toExcCallFacts (L2.Inv.kIn I _ _ hC) ho rfl (wpAny_pure ?_))
  refine ⟨plainId_quiet F.excBase_ValueError.init.plain _, codeAny_builtin F.excBase_ValueError.initEntry (PySem.W.exc_init_tree (cls := .ref C) (t0 := t1) (dv := none) (c2 := .none) (c3 := .none) (b4 := .bool false) ho hl fun h' k hx _ => ?_)⟩
  have J := L2.Inv.write (t' := t) (x := a) (e := a) (o := exo a C none) I (by rw [e]; exact True.intro) (.inl rfl) k ⟨_, hx⟩ (exo_ok hx)
  have eu : upd H a (exo a C none) = H := funext fun b => by
    by_cases hb : b = a
    · subst hb; rw [upd_same, e]
    · exact upd_ne hb
  rw [eu] at J
  exact h _ J
def plN : List Str := ["self", "place", "__class__"]
theorem pl_scope : NdefX.NScope plN ["self", "place"] ["__class__"] plS := NdefX.nscope_by (by decide +kernel)
theorem fn_place {P : Program} {w : World} {K : PySem.W.Frag} {mg : Str → Option Value} {base : Heap} {CX : CXT} {C fI : Addr} {fd : FuncData} (T : Plc P K mg C fI fd) : FnOk P w K mg base CX 1 fI fd ["self", "place"] (spPlc C) := by
  refine ⟨fun vs H Q E h => ?_, fun A outer s H args us vs Q E hr e0 hb r hsp => ?_⟩
  · obtain ⟨a, i, rfl, _⟩ := h
    rfl
  obtain ⟨a, i, rfl, hi, ea, q⟩ := hsp
  obtain ⟨oc, od, doc, pm, ct, kV, an, osl, qn, ps, p, p1, p2, cc, cda, rfl, lk, hcd, hps, ⟨pl, goes⟩, ⟨c3, d3, cvs, s3, file, tf, lc, hv2, hfile⟩, ⟨c4, d4, s4, lcell⟩⟩ := T.fn
  have KX : K.In s.heap := PySem.W.Frag.In.keeps e0.mod.kin fun b o e => (e0.bs b o e).1
  have lim : s.heap.NoLimit := Heap.NoLimit.keeps e0.mod.nolimit fun b o e => (e0.bs b o e).1
  obtain ⟨u0, u1, rfl, r0, r1⟩ : ∃ u0 u1, us = [u0, u1] ∧ L2.RelV (.ref a) u0 ∧ L2.RelV (.int i) u1 := by
    cases r with
    | cons r0 r => cases r with
      | cons r1 r => cases r; exact ⟨_, _, rfl, r0, r1⟩
  obtain rfl : u0 = Value.ref a := r0
  have cell0 : s.heap.get? cc = some ⟨c4, d4, .cell (some (.ref C)), s4⟩ := KX cc _ lcell
  have inBase : ∀ {b o}, K.lookup b = some o → base.get? b = some o := fun {b o} z => e0.mod.kin b o z
  have CA : NdefX.CellsAt [("__class__", cc)] ["__class__"] [some (.ref C)] s.heap H := by
    have one : ∀ y c, ([(("__class__" : Str), cc)]).lookup y = some c → y = "__class__" ∧ c = cc := fun y c z => by
      by_cases h : y = "__class__"
      · subst h
        exact ⟨rfl, (Option.some.inj z).symm⟩
      · have hf : (y == ("__class__" : Str)) = false := by simpa using h
        have : ([(("__class__" : Str), cc)]).lookup y = none := by simp [List.lookup, hf]
        rw [this] at z
        cases z
    refine ⟨rfl, fun y c z => ?_, fun x y c z1 z2 => (one x c z1).1.trans (one y c z2).1.symm, fun i y hy => ?_⟩
    · obtain ⟨rfl, rfl⟩ := one y c z
      exact ⟨(e0.bs _ _ (inBase lcell)).2, _, _, cell0, rfl⟩
    · rcases i with _ | i
      · obtain rfl := Option.some.inj hy
        exact ⟨cc, rfl, fun v hv => by
          obtain rfl := Option.some.inj (Option.some.inj hv)
          exact ⟨_, rfl, _, cell0, rfl⟩⟩
      · cases hy
  have step2 : ∀ (s1 : Shared), L2.Inv (NdefX.ncx CX P w K mg base plN (plF qn ps p p1 p2 cc cda) fI A outer s H E) [] (NdefX.startF plN [.ref a, .int i] [some (.ref C)]) H s1 →
      _root_.PySem.wpAt (model P w) (A.deeper (NdefX.envF (plF qn ps p p1 p2 cc cda) fI s.heap.objs.size)) (.func (plB ps p) (NdefX.envF (plF qn ps p p1 p2 cc cda) fI s.heap.objs.size)) (execs (plB ps p).tail (NdefX.envF (plF qn ps p p1 p2 cc cda) fI s.heap.objs.size))
        (fun f s' => CR CX outer P w H s Q E (.ok (.ret (match f with | .ret v => v | _ => .none))) s') (NdefX.ncx CX P w K mg base plN (plF qn ps p p1 p2 cc cda) fI A outer s H E).xe s1 := by
    intro s1 I1
    have hp : PSs (NdefX.ncx CX P w K mg base plN (plF qn ps p p1 p2 cc cda) fI A outer s H E) (plB ps p).tail (tOst K "place" (tVar 0) (tVar 1)) := pss_one (ps_ost (pv 0) (pv 1))
    refine wpAt_of_wpAny (wpAny_mono (hp.run [] s1 _ H { nx := fun _ H' => Q .non H', rt := Q } I1 ⟨.int i, rfl, .ref a, rfl, a, C, rfl, T.ox, T.np, .inl ⟨ea, fun dx n ne => q dx n ne⟩⟩) (fun fl s' hs => ?_) fun _ _ z => z)
    match fl, hs with
    | .next, ⟨σ', H', J, z⟩ => exact ⟨.non, H', J.os, J.bare, J.base, J.hok, rfl, z⟩
    | .ret u, ⟨v, σ', H', J, rv, z⟩ => exact ⟨v, H', J.os, J.bare, J.base, J.hok, rv, z⟩
    | .brk, ⟨_, _, _, z⟩ => exact z.elim
    | .cont, ⟨_, _, _, z⟩ => exact z.elim
  obtain ⟨hp, gs, dr, tk, osS⟩ := s
  refine PySem.ks_codeAny_call_defAt (fd := PySem.W.fnX "__init__" qn (plA p1 p2) (plB ps p) plS [("__class__", cc)] .none kV doc pm an (.ref cda) ct) (body := plB ps p) hr.depth (KX fI _ lk) rfl lim (PySem.W.codeRec_of KX hcd) rfl hb (show ∀ x ∈ plS.names, x.2 ≠ .cell by decide +kernel) (fun y hy => ?_) (fun h₀ hns kp => ?_) rfl rfl rfl
  · rcases List.mem_cons.mp hy with rfl | hy
    · rfl
    · obtain rfl := List.mem_singleton.mp hy
      rfl
  have I0 : L2.Inv (NdefX.ncx CX P w K mg base plN (plF qn ps p p1 p2 cc cda) fI A outer ⟨hp, gs, dr, tk, osS⟩ H E) [] (NdefX.startF plN [.ref a, .int i] [some (.ref C)]) H ⟨h₀, gs, dr, tk + 2, osS⟩ :=
    NdefX.inv_startN pl_scope hr.hd e0 rfl r CA hns kp
  show _root_.PySem.wpAt (model P w) (A.deeper (NdefX.envF (plF qn ps p p1 p2 cc cda) fI hp.objs.size)) (.func (plB ps p) (NdefX.envF (plF qn ps p p1 p2 cc cda) fI hp.objs.size)) (execs (plB ps p) (NdefX.envF (plF qn ps p p1 p2 cc cda) fI hp.objs.size)) _
    (NdefX.ncx CX P w K mg base plN (plF qn ps p p1 p2 cc cda) fI A outer ⟨hp, gs, dr, tk, osS⟩ H E).xe ⟨h₀, gs, dr, tk + 2, osS⟩
  refine PySem.ks_wpAt_execs_cons (PySem.ks_wpAt_Expr_any (PySem.ks_wpAt_MethodCall (pl := pl) ?_ (goes _)))
  obtain ⟨nm, q0, N0, bs0, bm0, sn0, sub0, ab0, col0, dd0, k0, k1, k2, k3, k5, hC, hbm⟩ := T.ox.cls
  have KX0 : K.In h₀ := PySem.W.Frag.In.keeps KX kp
  have hC0 := KX0 C _ hC
  obtain ⟨t1, ho⟩ := exo_at I0.hok ea
  have ho : h₀.get? a = _ := ho
  refine PySem.ks_wpAt_super_base rfl rfl (by decide) rfl (KX0 fI _ lk) rfl rfl rfl (KX0 cda _ lc) rfl hv2 hfile T.nosup ?_
  obtain ⟨mb, hmb, hbt⟩ := e0.mod.blt
  have kb : ∀ b o, base.get? b = some o → h₀.get? b = some o := fun b o z => kp b o (e0.bs b o z).1
  refine PySem.W.ks_loadName_global rfl rfl (Calls.loadGlobal_builtin (Heap.Ns.keeps e0.mod.glob kb) T.sup (Heap.Ns.keeps hmb kb) ((hbt "super" (by decide)).trans (show bootBuiltins "super" = some (.type "super") by decide +kernel)) ⟨rfl, ?_⟩)
  refine wpAny_loadName_free rfl rfl rfl ⟨_, KX0 cc _ lcell, rfl⟩ ?_
  refine wpAny_loadName_local rfl rfl hns rfl ?_
  refine PySem.ks_wpAny_isType_cls hC0 rfl ⟨rfl, ?_⟩
  have hself : PySem.W.Looks (model P w) h₀ (isSubtype (.ref C) (.ref C)) true := PySem.W.looks_mroIn KX0 T.slf
  refine PySem.ks_wpAny_call_super hC0 rfl ho rfl (fun c z => by cases z) hself (fun h1 e1 kk1 => ?_)
  have I1 : L2.Inv (NdefX.ncx CX P w K mg base plN (plF qn ps p p1 p2 cc cda) fI A outer ⟨hp, gs, dr, tk, osS⟩ H E) [] (NdefX.startF plN [.ref a, .int i] [some (.ref C)]) H ⟨h1, gs, dr, tk + 2, osS⟩ := L2.Inv.kept (t' := tk + 2) I0 fun b o z => kk1 b o z
  have KX1 : K.In h1 := L2.Inv.kIn I1
  obtain ⟨t2, ho1⟩ := exo_at I1.hok ea
  have ho1 : h1.get? a = _ := ho1
  have neC : a ≠ C := fun z => by
    have y := KX1 C _ hC
    rw [← z, ho1] at y
    cases y
  obtain ⟨cdc, hcls, hvia⟩ := Option.bind_eq_some_iff.mp T.via
  have LM : PySem.W.Looks (model P w) h1 (mroOf (.ref C)) cdc.mro := fun A' Q' E' s' k' q' => wpAny_bind ((PySem.W.looks_clsIn KX1 hcls) A' _ E' s' k' (wpAny_pure q'))
  have LT : PySem.W.Looks (model P w) h1 (typeOf (.ref a)) (.ref C) := fun A' Q' E' s' k' q' => wpAny_typeOf_ref (k' _ _ ho1) q'
  have LI : PySem.W.Looks (model P w) h1 (isInstance (.ref a) (.type "ValueError")) true := LT.andThen (PySem.W.looks_subIn KX1 T.ve)
  refine PySem.W.kxs_getMethod PySem.W.kxs_ValueError e1 (PySem.W.looks_opaque KX1 T.opq) LM rfl KX1 hvia LI neC (by decide) ?_
  have nu : ∀ b o, h1.get? b = some o → (h1.push (PySem.W.kxs_mw "ValueError.__init__" a)).get? b = some o := fun b o z => Heap.get?_push_of_some _ z
  have I2 := L2.Inv.kept (t' := tk + 2 + 1) I1 nu
  have fu := L2.Inv.fpOk I1 (Nat.le_refl _) (H' := H) (L2.HOk.fresh I1.hok (Nat.le_refl _))
  have gu : (h1.push (PySem.W.kxs_mw "ValueError.__init__" a)).get? h1.objs.size = some (PySem.W.kxs_mw "ValueError.__init__" a) := Heap.get?_push_size _ rfl
  have I3 := L2.Inv.pins_of (pins' := [(h1.objs.size, PySem.W.kxs_mw "ValueError.__init__" a)]) I2 fun x hx => by
    obtain rfl := List.mem_singleton.mp hx
    exact ⟨gu, fu.1, fu.2.1, fu.2.2.1, fun v z => by cases z⟩
  obtain ⟨tj, pj, hj⟩ := hps (NdefX.ncx CX P w K mg base plN (plF qn ps p p1 p2 cc cda) fI A outer ⟨hp, gs, dr, tk, osS⟩ H E) (p 7) fun _ => pv 1
  have ha : PA (NdefX.ncx CX P w K mg base plN (plF qn ps p p1 p2 cc cda) fI A outer ⟨hp, gs, dr, tk, osS⟩ H E) [.JoinedStr ps (p 7)] (tCons tj tNil) := pa_cons pj pa_nil
  have run := ha.run (p 8) _ _ _ _ (fun vs H1 => H1 = H ∧ ∃ z : Str, vs = [.str z]) I3 (hj _ _ i _ rfl hi fun z => ⟨rfl, z, rfl⟩)
  refine PySem.W.kxs_callWith (i := "ValueError.__init__") (x := a) rfl (Calls.evalArgs_plain (thn run fun us s4 ⟨vs, H1, I4, r4, eH, z, ev⟩ => ?_))
  obtain rfl := eH
  have hu4 := (L2.Inv.pin I4 (h1.objs.size, PySem.W.kxs_mw "ValueError.__init__" a) (List.mem_append_right _ (List.mem_singleton.mpr rfl))).1
  refine ⟨hu4, ?_⟩
  refine bound_init T.ox (L2.Inv.unpinned (pins := []) I4) ea hu4 ?_ fun s' J => step2 s' J
  have e := Vals.length r4
  rw [ev] at e
  show us.length ≤ sizeLine
  rw [← e]
  exact (by decide : 1 ≤ sizeLine)
end J

namespace J
open PySem PySem.Spec PyProof.Rows L2
/-! raise C(place), C's own __init__ keeping it -/
def RP (C : Addr) (E : XK) : List V → Hp → Prop := fun vs H1 => vs.length ≤ 1000 ∧ ∀ a, H1 a = none → spPlc C (.ref a :: (vs ++ [])) (upd H1 a (exo a C none))
  (fun v H2 => v = .non ∧ ∃ (d : Addr) (fs : List (Str × V)), H2 a = some (exo a C (some d)) ∧ H2 d = some (exd d fs) ∧ H1 d = none ∧ E (.ref C) (some d) (upd (del H2 a) d (.xd fs))) (fun _ _ _ => False)
def tRaiseP (C : Addr) (E : XK) (ta : TA) : TS := fun _ σ H => ta σ H (RP C E)
theorem l_raiseP {C : Addr} {E : XK} {ta : TA} {D : Ends} {σ : L2.St} {H : Hp} (h : ta σ H (RP C E)) : tRaiseP C E ta D σ H := h
theorem rp {C : Addr} {E : XK} {i : Int} {H : Hp} (hi : i.natAbs < 10 ^ 40) (q : ∀ d H', H d = none → Same H H' → H' d = some (.xd [("place", .int i)]) → E (.ref C) (some d) H') : RP C E [.int i] H := by
  refine ⟨(by decide : 1 ≤ 1000), fun a ha => ⟨a, i, rfl, hi, upd_same, fun d hd ne => ⟨rfl, d, [("place", .int i)], upd_same, ?_, ?_, ?_⟩⟩⟩
  · rw [upd_ne ne, upd_same]
  · rw [upd_ne ne] at hd
    exact hd
  · rw [upd_ne ne] at hd
    refine q d _ hd (fun b o z => ?_) upd_same
    have nb : b ≠ d := ne_of_none z hd
    have na : b ≠ a := ne_of_none z ha
    rw [upd_ne nb, del_ne na, upd_ne na, upd_ne nb, upd_ne na]
    exact z
theorem ps_raiseP {X : Cx} {E : XK} {C fI : Addr} {fd : FuncData} {x : Str} {k : Nat} {e : Expr} {ta : TA} {p pos pos2 : Pos} (hc : X.calm = true) (T : Plc X.prog X.K X.mg C fI fd) (b : Binds X.K fd ["self", "place"] []) (hm : X.mg x = some (.ref C)) (hr : Room k X.A) (hk : 2 ≤ k)
    (tk : Takes X fun cls d _ H => E cls d H) (ha : PA X [e] ta) (hg : Gl X x := by rfl) (hdb : (x == ("__debug__" : Str)) = false := by decide) (he : starEach [e] X.env = (false, eval e X.env) :: starEach [] X.env := by rfl) :
    PS X (.Raise (some (.Call (.Name x p) [e] [] pos)) none pos2) (tRaiseP C E ta) :=
  ps_raise hc tk (pmk_oex (CX := CX0) (dvs := []) T.ox T.iC T.tI (fn_place T) (hr.mono hk) b .nil pass0 hg hm ha hdb he rfl)
/-! what the suite needs of the error's class -/
theorem excW_of {K : PySem.W.Frag} {D : Addr} (h : (PySem.W.clsIn K D).isSome = true) (X : XfC K D) (ha : PySem.W.findIn K (.ref D) "__class__" = some (some (.builtin "object.__class__")))
    (hn : PySem.W.specialIn K (.builtin "object.__class__") "__get__" = some (some (.builtin "getset_descriptor.__get__"))) (ht : PySem.W.takesIn K (.builtin "object.__class__") = some true) (hm : PySem.W.mroIn K D (.type "object") = some true) : ExcW K D :=
  ⟨h, X.ga, X.gg, X.exC, ha, hn, ht, hm⟩
theorem l_xf {a C : Addr} {d dd : Addr} {f : Str} {te : TE} {σ : L2.St} {H : Hp} {Q : VK} (h : te σ H fun x H1 => x = .ref a ∧ (Value.ref C = .ref C) ∧ ∃ (dd : Addr) (fs : List (Str × V)) (v : V), some d = some dd ∧ H1 dd = some (.xd fs) ∧ fs.lookup f = some v ∧ Q v H1) : tXf a (.ref C) (some d) C f te σ H Q := h
/-- list.count of truth values, at one place -/
theorem l_cntB {K : PySem.W.Frag} {p : Addr} {bs : List Bool} {k : Bool} {H : Hp} {Q : VK} (h : SqL K H p (bs.map V.bl)) (q : Q (.int (bs.count k : Nat)) H) : rCntB K (.ref p) [.bl k] H Q := ⟨p, bs, k, rfl, rfl, h, q⟩
/-- list.index of a truth value -/
theorem l_ixB {K : PySem.W.Frag} {p : Addr} {bs : List Bool} {k : Bool} {j : Nat} {H : Hp} {Q : VK} (h : SqL K H p (bs.map V.bl)) (hj : bs[j]? = some k) (hno : ∀ m b, m < j → bs[m]? = some b → (b == k) = false) (q : Q (.int (j : Nat)) H) : rIndex K (.ref p) [.bl k] H Q := by
  refine ⟨p, bs.map V.bl, .bl k, j, .bl k, rfl, rfl, h, rfl, ?_, ?_, ?_, ?_, q⟩
  · rw [List.all_map]
    exact List.all_eq_true.mpr fun _ _ => rfl
  · rw [List.getElem?_map, hj]; rfl
  · cases k <;> rfl
  · intro m z hm hz
    rw [List.getElem?_map] at hz
    obtain ⟨b, hb, rfl⟩ := Option.map_eq_some_iff.mp hz
    have := hno m b hm hb
    cases b <;> cases k <;> first | rfl | (exact absurd this (by decide))
/-! where the text of such an __init__ stands -/
def iniOf : Stmt → Stmt
  | .ClassDef (body := b :: _) .. => b
  | s => s
def plPa : Arguments → Pos × Pos
  | { posonlyargs := [], args := [⟨_, _, a⟩, ⟨_, _, b⟩], .. } => (a, b)
  | _ => (⟨0, 0, 0, 0⟩, ⟨0, 0, 0, 0⟩)
def plPs : List Stmt → List Expr
  | .Expr (.Call _ [.JoinedStr ps _] _ _) _ :: _ => ps
  | _ => []
def plP : List Stmt → Nat → Pos
  | [.Expr (.Call (.Attribute (.Call (.Name _ p0) [] [] p1) _ p2) [.JoinedStr _ p7] [] p8) p9, .Assign [.Attribute (.Name _ p10) _ p11] (.Name _ p12) p13], n =>
    [p0, p1, p2, p0, p0, p0, p0, p7, p8, p9, p10, p11, p12, p13].getD n ⟨0, 0, 0, 0⟩
  | _, _ => ⟨0, 0, 0, 0⟩
theorem pl_fn {P : Program} {K : PySem.W.Frag} {C fI cc cda : Addr} {od an : Option Addr} {oc doc pm ct kV : Value} {osl : Array (Option Value)} {q : Str} (S : Stmt)
    (l : K.lookup fI = some ⟨oc, od, .func (PySem.W.fnX "__init__" q (defArgs S) (defBody S) (defScope S) [("__class__", cc)] .none kV doc pm an (.ref cda) ct), osl⟩) (cd : PySem.W.codeIn K (.ref cda) q = true)
    (ha : defArgs S = plA (plPa (defArgs S)).1 (plPa (defArgs S)).2) (hb : defBody S = plB (plPs (defBody S)) (plP (defBody S))) (hs : defScope S = plS) (h1 : plText (plPs (defBody S)))
    (g : plGoes (plPs (defBody S)) (plP (defBody S)))
    (c : ∃ (c3 : Value) (d3 : Option Addr) (vs : Array Value) (s3 : Array (Option Value)) (file : Str) (tf : Tok), K.lookup cda = some ⟨c3, d3, .fields vs, s3⟩ ∧ vs[2]? = some (.str file tf) ∧ ((P.main.file : Str) == file) = true)
    (ce : ∃ (c4 : Value) (d4 : Option Addr) (s4 : Array (Option Value)), K.lookup cc = some ⟨c4, d4, .cell (some (.ref C)), s4⟩) :
    ∃ (oc' : Value) (od' : Option Addr) (doc' pm' ct' : Value) (kV' : Value) (an' : Option Addr) (osl' : Array (Option Value)) (q' : Str) (ps : List Expr) (p : Nat → Pos) (p1 p2 : Pos) (cc' cda' : Addr),
      PySem.W.fnX "__init__" q (defArgs S) (defBody S) (defScope S) [("__class__", cc)] .none kV doc pm an (.ref cda) ct = PySem.W.fnX "__init__" q' (plA p1 p2) (plB ps p) plS [("__class__", cc')] .none kV' doc' pm' an' (.ref cda') ct' ∧
      K.lookup fI = some ⟨oc', od', .func (PySem.W.fnX "__init__" q (defArgs S) (defBody S) (defScope S) [("__class__", cc)] .none kV doc pm an (.ref cda) ct), osl'⟩ ∧ PySem.W.codeIn K (.ref cda') q' = true ∧ plText ps ∧ plGoes ps p ∧
      (∃ (c3 : Value) (d3 : Option Addr) (vs : Array Value) (s3 : Array (Option Value)) (file : Str) (tf : Tok), K.lookup cda' = some ⟨c3, d3, .fields vs, s3⟩ ∧ vs[2]? = some (.str file tf) ∧ ((P.main.file : Str) == file) = true) ∧
      ∃ (c4 : Value) (d4 : Option Addr) (s4 : Array (Option Value)), K.lookup cc' = some ⟨c4, d4, .cell (some (.ref C)), s4⟩ :=
  ⟨oc, od, doc, pm, ct, kV, an, osl, q, _, _, _, _, cc, cda, by rw [← ha, ← hb, ← hs], l, cd, h1, g, c, ce⟩
theorem FnP.mono {P : Program} {w : World} {K : PySem.W.Frag} {mg : Str → Option Value} {base : Heap} {CX : CXT} {j k : Nat} {f : Addr} {fd : FuncData} {ps : List Str} {sp : Sp} {p : Addr × Obj} (F : FnP P w K mg base CX j f fd ps sp p) (h : j ≤ k) : FnP P w K mg base CX k f fd ps sp p :=
  ⟨F.len, fun A outer s H args us vs Q E hr hpin e0 hb r hsp => F.run A outer s H args us vs Q E (hr.mono h) hpin e0 hb r hsp⟩
end J

namespace J
open PySem PySem.Spec PyProof.Rows L2
/-! texts: n times, their signs as a list, joined -/
def rMulS : R2 := fun x y H Q => ∃ (a : Str) (n : Int), x = .str a ∧ y = .int n ∧ a.length ≤ 1000 ∧ 0 ≤ n ∧ n ≤ 1000 ∧ Q (.str (Txt.mul a n)) H
theorem op_mul_str {X : Cx} : OpR X (binaryOp .Mult) rMulS := by
  intro pins s σ H x y v u Q I rx ry h
  obtain ⟨a, n, rfl, rfl, ha, h0, h1, q⟩ := h
  obtain ⟨t, rfl⟩ := rx
  obtain ⟨t', rfl⟩ := ry
  exact SB.mul (mulOk_of 1000 1000 ha h1 (Int.le_trans (by decide) h0) (by decide) (by decide)) fun t2 k => ⟨.str _, H, L2.Inv.tok I _, ⟨_, rfl⟩, q⟩
def sgs (x : Str) : List Str := x.cps.toList.map fun c => ⟨#[c]⟩
theorem signs_vals {x : Str} {acc : Array Value} (h : ItemsOf (SignAt x) acc x.cps.size) : Vals ((sgs x).map V.str) acc.toList := by
  obtain ⟨hl, h⟩ := h
  have key : ∀ (cs : List Nat) (vs : List Value), vs.length = cs.length → (∀ (j : Nat) (v : Value), vs[j]? = some v → ∃ c u, cs[j]? = some c ∧ v = .str ⟨#[c]⟩ u) → Vals ((cs.map fun c => (⟨#[c]⟩ : Str)).map V.str) vs := by
    intro cs
    induction cs with
    | nil =>
      intro vs hv _
      cases vs with
      | nil => exact .nil
      | cons _ _ => cases hv
    | cons c cs ih =>
      intro vs hv hh
      cases vs with
      | nil => cases hv
      | cons v vs =>
        obtain ⟨c', u, e, rfl⟩ := hh 0 v rfl
        obtain rfl : c = c' := Option.some.inj e
        exact .cons ⟨u, rfl⟩ (ih vs (Nat.succ.inj hv) fun j v hj => hh (j + 1) v hj)
  refine key x.cps.toList acc.toList (by rw [Array.length_toList, Array.length_toList, hl]) fun j v hj => ?_
  rw [Array.getElem?_toList] at hj
  obtain ⟨c, u, e1, e2⟩ := h j v hj
  exact ⟨c, u, by rw [Array.getElem?_toList]; exact e1, e2⟩
def rListS : List V → Hp → VK → Prop := fun xs H Q => ∃ a : Str, xs = [.str a] ∧ a.length ≤ 1000 ∧ ∀ l, H l = none → Q (.ref l) (upd H l (.lst ((sgs a).map V.str)))
theorem call_listS {X : Cx} (hc : X.calm = true) : CallR X (.type "list") rListS := by
  intro pins s σ H xs us Q I r h
  obtain ⟨a, rfl, ha, q⟩ := h
  obtain ⟨u, rfl, rx⟩ := Vals.one r
  obtain ⟨t, rfl⟩ := rx
  have hz : a.cps.size ≤ 1000 := ha
  have hd : X.A.handled = none := (I.ok.hd hc)
  refine call_list_str hd a t (fun h' tk acc c' kp e hi => ?_) (Nat.le_trans hz (by decide))
  have hl : ((sgs a).map V.str).length ≤ sizeLine := by
    rw [List.length_map]
    show (a.cps.toList.map _).length ≤ _
    rw [List.length_map, Array.length_toList]
    exact Nat.le_trans hz (by decide)
  exact ⟨.ref s.heap.objs.size, _, L2.Inv.laid (t' := tk) I kp (Nat.le_refl _) (show ObjOk X.prog X.w _ h' _ (.lst ((sgs a).map V.str)) from ⟨hl, acc.toList, c', signs_vals hi, by rw [Array.toArray_toList]; exact e⟩), rfl, q _ (L2.HOk.fresh I.hok (Nat.le_refl _))⟩
theorem l_listS {a : Str} {H : Hp} {Q : VK} (ha : a.length ≤ 1000) (q : ∀ (l : Addr) (H' : Hp), H l = none → Same H H' → H' l = some (.lst ((sgs a).map V.str)) → Q (.ref l) H') : rListS [.str a] H Q :=
  ⟨a, rfl, ha, fun l hl => q l _ hl (sm_new hl _) upd_same⟩
theorem join_tree_str (sep : Str) (t : Tok) (x : Str) (u : Tok) : Builtin.«str.join» ⟨[.str sep t, .str x u], []⟩ = (do
    let ty ← typeOf (.str x u)
    if (ty == .type "list" || ty == .type "tuple") = true then (do
      match ← seqItems? (.str x u) with
      | some xs => PySem.joinTail sep xs.toList
      | none => unsupported "internal:str.join")
    else (do
      let it ← (pyIter (.str x u)).tryCatch fun e => do
        if ← isInstance e (.type "TypeError") then rule "str.join.not-iterable"; raiseError "TypeError" "can only join an iterable" else throw e
      let items ← collect it
      PySem.joinTail sep items)) := rfl
theorem signs_strs {x : Str} {acc : Array Value} (h : ItemsOf (SignAt x) acc x.cps.size) : StrsAre acc.toList (sgs x) := by
  have key : ∀ (ys : List Str) (vs : List Value), Vals (ys.map V.str) vs → StrsAre vs ys := by
    intro ys
    induction ys with
    | nil => intro vs h; cases h; exact .nil
    | cons y ys ih =>
      intro vs h
      cases h with
      | cons r t =>
        obtain ⟨u, rfl⟩ := r
        exact .cons y u (ih _ t)
  exact key _ _ (signs_vals h)
theorem join_str {prog : Program} {w : World} {A : Around} {E : Value → Shared → Prop} {s : Shared} {x b : Str} {t u : Tok} {Q : Value → Shared → Prop} (hh : A.handled = none) (hA : b.cps.all (· < 128) = true) (hok : JoinOk x (sgs b) = true) (hn : b.cps.size ≤ sizeLine)
    (hq : ∀ h' k t', (∀ a o, s.heap.get? a = some o → h'.get? a = some o) → Q (.str (Txt.join x (sgs b)) t') { s with heap := h', toks := k }) :
    wpAny (model prog w) A (call (.builtin "str.join") [.str x t, .str b u]) Q E s := by
  refine wpAny_call (codeAny_call_builtin F.slot_str_join.plain F.entry_str_join (F.slot_str_join.check _ _ _ _ _ _ _ _ (typeIs_str _ _ _) (F.args_str_join_2 _ _) ?_))
  rw [join_tree_str]
  refine wpAny_bind (wpAny_typeOf (T := "str") (v := .str b u) rfl ?_)
  show wpAny _ A.in1 ((pyIter (.str b u)).tryCatch _ >>= fun it => collect it >>= fun items => PySem.joinTail x items) _ _ s
  refine wpAny_bind (wpAny_tryCatch (wpAny_pyIter_ascii hA ?_))
  have hst : (s.heap.push { cls := .type "str_ascii_iterator", data := .fields #[.str b u, .int 0 0] }).IsStrIter s.heap.objs.size "str_ascii_iterator" b u 0 := ⟨_, Heap.get?_push_size _ rfl, rfl, rfl⟩
  refine wpAny_bind (wpAny_collect_iter (A := A.in1) (T := "str_ascii_iterator") (.inl rfl) (Walks.strAscii (A := A.in1.in1) hh s.heap.objs.size b u).toS (fun i s st => PySem.Heap.IsStrIter.typeIs st) hst (fun c hc => ?_) List.mem_cons_self (fun s' acc hm hi => ?_) hn)
  · rw [List.mem_singleton.mp hc]
    show _ < (s.heap.push _).objs.size
    rw [Heap.size_push]
    exact Nat.lt_succ_self _
  · obtain ⟨l, hl, ht⟩ := strsAre_values (signs_strs hi)
    rw [hl]
    have hok2 : JoinOk x (l.map (·.1)) = true := by rw [ht]; exact hok
    unfold JoinOk at hok2
    rw [Bool.not_eq_true'] at hok2
    have kp : ∀ a o, s.heap.get? a = some o → s'.heap.get? a = some o := fun a o e => hm.heap a o (fun hb => absurd (Heap.lt_size e) (by rw [List.mem_singleton.mp hb]; exact Nat.lt_irrefl _)) (Heap.get?_push_of_some _ e)
    have es : ∀ k, { s' with toks := k } = ({ s with heap := s'.heap, toks := k } : Shared) := fun k => by
      obtain ⟨hp, g, d, tk, os⟩ := s'
      have h1 := hm.gens
      have h2 := hm.drawn
      have h3 := hm.os
      dsimp only at h1 h2 h3
      subst h1 h2 h3
      rfl
    have g : Gives (PySem.joinTail x (PySem.strValues l)) (joinMade x l) := by
      have g0 := gives_joinTail x l hok2
      cases l with
      | nil => exact g0
      | cons p r => cases r with
        | nil => exact g0
        | cons q r' => exact g0
    refine g prog w A (PySem.wants Q E) s' (post_join l ⟨joinFit_length hok2, fun t' k => ?_⟩)
    rw [ht, es k]
    exact hq _ k t' kp
def rJoinS : V → List V → Hp → VK → Prop := fun x xs H Q => ∃ a b : Str, x = .str a ∧ xs = [.str b] ∧ a.length ≤ 1000 ∧ b.length ≤ 1000 ∧ b.cps.all (· < 128) = true ∧ Q (.str (Txt.join a (sgs b))) H
theorem sgs_sum (b : Str) : ((sgs b).map (·.length)).sum = b.length ∧ (sgs b).length = b.length := by
  have key : ∀ cs : List Nat, ((cs.map fun c => (⟨#[c]⟩ : Str)).map (·.length)).sum = cs.length := by
    intro cs
    induction cs with
    | nil => rfl
    | cons c cs ih =>
      rw [List.map_cons, List.map_cons, List.sum_cons, ih, List.length_cons]
      show 1 + cs.length = cs.length + 1
      omega
  refine ⟨?_, ?_⟩
  · show _ = b.cps.size
    rw [← Array.length_toList]
    exact key _
  · show (b.cps.toList.map _).length = b.cps.size
    rw [List.length_map, Array.length_toList]
theorem mt_joinS {X : Cx} (hc : X.calm = true) : MtR X "str.join" rJoinS := by
  intro pins s σ H x xs v us Q I rx rxs h
  obtain ⟨a, b, rfl, rfl, ha, hb, hA, q⟩ := h
  obtain ⟨t, rfl⟩ := rx
  obtain ⟨u', rfl, ru⟩ := Vals.one rxs
  obtain ⟨u, rfl⟩ := ru
  have hd : X.A.handled = none := (I.ok.hd hc)
  obtain ⟨e1, e2⟩ := sgs_sum b
  refine join_str hd hA (joinOk_of ?_) (Nat.le_trans hb (by decide)) fun h' k t' kp => ⟨.str _, H, L2.Inv.kept I kp, ⟨t', rfl⟩, q⟩
  rw [e1, e2]
  have := Nat.mul_le_mul hb ha
  omega
def rCountS : V → List V → Hp → VK → Prop := fun x xs H Q => ∃ a b : Str, x = .str a ∧ xs = [.str b] ∧ Q (.int (Txt.count a b)) H
theorem mt_countS {X : Cx} : MtR X "str.count" rCountS := mt_count
theorem l_dget2 {td ty tx : TE} {σ : L2.St} {H : Hp} {Q : VK} (h : td σ H fun x H1 => ∃ a, x = .ref a ∧ IsD H1 a ∧ ty σ H1 fun y H2 => tx σ H2 fun z H3 => ∃ o, DGet H3 a y o ∧ Q (o.getD z) H3) : tDGet2 td ty tx σ H Q := h
/-- a text that is no key of a written dict -/
theorem khas_no {K : PySem.W.Frag} {w : World} {a : Addr} {es : Array DictEntry} {n : Nat} {keys : List Str} {z : Str} (h : K.lookup a = some ⟨.type "dict", none, .dict es n, #[]⟩) (q : PySem.W.KeysLit w.params es.toList) (low : (a == sysModules) = false)
    (ks : (es.toList.all fun e => match e.key with | .str x _ => keys.any (· == x) | _ => false) = true) (hz : ∀ x ∈ keys, x ≠ z) : KHas K w a z false := by
  have hk : ∀ e ∈ es.toList, ∃ x t, e.key = .str x t ∧ x ≠ z := fun e he => by
    have := List.all_eq_true.mp ks e he
    cases hkey : e.key with
    | str x t =>
      rw [hkey] at this
      obtain ⟨y, hy, e1⟩ := List.any_eq_true.mp this
      exact ⟨x, t, rfl, hz x (by rw [← beq_iff_eq.mp e1]; exact hy)⟩
    | _ => rw [hkey] at this; cases this
  have hn : PySem.W.nsIn K a z = some none := by
    unfold PySem.W.nsIn
    rw [h]
    show (match es.toList.find? (·.key.isStr z) with
      | some e => some (some e.val)
      | none => if es.toList.any (·.refKey) then none else some none) = some none
    have f : es.toList.find? (·.key.isStr z) = none := by
      rw [List.find?_eq_none]
      intro e he hs
      obtain ⟨x, t, e1, ne⟩ := hk e he
      rw [e1] at hs
      have hs : (x == z) = true := hs
      exact ne (beq_iff_eq.mp hs)
    have g : es.toList.any (·.refKey) = false := by
      rw [List.any_eq_false]
      intro e he hs
      obtain ⟨x, t, e1, _⟩ := hk e he
      have : e.refKey = false := by unfold DictEntry.refKey; rw [e1]
      rw [this] at hs
      cases hs
    rw [f, g]
    rfl
  exact ⟨es, n, none, h, q, low, hn, rfl⟩
end J

local macro_rules | `(tactic| tm_at "dec") => `(tactic| first | decide | exact of_decide_eq_true rfl | omega)
local macro_rules | `(tactic| tm_at "hp") => `(tactic| first
  | assumption
  | exact L2.Same.refl _
  | (refine' L2.Same.free (by assumption) ?k1; (case k1 => tm_at "hp"))
  | (refine' J.Fr.at (by assumption) ?k1 ?k2 ?k3; (case k1 => assumption); (case k2 => assumption); (case k3 => tm_at "hp"))
  | (refine' L2.SqT.of ?k1; (case k1 => tm_at "hp"))
  | (refine' L2.SqL.of ?k1; (case k1 => tm_at "hp"))
  | (refine' J.sm_ap (by assumption) ?k1; (case k1 => tm_at "hp"))
  | (refine' J.CA.mono (by assumption) ?k1; (case k1 => tm_at "hp"))
  | (refine' J.WA.mono (by assumption) ?k1; (case k1 => tm_at "hp"))
  | (refine' J.sm_t (by assumption) ?k1; (case k1 => tm_at "hp"))
  | (refine' J.sm_l (by assumption) ?k1; (case k1 => tm_at "hp"))
  | (refine' J.sm_tr (by assumption) ?k1; (case k1 => tm_at "hp")))
local macro_rules | `(tactic| tm_at "r") => `(tactic| first | exact rfl | decide +kernel | exact decide_eq_true (by omega) | exact decide_eq_false (by omega))
local macro_rules | `(tactic| tm_at "ty") => `(tactic| first | exact J.ty_int | exact J.ty_bl | exact J.ty_str | exact J.ty_non | exact J.ty_sqL (by assumption) | exact J.ty_sqT (by assumption) | (refine' J.ty_tup ?k1; (case k1 => tm_at "hp")) | (refine' J.ty_lst ?k1; (case k1 => tm_at "hp")))
local macro_rules | `(tactic| tm_at "j1") => `(tactic| first
  | with_reducible refine J.l_seq ?_
  | with_reducible refine J.l_asg ?_
  | with_reducible refine J.l_par ?_
  | with_reducible refine J.l_two ?_
  | with_reducible refine J.l_op ?_
  | ((with_reducible refine' J.l_var ?k1 ?_); (case k1 => exact rfl))
  | with_reducible refine J.l_c ?_
  | with_reducible refine J.l_name ?_
  | ((with_reducible refine' J.l_ixT ?k1 ?k2 ?_); (case k1 => tm_at "hp"); (case k2 => first | exact rfl | exact J.at0))
  | ((with_reducible refine' J.l_ixL ?k1 ?k2 ?_); (case k1 => tm_at "hp"); (case k2 => first | exact rfl | exact J.at0))
  | with_reducible refine J.l_ifS ?_
  | with_reducible refine J.l_test ?_
  | with_reducible refine J.l_tB ?_
  | with_reducible refine J.l_bl ?_
  | ((with_reducible refine' J.l_eq ?k1 ?_); (case k1 => exact rfl))
  | ((with_reducible refine' J.l_ne ?k1 ?_); (case k1 => exact rfl))
  | ((with_reducible refine' J.i_t ?k1 ?_); (case k1 => tm_at "r"))
  | ((with_reducible refine' J.i_f ?k1 ?_); (case k1 => tm_at "r"))
  | with_reducible refine J.l_ret ?_
  | with_reducible refine J.l_retN ?_
  | with_reducible refine J.l_next ?_
  | with_reducible refine J.l_brk ?_
  | with_reducible refine J.l_cnt ?_
  | with_reducible refine J.l_drop ?_
  | ((with_reducible refine' J.l_aug ?k1 ?_); (case k1 => exact rfl))
  | with_reducible refine J.l_ipI ?_
  | with_reducible refine J.l_iZip ?_
  | with_reducible refine J.l_un ?_
  | with_reducible refine J.l_I0 ?_
  | ((with_reducible refine' J.l_I ?k1 ?_); (case k1 => first | assumption | tm_at "dec" | exact Or.inr (by decide) | exact (by decide) | exact ⟨by decide, by decide⟩ | exact ⟨by omega, by omega⟩ | exact (show (0 : Int) < _ by decide)))
  | with_reducible refine J.l_U ?_
  | with_reducible refine J.l_and ?_
  | with_reducible refine J.l_or ?_
  | with_reducible refine J.l_not ?_
  | with_reducible refine J.l_andV ?_
  | with_reducible refine J.l_orV ?_
  | with_reducible refine J.l_notV ?_
  | with_reducible refine J.l_if ?_
  | with_reducible refine J.l_chain ?_
  | with_reducible refine J.l_nil ?_
  | with_reducible refine J.l_cons ?_
  | with_reducible refine J.l_tup ?_
  | with_reducible refine J.l_lst ?_
  | ((with_reducible refine' J.l_new ?k1 ?_); (case k1 => (tm_at "dec")); intro _ _ _ _ _)
  | with_reducible refine J.l_CB ?_
  | ((with_reducible refine' J.l_swapD ?_); intro _ _ _ _ _)
  | with_reducible refine J.l_dget ?_
  | ((with_reducible refine' J.l_dgetS ?k1 ?_); (case k1 => tm_at "hp"))
  | with_reducible refine J.l_lc ?_
  | with_reducible refine J.l_lc2 ?_
  | with_reducible refine J.l_for ?_
  | with_reducible refine J.l_iTup ?_
  | with_reducible refine J.l_iList ?_
  | with_reducible refine J.l_iRng1 ?_
  | with_reducible refine J.l_iRng2 ?_
  | with_reducible refine J.l_bm ?_
  | ((with_reducible refine' J.l_isi (b := true) (L2.ClsV.ty _) ?k1 (L2.kit_ty ?k2) ?_); (case k1 => tm_at "ty"); (case k2 => decide +kernel))
  | ((with_reducible refine' J.l_isi (b := false) (L2.ClsV.ty _) ?k1 (L2.kit_ty ?k2) ?_); (case k1 => tm_at "ty"); (case k2 => decide +kernel))
  | with_reducible refine J.l_bm0 ?_
  | ((with_reducible refine' J.l_ty ?k1 ?_); (case k1 => tm_at "hp"))
  | with_reducible refine J.l_call ?_
  | with_reducible refine J.l_sl ?_
  | with_reducible refine J.l_noPart ?_
  | with_reducible refine J.l_part ?_
  | with_reducible refine J.l_isInt ?_
  | ((with_reducible refine' J.l_gtup ?k1 ?k2 ?_); (case k1 => tm_at "hp"); (case k2 => exact rfl))
  | with_reducible refine J.l_gnil ?_
  | with_reducible refine J.l_gcons ?_
  | with_reducible refine J.l_gsub ?_
  | ((with_reducible refine' J.l_slT ?k1 ?k2 ?_); (case k1 => tm_at "hp"); (case k2 => tm_at "dec"); intro _ _ _ _ _)
  | ((with_reducible refine' J.l_slL ?k1 ?_); (case k1 => tm_at "hp"); intro _ _ _ _ _)
  | ((with_reducible refine' J.l_cat ?k1 ?k2 ?k3 ?_); (case k1 => tm_at "hp"); (case k2 => tm_at "hp"); (case k3 => (tm_at "dec")); intro _ _ _ _ _)
  | ((with_reducible refine' J.l_in ?k1 ?k2 ?k3 ?_); (case k1 => tm_at "hp"); (case k2 => exact rfl); (case k3 => exact rfl))
  | ((with_reducible refine' J.l_lenT ?k1 ?_); (case k1 => tm_at "hp"))
  | ((with_reducible refine' J.l_lenL ?k1 ?_); (case k1 => tm_at "hp"))
  | with_reducible refine J.l_intB ?_
  | with_reducible refine J.l_intI ?_
  | with_reducible refine J.l_isNone ?_
  | with_reducible refine J.l_notNone ?_
  | ((with_reducible refine' J.l_ixD ?k1 ?_); (case k1 => assumption))
  | ((with_reducible refine' J.l_listL ?k1 ?_); (case k1 => tm_at "hp"); intro _ _ _ _ _)
  | ((with_reducible refine' J.l_listT ?k1 ?_); (case k1 => tm_at "hp"); intro _ _ _ _ _)
  | ((with_reducible refine' J.l_tupleL ?k1 ?_); (case k1 => tm_at "hp"); intro _ _ _ _ _))
local macro_rules | `(tactic| tm_at "j") => `(tactic| repeat tm_at "j1")
local macro_rules | `(tactic| tm_at "lnz1") => `(tactic| first | (rename_i h; obtain ⟨e, _⟩ := h; subst e; exact rfl) | (rename_i h; obtain ⟨_, h⟩ := h; tm_at "lnz1"))
local macro_rules | `(tactic| tm_at "lnz") => `(tactic| (intro vs H Q E h; tm_at "lnz1"))

namespace J
open PySem L2
def t_law_begun (K : PySem.W.Frag) (w : World) : TS :=
  tSeq (tAsg (tC (.int 0)) (gName 1))
  (tSeq (tFor (iList K (tVar 0)) (gName 2) (tAsg (tOp (rI (fun _ j => 0 < j) fun i j => .int (i % j)) (tOp (rI0 fun i j => .int (i + j)) (tOp (rI0 fun i j => .int (i + j)) (tOp (rI CMul fun i j => .int (i * j)) (tVar 1) (tC (.int 48271))) (tOp (rI CMul fun i j => .int (i * j)) (tVar 2) (tC (.int 69621)))) (tC (.int 11))) (tC (.int 2147483647))) (gName 1)))
  (tRet (tLst (tCons (tCB (rListOf K) (tCons (tVar 0) (tNil))) (tCons (tOp (rI CMul fun i j => .int (i * j)) (tVar 1) (tCB (rInt1) (tCons (tOp (rI0 fun i j => .bl (decide (j < i))) (tCB (rLen K) (tCons (tVar 0) (tNil))) (tC (.int 2))) (tNil)))) (tNil))))))

def t_law_take (K : PySem.W.Frag) (w : World) : TS :=
  tSeq (tIfS (tTest (tOp (rEqD K) (tOp (rIxL K) (tVar 0) (tC (.int 0))) (tLst (tNil)))) (tSeq (tAsg (tOp (rI (fun _ j => 0 < j) fun i j => .int (i % j)) (tOp (rI CMul fun i j => .int (i * j)) (tOp (rIxL K) (tVar 0) (tC (.int 1))) (tC (.int 48271))) (tC (.int 2147483647))) (gSub (tVar 0) (tC (.int 1)) rSetL))
  (tRet (tOp (rI (fun _ j => 0 < j) fun i j => .int (i % j)) (tOp (rI CDiv fun i j => .int (i / j)) (tOp (rIxL K) (tVar 0) (tC (.int 1))) (tC (.int 7))) (tVar 1)))) (tNext))
  (tSeq (tAsg (tOp (rIxL K) (tOp (rIxL K) (tVar 0) (tC (.int 0))) (tC (.int 0))) (gName 2))
  (tSeq (tAsg (tOp (rI CDiv fun i j => .int (i / j)) (tVar 2) (tVar 1)) (gSub (tOp (rIxL K) (tVar 0) (tC (.int 0))) (tC (.int 0)) rSetL))
  (tSeq (tIfS (tOr (tTest (tOp (rEq) (tOp (rIxL K) (tOp (rIxL K) (tVar 0) (tC (.int 0))) (tC (.int 0))) (tC (.int 0)))) (tTest (tOp (rEq) (tOp (rIxL K) (tOp (rIxL K) (tVar 0) (tC (.int 0))) (tC (.int 0))) (tUn (rU fun i => .int (-i)) (tC (.int 1)))))) (tDrop (tBM K "list" (rPopAt) (tOp (rIxL K) (tVar 0) (tC (.int 0))) (tCons (tC (.int 0)) (tNil)))) (tNext))
  (tRet (tOp (rI (fun _ j => 0 < j) fun i j => .int (i % j)) (tVar 2) (tVar 1))))))

def t_law_part (K : PySem.W.Frag) (w : World) (sp_law_take : Sp) (sp_law_bare : Sp) : TS :=
  tSeq (tIfS (tTest (tOp (rEq) (tCall sp_law_take [] E0 (tCons (tVar 0) (tCons (tC (.int 5)) (tNil)))) (tC (.int 1)))) (tRet (tTup (tCons (tC (.str "not")) (tCons (tCall sp_law_bare [] E0 (tCons (tVar 0) (tCons (tVar 1) (tCons (tVar 2) (tNil))))) (tNil))))) (tNext))
  (tRet (tCall sp_law_bare [] E0 (tCons (tVar 0) (tCons (tVar 1) (tCons (tVar 2) (tNil))))))

def t_law_bare (K : PySem.W.Frag) (w : World) (sp_law_take : Sp) (sp_law_part : Sp) : TS :=
  tSeq (tIfS (tTest (tOp (rEq) (tVar 1) (tC (.int 1)))) (tRet (tTup (tCons (tC (.str "look")) (tCons (tOp (rIxL K) (tVar 2) (tCall sp_law_take [] E0 (tCons (tVar 0) (tCons (tCB (rLen K) (tCons (tVar 2) (tNil))) (tNil))))) (tNil))))) (tNext))
  (tSeq (tAsg (tOp (rIxL K) (tLst (tCons (tC (.int 1)) (tCons (tOp (rI0 fun i j => .int (i - j)) (tVar 1) (tC (.int 1))) (tCons (tOp (rI0 fun i j => .int (i + j)) (tC (.int 1)) (tCall sp_law_take [] E0 (tCons (tVar 0) (tCons (tOp (rI0 fun i j => .int (i - j)) (tVar 1) (tC (.int 1))) (tNil))))) (tCons (tOp (rI CDiv fun i j => .int (i / j)) (tVar 1) (tC (.int 2))) (tNil)))))) (tCall sp_law_take [] E0 (tCons (tVar 0) (tCons (tC (.int 4)) (tNil))))) (gName 3))
  (tSeq (tAsg (tOp (rIxL K) (tLst (tCons (tC (.str "and")) (tCons (tC (.str "or")) (tNil)))) (tCall sp_law_take [] E0 (tCons (tVar 0) (tCons (tC (.int 2)) (tNil))))) (gName 4))
  (tRet (tTup (tCons (tVar 4) (tCons (tCall sp_law_part [] E0 (tCons (tVar 0) (tCons (tVar 3) (tCons (tVar 2) (tNil))))) (tCons (tCall sp_law_part [] E0 (tCons (tVar 0) (tCons (tOp (rI0 fun i j => .int (i - j)) (tVar 1) (tVar 3)) (tCons (tVar 2) (tNil))))) (tNil))))))))

def t_law_deep (K : PySem.W.Frag) (w : World) (sp_law_deep : Sp) : TS :=
  tRet (tIf (tTest (tOp (rEq) (tOp (rIxT K) (tVar 0) (tC (.int 0))) (tC (.str "look")))) (tC (.int 0)) (tOp (rI0 fun i j => .int (i + j)) (tC (.int 1)) (tCB (rMax K) (tCons (tLc (iTup K (tSl (rSlT K) (tVar 0) (tPart (tC (.int 1))) (tNoPart))) (gName 1) (tYes) (tCall sp_law_deep [] E0 (tCons (tVar 1) (tNil))) [1]) (tNil)))))

def t_law_condition (K : PySem.W.Frag) (w : World) (sp_law_take : Sp) (sp_law_part : Sp) (sp_law_deep : Sp) : TS :=
  tSeq (tAsg (tOp (rIxL K) (tLst (tCons (tLst (tCons (tC (.int 0)) (tCons (tC (.int 1)) (tCons (tC (.int 2)) (tNil))))) (tCons (tLst (tCons (tC (.int 0)) (tCons (tC (.int 1)) (tCons (tC (.int 2)) (tCons (tC (.int 3)) (tCons (tC (.int 4)) (tCons (tC (.int 5)) (tCons (tC (.int 6)) (tCons (tC (.int 7)) (tNil)))))))))) (tCons (tLst (tCons (tC (.int 5)) (tCons (tC (.int 7)) (tNil)))) (tNil))))) (tCall sp_law_take [] E0 (tCons (tVar 0) (tCons (tC (.int 3)) (tNil))))) (gName 2))
  (tSeq (tAsg (tCall sp_law_part [] E0 (tCons (tVar 0) (tCons (tOp (rI0 fun i j => .int (i + j)) (tC (.int 1)) (tCall sp_law_take [] E0 (tCons (tVar 0) (tCons (tVar 1) (tNil))))) (tCons (tVar 2) (tNil))))) (gName 3))
  (tSeq (tWhile (tTest (tOp (rI0 fun i j => .bl (decide (j < i))) (tCall sp_law_deep [] E0 (tCons (tVar 3) (tNil))) (tC (.int 10)))) (tAsg (tOp (rIxT K) (tVar 3) (tC (.int 1))) (gName 3)))
  (tRet (tVar 3))))

def t_law_pairs (K : PySem.W.Frag) (w : World) (sp_law_pairs : Sp) : TS :=
  tSeq (tIfS (tTest (tOp (rEq) (tOp (rIxT K) (tVar 0) (tC (.int 0))) (tC (.str "look")))) (tRet (tC (.int 0))) (tNext))
  (tRet (tOp (rI0 fun i j => .int (i + j)) (tCB (rInt1) (tCons (tOp (rNe) (tOp (rIxT K) (tVar 0) (tC (.int 0))) (tC (.str "not"))) (tNil))) (tCB (rSum K) (tCons (tLc (iTup K (tSl (rSlT K) (tVar 0) (tPart (tC (.int 1))) (tNoPart))) (gName 1) (tYes) (tCall sp_law_pairs [] E0 (tCons (tVar 1) (tNil))) [1]) (tNil)))))

def t_law_exchanged (K : PySem.W.Frag) (w : World) (sp_law_exchanged : Sp) (sp_law_pairs : Sp) : TS :=
  tSeq (tIfS (tTest (tOp (rEq) (tOp (rIxT K) (tVar 0) (tC (.int 0))) (tC (.str "look")))) (tRet (tVar 0)) (tNext))
  (tSeq (tIfS (tTest (tOp (rEq) (tOp (rIxT K) (tVar 0) (tC (.int 0))) (tC (.str "not")))) (tRet (tTup (tCons (tC (.str "not")) (tCons (tCall sp_law_exchanged [] E0 (tCons (tOp (rIxT K) (tVar 0) (tC (.int 1))) (tCons (tVar 1) (tNil)))) (tNil))))) (tNext))
  (tSeq (tAsg (tOp (rI0 fun i j => .int (i + j)) (tC (.int 1)) (tCall sp_law_pairs [] E0 (tCons (tOp (rIxT K) (tVar 0) (tC (.int 1))) (tNil)))) (gName 2))
  (tSeq (tAsg (tCall sp_law_exchanged [] E0 (tCons (tOp (rIxT K) (tVar 0) (tC (.int 1))) (tCons (tSl (rSlL K) (tVar 1) (tPart (tC (.int 1))) (tPart (tVar 2))) (tNil)))) (gName 3))
  (tSeq (tAsg (tCall sp_law_exchanged [] E0 (tCons (tOp (rIxT K) (tVar 0) (tC (.int 2))) (tCons (tSl (rSlL K) (tVar 1) (tPart (tVar 2)) (tNoPart)) (tNil)))) (gName 4))
  (tRet (tIf (tTest (tOp (rEq) (tOp (rIxL K) (tVar 1) (tC (.int 0))) (tC (.int 1)))) (tTup (tCons (tOp (rIxT K) (tVar 0) (tC (.int 0))) (tCons (tVar 4) (tCons (tVar 3) (tNil))))) (tTup (tCons (tOp (rIxT K) (tVar 0) (tC (.int 0))) (tCons (tVar 3) (tCons (tVar 4) (tNil)))))))))))

def t_law_alike (K : PySem.W.Frag) (w : World) (sp_law_alike : Sp) : TS :=
  tSeq (tIfS (tTest (tOp (rIsNone) (tVar 1) (tC .non))) (tRet (tOp (rIsNone) (tVar 0) (tC .non))) (tNext))
  (tSeq (tIfS (tB (tCB (rIsi K) (tCons (tVar 1) (tCons (tC (.ty "bool")) (tNil))))) (tRet (tAndV (tCB (rIsi K) (tCons (tVar 0) (tCons (tC (.ty "bool")) (tNil)))) (tOp (rEq) (tVar 0) (tVar 1)))) (tNext))
  (tSeq (tIfS (tB (tCB (rIsi K) (tCons (tVar 1) (tCons (tC (.ty "int")) (tNil))))) (tRet (tAndV (tCB (rIsi K) (tCons (tVar 0) (tCons (tC (.ty "int")) (tNil)))) (tAndV (tNotV (tCB (rIsi K) (tCons (tVar 0) (tCons (tC (.ty "bool")) (tNil))))) (tOp (rEq) (tVar 0) (tVar 1))))) (tNext))
  (tSeq (tIfS (tB (tCB (rIsi K) (tCons (tVar 1) (tCons (tC (.ty "str")) (tNil))))) (tRet (tAndV (tCB (rIsi K) (tCons (tVar 0) (tCons (tC (.ty "str")) (tNil)))) (tOp (rEq) (tVar 0) (tVar 1)))) (tNext))
  (tSeq (tIfS (tOr (tTest (tOp (rNe) (tCB (rIsi K) (tCons (tVar 1) (tCons (tC (.ty "tuple")) (tNil)))) (tCB (rIsi K) (tCons (tVar 0) (tCons (tC (.ty "tuple")) (tNil)))))) (tTest (tOp (rNe) (tCB (rIsi K) (tCons (tVar 1) (tCons (tC (.ty "list")) (tNil)))) (tCB (rIsi K) (tCons (tVar 0) (tCons (tC (.ty "list")) (tNil))))))) (tRet (tC (.bl false))) (tNext))
  (tSeq (tIfS (tTest (tOp (rNe) (tCB (rLen K) (tCons (tVar 0) (tNil))) (tCB (rLen K) (tCons (tVar 1) (tNil))))) (tRet (tC (.bl false))) (tNext))
  (tSeq (tFor (iRng1 (tCons (tCB (rLen K) (tCons (tVar 1) (tNil))) (tNil))) (gName 2) (tIfS (tNot (tB (tCall sp_law_alike [] E0 (tCons (tOp (rIx K) (tVar 0) (tVar 2)) (tCons (tOp (rIx K) (tVar 1) (tVar 2)) (tNil)))))) (tRet (tC (.bl false))) (tNext)))
  (tRet (tC (.bl true)))))))))

def t_law_looked (K : PySem.W.Frag) (w : World) (sp_law_looked : Sp) : TS :=
  tRet (tIf (tTest (tOp (rEq) (tOp (rIxT K) (tVar 0) (tC (.int 0))) (tC (.str "look")))) (tC (.int 1)) (tCB (rSum K) (tCons (tLc (iTup K (tSl (rSlT K) (tVar 0) (tPart (tC (.int 1))) (tNoPart))) (gName 1) (tYes) (tCall sp_law_looked [] E0 (tCons (tVar 1) (tNil))) [1]) (tNil))))

def t_law_text (K : PySem.W.Frag) (w : World) (sp_law_text : Sp) : TS :=
  tSeq (tIfS (tTest (tOp (rEq) (tOp (rIxT K) (tVar 0) (tC (.int 0))) (tC (.str "look")))) (tRet (tOp (rIxS) (tC (.str "abcdefgh")) (tOp (rIxT K) (tVar 0) (tC (.int 1))))) (tNext))
  (tSeq (tIfS (tTest (tOp (rEq) (tOp (rIxT K) (tVar 0) (tC (.int 0))) (tC (.str "not")))) (tRet (tOp (rAddStr) (tC (.str "!")) (tCall sp_law_text [] E0 (tCons (tOp (rIxT K) (tVar 0) (tC (.int 1))) (tCons (tC (.int 2)) (tNil)))))) (tNext))
  (tSeq (tAsg (tOp (rIxL K) (tLst (tCons (tTup (tCons (tC (.str "|")) (tCons (tC (.int 0)) (tNil)))) (tCons (tTup (tCons (tC (.str "&")) (tCons (tC (.int 1)) (tNil)))) (tNil)))) (tCB (rInt1) (tCons (tOp (rEq) (tOp (rIxT K) (tVar 0) (tC (.int 0))) (tC (.str "and"))) (tNil)))) (gTup K 2 (gCons (gName 2) (gCons (gName 3) (gNil)))))
  (tSeq (tAsg (tOp (rAddStr) (tOp (rAddStr) (tCall sp_law_text [] E0 (tCons (tOp (rIxT K) (tVar 0) (tC (.int 1))) (tCons (tVar 3) (tNil)))) (tVar 2)) (tCall sp_law_text [] E0 (tCons (tOp (rIxT K) (tVar 0) (tC (.int 2))) (tCons (tOp (rI0 fun i j => .int (i + j)) (tVar 3) (tC (.int 1))) (tNil))))) (gName 4))
  (tRet (tIf (tTest (tOp (rI0 fun i j => .bl (decide (j ≤ i))) (tVar 3) (tVar 1))) (tVar 4) (tOp (rAddStr) (tOp (rAddStr) (tC (.str "(")) (tVar 4)) (tC (.str ")"))))))))

def t_law_brackets (K : PySem.W.Frag) (w : World) : TS :=
  tSeq (tAsg (tLst (tNil)) (gName 1))
  (tSeq (tAsg (tLst (tNil)) (gName 2))
  (tSeq (tFor (iRng1 (tCons (tCB (rLenStr) (tCons (tVar 0) (tNil))) (tNil))) (gName 3) (tSeq (tIfS (tTest (tOp (rEq) (tOp (rIxS) (tVar 0) (tVar 3)) (tC (.str "(")))) (tDrop (tBM K "list" (rAppend) (tVar 2) (tCons (tVar 3) (tNil)))) (tNext))
  (tIfS (tTest (tOp (rEq) (tOp (rIxS) (tVar 0) (tVar 3)) (tC (.str ")")))) (tDrop (tBM K "list" (rAppend) (tVar 1) (tCons (tTup (tCons (tBM0 K "list" rPop (tVar 2)) (tCons (tVar 3) (tNil)))) (tNil)))) (tNext))))
  (tRet (tVar 1))))

def t_law_spoilt (K : PySem.W.Frag) (w : World) (sp_law_take : Sp) : TS :=
  tSeq (tAsg (tCall sp_law_take [] E0 (tCons (tVar 0) (tCons (tC (.int 6)) (tNil)))) (gName 2))
  (tSeq (tAsg (tCall sp_law_take [] E0 (tCons (tVar 0) (tCons (tOp (rI0 fun i j => .int (i + j)) (tCB (rLenStr) (tCons (tVar 1) (tNil))) (tC (.int 1))) (tNil)))) (gName 3))
  (tSeq (tAsg (tOp (rI0 fun i j => .int (i + j)) (tVar 3) (tCall sp_law_take [] E0 (tCons (tVar 0) (tCons (tOp (rI0 fun i j => .int (i - j)) (tOp (rI0 fun i j => .int (i + j)) (tCB (rLenStr) (tCons (tVar 1) (tNil))) (tC (.int 1))) (tVar 3)) (tNil))))) (gName 4))
  (tSeq (tIfS (tTest (tOp (rEq) (tVar 2) (tC (.int 0)))) (tRet (tOp (rAddStr) (tOp (rAddStr) (tOp (rAddStr) (tOp (rAddStr) (tSl (rSlS) (tVar 1) (tNoPart) (tPart (tVar 3))) (tC (.str "("))) (tSl (rSlS) (tVar 1) (tPart (tVar 3)) (tPart (tVar 4)))) (tC (.str ")"))) (tSl (rSlS) (tVar 1) (tPart (tVar 4)) (tNoPart)))) (tNext))
  (tSeq (tIfS (tTest (tOp (rEq) (tVar 2) (tC (.int 1)))) (tRet (tOp (rAddStr) (tSl (rSlS) (tVar 1) (tNoPart) (tPart (tVar 4))) (tSl (rSlS) (tVar 1) (tPart (tVar 3)) (tNoPart)))) (tNext))
  (tSeq (tAsg (tC (.str "ab&|!()h cdefgijklmnopqrstuvwxyz0123456789-+*/<>=~^?\x40[]{}_.,:;#$'`ABCDEFGHIJKLMNOPQRSTUVWXYZ")) (gName 5))
  (tSeq (tAsg (tOp (rIxS) (tVar 5) (tCall sp_law_take [] E0 (tCons (tVar 0) (tCons (tOp (rIxL K) (tLst (tCons (tC (.int 8)) (tCons (tCB (rLenStr) (tCons (tVar 5) (tNil))) (tNil)))) (tCall sp_law_take [] E0 (tCons (tVar 0) (tCons (tC (.int 2)) (tNil))))) (tNil))))) (gName 6))
  (tRet (tOp (rAddStr) (tOp (rAddStr) (tSl (rSlS) (tVar 1) (tNoPart) (tPart (tVar 3))) (tOp (rIxL K) (tLst (tCons (tVar 6) (tCons (tVar 6) (tCons (tC (.str "")) (tCons (tC (.str ")(")) (tNil)))))) (tOp (rI0 fun i j => .int (i - j)) (tVar 2) (tC (.int 2))))) (tSl (rSlS) (tVar 1) (tPart (tOp (rI0 fun i j => .int (i + j)) (tVar 3) (tCB (rInt1) (tCons (tOp (rI0 fun i j => .bl (decide (j < i))) (tVar 2) (tC (.int 2))) (tNil))))) (tNoPart))))))))))

def t_law_read (K : PySem.W.Frag) (w : World) (sp_law_parts : Sp) (sp_law_read : Sp) : TS :=
  tSeq (tFor (iList K (tLst (tCons (tTup (tCons (tC (.str "|")) (tCons (tC (.str "or")) (tNil)))) (tCons (tTup (tCons (tC (.str "&")) (tCons (tC (.str "and")) (tNil)))) (tNil))))) (gTup K 2 (gCons (gName 1) (gCons (gName 2) (gNil)))) (tSeq (tAsg (tCall sp_law_parts [] E0 (tCons (tVar 0) (tCons (tVar 1) (tNil)))) (gName 3))
  (tIfS (tTest (tOp (rI0 fun i j => .bl (decide (j < i))) (tCB (rLen K) (tCons (tVar 3) (tNil))) (tC (.int 1)))) (tSeq (tAsg (tCall sp_law_read [] E0 (tCons (tOp (rIxL K) (tVar 3) (tC (.int 0))) (tNil))) (gName 4))
  (tSeq (tFor (iList K (tSl (rSlL K) (tVar 3) (tPart (tC (.int 1))) (tNoPart))) (gName 5) (tAsg (tTup (tCons (tVar 2) (tCons (tVar 4) (tCons (tCall sp_law_read [] E0 (tCons (tVar 5) (tNil))) (tNil))))) (gName 4)))
  (tRet (tVar 4)))) (tNext))))
  (tSeq (tIfS (tTest (tOp (rEq) (tOp (rIxS) (tVar 0) (tC (.int 0))) (tC (.str "!")))) (tRet (tTup (tCons (tC (.str "not")) (tCons (tCall sp_law_read [] E0 (tCons (tSl (rSlS) (tVar 0) (tPart (tC (.int 1))) (tNoPart)) (tNil))) (tNil))))) (tNext))
  (tRet (tIf (tTest (tOp (rEq) (tOp (rIxS) (tVar 0) (tC (.int 0))) (tC (.str "(")))) (tCall sp_law_read [] E0 (tCons (tSl (rSlS) (tVar 0) (tPart (tC (.int 1))) (tPart (tUn (rU fun i => .int (-i)) (tC (.int 1))))) (tNil))) (tTup (tCons (tC (.str "look")) (tCons (tBM K "str" (rIndexS) (tC (.str "abcdefgh")) (tCons (tVar 0) (tNil))) (tNil)))))))

def t_check_condition (K : PySem.W.Frag) (w : World) (sp_count_looks : Sp) : TS :=
  tIfS (tTest (tOp (rI0 fun i j => .bl (decide (j < i))) (tCall sp_count_looks [] E0 (tCons (tVar 0) (tCons (tC (.int 0)) (tNil)))) (tC (.int 12)))) (tNever) (tNext)

def t_count_looks (K : PySem.W.Frag) (w : World) (sp_has_form : Sp) (sp_count_looks : Sp) : TS :=
  tSeq (tIfS (tTest (tOp (rI0 fun i j => .bl (decide (j < i))) (tVar 1) (tC (.int 10)))) (tNever) (tNext))
  (tSeq (tIfS (tNot (tB (tCall sp_has_form [] E0 (tCons (tVar 0) (tNil))))) (tNever) (tNext))
  (tSeq (tIfS (tTest (tOp (rEq) (tOp (rIxT K) (tVar 0) (tC (.int 0))) (tC (.str "look")))) (tRet (tC (.int 1))) (tNext))
  (tRet (tCB (rSum K) (tCons (tLc (iTup K (tSl (rSlT K) (tVar 0) (tPart (tC (.int 1))) (tNoPart))) (gName 2) (tYes) (tCall sp_count_looks [] E0 (tCons (tVar 2) (tCons (tOp (rI0 fun i j => .int (i + j)) (tVar 1) (tC (.int 1))) (tNil)))) [2]) (tNil))))))

def t_has_form (K : PySem.W.Frag) (w : World) (sp_is_number_up_to : Sp) : TS :=
  tSeq (tIfS (tOr (tNot (tB (tCB (rIsi K) (tCons (tVar 0) (tCons (tC (.ty "tuple")) (tNil)))))) (tTest (tOp (rEq) (tCB (rLen K) (tCons (tVar 0) (tNil))) (tC (.int 0))))) (tRet (tC (.bl false))) (tNext))
  (tSeq (tAsg (tOp (rIxT K) (tVar 0) (tC (.int 0))) (gName 1))
  (tSeq (tIfS (tTest (tOp (rEq) (tVar 1) (tC (.str "look")))) (tRet (tAndV (tOp (rEq) (tCB (rLen K) (tCons (tVar 0) (tNil))) (tC (.int 2))) (tCall sp_is_number_up_to [] E0 (tCons (tOp (rIxT K) (tVar 0) (tC (.int 1))) (tCons (tOp (rI0 fun i j => .int (i - j)) (tC (.int 8)) (tC (.int 1))) (tNil)))))) (tNext))
  (tSeq (tIfS (tTest (tOp (rEq) (tVar 1) (tC (.str "not")))) (tRet (tOp (rEq) (tCB (rLen K) (tCons (tVar 0) (tNil))) (tC (.int 2)))) (tNext))
  (tRet (tAndV (tOp (rIn K false) (tVar 1) (tTup (tCons (tC (.str "and")) (tCons (tC (.str "or")) (tNil))))) (tOp (rEq) (tCB (rLen K) (tCons (tVar 0) (tNil))) (tC (.int 3))))))))

def t_is_number_up_to (K : PySem.W.Frag) (w : World) : TS :=
  tSeq (tIfS (tOr (tB (tCB (rIsi K) (tCons (tVar 0) (tCons (tC (.ty "bool")) (tNil))))) (tNot (tB (tCB (rIsi K) (tCons (tVar 0) (tCons (tC (.ty "int")) (tNil))))))) (tRet (tC (.bl false))) (tNext))
  (tRet (tChain (rI0 fun i j => .bl (decide (i ≤ j))) (rI0 fun i j => .bl (decide (i ≤ j))) (tC (.int 0)) (tVar 0) (tVar 1)))

def t_are_numbers_up_to_T (K : PySem.W.Frag) (w : World) (sp_is_number_up_to : Sp) : TS :=
  tRet (tAndV (tOp (rEq) (tCB (rLen K) (tCons (tVar 0) (tNil))) (tVar 1)) (tCB (rAll K) (tCons (tLc (iTup K (tVar 0)) (gName 3) (tYes) (tCall sp_is_number_up_to [] E0 (tCons (tVar 3) (tCons (tVar 2) (tNil)))) [3]) (tNil))))

def t_are_numbers_up_to_L (K : PySem.W.Frag) (w : World) (sp_is_number_up_to : Sp) : TS :=
  tRet (tAndV (tOp (rEq) (tCB (rLen K) (tCons (tVar 0) (tNil))) (tVar 1)) (tCB (rAll K) (tCons (tLc (iList K (tVar 0)) (gName 3) (tYes) (tCall sp_is_number_up_to [] E0 (tCons (tVar 3) (tCons (tVar 2) (tNil)))) [3]) (tNil))))

def t_are_bits (K : PySem.W.Frag) (w : World) (sp_are_numbers_up_to : Sp) : TS :=
  tRet (tCall sp_are_numbers_up_to [] E0 (tCons (tVar 0) (tCons (tVar 1) (tCons (tC (.int 1)) (tNil)))))

def t_meant (K : PySem.W.Frag) (w : World) (sp_check_condition : Sp) (sp_check_worths : Sp) (sp_outcome : Sp) : TS :=
  tSeq (tDrop (tCall sp_check_condition [] E0 (tCons (tVar 0) (tNil))))
  (tSeq (tDrop (tCall sp_check_worths [] E0 (tCons (tVar 1) (tNil))))
  (tRet (tCall sp_outcome [] E0 (tCons (tVar 0) (tCons (tVar 1) (tNil))))))

def t_check_worths (K : PySem.W.Frag) (w : World) (sp_are_bits : Sp) : TS :=
  tIfS (tNot (tB (tCall sp_are_bits [] E0 (tCons (tVar 0) (tCons (tC (.int 8)) (tNil)))))) (tNever) (tNext)

def t_coded (K : PySem.W.Frag) (w : World) (sp_check_condition : Sp) (sp_check_first : Sp) (sp_code_of : Sp) : TS :=
  tSeq (tDrop (tCall sp_check_condition [] E0 (tCons (tVar 0) (tNil))))
  (tSeq (tDrop (tCall sp_check_first [] E0 (tCons (tVar 1) (tNil))))
  (tRet (tCall sp_code_of [] E0 (tCons (tVar 0) (tCons (tVar 1) (tNil))))))

def t_check_first (K : PySem.W.Frag) (w : World) (sp_is_number_up_to : Sp) : TS :=
  tIfS (tNot (tB (tCall sp_is_number_up_to [] E0 (tCons (tVar 0) (tCons (tC (.int 1)) (tNil)))))) (tNever) (tNext)

def t_code_of (K : PySem.W.Frag) (w : World) (sp_count_looks : Sp) (sp_rows_of : Sp) : TS :=
  tSeq (tAsg (tCall sp_count_looks [] E0 (tCons (tVar 0) (tCons (tC (.int 0)) (tNil)))) (gName 2))
  (tSeq (tAsg (tLst (tCons (tVar 2) (tCons (tVar 2) (tNil)))) (gName 3))
  (tSeq (tAsg (tOp (rI0 fun i j => .int (i + j)) (tVar 2) (tC (.int 1))) (gSub (tVar 3) (tOp (rI0 fun i j => .int (i - j)) (tC (.int 1)) (tVar 1)) rSetL))
  (tRet (tOp (rCat) (tCall sp_rows_of [] E0 (tCons (tVar 0) (tCons (tC (.int 0)) (tCons (tVar 3) (tNil))))) (tLst (tCons (tTup (tCons (tC (.str "end")) (tCons (tVar 1) (tNil)))) (tCons (tTup (tCons (tC (.str "end")) (tCons (tOp (rI0 fun i j => .int (i - j)) (tC (.int 1)) (tVar 1)) (tNil)))) (tNil))))))))

def t_rows_of (K : PySem.W.Frag) (w : World) (a_GOES_ON : Addr) (sp_look_row : Sp) (sp_rows_of : Sp) (sp_count_looks : Sp) : TS :=
  tSeq (tAsg (tOp (rIxT K) (tVar 0) (tC (.int 0))) (gName 3))
  (tSeq (tIfS (tTest (tOp (rEq) (tVar 3) (tC (.str "look")))) (tRet (tLst (tCons (tCall sp_look_row [] E0 (tCons (tOp (rIxT K) (tVar 0) (tC (.int 1))) (tCons (tVar 1) (tCons (tVar 2) (tNil))))) (tNil)))) (tNext))
  (tSeq (tIfS (tTest (tOp (rEq) (tVar 3) (tC (.str "not")))) (tRet (tCall sp_rows_of [] E0 (tCons (tOp (rIxT K) (tVar 0) (tC (.int 1))) (tCons (tVar 1) (tCons (tLst (tCons (tOp (rIxL K) (tVar 2) (tC (.int 1))) (tCons (tOp (rIxL K) (tVar 2) (tC (.int 0))) (tNil)))) (tNil)))))) (tNext))
  (tSeq (tAsg (tOp (rI0 fun i j => .int (i + j)) (tVar 1) (tCall sp_count_looks [] E0 (tCons (tOp (rIxT K) (tVar 0) (tC (.int 1))) (tCons (tC (.int 0)) (tNil))))) (gName 4))
  (tSeq (tAsg (tCB (rListOf K) (tCons (tVar 2) (tNil))) (gName 5))
  (tSeq (tAsg (tVar 4) (gSub (tVar 5) (tOp (rIxD K w) (tC (.ref a_GOES_ON)) (tVar 3)) rSetL))
  (tRet (tOp (rCat) (tCall sp_rows_of [] E0 (tCons (tOp (rIxT K) (tVar 0) (tC (.int 1))) (tCons (tVar 1) (tCons (tVar 5) (tNil))))) (tCall sp_rows_of [] E0 (tCons (tOp (rIxT K) (tVar 0) (tC (.int 2))) (tCons (tVar 4) (tCons (tVar 2) (tNil))))))))))))

def t_look_row (K : PySem.W.Frag) (w : World) : TS :=
  tSeq (tAsg (tIf (tTest (tOp (rEq) (tOp (rIxL K) (tVar 2) (tC (.int 0))) (tOp (rI0 fun i j => .int (i + j)) (tVar 1) (tC (.int 1))))) (tC (.int 1)) (tC (.int 0))) (gName 3))
  (tRet (tTup (tCons (tC (.str "look")) (tCons (tVar 0) (tCons (tVar 3) (tCons (tOp (rIxL K) (tVar 2) (tVar 3)) (tNil)))))))

def t_check_chances (K : PySem.W.Frag) (w : World) (sp_are_numbers_up_to : Sp) : TS :=
  tIfS (tNot (tB (tCall sp_are_numbers_up_to [] E0 (tCons (tVar 0) (tCons (tC (.int 8)) (tCons (tC (.int 100)) (tNil))))))) (tNever) (tNext)

def t_written (K : PySem.W.Frag) (w : World) (a_BINDS : Addr) (sp_check_condition : Sp) (sp_text_of : Sp) : TS :=
  tSeq (tDrop (tCall sp_check_condition [] E0 (tCons (tVar 0) (tNil))))
  (tRet (tCall sp_text_of [] E0 (tCons (tVar 0) (tCons (tOp (rIxD K w) (tC (.ref a_BINDS)) (tC (.str "|"))) (tNil)))))

def t_read (K : PySem.W.Frag) (w : World) (sp_check_signs : Sp) (sp_condition_of : Sp) (sp_check_condition : Sp) : TS :=
  tSeq (tDrop (tCall sp_check_signs [] E0 (tCons (tVar 0) (tNil))))
  (tSeq (tAsg (tCall sp_condition_of [] E0 (tCons (tVar 0) (tNil))) (gName 1))
  (tSeq (tDrop (tCall sp_check_condition [] E0 (tCons (tVar 1) (tNil))))
  (tRet (tVar 1))))

def t_text_of (K : PySem.W.Frag) (w : World) (a_SIGNS : Addr) (a_BINDS : Addr) (sp_text_of : Sp) : TS :=
  tSeq (tAsg (tOp (rIxT K) (tVar 0) (tC (.int 0))) (gName 2))
  (tSeq (tIfS (tTest (tOp (rEq) (tVar 2) (tC (.str "look")))) (tRet (tOp (rIxS) (tC (.str "abcdefgh")) (tOp (rIxT K) (tVar 0) (tC (.int 1))))) (tNext))
  (tSeq (tAsg (tOp (rIxD K w) (tC (.ref a_SIGNS)) (tVar 2)) (gName 3))
  (tSeq (tAsg (tOp (rIxD K w) (tC (.ref a_BINDS)) (tVar 3)) (gName 4))
  (tSeq (tIfS (tTest (tOp (rEq) (tVar 2) (tC (.str "not")))) (tAsg (tOp (rAddStr) (tVar 3) (tCall sp_text_of [] E0 (tCons (tOp (rIxT K) (tVar 0) (tC (.int 1))) (tCons (tVar 4) (tNil))))) (gName 5)) (tAsg (tOp (rAddStr) (tOp (rAddStr) (tCall sp_text_of [] E0 (tCons (tOp (rIxT K) (tVar 0) (tC (.int 1))) (tCons (tVar 4) (tNil)))) (tVar 3)) (tCall sp_text_of [] E0 (tCons (tOp (rIxT K) (tVar 0) (tC (.int 2))) (tCons (tOp (rI0 fun i j => .int (i + j)) (tVar 4) (tC (.int 1))) (tNil))))) (gName 5)))
  (tSeq (tIfS (tTest (tOp (rI0 fun i j => .bl (decide (i < j))) (tVar 4) (tVar 1))) (tRet (tJoin [tC (.str "("), tFmt (tVar 5), tC (.str ")")])) (tNext))
  (tRet (tVar 5)))))))

def t_check_signs_1 (K : PySem.W.Frag) (w : World) (sp_may_stand : Sp) : TS :=
  tFor (iEnumS (tCons (tVar 0) (tNil))) (gTup K 2 (gCons (gName 3) (gCons (gName 4) (gNil)))) (tSeq (tIfS (tNot (tB (tCall sp_may_stand [] E0 (tCons (tVar 4) (tCons (tVar 1) (tCons (tVar 2) (tNil))))))) (tNever) (tNext))
  (tSeq (tIfS (tTest (tOp (rEq) (tVar 4) (tC (.str "(")))) (tAug 2 (tC (.int 1)) (ipI fun i j => i + j)) (tNext))
  (tSeq (tIfS (tTest (tOp (rEq) (tVar 4) (tC (.str ")")))) (tAug 2 (tC (.int 1)) (ipI fun i j => i - j)) (tNext))
  (tAsg (tOp (rInSign) (tVar 4) (tC (.str "!(&|"))) (gName 1)))))
def t_check_signs (K : PySem.W.Frag) (w : World) (sp_may_stand : Sp) : TS :=
  tSeq (tAsg (tC (.bl true)) (gName 1))
  (tSeq (tAsg (tC (.int 0)) (gName 2))
  (tSeq (t_check_signs_1 K w sp_may_stand)
  (tIfS (tOr (tB (tVar 1)) (tTest (tOp (rI0 fun i j => .bl (decide (j < i))) (tVar 2) (tC (.int 0))))) (tNever) (tNext))))

def t_may_stand (K : PySem.W.Frag) (w : World) (a_WORDS : Addr) : TS :=
  tSeq (tIfS (tB (tVar 1)) (tRet (tOp (rInSign) (tVar 0) (tC (.str "abcdefgh!(")))) (tNext))
  (tSeq (tIfS (tTest (tOp (rEq) (tVar 0) (tC (.str ")")))) (tRet (tOp (rI0 fun i j => .bl (decide (j < i))) (tVar 2) (tC (.int 0)))) (tNext))
  (tRet (tOp (rInKD K w) (tVar 0) (tC (.ref a_WORDS)))))

def t_condition_of_1 (K : PySem.W.Frag) (w : World) (a_BINDS : Addr) (a_WORDS : Addr) (sp_join_waiting : Sp) : TS :=
  tFor (iStr (tVar 0)) (gName 3) (tIfS (tTest (tOp (rInSign) (tVar 3) (tC (.str "abcdefgh")))) (tDrop (tBM K "list" (rAppend) (tVar 1) (tCons (tTup (tCons (tC (.str "look")) (tCons (tBM K "str" (rIndexS) (tC (.str "abcdefgh")) (tCons (tVar 3) (tNil))) (tNil)))) (tNil)))) (tIfS (tTest (tOp (rEq) (tVar 3) (tC (.str ")")))) (tSeq (tDrop (tCall sp_join_waiting [] E0 (tCons (tVar 1) (tCons (tVar 2) (tCons (tOp (rIxD K w) (tC (.ref a_BINDS)) (tC (.str "|"))) (tNil))))))
  (tDrop (tBM0 K "list" rPop (tVar 2)))) (tSeq (tIfS (tTest (tOp (rInKD K w) (tVar 3) (tC (.ref a_WORDS)))) (tDrop (tCall sp_join_waiting [] E0 (tCons (tVar 1) (tCons (tVar 2) (tCons (tOp (rIxD K w) (tC (.ref a_BINDS)) (tVar 3)) (tNil)))))) (tNext))
  (tDrop (tBM K "list" (rAppend) (tVar 2) (tCons (tVar 3) (tNil)))))))
def t_condition_of (K : PySem.W.Frag) (w : World) (a_BINDS : Addr) (a_WORDS : Addr) (sp_join_waiting : Sp) : TS :=
  tSeq (tAsg (tLst (tNil)) (gName 1))
  (tSeq (tAsg (tLst (tNil)) (gName 2))
  (tSeq (t_condition_of_1 K w a_BINDS a_WORDS sp_join_waiting)
  (tSeq (tDrop (tCall sp_join_waiting [] E0 (tCons (tVar 1) (tCons (tVar 2) (tCons (tOp (rIxD K w) (tC (.ref a_BINDS)) (tC (.str "|"))) (tNil))))))
  (tRet (tOp (rIxL K) (tVar 1) (tC (.int 0)))))))

def t_join_waiting_1 (K : PySem.W.Frag) (w : World) (a_BINDS : Addr) (a_WORDS : Addr) : TS :=
  tWhile (tAnd (tTest (tOp (rI0 fun i j => .bl (decide (j < i))) (tCB (rLen K) (tCons (tVar 1) (tNil))) (tC (.int 0)))) (tTest (tOp (rI0 fun i j => .bl (decide (j ≤ i))) (tOp (rIxD K w) (tC (.ref a_BINDS)) (tOp (rIxL K) (tVar 1) (tUn (rU fun i => .int (-i)) (tC (.int 1))))) (tVar 2)))) (tSeq (tAsg (tBM0 K "list" rPop (tVar 1)) (gName 3))
  (tSeq (tAsg (tBM0 K "list" rPop (tVar 0)) (gName 4))
  (tIfS (tTest (tOp (rEq) (tVar 3) (tC (.str "!")))) (tDrop (tBM K "list" (rAppend) (tVar 0) (tCons (tTup (tCons (tC (.str "not")) (tCons (tVar 4) (tNil)))) (tNil)))) (tDrop (tBM K "list" (rAppend) (tVar 0) (tCons (tTup (tCons (tOp (rIxD K w) (tC (.ref a_WORDS)) (tVar 3)) (tCons (tBM0 K "list" rPop (tVar 0)) (tCons (tVar 4) (tNil))))) (tNil)))))))
def t_join_waiting (K : PySem.W.Frag) (w : World) (a_BINDS : Addr) (a_WORDS : Addr) : TS :=
  t_join_waiting_1 K w a_BINDS a_WORDS

def t_count_looksx (K : PySem.W.Frag) (w : World) (C_BadCondition : Addr) (sp_has_form : Sp) (sp_count_looks : Sp) (E : XK) : TS :=
  tSeq (tIfS (tTest (tOp (rI0 fun i j => .bl (decide (j < i))) (tVar 1) (tC (.int 10)))) (tRaise (.ref C_BadCondition) E) (tNext))
  (tSeq (tIfS (tNot (tB (tCall sp_has_form [] E0 (tCons (tVar 0) (tNil))))) (tRaise (.ref C_BadCondition) E) (tNext))
  (tSeq (tIfS (tTest (tOp (rEq) (tOp (rIxT K) (tVar 0) (tC (.int 0))) (tC (.str "look")))) (tRet (tC (.int 1))) (tNext))
  (tRet (tCB (rSum K) (tCons (tLc (iTup K (tSl (rSlT K) (tVar 0) (tPart (tC (.int 1))) (tNoPart))) (gName 2) (tYes) (tCall sp_count_looks [] E (tCons (tVar 2) (tCons (tOp (rI0 fun i j => .int (i + j)) (tVar 1) (tC (.int 1))) (tNil)))) [2]) (tNil))))))

def t_check_conditionx (K : PySem.W.Frag) (w : World) (C_BadCondition : Addr) (sp_count_looks : Sp) (E : XK) : TS :=
  tIfS (tTest (tOp (rI0 fun i j => .bl (decide (j < i))) (tCall sp_count_looks [] E (tCons (tVar 0) (tCons (tC (.int 0)) (tNil)))) (tC (.int 12)))) (tRaise (.ref C_BadCondition) E) (tNext)

def t_readx (K : PySem.W.Frag) (w : World) (sp_check_signs : Sp) (sp_condition_of : Sp) (sp_check_condition : Sp) (E : XK) : TS :=
  tSeq (tDrop (tCall sp_check_signs [] E0 (tCons (tVar 0) (tNil))))
  (tSeq (tAsg (tCall sp_condition_of [] E0 (tCons (tVar 0) (tNil))) (gName 1))
  (tSeq (tDrop (tCall sp_check_condition [] E (tCons (tVar 1) (tNil))))
  (tRet (tVar 1))))

def t_check_signsx_1 (K : PySem.W.Frag) (w : World) (C_BadText : Addr) (sp_may_stand : Sp) (E : XK) : TS :=
  tFor (iEnumS (tCons (tVar 0) (tNil))) (gTup K 2 (gCons (gName 3) (gCons (gName 4) (gNil)))) (tSeq (tIfS (tNot (tB (tCall sp_may_stand [] E0 (tCons (tVar 4) (tCons (tVar 1) (tCons (tVar 2) (tNil))))))) (tRaiseP C_BadText E (tCons (tVar 3) tNil)) (tNext))
  (tSeq (tIfS (tTest (tOp (rEq) (tVar 4) (tC (.str "(")))) (tAug 2 (tC (.int 1)) (ipI fun i j => i + j)) (tNext))
  (tSeq (tIfS (tTest (tOp (rEq) (tVar 4) (tC (.str ")")))) (tAug 2 (tC (.int 1)) (ipI fun i j => i - j)) (tNext))
  (tAsg (tOp (rInSign) (tVar 4) (tC (.str "!(&|"))) (gName 1)))))
def t_check_signsx (K : PySem.W.Frag) (w : World) (C_BadText : Addr) (sp_may_stand : Sp) (E : XK) : TS :=
  tSeq (tAsg (tC (.bl true)) (gName 1))
  (tSeq (tAsg (tC (.int 0)) (gName 2))
  (tSeq (t_check_signsx_1 K w C_BadText sp_may_stand E)
  (tIfS (tOr (tB (tVar 1)) (tTest (tOp (rI0 fun i j => .bl (decide (j < i))) (tVar 2) (tC (.int 0))))) (tRaiseP C_BadText E (tCons (tCB (rLenStr) (tCons (tVar 0) (tNil))) tNil)) (tNext))))

def t_ready (K : PySem.W.Frag) (w : World) (sp_check_signs : Sp) (sp_condition_of : Sp) (sp_check_condition : Sp) (E : XK) : TS :=
  tSeq (tDrop (tCall sp_check_signs [] E (tCons (tVar 0) (tNil))))
  (tSeq (tAsg (tCall sp_condition_of [] E0 (tCons (tVar 0) (tNil))) (gName 1))
  (tSeq (tDrop (tCall sp_check_condition [] E (tCons (tVar 1) (tNil))))
  (tRet (tVar 1))))
def t_law_class (K : PySem.W.Frag) (w : World) (C_BadEnd : Addr) (C_BadTurns : Addr) (C_BadWorths : Addr) (C_BadCondition : Addr) (C_BadText : Addr) (C_TooMany : Addr) (C_BadChances : Addr) (C_BadCode : Addr) (a D : Addr) (d : Option Addr) : TS :=
  tSeq (tAsg (tLst (tCons (tCB (rIs K a D d) (tCons (tVar 0) (tCons (tC (.ref C_BadCondition)) (tNil)))) (tCons (tCB (rIs K a D d) (tCons (tVar 0) (tCons (tC (.ref C_BadWorths)) (tNil)))) (tCons (tCB (rIs K a D d) (tCons (tVar 0) (tCons (tC (.ref C_BadTurns)) (tNil)))) (tCons (tCB (rIs K a D d) (tCons (tVar 0) (tCons (tC (.ref C_BadEnd)) (tNil)))) (tNil)))))) (gName 1))
  (tSeq (tAsg (tOp (rCat) (tVar 1) (tLst (tCons (tCB (rIs K a D d) (tCons (tVar 0) (tCons (tC (.ref C_BadCode)) (tNil)))) (tCons (tCB (rIs K a D d) (tCons (tVar 0) (tCons (tC (.ref C_BadChances)) (tNil)))) (tCons (tCB (rIs K a D d) (tCons (tVar 0) (tCons (tC (.ref C_TooMany)) (tNil)))) (tCons (tCB (rIs K a D d) (tCons (tVar 0) (tCons (tC (.ref C_BadText)) (tNil)))) (tNil))))))) (gName 1))
  (tSeq (tAsg (tLst (tCons (tC (.str "BadCondition")) (tCons (tC (.str "BadWorths")) (tCons (tC (.str "BadTurns")) (tCons (tC (.str "BadEnd")) (tCons (tC (.str "BadCode")) (tCons (tC (.str "BadChances")) (tCons (tC (.str "TooMany")) (tCons (tC (.str "BadText")) (tNil)))))))))) (gName 2))
  (tRet (tIf (tAnd (tTest (tOp (rEq) (tBM K "list" (rCntB K) (tVar 1) (tCons (tC (.bl true)) (tNil))) (tC (.int 1)))) (tB (tCB (rIs K a D d) (tCons (tVar 0) (tCons (tC (.ty "ValueError")) (tNil)))))) (tOp (rIxL K) (tVar 2) (tBM K "list" (rIndex K) (tVar 1) (tCons (tC (.bl true)) (tNil)))) (tC (.str ""))))))

def t_law_first (K : PySem.W.Frag) (w : World) : TS :=
  tSeq (tAsg (tC (.int 0)) (gName 1))
  (tSeq (tAsg (tC (.str "")) (gName 2))
  (tSeq (tFor (iRng1 (tCons (tCB (rLenStr) (tCons (tVar 0) (tNil))) (tNil))) (gName 3) (tSeq (tAsg (tOp (rIxS) (tVar 0) (tVar 3)) (gName 4))
  (tSeq (tIfS (tAnd (tTest (tOp (rNe) (tVar 2) (tC (.str "")))) (tTest (tOp (rInSign) (tVar 2) (tC (.str "abcdefgh)"))))) (tAsg (tOrV (tOp (rIn K false) (tVar 4) (tTup (tCons (tC (.str "&")) (tCons (tC (.str "|")) (tNil))))) (tAndV (tOp (rEq) (tVar 4) (tC (.str ")"))) (tOp (rI0 fun i j => .bl (decide (j < i))) (tVar 1) (tC (.int 0))))) (gName 5)) (tAsg (tOp (rIn K false) (tVar 4) (tCB (rListS) (tCons (tC (.str "abcdefgh!(")) (tNil)))) (gName 5)))
  (tSeq (tIfS (tNot (tB (tVar 5))) (tRet (tVar 3)) (tNext))
  (tSeq (tAsg (tOp (rI0 fun i j => .int (i + j)) (tVar 1) (tDGet2 (tDisp [(tC (.str "("), tC (.int 1)), (tC (.str ")"), tUn (rU fun i => .int (-i)) (tC (.int 1)))]) (tVar 4) (tC (.int 0)))) (gName 1))
  (tAsg (tVar 4) (gName 2)))))))
  (tRet (tIf (tAnd (tTest (tOp (rNe) (tVar 2) (tC (.str "")))) (tAnd (tTest (tOp (rInSign) (tVar 2) (tC (.str "abcdefgh)")))) (tTest (tOp (rEq) (tVar 1) (tC (.int 0)))))) (tC .non) (tCB (rLenStr) (tCons (tVar 0) (tNil)))))))

def t_law_parts (K : PySem.W.Frag) (w : World) : TS :=
  tSeq (tAsg (tLst (tCons (tC (.str "")) (tNil))) (gName 2))
  (tSeq (tAsg (tC (.int 0)) (gName 3))
  (tSeq (tFor (iStr (tVar 0)) (gName 4) (tSeq (tAsg (tOp (rI0 fun i j => .int (i + j)) (tVar 3) (tDGet2 (tDisp [(tC (.str "("), tC (.int 1)), (tC (.str ")"), tUn (rU fun i => .int (-i)) (tC (.int 1)))]) (tVar 4) (tC (.int 0)))) (gName 3))
  (tIfS (tAnd (tTest (tOp (rEq) (tVar 4) (tVar 1))) (tTest (tOp (rEq) (tVar 3) (tC (.int 0))))) (tDrop (tBM K "list" (rAppend) (tVar 2) (tCons (tC (.str "")) (tNil)))) (tAsg (tOp (rAddStr) (tOp (rIxL K) (tVar 2) (tUn (rU fun i => .int (-i)) (tC (.int 1)))) (tVar 4)) (gSub (tVar 2) (tUn (rU fun i => .int (-i)) (tC (.int 1))) rSetL)))))
  (tRet (tVar 2))))

def t_law_told (K : PySem.W.Frag) (w : World) (C_JumpError : Addr) (C_BadText : Addr) (sp_read : Sp) (sp_law_class : Addr → Value → Option Addr → Sp) : TS :=
  tTryA K (.ref C_JumpError) 1 (fun W => tRet (tTup (tCons (tC (.str "told")) (tCons (tCallS sp_read (WE W) (tCons (tVar 0) (tNil))) (tNil))))) (fun a cls d => tSeq (tAsg (tCallS (sp_law_class a cls d) (fun _ => E0) (tCons (tVar 1) (tNil))) (gName 2))
  (tRet (tIf (tTest (tOp (rEq) (tVar 2) (tC (.str "BadText")))) (tTup (tCons (tVar 2) (tCons (tXf a cls d C_BadText "place" (tVar 1)) (tNil)))) (tTup (tCons (tVar 2) (tCons (tC (.int 0)) (tNil)))))))

def t_law_1 (K : PySem.W.Frag) (w : World) (sp_law_begun : Sp) (sp_law_take : Sp) (sp_law_condition : Sp) (sp_law_text : Sp) (sp_law_spoilt : Sp) (sp_law_first : Sp) (sp_law_read : Sp) (sp_law_deep : Sp) (sp_law_looked : Sp) (sp_law_told : Sp) (sp_law_alike : Sp) : TS :=
  tFor (iRng1 (tCons (tCall sp_law_take [] E0 (tCons (tVar 1) (tCons (tC (.int 4)) (tNil)))) (tNil))) (gName 5) (tAsg (tCall sp_law_spoilt [] E0 (tCons (tVar 1) (tCons (tVar 4) (tNil)))) (gName 4))
def t_law_2 (K : PySem.W.Frag) (w : World) (sp_law_begun : Sp) (sp_law_take : Sp) (sp_law_condition : Sp) (sp_law_text : Sp) (sp_law_spoilt : Sp) (sp_law_first : Sp) (sp_law_read : Sp) (sp_law_deep : Sp) (sp_law_looked : Sp) (sp_law_told : Sp) (sp_law_alike : Sp) : TS :=
  tFor (iRng1 (tCons (tC (.int 4)) (tNil))) (gName 3) (tSeq (tAsg (tOp (rIxL K) (tLst (tCons (tCall sp_law_text [] E0 (tCons (tCall sp_law_condition [] E0 (tCons (tVar 1) (tCons (tC (.int 12)) (tNil)))) (tCons (tC (.int 0)) (tNil)))) (tCons (tOp (rIxL K) (tVar 2) (tCall sp_law_take [] E0 (tCons (tVar 1) (tCons (tC (.int 18)) (tNil))))) (tNil)))) (tOp (rI CDiv fun i j => .int (i / j)) (tCall sp_law_take [] E0 (tCons (tVar 1) (tCons (tC (.int 3)) (tNil)))) (tC (.int 2)))) (gName 4))
  (tSeq (t_law_1 K w sp_law_begun sp_law_take sp_law_condition sp_law_text sp_law_spoilt sp_law_first sp_law_read sp_law_deep sp_law_looked sp_law_told sp_law_alike)
  (tIfS (tAnd (tTest (tOp (rI0 fun i j => .bl (decide (i ≤ j))) (tCB (rLenStr) (tCons (tVar 4) (tNil))) (tC (.int 200)))) (tTest (tOp (rI0 fun i j => .bl (decide (i ≤ j))) (tBM K "str" (rCountS) (tVar 4) (tCons (tC (.str "(")) (tNil))) (tC (.int 30))))) (tSeq (tAsg (tCall sp_law_first [] E0 (tCons (tVar 4) (tNil))) (gName 6))
  (tSeq (tAsg (tTup (tCons (tC (.str "BadText")) (tCons (tVar 6) (tNil)))) (gName 7))
  (tSeq (tIfS (tTest (tOp (rIsNone) (tVar 6) (tC .non))) (tSeq (tAsg (tCall sp_law_read [] E0 (tCons (tVar 4) (tNil))) (gName 8))
  (tSeq (tAsg (tAndV (tOp (rI0 fun i j => .bl (decide (i ≤ j))) (tCall sp_law_deep [] E0 (tCons (tVar 8) (tNil))) (tC (.int 10))) (tOp (rI0 fun i j => .bl (decide (i ≤ j))) (tCall sp_law_looked [] E0 (tCons (tVar 8) (tNil))) (tC (.int 12)))) (gName 9))
  (tAsg (tIf (tB (tVar 9)) (tTup (tCons (tC (.str "told")) (tCons (tVar 8) (tNil)))) (tTup (tCons (tC (.str "BadCondition")) (tCons (tC (.int 0)) (tNil))))) (gName 7)))) (tNext))
  (tIfS (tOr (tNot (tB (tCall sp_law_alike [] E0 (tCons (tCall sp_law_told [] E0 (tCons (tVar 4) (tNil))) (tCons (tVar 7) (tNil)))))) (tNot (tB (tCall sp_law_alike [] E0 (tCons (tCall sp_law_told [] E0 (tCons (tVar 4) (tNil))) (tCons (tVar 7) (tNil))))))) (tRet (tC (.bl false))) (tNext))))) (tNext))))
def t_law (K : PySem.W.Frag) (w : World) (sp_law_begun : Sp) (sp_law_take : Sp) (sp_law_condition : Sp) (sp_law_text : Sp) (sp_law_spoilt : Sp) (sp_law_first : Sp) (sp_law_read : Sp) (sp_law_deep : Sp) (sp_law_looked : Sp) (sp_law_told : Sp) (sp_law_alike : Sp) : TS :=
  tSeq (tAsg (tCall sp_law_begun [] E0 (tCons (tVar 0) (tNil))) (gName 1))
  (tSeq (tAsg (tLst (tCons (tC (.str "")) (tCons (tC (.str "!")) (tCons (tC (.str "a&")) (tCons (tC (.str "(a")) (tCons (tC (.str "a)")) (tCons (tC (.str "()")) (tCons (tC (.str "ab")) (tCons (tC (.str "a b")) (tCons (tC (.str "!!a")) (tCons (tC (.str "(a)b")) (tCons (tC (.str "a|&b")) (tCons (tC (.str "&a")) (tCons (tC (.str "((a|b)&c")) (tCons (tC (.str "a&b|c&d")) (tNil)))))))))))))))) (gName 2))
  (tSeq (tAsg (tOp (rCat) (tVar 2) (tLst (tCons (tOp (rAddStr) (tOp (rMulS) (tC (.str "!")) (tC (.int 11))) (tC (.str "a"))) (tCons (tOp (rAddStr) (tOp (rMulS) (tC (.str "!")) (tC (.int 10))) (tC (.str "a"))) (tCons (tBM K "str" (rJoinS) (tC (.str "&")) (tCons (tC (.str "abcdefghabcd")) (tNil))) (tCons (tBM K "str" (rJoinS) (tC (.str "&")) (tCons (tC (.str "abcdefghabcde")) (tNil))) (tNil))))))) (gName 2))
  (tSeq (t_law_2 K w sp_law_begun sp_law_take sp_law_condition sp_law_text sp_law_spoilt sp_law_first sp_law_read sp_law_deep sp_law_looked sp_law_told sp_law_alike)
  (tRet (tC (.bl true))))))

def top (i : Nat) : Stmt := PySem.Challenge.pw_jumpsay_k11_texts_refused.main.body.getD i (.Pass ⟨0, 0, 0, 0⟩)
abbrev s_check_condition : Stmt := top 14
theorem sc_check_condition : FnScope ["condition"] ["condition"] (defScope s_check_condition) := ⟨rfl, rfl, rfl, by decide +kernel, rfl, by decide +kernel, by decide +kernel⟩

abbrev s_count_looks : Stmt := top 15
theorem sc_count_looks : FnScope ["condition", "around", "side"] ["condition", "around"] (defScope s_count_looks) := ⟨rfl, rfl, rfl, by decide +kernel, rfl, by decide +kernel, by decide +kernel⟩

abbrev s_has_form : Stmt := top 16
theorem sc_has_form : FnScope ["condition", "word"] ["condition"] (defScope s_has_form) := ⟨rfl, rfl, rfl, by decide +kernel, rfl, by decide +kernel, by decide +kernel⟩

abbrev s_is_number_up_to : Stmt := top 17
theorem sc_is_number_up_to : FnScope ["value", "most"] ["value", "most"] (defScope s_is_number_up_to) := ⟨rfl, rfl, rfl, by decide +kernel, rfl, by decide +kernel, by decide +kernel⟩

abbrev s_read : Stmt := top 24
theorem sc_read : FnScope ["text", "condition"] ["text"] (defScope s_read) := ⟨rfl, rfl, rfl, by decide +kernel, rfl, by decide +kernel, by decide +kernel⟩

abbrev s_check_signs : Stmt := top 25
theorem sc_check_signs : FnScope ["text", "due", "unclosed", "place", "sign"] ["text"] (defScope s_check_signs) := ⟨rfl, rfl, rfl, by decide +kernel, rfl, by decide +kernel, by decide +kernel⟩

abbrev s_may_stand : Stmt := top 26
theorem sc_may_stand : FnScope ["sign", "due", "unclosed"] ["sign", "due", "unclosed"] (defScope s_may_stand) := ⟨rfl, rfl, rfl, by decide +kernel, rfl, by decide +kernel, by decide +kernel⟩

abbrev s_condition_of : Stmt := top 27
theorem sc_condition_of : FnScope ["text", "done", "waiting", "sign"] ["text"] (defScope s_condition_of) := ⟨rfl, rfl, rfl, by decide +kernel, rfl, by decide +kernel, by decide +kernel⟩

abbrev s_join_waiting : Stmt := top 28
theorem sc_join_waiting : FnScope ["done", "waiting", "least", "sign", "last"] ["done", "waiting", "least"] (defScope s_join_waiting) := ⟨rfl, rfl, rfl, by decide +kernel, rfl, by decide +kernel, by decide +kernel⟩

abbrev s_law_begun : Stmt := top 30
theorem sc_law_begun : FnScope ["_law_script", "_law_stirred", "_law_cell"] ["_law_script"] (defScope s_law_begun) := ⟨rfl, rfl, rfl, by decide +kernel, rfl, by decide +kernel, by decide +kernel⟩

abbrev s_law_take : Stmt := top 31
theorem sc_law_take : FnScope ["_law_box", "_law_many", "_law_number"] ["_law_box", "_law_many"] (defScope s_law_take) := ⟨rfl, rfl, rfl, by decide +kernel, rfl, by decide +kernel, by decide +kernel⟩

abbrev s_law_alike : Stmt := top 32
theorem sc_law_alike : FnScope ["_law_found", "_law_due", "_law_k"] ["_law_found", "_law_due"] (defScope s_law_alike) := ⟨rfl, rfl, rfl, by decide +kernel, rfl, by decide +kernel, by decide +kernel⟩

abbrev s_law_class : Stmt := top 33
theorem sc_law_class : FnScope ["_law_e", "_law_kinds", "_law_words"] ["_law_e"] (defScope s_law_class) := ⟨rfl, rfl, rfl, by decide +kernel, rfl, by decide +kernel, by decide +kernel⟩

abbrev s_law_part : Stmt := top 34
theorem sc_law_part : FnScope ["_law_box", "_law_many", "_law_things"] ["_law_box", "_law_many", "_law_things"] (defScope s_law_part) := ⟨rfl, rfl, rfl, by decide +kernel, rfl, by decide +kernel, by decide +kernel⟩

abbrev s_law_bare : Stmt := top 35
theorem sc_law_bare : FnScope ["_law_box", "_law_many", "_law_things", "_law_left", "_law_word"] ["_law_box", "_law_many", "_law_things"] (defScope s_law_bare) := ⟨rfl, rfl, rfl, by decide +kernel, rfl, by decide +kernel, by decide +kernel⟩

abbrev s_law_deep : Stmt := top 36
theorem sc_law_deep : FnScope ["_law_part_here", "_law_one"] ["_law_part_here"] (defScope s_law_deep) := ⟨rfl, rfl, rfl, by decide +kernel, rfl, by decide +kernel, by decide +kernel⟩

abbrev s_law_condition : Stmt := top 37
theorem sc_law_condition : FnScope ["_law_box", "_law_most", "_law_things", "_law_part_here"] ["_law_box", "_law_most"] (defScope s_law_condition) := ⟨rfl, rfl, rfl, by decide +kernel, rfl, by decide +kernel, by decide +kernel⟩

abbrev s_law_text : Stmt := top 38
theorem sc_law_text : FnScope ["_law_part_here", "_law_least", "_law_sign", "_law_rank", "_law_text_here"] ["_law_part_here", "_law_least"] (defScope s_law_text) := ⟨rfl, rfl, rfl, by decide +kernel, rfl, by decide +kernel, by decide +kernel⟩

abbrev s_law_spoilt : Stmt := top 39
theorem sc_law_spoilt : FnScope ["_law_box", "_law_text_here", "_law_deed", "_law_place", "_law_end", "_law_signs", "_law_sign"] ["_law_box", "_law_text_here"] (defScope s_law_spoilt) := ⟨rfl, rfl, rfl, by decide +kernel, rfl, by decide +kernel, by decide +kernel⟩

abbrev s_law_first : Stmt := top 40
theorem sc_law_first : FnScope ["_law_text_here", "_law_deep_here", "_law_ahead", "_law_place", "_law_sign", "_law_good"] ["_law_text_here"] (defScope s_law_first) := ⟨rfl, rfl, rfl, by decide +kernel, rfl, by decide +kernel, by decide +kernel⟩

abbrev s_law_parts : Stmt := top 41
theorem sc_law_parts : FnScope ["_law_text_here", "_law_sign", "_law_found", "_law_deep_here", "_law_one"] ["_law_text_here", "_law_sign"] (defScope s_law_parts) := ⟨rfl, rfl, rfl, by decide +kernel, rfl, by decide +kernel, by decide +kernel⟩

abbrev s_law_read : Stmt := top 42
theorem sc_law_read : FnScope ["_law_text_here", "_law_sign", "_law_word", "_law_parts_here", "_law_found", "_law_part_here"] ["_law_text_here"] (defScope s_law_read) := ⟨rfl, rfl, rfl, by decide +kernel, rfl, by decide +kernel, by decide +kernel⟩

abbrev s_law_looked : Stmt := top 43
theorem sc_law_looked : FnScope ["_law_part_here", "_law_one"] ["_law_part_here"] (defScope s_law_looked) := ⟨rfl, rfl, rfl, by decide +kernel, rfl, by decide +kernel, by decide +kernel⟩

abbrev s_law_told : Stmt := top 44
theorem sc_law_told : FnScope ["_law_text_here", "_law_e", "_law_word"] ["_law_text_here"] (defScope s_law_told) := ⟨rfl, rfl, rfl, by decide +kernel, rfl, by decide +kernel, by decide +kernel⟩

abbrev s_law : Stmt := top 45
theorem sc_law : FnScope ["_law_script", "_law_box", "_law_odd", "_law_turn", "_law_text_here", "_law_deed", "_law_first_here", "_law_due", "_law_part_here", "_law_good"] ["_law_script"] (defScope s_law) := ⟨rfl, rfl, rfl, by decide +kernel, rfl, by decide +kernel, by decide +kernel⟩

structure Tx (P : Program) (K : PySem.W.Frag) (mg : Str → Option Value) (w : World) where
  f_check_condition : Addr
  d_check_condition : FuncData
  F_check_condition : Fun K "check_condition" "check_condition" s_check_condition f_check_condition d_check_condition
  m_check_condition : mg "check_condition" = some (.ref f_check_condition)
  b_check_condition : Binds K d_check_condition ["condition"] []
  f_count_looks : Addr
  d_count_looks : FuncData
  F_count_looks : Fun K "count_looks" "count_looks" s_count_looks f_count_looks d_count_looks
  m_count_looks : mg "count_looks" = some (.ref f_count_looks)
  b_count_looks : Binds K d_count_looks ["condition", "around"] []
  f_has_form : Addr
  d_has_form : FuncData
  F_has_form : Fun K "has_form" "has_form" s_has_form f_has_form d_has_form
  m_has_form : mg "has_form" = some (.ref f_has_form)
  b_has_form : Binds K d_has_form ["condition"] []
  f_is_number_up_to : Addr
  d_is_number_up_to : FuncData
  F_is_number_up_to : Fun K "is_number_up_to" "is_number_up_to" s_is_number_up_to f_is_number_up_to d_is_number_up_to
  m_is_number_up_to : mg "is_number_up_to" = some (.ref f_is_number_up_to)
  b_is_number_up_to : Binds K d_is_number_up_to ["value", "most"] []
  f_read : Addr
  d_read : FuncData
  F_read : Fun K "read" "read" s_read f_read d_read
  m_read : mg "read" = some (.ref f_read)
  b_read : Binds K d_read ["text"] []
  f_check_signs : Addr
  d_check_signs : FuncData
  F_check_signs : Fun K "check_signs" "check_signs" s_check_signs f_check_signs d_check_signs
  m_check_signs : mg "check_signs" = some (.ref f_check_signs)
  b_check_signs : Binds K d_check_signs ["text"] []
  f_may_stand : Addr
  d_may_stand : FuncData
  F_may_stand : Fun K "may_stand" "may_stand" s_may_stand f_may_stand d_may_stand
  m_may_stand : mg "may_stand" = some (.ref f_may_stand)
  b_may_stand : Binds K d_may_stand ["sign", "due", "unclosed"] []
  f_condition_of : Addr
  d_condition_of : FuncData
  F_condition_of : Fun K "condition_of" "condition_of" s_condition_of f_condition_of d_condition_of
  m_condition_of : mg "condition_of" = some (.ref f_condition_of)
  b_condition_of : Binds K d_condition_of ["text"] []
  f_join_waiting : Addr
  d_join_waiting : FuncData
  F_join_waiting : Fun K "join_waiting" "join_waiting" s_join_waiting f_join_waiting d_join_waiting
  m_join_waiting : mg "join_waiting" = some (.ref f_join_waiting)
  b_join_waiting : Binds K d_join_waiting ["done", "waiting", "least"] []
  f_law_begun : Addr
  d_law_begun : FuncData
  F_law_begun : Fun K "_law_begun" "_law_begun" s_law_begun f_law_begun d_law_begun
  m_law_begun : mg "_law_begun" = some (.ref f_law_begun)
  b_law_begun : Binds K d_law_begun ["_law_script"] []
  f_law_take : Addr
  d_law_take : FuncData
  F_law_take : Fun K "_law_take" "_law_take" s_law_take f_law_take d_law_take
  m_law_take : mg "_law_take" = some (.ref f_law_take)
  b_law_take : Binds K d_law_take ["_law_box", "_law_many"] []
  f_law_alike : Addr
  d_law_alike : FuncData
  F_law_alike : Fun K "_law_alike" "_law_alike" s_law_alike f_law_alike d_law_alike
  m_law_alike : mg "_law_alike" = some (.ref f_law_alike)
  b_law_alike : Binds K d_law_alike ["_law_found", "_law_due"] []
  f_law_class : Addr
  d_law_class : FuncData
  F_law_class : Fun K "_law_class" "_law_class" s_law_class f_law_class d_law_class
  m_law_class : mg "_law_class" = some (.ref f_law_class)
  b_law_class : Binds K d_law_class ["_law_e"] []
  f_law_part : Addr
  d_law_part : FuncData
  F_law_part : Fun K "_law_part" "_law_part" s_law_part f_law_part d_law_part
  m_law_part : mg "_law_part" = some (.ref f_law_part)
  b_law_part : Binds K d_law_part ["_law_box", "_law_many", "_law_things"] []
  f_law_bare : Addr
  d_law_bare : FuncData
  F_law_bare : Fun K "_law_bare" "_law_bare" s_law_bare f_law_bare d_law_bare
  m_law_bare : mg "_law_bare" = some (.ref f_law_bare)
  b_law_bare : Binds K d_law_bare ["_law_box", "_law_many", "_law_things"] []
  f_law_deep : Addr
  d_law_deep : FuncData
  F_law_deep : Fun K "_law_deep" "_law_deep" s_law_deep f_law_deep d_law_deep
  m_law_deep : mg "_law_deep" = some (.ref f_law_deep)
  b_law_deep : Binds K d_law_deep ["_law_part_here"] []
  f_law_condition : Addr
  d_law_condition : FuncData
  F_law_condition : Fun K "_law_condition" "_law_condition" s_law_condition f_law_condition d_law_condition
  m_law_condition : mg "_law_condition" = some (.ref f_law_condition)
  b_law_condition : Binds K d_law_condition ["_law_box", "_law_most"] []
  f_law_text : Addr
  d_law_text : FuncData
  F_law_text : Fun K "_law_text" "_law_text" s_law_text f_law_text d_law_text
  m_law_text : mg "_law_text" = some (.ref f_law_text)
  b_law_text : Binds K d_law_text ["_law_part_here", "_law_least"] []
  f_law_spoilt : Addr
  d_law_spoilt : FuncData
  F_law_spoilt : Fun K "_law_spoilt" "_law_spoilt" s_law_spoilt f_law_spoilt d_law_spoilt
  m_law_spoilt : mg "_law_spoilt" = some (.ref f_law_spoilt)
  b_law_spoilt : Binds K d_law_spoilt ["_law_box", "_law_text_here"] []
  f_law_first : Addr
  d_law_first : FuncData
  F_law_first : Fun K "_law_first" "_law_first" s_law_first f_law_first d_law_first
  m_law_first : mg "_law_first" = some (.ref f_law_first)
  b_law_first : Binds K d_law_first ["_law_text_here"] []
  f_law_parts : Addr
  d_law_parts : FuncData
  F_law_parts : Fun K "_law_parts" "_law_parts" s_law_parts f_law_parts d_law_parts
  m_law_parts : mg "_law_parts" = some (.ref f_law_parts)
  b_law_parts : Binds K d_law_parts ["_law_text_here", "_law_sign"] []
  f_law_read : Addr
  d_law_read : FuncData
  F_law_read : Fun K "_law_read" "_law_read" s_law_read f_law_read d_law_read
  m_law_read : mg "_law_read" = some (.ref f_law_read)
  b_law_read : Binds K d_law_read ["_law_text_here"] []
  f_law_looked : Addr
  d_law_looked : FuncData
  F_law_looked : Fun K "_law_looked" "_law_looked" s_law_looked f_law_looked d_law_looked
  m_law_looked : mg "_law_looked" = some (.ref f_law_looked)
  b_law_looked : Binds K d_law_looked ["_law_part_here"] []
  f_law_told : Addr
  d_law_told : FuncData
  F_law_told : Fun K "_law_told" "_law_told" s_law_told f_law_told d_law_told
  m_law_told : mg "_law_told" = some (.ref f_law_told)
  b_law_told : Binds K d_law_told ["_law_text_here"] []
  f_law : Addr
  d_law : FuncData
  F_law : Fun K "law" "law" s_law f_law d_law
  m_law : mg "law" = some (.ref f_law)
  b_law : Binds K d_law ["_law_script"] []
  n_sum : mg "sum" = none
  n_tuple : mg "tuple" = none
  n_isinstance : mg "isinstance" = none
  n_len : mg "len" = none
  n_bool : mg "bool" = none
  n_int : mg "int" = none
  n_enumerate : mg "enumerate" = none
  n_list : mg "list" = none
  n_str : mg "str" = none
  n_range : mg "range" = none
  n_ValueError : mg "ValueError" = none
  n_max : mg "max" = none
  C_BadCondition : Addr
  x_BadCondition : mg "BadCondition" = some (.ref C_BadCondition)
  k_BadCondition : PySem.W.keepIn K (.ref C_BadCondition) = true
  s_BadCondition : PySem.W.subIn K (.ref C_BadCondition) (.type "BaseException") = some true
  t_BadCondition : PySem.W.typeIn K (.ref C_BadCondition) = some (.type "type")
  e_BadCondition : PySem.W.excIn K C_BadCondition PySem.HandSPX.veTail "ValueError.__new__" = true
  w_BadCondition : ExcW K C_BadCondition
  v_BadCondition : PySem.W.kitOne K (.ref C_BadCondition) (.type "ValueError") = some true
  C_BadText : Addr
  x_BadText : mg "BadText" = some (.ref C_BadText)
  k_BadText : PySem.W.keepIn K (.ref C_BadText) = true
  s_BadText : PySem.W.subIn K (.ref C_BadText) (.type "BaseException") = some true
  t_BadText : PySem.W.typeIn K (.ref C_BadText) = some (.type "type")
  fI_BadText : Addr
  fd_BadText : FuncData
  p_BadText : Plc P K mg C_BadText fI_BadText fd_BadText
  b_BadText : Binds K fd_BadText ["self", "place"] []
  xf_BadText : XfC K C_BadText
  np_BadText : PySem.W.findIn K (.ref C_BadText) "place" = some none
  w_BadText : ExcW K C_BadText
  v_BadText : PySem.W.kitOne K (.ref C_BadText) (.type "ValueError") = some true
  C_BadEnd : Addr
  x_BadEnd : mg "BadEnd" = some (.ref C_BadEnd)
  C_BadTurns : Addr
  x_BadTurns : mg "BadTurns" = some (.ref C_BadTurns)
  C_BadWorths : Addr
  x_BadWorths : mg "BadWorths" = some (.ref C_BadWorths)
  C_TooMany : Addr
  x_TooMany : mg "TooMany" = some (.ref C_TooMany)
  C_BadChances : Addr
  x_BadChances : mg "BadChances" = some (.ref C_BadChances)
  C_BadCode : Addr
  x_BadCode : mg "BadCode" = some (.ref C_BadCode)
  C_JumpError : Addr
  x_JumpError : mg "JumpError" = some (.ref C_JumpError)
  k_JumpError : PySem.W.keepIn K (.ref C_JumpError) = true
  s_JumpError : PySem.W.subIn K (.ref C_JumpError) (.type "BaseException") = some true
  t_JumpError : PySem.W.typeIn K (.ref C_JumpError) = some (.type "type")
  q_BadCondition_BadCondition : PySem.W.kitOne K (.ref C_BadCondition) (.ref C_BadCondition) = some true
  q_BadCondition_BadText : PySem.W.kitOne K (.ref C_BadCondition) (.ref C_BadText) = some false
  q_BadCondition_BadEnd : PySem.W.kitOne K (.ref C_BadCondition) (.ref C_BadEnd) = some false
  q_BadCondition_BadTurns : PySem.W.kitOne K (.ref C_BadCondition) (.ref C_BadTurns) = some false
  q_BadCondition_BadWorths : PySem.W.kitOne K (.ref C_BadCondition) (.ref C_BadWorths) = some false
  q_BadCondition_TooMany : PySem.W.kitOne K (.ref C_BadCondition) (.ref C_TooMany) = some false
  q_BadCondition_BadChances : PySem.W.kitOne K (.ref C_BadCondition) (.ref C_BadChances) = some false
  q_BadCondition_BadCode : PySem.W.kitOne K (.ref C_BadCondition) (.ref C_BadCode) = some false
  m_BadCondition_JumpError : PySem.W.exmOne K (.ref C_BadCondition) (.ref C_JumpError) = some true
  q_BadText_BadCondition : PySem.W.kitOne K (.ref C_BadText) (.ref C_BadCondition) = some false
  q_BadText_BadText : PySem.W.kitOne K (.ref C_BadText) (.ref C_BadText) = some true
  q_BadText_BadEnd : PySem.W.kitOne K (.ref C_BadText) (.ref C_BadEnd) = some false
  q_BadText_BadTurns : PySem.W.kitOne K (.ref C_BadText) (.ref C_BadTurns) = some false
  q_BadText_BadWorths : PySem.W.kitOne K (.ref C_BadText) (.ref C_BadWorths) = some false
  q_BadText_TooMany : PySem.W.kitOne K (.ref C_BadText) (.ref C_TooMany) = some false
  q_BadText_BadChances : PySem.W.kitOne K (.ref C_BadText) (.ref C_BadChances) = some false
  q_BadText_BadCode : PySem.W.kitOne K (.ref C_BadText) (.ref C_BadCode) = some false
  m_BadText_JumpError : PySem.W.exmOne K (.ref C_BadText) (.ref C_JumpError) = some true
  u_MOST_LOOKS : Tok
  c_MOST_LOOKS : mg "MOST_LOOKS" = some (.int 12 u_MOST_LOOKS)
  u_MOST_AROUND : Tok
  c_MOST_AROUND : mg "MOST_AROUND" = some (.int 10 u_MOST_AROUND)
  u_THINGS : Tok
  c_THINGS : mg "THINGS" = some (.int 8 u_THINGS)
  u_BEFORE_ONE : Tok
  c_BEFORE_ONE : mg "BEFORE_ONE" = some (.str "!(&|" u_BEFORE_ONE)
  u_BEGINNINGS : Tok
  c_BEGINNINGS : mg "BEGINNINGS" = some (.str "abcdefgh!(" u_BEGINNINGS)
  a_WORDS : Addr
  c_WORDS : mg "WORDS" = some (.ref a_WORDS)
  k_WORDS_0 : KDct K w a_WORDS "&" (.str "and")
  k_WORDS_1 : KDct K w a_WORDS "|" (.str "or")
  h_WORDS : ∀ z : Str, (∀ x ∈ [("&" : Str), ("|" : Str)], x ≠ z) → KHas K w a_WORDS z false
  i_WORDS_0 : KHas K w a_WORDS "&" true
  i_WORDS_1 : KHas K w a_WORDS "|" true
  i_WORDS_2 : KHas K w a_WORDS "!" false
  i_WORDS_3 : KHas K w a_WORDS "(" false
  u_LETTERS : Tok
  c_LETTERS : mg "LETTERS" = some (.str "abcdefgh" u_LETTERS)
  a_BINDS : Addr
  c_BINDS : mg "BINDS" = some (.ref a_BINDS)
  k_BINDS_0 : KDct K w a_BINDS "!" (.int 3)
  k_BINDS_1 : KDct K w a_BINDS "&" (.int 2)
  k_BINDS_2 : KDct K w a_BINDS "|" (.int 1)
  k_BINDS_3 : KDct K w a_BINDS "(" (.int 0)

def spOut (n : Nat) : Sp := fun vs H Q _ => ∃ v u c ws, vs = [v, u] ∧ CA H v c ∧ c.deep < n ∧ n ≤ 12 ∧ c.ok ∧ WA H u ws ∧ ∀ v' H', Same H H' → Told H H' v' (ev ws c) → Q v' H'
theorem ev_small {ws : List Bool} {c : Cond} (h : c.deep < 12) : (ev ws c).2.length ≤ 4096 := by
  have h1 := ev_len ws c
  have h2 := looks_deep c
  have h3 := Nat.pow_le_pow_right (n := 2) (by decide) (show c.deep ≤ 12 by omega)
  omega
theorem Told.back {H H1 H2 : Hp} {v : V} {x : Bool × List Nat} (g : Same H H1) (h : Told H1 H2 v x) : Told H H2 v x := by
  obtain ⟨p, l, rfl, h0, hp, hq⟩ := h
  exact ⟨p, l, rfl, g.free h0, hp, hq⟩

/-! _law_class -/
def clsN : List Str := ["BadCondition", "BadWorths", "BadTurns", "BadEnd", "BadCode", "BadChances", "TooMany", "BadText"]
structure ClsAt (K : PySem.W.Frag) (C0 C1 C2 C3 C4 C5 C6 C7 D : Addr) (j : Nat) : Prop where
  j8 : j < 8
  k0 : PySem.W.kitOne K (.ref D) (.ref C0) = some (decide (0 = j))
  k1 : PySem.W.kitOne K (.ref D) (.ref C1) = some (decide (1 = j))
  k2 : PySem.W.kitOne K (.ref D) (.ref C2) = some (decide (2 = j))
  k3 : PySem.W.kitOne K (.ref D) (.ref C3) = some (decide (3 = j))
  k4 : PySem.W.kitOne K (.ref D) (.ref C4) = some (decide (4 = j))
  k5 : PySem.W.kitOne K (.ref D) (.ref C5) = some (decide (5 = j))
  k6 : PySem.W.kitOne K (.ref D) (.ref C6) = some (decide (6 = j))
  k7 : PySem.W.kitOne K (.ref D) (.ref C7) = some (decide (7 = j))
  kv : PySem.W.kitOne K (.ref D) (.type "ValueError") = some true
def XdAt (H : Hp) (d : Option Addr) : Prop := ∀ dx, d = some dx → ∃ kvs, H dx = some (.xd kvs)
theorem XdAt.mono {H H' : Hp} {d : Option Addr} (h : XdAt H d) (g : Same H H') : XdAt H' d := fun dx e => by
  obtain ⟨k, z⟩ := h dx e
  exact ⟨k, g _ _ z⟩
def spClassD (a : Addr) (d : Option Addr) (j : Nat) : Sp := fun vs H Q _ => vs = [.ref a] ∧ XdAt H d ∧ ∀ H', Same H H' → Q (.str (clsN.getD j "")) H'
def spClass (K : PySem.W.Frag) (C0 C1 C2 C3 C4 C5 C6 C7 a : Addr) (cls : Value) (d : Option Addr) : Sp := fun vs H Q E => ∃ D j, cls = .ref D ∧ ExcW K D ∧ ClsAt K C0 C1 C2 C3 C4 C5 C6 C7 D j ∧ spClassD a d j vs H Q E
def kndL (j : Nat) : List Bool := [decide (0 = j), decide (1 = j), decide (2 = j), decide (3 = j)] ++ [decide (4 = j), decide (5 = j), decide (6 = j), decide (7 = j)]
theorem knd_all : ∀ j, j < 8 → (kndL j).count true = 1 ∧ (kndL j)[j]? = some true ∧ ∀ m b, m < j → (kndL j)[m]? = some b → (b == true) = false := by
  intro j h
  have : ∀ j, j < 8 → (kndL j).count true = 1 ∧ (kndL j)[j]? = some true ∧ ∀ m, m < j → (((kndL j)[m]?).getD false == true) = false := by decide
  obtain ⟨h1, h2, h3⟩ := this j h
  refine ⟨h1, h2, fun m b hm hb => ?_⟩
  have := h3 m hm
  rw [hb] at this
  exact this
theorem pure_class {K : PySem.W.Frag} {w : World} {C0 C1 C2 C3 C4 C5 C6 C7 a D : Addr} {d : Option Addr} {j : Nat} (k : ClsAt K C0 C1 C2 C3 C4 C5 C6 C7 D j) (vs : List V) (H : Hp) (Q : VK) (E : XK) (h : spClassD a d j vs H Q E) :
    t_law_class K w C3 C2 C1 C0 C7 C6 C5 C4 a D d (Ends.mk (fun _ H' => Q .non H') Q (fun _ _ => False) (fun _ _ => False)) (start ["_law_e", "_law_kinds", "_law_words"] vs) H := by
  obtain ⟨rfl, hd, q⟩ := h
  obtain ⟨z1, z2, z3⟩ := knd_all j k.j8
  unfold t_law_class
  tm_at "j"
  refine l_is (fun _ e => e) k.k0 hd ?_
  tm_at "j"
  refine l_is (fun _ e => e) k.k1 hd ?_
  tm_at "j"
  refine l_is (fun _ e => e) k.k2 hd ?_
  tm_at "j"
  refine l_is (fun _ e => e) k.k3 hd ?_
  tm_at "j"
  rename_i p1 H1 n1 g1 e1
  have hd1 := hd.mono g1
  refine l_is (fun _ e => e) k.k4 hd1 ?_
  tm_at "j"
  refine l_is (fun _ e => e) k.k5 hd1 ?_
  tm_at "j"
  refine l_is (fun _ e => e) k.k6 hd1 ?_
  tm_at "j"
  refine l_is (fun _ e => e) k.k7 hd1 ?_
  tm_at "j"
  rename_i p2 H2 n2 g2 e2 p3 H3 n3 g3 e3 p4 H4 n4 g4 e4
  have g04 := ((g1.trans g2).trans g3).trans g4
  have e34 : H4 p3 = some (.lst ((kndL j).map V.bl)) := g4 _ _ e3
  refine l_cntB (bs := kndL j) (SqL.of e34) ?_
  rw [z1]
  tm_at "j"
  refine l_is (fun _ e => e) k.kv (hd.mono g04) ?_
  tm_at "j"
  refine l_ixB (bs := kndL j) (SqL.of e34) z2 z3 ?_
  have h8 : (clsN.map V.str)[j]? = some (.str (clsN.getD j "")) := by
    rw [List.getElem?_map, List.getElem?_eq_getElem (show j < clsN.length from k.j8), List.getD_eq_getElem?_getD, List.getElem?_eq_getElem (show j < clsN.length from k.j8)]
    rfl
  refine l_ixL (xs := clsN.map V.str) (SqL.of e4) (atI_nat h8) ?_
  exact q _ g04

/-! what the program's defs promise, of good conditions, codes, worths, chances -/
def spLaw (K : PySem.W.Frag) : Sp := fun vs H Q _ => ∃ (a : Addr) (ns : List Int), vs = [.ref a] ∧ SqL K H a (ns.map V.int) ∧ ns.length ≤ 63 ∧ ∀ H', Q (.bl true) H'
def spCoded : Sp := fun vs H Q _ => ∃ v c, ∃ f : Bool, vs = [v, vb f] ∧ CA H v c ∧ c.ok ∧ c.deep ≤ 10 ∧ c.looks ≤ 12 ∧ ∀ v' H', Same H H' → RN H H' v' (codeM c f) → Q v' H'
def spRunP (K : PySem.W.Frag) : Sp := fun vs H Q _ => ∃ p u, ∃ rows : List Row, ∃ ws : List Bool, vs = [.ref p, u] ∧ RA K H p rows ∧ GoodCode rows ∧ WA H u ws ∧ ∀ v' H', Same H H' → RTold H H' v' (runC rows ws) → Q v' H'
def spMeant : Sp := fun vs H Q _ => ∃ v u c ws, vs = [v, u] ∧ CA H v c ∧ c.ok ∧ c.deep ≤ 10 ∧ c.looks ≤ 12 ∧ WA H u ws ∧ ∀ v' H', Same H H' → Told H H' v' (ev ws c) → Q v' H'
def spTurned (K : PySem.W.Frag) : Sp := fun vs H Q _ => ∃ v c p, ∃ ts : List Bool, vs = [v, .ref p] ∧ CA H v c ∧ c.ok ∧ c.deep ≤ 10 ∧ c.looks ≤ 12 ∧ SqL K H p (ts.map vb) ∧ ts.length = c.pairs ∧ ∀ v' H', Same H H' → CA H' v' (exch c ts) → Q v' H'
def spLooksP : Sp := fun vs H Q _ => ∃ v u c ch, vs = [v, u] ∧ CA H v c ∧ c.ok ∧ c.deep ≤ 10 ∧ c.looks ≤ 12 ∧ ChA H u ch ∧ ∀ H', Same H H' → Q (.int (looksM ch c : Int)) H'
def spJumpsP : Sp := fun vs H Q _ => ∃ v u c ch, ∃ f : Bool, vs = [v, vb f, u] ∧ CA H v c ∧ c.ok ∧ c.deep ≤ 10 ∧ c.looks ≤ 12 ∧ ChA H u ch ∧ ∀ H', Same H H' → Q (.int (jumpsM ch f c : Int)) H'
def spParting : Sp := fun vs H Q _ => ∃ v u c d, vs = [v, u] ∧ CA H v c ∧ CA H u d ∧ Good c ∧ Good d ∧ ∀ v' H', Same H H' → PTold H H' v' (partM c d 256) c d → Q v' H'
def spAlikeP : Sp := fun vs H Q _ => ∃ v u c d, vs = [v, u] ∧ CA H v c ∧ CA H u d ∧ Good c ∧ Good d ∧ ∀ H', Same H H' → Q (.bl (partM c d 256).isNone) H'
def spLike : Sp := fun vs H Q _ => ∃ v u c d, vs = [v, u] ∧ CA H v c ∧ CA H u d ∧ Good c ∧ Good d ∧ ∀ H', Same H H' → Q (.bl (sameM c d 256)) H'
def spFL : Sp := fun vs H Q _ => ∃ v u c ch, vs = [v, u] ∧ CA H v c ∧ c.ok ∧ c.deep ≤ 10 ∧ c.looks ≤ 12 ∧ c.pairs ≤ 6 ∧ ChA H u ch ∧ ∀ v' H', Same H H' → FL H H' v' ch c → Q v' H'
def spFJ : Sp := fun vs H Q _ => ∃ v u c ch, vs = [v, u] ∧ CA H v c ∧ c.ok ∧ c.deep ≤ 10 ∧ c.looks ≤ 12 ∧ c.pairs ≤ 6 ∧ ChA H u ch ∧ ∀ v' H', Same H H' → FJ H H' v' ch c → Q v' H'

/-- a draw: some number of m -/
def spTake : Sp := fun vs H Q _ => ∃ b l ns s, ∃ m : Int, vs = [.ref b, .int m] ∧ Bx H b l ns s ∧ 0 < m ∧ m < 1000000 ∧ ∀ (r : Int) ns' s' H', Fr b l H H' → Bx H' b l ns' s' → 0 ≤ r → r < m → Q (.int r) H'
theorem pure_take {K : PySem.W.Frag} {w : World} (vs : List V) (H : Hp) (Q : VK) (E : XK) (h : spTake vs H Q E) :
    t_law_take K w (Ends.mk (fun _ H' => Q .non H') Q (fun _ _ => False) (fun _ _ => False)) (start ["_law_box", "_law_many", "_law_number"] vs) H := by
  obtain ⟨b, l, ns, s, m, rfl, x, m0, m1, q⟩ := h
  have hb := x.hb
  have hl := x.hl
  have s0 := x.s0
  have s1 := x.s1
  have n63 := x.n63
  unfold t_law_take
  tm_at "j"
  rename_i p H1 np g1 e1
  have x1 := x.same g1
  refine l_eqD (.lst (by tm_at "hp") (dp_ints ns)) (.lst (by tm_at "hp") .nil) (shaped_ints ns) rfl ?_
  cases ns with
  | nil =>
    rw [show PyData.eqv (.list (([] : List Int).map PyData.int)) (.list []) = true from rfl]
    tm_at "j"
    refine l_setL' (K := K) x1.hb rfl fun H2 g2 e2 => ?_
    tm_at "j"
    refine q _ _ _ _ ((Fr.of g1).trans (Fr.b g2)) ⟨x.ne, e2, g2 _ _ x.ne.symm x1.hl, ?_, ?_, by decide⟩ ?_ ?_
    · exact Int.emod_nonneg _ (by decide)
    · exact Int.emod_lt_of_pos _ (by decide)
    · exact Int.emod_nonneg _ (by omega)
    · exact Int.emod_lt_of_pos _ m0
  | cons n r =>
    rw [show PyData.eqv (.list ((n :: r).map PyData.int)) (.list []) = false from rfl]
    have hl1 : H1 l = some (.lst (.int n :: r.map V.int)) := x1.hl
    have hb1 := x1.hb
    have f0 : 0 ≤ n % m := Int.emod_nonneg _ (by omega)
    have f1 : n % m < m := Int.emod_lt_of_pos _ m0
    tm_at "j"
    refine l_setL' (K := K) hl1 (ix0 (by simp)) fun H2 g2 e2 => ?_
    have hb2 : H2 b = some (.lst [.ref l, .int s]) := g2 _ _ x.ne hb1
    have e2' : H2 l = some (.lst (.int (n / m) :: r.map V.int)) := e2
    have fr2 : Fr b l H H2 := (Fr.of g1).trans (Fr.l g2)
    tm_at "j"
    refine i_b (fun e => ?_) (fun e => ?_)
    · tm_at "j"
      refine l_pop0' e2' fun H3 g3 e3 => ?_
      tm_at "j"
      refine q _ r s _ (fr2.trans (Fr.l g3)) ⟨x.ne, g3 _ _ x.ne hb2, e3, s0, s1, ?_⟩ f0 f1
      have : (n :: r).length = r.length + 1 := rfl
      omega
    · tm_at "j"
      refine i_b (fun e => ?_) (fun e => ?_)
      · tm_at "j"
        refine l_pop0' e2' fun H3 g3 e3 => ?_
        tm_at "j"
        refine q _ r s _ (fr2.trans (Fr.l g3)) ⟨x.ne, g3 _ _ x.ne hb2, e3, s0, s1, ?_⟩ f0 f1
        have : (n :: r).length = r.length + 1 := rfl
        omega
      · tm_at "j"
        exact q _ (n / m :: r) s _ fr2 ⟨x.ne, hb2, e2', s0, s1, n63⟩ f0 f1

/-! _law_text -/
def S (l : List Nat) : Str := ⟨l.toArray⟩
theorem S_app (a b : List Nat) : S a ++ S b = S (a ++ b) := by
  show Str.mk (a.toArray ++ b.toArray) = Str.mk (a ++ b).toArray
  rw [List.append_toArray]
theorem S_len (a : List Nat) : (S a).length = a.length := rfl
def rk (a : Bool) : Nat := if a then 1 else 0
def sg (a : Bool) : Nat := if a then 38 else 124
def textL : Cond → Nat → List Nat
  | .look i, _ => [97 + i]
  | .not c, _ => 33 :: textL c 2
  | .bin a l r, least => if least ≤ rk a then textL l (rk a) ++ [sg a] ++ textL r (rk a + 1) else 40 :: (textL l (rk a) ++ [sg a] ++ textL r (rk a + 1)) ++ [41]
theorem text_len : ∀ (c : Cond) (n : Nat), (textL c n).length + 3 ≤ 8 * 2 ^ c.deep
  | .look _, _ => by show 1 + 3 ≤ 8 * 1; decide
  | .not c, n => by
    show (textL c 2).length + 1 + 3 ≤ 8 * 2 ^ (c.deep + 1)
    have := text_len c 2
    rw [Nat.pow_succ]
    omega
  | .bin a l r, n => by
    have h1 := text_len l (rk a)
    have h2 := text_len r (rk a + 1)
    have p1 := Nat.pow_le_pow_right (n := 2) (by decide) (Nat.le_max_left l.deep r.deep)
    have p2 := Nat.pow_le_pow_right (n := 2) (by decide) (Nat.le_max_right l.deep r.deep)
    show (textL (.bin a l r) n).length + 3 ≤ 8 * 2 ^ (max l.deep r.deep + 1)
    rw [Nat.pow_succ]
    unfold textL
    split
    · simp only [List.length_append, List.length_cons, List.length_nil]
      omega
    · simp only [List.length_append, List.length_cons, List.length_nil]
      omega
theorem text_small {c : Cond} {n : Nat} (h : c.deep < 13) : (textL c n).length ≤ 32768 := by
  have h1 := text_len c n
  have h2 : 2 ^ c.deep ≤ 2 ^ 12 := Nat.pow_le_pow_right (by decide) (by omega)
  have : (2 : Nat) ^ 12 = 4096 := by decide
  omega
def spText (n : Nat) : Sp := fun vs H Q _ => ∃ v c, ∃ m : Nat, vs = [v, .int (m : Int)] ∧ CA H v c ∧ c.ok ∧ c.deep < n ∧ n ≤ 13 ∧ ∀ H', Same H H' → Q (.str (S (textL c m))) H'
theorem l_addS {a b : List Nat} {H : Hp} {Q : VK} (h : a.length + b.length ≤ 100000) (q : Q (.str (S (a ++ b))) H) : rAddStr (.str (S a)) (.str (S b)) H Q := ⟨S a, S b, rfl, rfl, Nat.le_trans h (by decide), by rw [S_app]; exact q⟩
theorem letter {i : Nat} (h : i < 8) : atI ("abcdefgh" : Str).cps.toList (i : Int) = some (97 + i) := by
  obtain rfl | rfl | rfl | rfl | rfl | rfl | rfl | rfl : i = 0 ∨ i = 1 ∨ i = 2 ∨ i = 3 ∨ i = 4 ∨ i = 5 ∨ i = 6 ∨ i = 7 := by omega
  all_goals decide +kernel
theorem sign_at {H : Hp} {p1 p2 : Addr} (a : Bool) (e1 : H p1 = some (.tup [.str "|", .int 0])) (e2 : H p2 = some (.tup [.str "&", .int 1])) : ∃ p, atI [V.ref p1, V.ref p2] (if a = true then 1 else 0) = some (.ref p) ∧ H p = some (.tup [.str (S [sg a]), .int (rk a : Int)]) := by
  cases a
  · exact ⟨p1, rfl, by rw [e1, show ("|" : Str) = S [sg false] by decide +kernel]; rfl⟩
  · exact ⟨p2, rfl, by rw [e2, show ("&" : Str) = S [sg true] by decide +kernel]; rfl⟩
theorem pure_text {K : PySem.W.Frag} {w : World} {n : Nat} (vs : List V) (H : Hp) (Q : VK) (E : XK) (h : spText (n + 1) vs H Q E) :
    t_law_text K w (spText n) (Ends.mk (fun _ H' => Q .non H') Q (fun _ _ => False) (fun _ _ => False)) (start ["_law_part_here", "_law_least", "_law_sign", "_law_rank", "_law_text_here"] vs) H := by
  obtain ⟨v, c, m, rfl, hc, ho, hn, n13, q⟩ := h
  unfold t_law_text
  cases hc with
  | look e =>
    rename_i i
    have hi : i < 8 := ho
    tm_at "j"
    refine ⟨("abcdefgh" : Str), (i : Int), 97 + i, rfl, rfl, by decide +kernel, letter hi, ?_⟩
    tm_at "j"
    exact q _ (Same.refl _)
  | not e hc =>
    rename_i v1 c1
    have hn1 : c1.deep + 1 < n + 1 := hn
    tm_at "j"
    refine ⟨v1, c1, 2, rfl, hc, ho, by omega, by omega, fun H1 g1 => ?_⟩
    tm_at "j"
    have := text_small (c := c1) (n := 2) (by omega)
    rw [show ("!" : Str) = S [33] by decide +kernel]
    refine l_addS (by show 1 + _ ≤ _; omega) ?_
    tm_at "j"
    exact q _ g1
  | bin e h1 h2 =>
    rename_i a v1 v2 c1 c2
    have hn1 : max c1.deep c2.deep + 1 < n + 1 := hn
    have hw : decide (V.str (wd a) = V.str "not") = false := by cases a <;> decide +kernel
    have hl : decide (V.str (wd a) = V.str "look") = false := by cases a <;> decide +kernel
    have ha : decide (V.str (wd a) = V.str "and") = a := by cases a <;> decide +kernel
    tm_at "j"
    rw [hl]
    tm_at "j"
    rw [hw]
    tm_at "j"
    rw [ha]
    tm_at "j"
    rename_i p1 H1 n1 g1 e1 p2 H2 n2 g2 e2 p3 H3 n3 g3 e3
    obtain ⟨p, hat, ep⟩ := sign_at a (g3 _ _ (g2 _ _ e1)) (g3 _ _ e2)
    have g03 := (g1.trans g2).trans g3
    refine l_ixL (SqL.of e3) hat ?_
    tm_at "j"
    refine ⟨v1, c1, rk a, rfl, h1.mono g03, ho.1, by omega, by omega, fun H4 g4 => ?_⟩
    tm_at "j"
    have l1 := text_small (c := c1) (n := rk a) (by omega)
    have l2 := text_small (c := c2) (n := rk a + 1) (by omega)
    refine l_addS (by show _ + 1 ≤ _; omega) ?_
    tm_at "j"
    refine ⟨v2, c2, rk a + 1, rfl, (h2.mono g03).mono g4, ho.2, by omega, by omega, fun H5 g5 => ?_⟩
    tm_at "j"
    refine l_addS (by rw [List.length_append]; show _ + 1 + _ ≤ _; omega) ?_
    tm_at "j"
    have hlen : (textL c1 (rk a) ++ [sg a] ++ textL c2 (rk a + 1)).length = (textL c1 (rk a)).length + 1 + (textL c2 (rk a + 1)).length := by rw [List.length_append, List.length_append]; rfl
    have hd : decide ((m : Int) ≤ (rk a : Int)) = decide (m ≤ rk a) := by
      by_cases h : m ≤ rk a
      · rw [decide_eq_true h, decide_eq_true (by omega)]
      · rw [decide_eq_false h, decide_eq_false (by omega)]
    rw [hd]
    have g05 := (g03.trans g4).trans g5
    have q5 := q _ g05
    unfold textL at q5
    by_cases h : m ≤ rk a
    · rw [if_pos h] at q5
      rw [decide_eq_true h]
      tm_at "j"
      exact q5
    · rw [if_neg h] at q5
      rw [decide_eq_false h]
      tm_at "j"
      rw [show ("(" : Str) = S [40] by decide +kernel, show (")" : Str) = S [41] by decide +kernel]
      refine l_addS (by show 1 + _ ≤ _; omega) ?_
      tm_at "j"
      refine l_addS (by show (textL c1 (rk a) ++ [sg a] ++ textL c2 (rk a + 1)).length + 1 + 1 ≤ _; omega) ?_
      tm_at "j"
      exact q5

/-! _law_brackets -/
def brk : Nat → List Nat → List Nat → Option (List (Nat × Nat))
  | _, _, [] => some []
  | p, st, x :: r => if x = 40 then brk (p + 1) (p :: st) r else if x = 41 then (match st with
    | [] => none
    | b :: st' => (brk (p + 1) st' r).map ((b, p) :: ·)) else brk (p + 1) st r
def prD (x : Nat × Nat) : PyData := .tuple [.int (x.1 : Int), .int (x.2 : Int)]
theorem sign_is {x y : Nat} : decide (V.str (S [x]) = V.str (S [y])) = decide (x = y) := by
  by_cases h : x = y
  · subst h
    rw [decide_eq_true rfl, decide_eq_true rfl]
  · rw [decide_eq_false h, decide_eq_false fun e => h ?_]
    have e1 : S [x] = S [y] := V.str.inj e
    have e2 : #[x] = #[y] := congrArg Str.cps e1
    have e3 : [x] = [y] := congrArg Array.toList e2
    exact List.head_eq_of_cons_eq e3
theorem l_ixS {l : List Nat} {i x : Nat} {H : Hp} {Q : VK} (hl : l.length ≤ 100000) (hx : l[i]? = some x) (q : Q (.str (S [x])) H) : rIxS (.str (S l)) (.int (i : Int)) H Q := by
  refine ⟨S l, (i : Int), x, rfl, rfl, Nat.le_trans hl (by decide), ?_, q⟩
  have hi := (List.getElem?_eq_some_iff.mp hx).1
  show (ixN l.length (i : Int)).bind (fun j => l[j]?) = some x
  rw [ixNat hi]
  exact hx
theorem l_popL {H : Hp} {p : Addr} {xs : List V} {x : V} {Q : VK} (h : H p = some (.lst (xs ++ [x]))) (q : ∀ H', But p H H' → H' p = some (.lst xs) → Q x H') : rPop (.ref p) [] H Q := by
  refine ⟨p, xs ++ [x], x, rfl, rfl, h, ?_, q _ but_upd ?_⟩
  · rw [List.length_append]
    show (xs ++ [x])[xs.length + 1 - 1]? = some x
    rw [Nat.add_sub_cancel, List.getElem?_append_right (Nat.le_refl _), Nat.sub_self]
    rfl
  · rw [upd_same, List.dropLast_concat]
def spBrk : Sp := fun vs H Q _ => ∃ l : List Nat, ∃ fs, vs = [.str (S l)] ∧ l.length ≤ 50000 ∧ brk 0 [] l = some fs ∧ ∀ p ys H', Same H H' → H p = none → H' p = some (.lst ys) → TDA H' ys (fs.map prD) → Q (.ref p) H'
theorem pure_brk {K : PySem.W.Frag} {w : World} (vs : List V) (H : Hp) (Q : VK) (E : XK) (h : spBrk vs H Q E) :
    t_law_brackets K w (Ends.mk (fun _ H' => Q .non H') Q (fun _ _ => False) (fun _ _ => False)) (start ["_law_text_here", "_law_found", "_law_waiting", "_law_place"] vs) H := by
  obtain ⟨l, fs, rfl, hl, hb, q⟩ := h
  unfold t_law_brackets
  tm_at "j"
  rename_i f H1 n1 g1 e1 wt H2 n2 g2 e2
  have fw : f ≠ wt := ne_of_none e1 n2
  have nf : H f = none := n1
  have nw : H wt = none := g1.free n2
  refine ⟨S l, rfl, Nat.le_trans hl (by decide), ?_⟩
  tm_at "j"
  rw [show (S l).length = l.length from rfl]
  refine forR (n := l.length) (by omega) (fun i σ' H' => ∃ o3 st ys ds rest, σ' = [some (.str (S l)), some (.ref f), some (.ref wt), o3] ∧ Same H H' ∧ H' f = some (.lst ys) ∧ TDA H' ys (ds.map prD) ∧ H' wt = some (.lst ((List.reverse st).map vn)) ∧ st.length ≤ i ∧ ys.length ≤ i ∧ brk i st (l.drop i) = some rest ∧ fs = ds ++ rest) ⟨_, [], [], [], fs, rfl, g1.trans g2, g2 _ _ e1, .nil, e2, Nat.le_refl _, Nat.le_refl _, hb, rfl⟩ ?_ ?_
  · rintro i σ' H' hi ⟨o3, st, ys, ds, rest, rfl, g, ef, td, ew, h1, h2, h3, rfl⟩
    rw [Int.zero_add]
    have hx : l[i]? = some (l[i]'hi) := List.getElem?_eq_getElem hi
    generalize hxx : l[i]'hi = x at hx
    rw [List.drop_eq_getElem_cons hi, hxx] at h3
    tm_at "j"
    refine l_ixS (by omega) hx ?_
    tm_at "j"
    rw [show ("(" : Str) = S [40] by decide +kernel, sign_is]
    by_cases hx1 : x = 40
    · subst hx1
      rw [decide_eq_true rfl]
      tm_at "j"
      refine l_append' ew (by rw [List.length_map, List.length_reverse]; omega) fun H3 b3 e3 => ?_
      have ef3 := b3 _ _ fw ef
      have td3 := td.tups (b3.tups ew)
      tm_at "j"
      refine l_ixS (by omega) hx ?_
      tm_at "j"
      refine ⟨_, i :: st, ys, ds, rest, rfl, sm_but g b3 nw, ef3, td3, ?_, by show st.length + 1 ≤ _; omega, by omega, h3, rfl⟩
      rw [e3, List.reverse_cons, List.map_append]
      rfl
    · rw [decide_eq_false hx1]
      tm_at "j"
      refine l_ixS (by omega) hx ?_
      tm_at "j"
      rw [show (")" : Str) = S [41] by decide +kernel, sign_is]
      unfold brk at h3
      rw [if_neg hx1] at h3
      by_cases hx2 : x = 41
      · subst hx2
        rw [if_pos rfl] at h3
        rw [decide_eq_true rfl]
        match st, h3 with
        | bg :: st, h3 =>
          obtain ⟨rest', h4, rfl⟩ := Option.map_eq_some_iff.mp h3
          rw [List.reverse_cons, List.map_append] at ew
          have ew : H' wt = some (.lst (st.reverse.map vn ++ [vn bg])) := ew
          tm_at "j"
          refine l_popL ew fun H3 b3 e3 => ?_
          have ef3 := b3 _ _ fw ef
          have td3 := td.tups (b3.tups ew)
          have g3 := sm_but g b3 nw
          tm_at "j"
          rename_i p4 H4 n4 g4 e4
          have ef4 := g4 _ _ ef3
          refine l_append' ef4 (by omega) fun H5 b5 e5 => ?_
          have tp5 := b5.tups ef4
          have h1' : st.length + 1 ≤ i := h1
          tm_at "j"
          refine ⟨_, st, ys ++ [.ref p4], ds ++ [(bg, i)], rest', rfl, sm_but (g3.trans g4) b5 nf, e5, ?_, b5 _ _ fw.symm (g4 _ _ e3), by omega, by rw [List.length_append]; show ys.length + 1 ≤ _; omega, h4, by rw [List.append_assoc]; rfl⟩
          rw [List.map_append]
          exact ((td3.mono g4).tups tp5).append (.cons (.tup (tp5 _ _ e4) (.cons (.int _) (.cons (.int _) .nil))) .nil)
      · rw [if_neg hx2] at h3
        rw [decide_eq_false hx2]
        tm_at "j"
        exact ⟨_, st, ys, ds, rest, rfl, g, ef, td, ew, by omega, by omega, h3, rfl⟩
  · rintro σ' H' ⟨o3, st, ys, ds, rest, rfl, g, ef, td, ew, h1, h2, h3, rfl⟩
    rw [List.drop_length] at h3
    obtain rfl : [] = rest := Option.some.inj h3
    rw [List.append_nil] at q
    tm_at "j"
    exact q _ _ _ g nf ef td

/-! signs that wait, what they join -/
inductive Op where
  | no
  | bi (a : Bool)
  | par
  deriving DecidableEq
def Op.code : Op → Nat
  | .no => 33
  | .bi a => sg a
  | .par => 40
def Op.bnd : Op → Nat
  | .no => 3
  | .bi a => rk a + 1
  | .par => 0
def redM : Op → List Cond → Option (List Cond)
  | .no, c :: d => some (.not c :: d)
  | .bi a, r :: l :: d => some (.bin a l r :: d)
  | _, _ => none
def joinM (least : Nat) : List Cond → List Op → Option (List Cond × List Op)
  | d, [] => some (d, [])
  | d, o :: ws => if least ≤ o.bnd then (redM o d).bind fun d' => joinM least d' ws else some (d, o :: ws)
theorem s33 : ("!" : Str) = S [33] := by decide +kernel
theorem s38 : ("&" : Str) = S [38] := by decide +kernel
theorem s124 : ("|" : Str) = S [124] := by decide +kernel
theorem s40 : ("(" : Str) = S [40] := by decide +kernel
theorem s41 : (")" : Str) = S [41] := by decide +kernel
structure TxF (K : PySem.W.Frag) (w : World) (aS aW aB : Addr) : Prop where
  sn : KDct K w aS "not" (.str "!")
  sa : KDct K w aS "and" (.str "&")
  so : KDct K w aS "or" (.str "|")
  bn : KDct K w aB "!" (.int 3)
  ba : KDct K w aB "&" (.int 2)
  bo : KDct K w aB "|" (.int 1)
  bp : KDct K w aB "(" (.int 0)
  wa : KDct K w aW "&" (.str "and")
  wo : KDct K w aW "|" (.str "or")
structure TxI (K : PySem.W.Frag) (w : World) (aW : Addr) : Prop where
  ia : KHas K w aW "&" true
  io : KHas K w aW "|" true
  im : KHas K w aW "!" false
  ip : KHas K w aW "(" false
section
variable {K : PySem.W.Frag} {w : World} {aS aW aB : Addr}
theorem f_signs (sa : KDct K w aS "and" (.str "&")) (so : KDct K w aS "or" (.str "|")) (a : Bool) : KDct K w aS (wd a) (.str (S [sg a])) := by
  cases a
  · rw [show S [sg false] = ("|" : Str) from s124.symm]; exact so
  · rw [show S [sg true] = ("&" : Str) from s38.symm]; exact sa
theorem f_words (wa : KDct K w aW "&" (.str "and")) (wo : KDct K w aW "|" (.str "or")) (a : Bool) : KDct K w aW (S [sg a]) (.str (wd a)) := by
  cases a
  · rw [show S [sg false] = ("|" : Str) from s124.symm]; exact wo
  · rw [show S [sg true] = ("&" : Str) from s38.symm]; exact wa
theorem f_binds (bn : KDct K w aB "!" (.int 3)) (ba : KDct K w aB "&" (.int 2)) (bo : KDct K w aB "|" (.int 1)) (bp : KDct K w aB "(" (.int 0)) (o : Op) : KDct K w aB (S [o.code]) (.int (o.bnd : Int)) := by
  match o with
  | .no => rw [show S [Op.no.code] = ("!" : Str) from s33.symm]; exact bn
  | .par => rw [show S [Op.par.code] = ("(" : Str) from s40.symm]; exact bp
  | .bi true => rw [show S [(Op.bi true).code] = ("&" : Str) from s38.symm]; exact ba
  | .bi false => rw [show S [(Op.bi false).code] = ("|" : Str) from s124.symm]; exact bo
end
/-- conditions at values, one for each -/
inductive CAL (H : Hp) : List V → List Cond → Prop
  | nil : CAL H [] []
  | cons {v : V} {c : Cond} {us : List V} {ds : List Cond} : CA H v c → CAL H us ds → CAL H (v :: us) (c :: ds)
theorem CAL.tups {H H' : Hp} (g : Tups H H') : ∀ {us : List V} {ds : List Cond}, CAL H us ds → CAL H' us ds
  | _, _, .nil => .nil
  | _, _, .cons a t => .cons (a.tups g) (CAL.tups g t)
def sv (o : Op) : V := .str (S [o.code])
theorem at_m1 {xs : List V} {x : V} : atI (xs ++ [x]) (-1) = some x := by
  unfold atI ixN
  rw [if_neg (by decide), if_pos (by rw [List.length_append]; show -((xs.length + 1 : Nat) : Int) ≤ -1; omega)]
  show (xs ++ [x])[((-1 : Int) + ((xs ++ [x]).length : Nat)).toNat]? = some x
  rw [List.length_append, show ((-1 : Int) + ((xs.length + [x].length : Nat) : Int)).toNat = xs.length by show ((-1 : Int) + ((xs.length + 1 : Nat) : Int)).toNat = xs.length; omega, List.getElem?_append_right (Nat.le_refl _), Nat.sub_self]
  rfl
def spJoin (n : Nat) : Sp := fun vs H Q _ => ∃ dn wt : Addr, ∃ least : Nat, ∃ us ds ops ds' ops', vs = [.ref dn, .ref wt, .int (least : Int)] ∧ dn ≠ wt ∧ H dn = some (.lst us.reverse) ∧ CAL H us ds ∧ us.length ≤ n ∧ H wt = some (.lst (ops.map sv).reverse) ∧ ops.length ≤ n ∧ joinM least ds ops = some (ds', ops') ∧
  ∀ us' H', Fr dn wt H H' → H' dn = some (.lst us'.reverse) → CAL H' us' ds' → us'.length ≤ us.length → H' wt = some (.lst (ops'.map sv).reverse) → ops'.length ≤ ops.length → Q .non H'
theorem fr_tups {dn wt : Addr} {H H' : Hp} {xs ys : List V} (hd : H dn = some (.lst xs)) (hw : H wt = some (.lst ys)) (f : Fr dn wt H H') : Tups H H' := fun a zs e => f a _ (ne_of e hd (by intro z; cases z)) (ne_of e hw (by intro z; cases z)) e
theorem sv_no (o : Op) : decide (V.str (S [o.code]) = V.str "!") = decide (o = .no) := by
  rw [s33, sign_is]
  match o with
  | .no => rfl
  | .par => rfl
  | .bi true => rfl
  | .bi false => rfl
theorem red_inv {o : Op} {ds e : List Cond} (h : redM o ds = some e) : (o = .no ∧ ∃ c d, ds = c :: d ∧ e = .not c :: d) ∨ ∃ a r l d, o = .bi a ∧ ds = r :: l :: d ∧ e = .bin a l r :: d := by
  match o, ds, h with
  | .no, c :: d, h => exact .inl ⟨rfl, c, d, rfl, (Option.some.inj h).symm⟩
  | .bi a, r :: l :: d, h => exact .inr ⟨a, r, l, d, rfl, rfl, (Option.some.inj h).symm⟩
  | .no, [], h => cases h
  | .bi _, [], h => cases h
  | .bi _, [_], h => cases h
  | .par, _, h => cases h
theorem pure_join {K : PySem.W.Frag} {w : World} {aB aW : Addr} (hb : ∀ o : Op, KDct K w aB (S [o.code]) (.int (o.bnd : Int))) (hwd : ∀ a, KDct K w aW (S [sg a]) (.str (wd a))) (vs : List V) (H : Hp) (Q : VK) (E : XK) (h : spJoin 60000 vs H Q E) :
    t_join_waiting K w aB aW (Ends.mk (fun _ H' => Q .non H') Q (fun _ _ => False) (fun _ _ => False)) (start ["done", "waiting", "least", "sign", "last"] vs) H := by
  obtain ⟨dn, wt, least, us, ds, ops, ds', ops', rfl, nd, ed, cd, lu, ew, lo, hj, q⟩ := h
  unfold t_join_waiting t_join_waiting_1
  refine l_whileN (fun m σ' H' => ∃ us1 ds1 ops1 o3 o4, σ' = [some (.ref dn), some (.ref wt), some (.int (least : Int)), o3, o4] ∧ m = ops1.length ∧ Fr dn wt H H' ∧ H' dn = some (.lst us1.reverse) ∧ CAL H' us1 ds1 ∧ us1.length ≤ us.length ∧ H' wt = some (.lst (ops1.map sv).reverse) ∧ ops1.length ≤ ops.length ∧ joinM least ds1 ops1 = some (ds', ops')) ops.length ⟨us, ds, ops, _, _, rfl, rfl, Fr.refl _, ed, cd, Nat.le_refl _, ew, Nat.le_refl _, hj⟩ ?_
  rintro m σ' H' ⟨us1, ds1, ops1, o3, o4, rfl, rfl, f, ed1, cd1, lu1, ew1, lo1, hj1⟩
  tm_at "j"
  rw [List.length_reverse, List.length_map]
  match ops1, ew1, lo1, hj1 with
  | [], ew1, lo1, hj1 =>
    obtain ⟨rfl, rfl⟩ := Prod.mk.inj (Option.some.inj hj1)
    tm_at "j"
    refine wb (fun e => absurd e (by decide)) (fun _ => ?_)
    exact q us1 H' f ed1 cd1 lu1 ew1 lo1
  | o :: ws, ew1, lo1, hj1 =>
    have ew1' : H' wt = some (.lst ((ws.map sv).reverse ++ [sv o])) := by rw [ew1, List.map_cons, List.reverse_cons]
    refine i_t (decide_eq_true (by rw [List.length_cons]; omega)) ?_
    have hbo := hb o
    tm_at "j"
    refine l_ixL (SqL.of ew1') at_m1 ?_
    show rIxD _ _ _ (V.str (S [o.code])) _ _
    tm_at "j"
    unfold joinM at hj1
    by_cases hle : least ≤ o.bnd
    · rw [if_pos hle] at hj1
      rw [decide_eq_true (show (least : Int) ≤ (o.bnd : Int) by omega)]
      refine wb (fun _ => ?_) (fun e => absurd e (by decide))
      tm_at "j"
      refine l_popL ew1' fun H2 b2 e2 => ?_
      have ed2 := b2 _ _ nd ed1
      have cd2 := cd1.tups (b2.tups ew1')
      have f2 := f.trans (Fr.l b2)
      have lo2 : ws.length + 1 ≤ ops.length := lo1
      obtain ⟨ds2, hr, hj1⟩ := Option.bind_eq_some_iff.mp hj1
      rcases red_inv hr with ⟨rfl, c, d, rfl, rfl⟩ | ⟨a, r, l, d, rfl, rfl, rfl⟩
      · cases cd2 with
        | cons hc hu =>
        rename_i v us2
        have ed2' : H2 dn = some (.lst (us2.reverse ++ [v])) := by rw [ed2, List.reverse_cons]
        have lu2 : us2.length + 1 ≤ us.length := lu1
        tm_at "j"
        refine l_popL ed2' fun H3 b3 e3 => ?_
        have tp3 := b3.tups ed2'
        have e23 := b3 _ _ nd.symm e2
        tm_at "j"
        rename_i p4 H4 n4 g4 e4
        have e34 := g4 _ _ e3
        refine l_append' e34 (by rw [List.length_reverse]; omega) fun H5 b5 e5 => ?_
        have tp5 := b5.tups e34
        refine ⟨ws.length, Nat.lt_succ_self _, .ref p4 :: us2, .not c :: d, ws, _, _, rfl, rfl, ((f2.trans (Fr.b b3)).trans (Fr.of g4)).trans (Fr.b b5), by rw [e5, List.reverse_cons], .cons (.not (tp5 _ _ e4) (((hc.tups tp3).mono g4).tups tp5)) (((hu.tups tp3).tups (Same.tups g4)).tups tp5), lu1, b5 _ _ nd.symm (g4 _ _ e23), by omega, hj1⟩
      · cases cd2 with
        | cons hc hu =>
        rename_i v us3
        cases hu with
        | cons hc2 hu =>
        rename_i v2 us2
        have ed2' : H2 dn = some (.lst ((v2 :: us2).reverse ++ [v])) := by rw [ed2, List.reverse_cons]
        have lu2 : us2.length + 1 + 1 ≤ us.length := lu1
        have hwa := hwd a
        tm_at "j"
        refine l_popL ed2' fun H3 b3 e3 => ?_
        have tp3 := b3.tups ed2'
        have e23 := b3 _ _ nd.symm e2
        tm_at "j"
        rw [show sv (Op.bi a) = V.str (S [(Op.bi a).code]) from rfl, sv_no, decide_eq_false (show ¬ Op.bi a = .no from fun z => by cases z)]
        tm_at "j"
        rw [show S [(Op.bi a).code] = S [sg a] from rfl]
        tm_at "j"
        have e3' : H3 dn = some (.lst (us2.reverse ++ [v2])) := by rw [e3, List.reverse_cons]
        refine l_popL e3' fun H4 b4 e4 => ?_
        have tp4 := b4.tups e3'
        tm_at "j"
        rename_i p5 H5 n5 g5 e5
        have e45 := g5 _ _ e4
        refine l_append' e45 (by rw [List.length_reverse]; omega) fun H6 b6 e6 => ?_
        have tp6 := b6.tups e45
        have tpa : Tups H2 H6 := ((tp3.trans tp4).trans (Same.tups g5)).trans tp6
        refine ⟨ws.length, Nat.lt_succ_self _, .ref p5 :: us2, .bin a l r :: d, ws, _, _, rfl, rfl, (((f2.trans (Fr.b b3)).trans (Fr.b b4)).trans (Fr.of g5)).trans (Fr.b b6), by rw [e6, List.reverse_cons], .cons (.bin (tp6 _ _ e5) (hc2.tups tpa) (hc.tups tpa)) (hu.tups tpa), by show us2.length + 1 ≤ _; omega, b6 _ _ nd.symm (g5 _ _ (b4 _ _ nd.symm e23)), by omega, hj1⟩
    · rw [if_neg hle] at hj1
      rw [decide_eq_false (show ¬ (least : Int) ≤ (o.bnd : Int) by omega)]
      obtain ⟨rfl, rfl⟩ := Prod.mk.inj (Option.some.inj hj1)
      refine wb (fun e => absurd e (by decide)) (fun _ => ?_)
      exact q us1 H' f ed1 cd1 lu1 ew1 lo1

/-! is_number_up_to -/
def spNum : Sp := fun vs H Q _ => ∃ i m : Int, vs = [.int i, .int m] ∧ ∀ H', Same H H' → Q (.bl (decide (0 ≤ i) && decide (i ≤ m))) H'
theorem pure_num {K : PySem.W.Frag} {w : World} (vs : List V) (H : Hp) (Q : VK) (E : XK) (h : spNum vs H Q E) :
    t_is_number_up_to K w (Ends.mk (fun _ H' => Q .non H') Q (fun _ _ => False) (fun _ _ => False)) (start ["value", "most"] vs) H := by
  obtain ⟨i, m, rfl, q⟩ := h
  unfold t_is_number_up_to
  tm_at "j"
  refine i_b (fun e => ?_) (fun e => ?_)
  · tm_at "j"
    have := q _ (Same.refl _)
    rw [e] at this
    exact this
  · tm_at "j"
    have := q _ (Same.refl _)
    rw [e] at this
    exact this
/-! has_form -/
def spForm : Sp := fun vs H Q _ => ∃ v c, vs = [v] ∧ CA H v c ∧ c.ok ∧ ∀ H', Same H H' → Q (.bl true) H'
theorem inV_wd (a : Bool) : inV (.str (wd a)) [.str "and", .str "or"] = true := by cases a <;> decide +kernel
theorem pure_form {K : PySem.W.Frag} {w : World} (vs : List V) (H : Hp) (Q : VK) (E : XK) (h : spForm vs H Q E) :
    t_has_form K w spNum (Ends.mk (fun _ H' => Q .non H') Q (fun _ _ => False) (fun _ _ => False)) (start ["condition", "word"] vs) H := by
  obtain ⟨v, c, rfl, hc, ho, q⟩ := h
  unfold t_has_form
  cases hc with
  | look e =>
    rename_i i
    tm_at "j"
    refine ⟨_, _, rfl, fun H1 g1 => ?_⟩
    have h8 : i < 8 := ho
    have e1 : (decide ((0 : Int) ≤ (i : Int)) && decide ((i : Int) ≤ 8 - 1)) = true := by
      rw [decide_eq_true (by omega), decide_eq_true (by omega)]; rfl
    rw [e1]
    exact q _ (by tm_at "hp")
  | not e hc =>
    tm_at "j"
    exact q _ (by tm_at "hp")
  | bin e h1 h2 =>
    rename_i a v1 v2 c d
    have e1 := inV_wd a
    tm_at "j"
    cases a <;> (
      tm_at "j"
      exact q _ (by tm_at "hp"))
def spCount (n : Nat) : Sp := fun vs H Q _ => ∃ v c, ∃ ar : Nat, vs = [v, .int (ar : Int)] ∧ CA H v c ∧ c.ok ∧ ar + c.deep ≤ 10 ∧ c.deep < n ∧ ∀ H', Same H H' → Q (.int (c.looks : Int)) H'
theorem pure_count {K : PySem.W.Frag} {w : World} {n : Nat} (vs : List V) (H : Hp) (Q : VK) (E : XK) (h : spCount (n + 1) vs H Q E) :
    t_count_looks K w spForm (spCount n) (Ends.mk (fun _ H' => Q .non H') Q (fun _ _ => False) (fun _ _ => False)) (start ["condition", "around", "side"] vs) H := by
  obtain ⟨v, c, ar, rfl, hc, ho, hd, hn, q⟩ := h
  unfold t_count_looks
  tm_at "j"
  refine ⟨_, _, rfl, hc, ho, fun H1 g1 => ?_⟩
  tm_at "j"
  cases hc with
  | look e =>
    tm_at "j"
    exact q _ (by tm_at "hp")
  | not e hc =>
    rename_i v1 c1
    have hd1 : ar + (c1.deep + 1) ≤ 10 := hd
    have hn1 : c1.deep + 1 < n + 1 := hn
    tm_at "j"
    refine lcT (xs := [v1]) (ys := [.int (c1.looks : Int)]) (fun _ => rfl) (by tm_at "hp") (by tm_at "dec") ⟨rfl, ?_⟩ ?_
    · intro i x y H' Q' hx hy g k
      rcases i with _ | i
      · obtain rfl : v1 = x := Option.some.inj hx
        obtain rfl := Option.some.inj hy
        tm_at "j"
        exact ⟨v1, c1, ar + 1, rfl, by tm_at "hp", ho, by omega, by omega, k⟩
      · cases hx
    · intro D H2 hD g e2
      refine l_sum (ns := [(c1.looks : Int)]) (by tm_at "hp") ?_
      rw [show [(c1.looks : Int)].sum = (c1.looks : Int) by simp]
      exact q _ (by tm_at "hp")
  | bin e h1 h2 =>
    rename_i a v1 v2 c1 c2
    have hd1 : ar + (max c1.deep c2.deep + 1) ≤ 10 := hd
    have hn1 : max c1.deep c2.deep + 1 < n + 1 := hn
    cases a <;> (
      tm_at "j"
      refine lcT (xs := [v1, v2]) (ys := [.int (c1.looks : Int), .int (c2.looks : Int)]) (fun _ => rfl) (by tm_at "hp") (by tm_at "dec") ⟨rfl, ?_⟩ ?_
      · intro i x y H' Q' hx hy g k
        rcases i with _ | _ | i
        · obtain rfl : v1 = x := Option.some.inj hx
          obtain rfl := Option.some.inj hy
          tm_at "j"
          exact ⟨v1, c1, ar + 1, rfl, by tm_at "hp", ho.1, by omega, by omega, k⟩
        · obtain rfl : v2 = x := Option.some.inj hx
          obtain rfl := Option.some.inj hy
          tm_at "j"
          exact ⟨v2, c2, ar + 1, rfl, by tm_at "hp", ho.2, by omega, by omega, k⟩
        · cases hx
      · intro D H2 hD g e2
        refine l_sum (ns := [(c1.looks : Int), (c2.looks : Int)]) (by tm_at "hp") ?_
        have e3 : [(c1.looks : Int), (c2.looks : Int)].sum = (((c1.looks + c2.looks : Nat)) : Int) := by simp
        rw [e3]
        exact q _ (by tm_at "hp"))
/-! check_condition -/
def spCheck : Sp := fun vs H Q _ => ∃ v c, vs = [v] ∧ CA H v c ∧ c.ok ∧ c.deep ≤ 10 ∧ c.looks ≤ 12 ∧ ∀ H', Same H H' → Q .non H'
theorem pure_check {K : PySem.W.Frag} {w : World} (vs : List V) (H : Hp) (Q : VK) (E : XK) (h : spCheck vs H Q E) :
    t_check_condition K w (spCount 11) (Ends.mk (fun _ H' => Q .non H') Q (fun _ _ => False) (fun _ _ => False)) (start ["condition"] vs) H := by
  obtain ⟨v, c, rfl, hc, ho, hd, hl, q⟩ := h
  unfold t_check_condition
  tm_at "j"
  refine ⟨v, c, 0, rfl, hc, ho, by omega, by omega, fun H1 g1 => ?_⟩
  tm_at "j"
  exact q _ (by tm_at "hp")

/-! text_of, written -/
theorem l_join3 {σ : St} {H : Hp} {Q : VK} {t : List Nat} {i : Nat} (e : σ[i]? = some (some (.str (S t)))) (hl : t.length ≤ 90000) (q : Q (.str (S (40 :: t ++ [41]))) H) : tJoin [tC (.str "("), tFmt (tVar i), tC (.str ")")] σ H Q := by
  have sl : ∀ m : Nat, m ≤ 100000 → m ≤ sizeLine := fun m h => Nat.le_trans h (by decide)
  have e0 : Str.empty ++ ("(" : Str) = S [40] := by decide +kernel
  have e1 : S [40] ++ S t = S (40 :: t) := S_app [40] t
  have e2 : S (40 :: t) ++ (")" : Str) = S (40 :: t ++ [41]) := by rw [s41]; exact S_app _ _
  refine ⟨("(" : Str), rfl, by rw [e0]; exact sl _ (by decide), ?_⟩
  rw [e0]
  refine ⟨.str (S t), e, .inl ⟨S t, rfl, sl _ (by show t.length ≤ _; omega), S t, rfl, by rw [e1]; exact sl _ (by show t.length + 1 ≤ _; omega), ?_⟩⟩
  rw [e1]
  refine ⟨(")" : Str), rfl, by rw [e2]; exact sl _ (by show (40 :: t ++ [41]).length ≤ _; rw [List.length_append]; show t.length + 1 + 1 ≤ _; omega), ?_⟩
  rw [e2]
  exact q
def spTextOf (n : Nat) : Sp := fun vs H Q _ => ∃ v c, ∃ k : Nat, vs = [v, .int ((k + 1 : Nat) : Int)] ∧ CA H v c ∧ c.ok ∧ c.deep < n ∧ n ≤ 13 ∧ k ≤ 2 ∧ ∀ H', Same H H' → Q (.str (S (textL c k))) H'
theorem pure_textof {K : PySem.W.Frag} {w : World} {aS aB : Addr} (sn : KDct K w aS "not" (.str "!")) (sa : KDct K w aS "and" (.str "&")) (so : KDct K w aS "or" (.str "|")) (bn : KDct K w aB "!" (.int 3)) (ba : KDct K w aB "&" (.int 2)) (bo : KDct K w aB "|" (.int 1)) (bp : KDct K w aB "(" (.int 0)) {n : Nat} (vs : List V) (H : Hp) (Q : VK) (E : XK) (h : spTextOf (n + 1) vs H Q E) :
    t_text_of K w aS aB (spTextOf n) (Ends.mk (fun _ H' => Q .non H') Q (fun _ _ => False) (fun _ _ => False)) (start ["condition", "least", "word", "sign", "binds", "text"] vs) H := by
  obtain ⟨v, c, k, rfl, hc, ho, hn, n13, k2, q⟩ := h
  unfold t_text_of
  cases hc with
  | look e =>
    rename_i i
    have hi : i < 8 := ho
    tm_at "j"
    refine ⟨("abcdefgh" : Str), (i : Int), 97 + i, rfl, rfl, by decide +kernel, letter hi, ?_⟩
    exact q _ (Same.refl _)
  | not e hc =>
    rename_i v1 c1
    have hn1 : c1.deep + 1 < n + 1 := hn
    tm_at "j"
    refine ⟨v1, c1, 2, rfl, hc, ho, by omega, by omega, by decide, fun H1 g1 => ?_⟩
    have := text_small (c := c1) (n := 2) (by omega)
    rw [s33]
    refine l_addS (a := [33]) (by show 1 + (textL c1 2).length ≤ 100000; omega) ?_
    tm_at "j"
    exact q _ g1
  | bin e h1 h2 =>
    rename_i a v1 v2 c1 c2
    have hn1 : max c1.deep c2.deep + 1 < n + 1 := hn
    have hw : decide (V.str (wd a) = V.str "not") = false := by cases a <;> decide +kernel
    have hl : decide (V.str (wd a) = V.str "look") = false := by cases a <;> decide +kernel
    have hs := f_signs sa so a
    have hb : KDct K w aB (S [sg a]) (.int ((rk a + 1 : Nat) : Int)) := f_binds bn ba bo bp (.bi a)
    tm_at "j"
    rw [hl]
    tm_at "j"
    rw [hw]
    tm_at "j"
    refine ⟨v1, c1, rk a, rfl, h1, ho.1, by omega, by omega, by cases a <;> decide, fun H1 g1 => ?_⟩
    have l1 := text_small (c := c1) (n := rk a) (by omega)
    have l2 := text_small (c := c2) (n := rk a + 1) (by omega)
    tm_at "j"
    refine l_addS (a := textL c1 (rk a)) (b := [sg a]) (by show (textL c1 (rk a)).length + 1 ≤ 100000; omega) ?_
    tm_at "j"
    refine ⟨v2, c2, rk a + 1, rfl, h2.mono g1, ho.2, by omega, by omega, by cases a <;> decide, fun H2 g2 => ?_⟩
    refine l_addS (a := textL c1 (rk a) ++ [sg a]) (b := textL c2 (rk a + 1)) (by rw [List.length_append]; show (textL c1 (rk a)).length + 1 + (textL c2 (rk a + 1)).length ≤ 100000; omega) ?_
    tm_at "j"
    have hlen : (textL c1 (rk a) ++ [sg a] ++ textL c2 (rk a + 1)).length = (textL c1 (rk a)).length + 1 + (textL c2 (rk a + 1)).length := by rw [List.length_append, List.length_append]; rfl
    have q5 := q _ (g1.trans g2)
    unfold textL at q5
    by_cases h : k ≤ rk a
    · rw [if_pos h] at q5
      refine i_f (decide_eq_false (by omega)) ?_
      tm_at "j"
      exact q5
    · rw [if_neg h] at q5
      refine i_t (decide_eq_true (by omega)) ?_
      refine l_ret ?_
      exact l_join3 (i := 5) rfl (by omega) q5
def spWritten : Sp := fun vs H Q _ => ∃ v c, vs = [v] ∧ CA H v c ∧ c.ok ∧ c.deep ≤ 10 ∧ c.looks ≤ 12 ∧ ∀ H', Same H H' → Q (.str (S (textL c 0))) H'
theorem pure_written {K : PySem.W.Frag} {w : World} {aB : Addr} (bo : KDct K w aB "|" (.int 1)) (vs : List V) (H : Hp) (Q : VK) (E : XK) (h : spWritten vs H Q E) :
    t_written K w aB spCheck (spTextOf 11) (Ends.mk (fun _ H' => Q .non H') Q (fun _ _ => False) (fun _ _ => False)) (start ["condition"] vs) H := by
  obtain ⟨v, c, rfl, hc, ho, hd, hk, q⟩ := h
  unfold t_written
  tm_at "j"
  refine ⟨v, c, rfl, hc, ho, hd, hk, fun H1 g1 => ?_⟩
  tm_at "j"
  exact ⟨v, c, 0, rfl, hc.mono g1, ho, by omega, by decide, by decide, fun H2 g2 => q _ (g1.trans g2)⟩
/-! may_stand, check_signs -/
def begs : List Nat := [97, 98, 99, 100, 101, 102, 103, 104, 33, 40]
def ahead : List Nat := [33, 40, 38, 124]
def stand (due : Bool) (k x : Nat) : Bool := if due then decide (x ∈ begs) else if x = 41 then decide (0 < k) else decide (x = 38 ∨ x = 124)
def depth (k x : Nat) : Nat := if x = 40 then k + 1 else if x = 41 then k - 1 else k
def chkM : Bool → Nat → List Nat → Bool
  | due, k, [] => !due && decide (k = 0)
  | due, k, x :: r => stand due k x && chkM (decide (x ∈ ahead)) (depth k x) r
theorem l_inSign {z : Str} {l : List Nat} {x : Nat} {H : Hp} {Q : VK} (hz : z.cps.toList = l) (q : Q (.bl (decide (x ∈ l))) H) : rInSign (.str (S [x])) (.str z) H Q := ⟨x, z, rfl, rfl, by rw [hz]; exact q⟩
def spStand : Sp := fun vs H Q _ => ∃ x k : Nat, ∃ due : Bool, vs = [.str (S [x]), .bl due, .int (k : Int)] ∧ stand due k x = true ∧ ∀ H', Same H H' → Q (.bl true) H'
theorem l_inKD {K : PySem.W.Frag} {w : World} {z : Str} {p : Addr} {b : Bool} {H : Hp} {Q : VK} (h : KHas K w p z b) (q : Q (.bl b) H) : rInKD K w (.str z) (.ref p) H Q := ⟨z, p, b, rfl, rfl, h, q⟩
theorem pure_stand {K : PySem.W.Frag} {w : World} {aW : Addr} (ia : KHas K w aW "&" true) (io : KHas K w aW "|" true) (vs : List V) (H : Hp) (Q : VK) (E : XK) (h : spStand vs H Q E) :
    t_may_stand K w aW (Ends.mk (fun _ H' => Q .non H') Q (fun _ _ => False) (fun _ _ => False)) (start ["sign", "due", "unclosed"] vs) H := by
  obtain ⟨x, k, due, rfl, hs, q⟩ := h
  unfold t_may_stand
  cases due
  · tm_at "j"
    rw [s41, sign_is]
    unfold stand at hs
    rw [if_neg Bool.false_ne_true] at hs
    by_cases h41 : x = 41
    · rw [if_pos h41] at hs
      rw [decide_eq_true h41]
      tm_at "j"
      have := q _ (Same.refl _)
      rw [decide_eq_true (show (0 : Int) < (k : Int) by have := of_decide_eq_true hs; omega)]
      exact this
    · rw [if_neg h41] at hs
      rw [decide_eq_false h41]
      tm_at "j"
      rcases of_decide_eq_true hs with rfl | rfl
      · exact l_inKD (by rw [← s38]; exact ia) (q _ (Same.refl _))
      · exact l_inKD (by rw [← s124]; exact io) (q _ (Same.refl _))
  · tm_at "j"
    refine l_inSign (l := begs) (by decide +kernel) ?_
    have hs' : decide (x ∈ begs) = true := hs
    rw [hs']
    exact q _ (Same.refl _)
section
variable {K : PySem.W.Frag} {w : World} {σ : St} {H : Hp} {Q : VK} {nx bk ct : St → Hp → Prop} {rt : VK}
def IES (vs : List V) (H : Hp) (R : It → Hp → Prop) : Prop := ∃ x, vs = [.str x] ∧ R (ItES x) H
def IS (v : V) (H : Hp) (R : It → Hp → Prop) : Prop := ∃ x, v = .str x ∧ R (Its x) H
theorem l_iES {ta : TA} {R : It → Hp → Prop} (h : ta σ H fun vs H1 => IES vs H1 R) : iEnumS ta σ H R := h
theorem l_iS {te : TE} {R : It → Hp → Prop} (h : te σ H fun v H1 => IS v H1 R) : iStr te σ H R := h
theorem forES {l : List Nat} {g : TG} {tb : TS} (Pv : Nat → St → Hp → Prop) (h0 : Pv 0 σ H)
    (hs : ∀ (i c : Nat) (T : Addr) σ' H' H'', l[i]? = some c → Pv i σ' H' → Same H' H'' → H'' T = some (.tup [.int (i : Int), .str (S [c])]) → g (.ref T) σ' H'' fun σ2 H2 => tb (Ends.mk (Pv (i + 1)) rt nx (Pv (i + 1))) σ2 H2)
    (hd : ∀ σ' H', Pv l.length σ' H' → nx σ' H') : IES [.str (S l)] H (ForB g tb (Ends.mk nx rt bk ct) σ) := by
  refine ⟨S l, rfl, fun i m σ' H' => m = l.length - i ∧ i ≤ l.length ∧ Pv i σ' H', ⟨l.length, rfl, Nat.zero_le _, h0⟩, ?_⟩
  rintro i m σ' H' ⟨rfl, hi, p⟩
  by_cases hlt : i < l.length
  · refine .inr ⟨hlt, Pv (i + 1), fun σ' H' p' => ⟨l.length - (i + 1), by omega, rfl, hlt, p'⟩, fun v H'' y => ?_⟩
    obtain ⟨T, c, rfl, hT, rfl, hc⟩ := y
    exact hs i c T σ' H' _ (by rw [← hc]; show l[i]? = l.toArray[i]?; rw [List.getElem?_toArray]) p (sm_new hT _) upd_same
  · obtain rfl : i = l.length := by omega
    exact .inl ⟨Nat.le_refl _, hd _ _ p⟩
theorem forS {l : List Nat} {g : TG} {tb : TS} (Pv : Nat → St → Hp → Prop) (h0 : Pv 0 σ H)
    (hs : ∀ (i c : Nat) σ' H', l[i]? = some c → Pv i σ' H' → g (.str (S [c])) σ' H' fun σ2 H2 => tb (Ends.mk (Pv (i + 1)) rt nx (Pv (i + 1))) σ2 H2)
    (hd : ∀ σ' H', Pv l.length σ' H' → nx σ' H') : IS (.str (S l)) H (ForB g tb (Ends.mk nx rt bk ct) σ) := by
  refine ⟨S l, rfl, fun i m σ' H' => m = l.length - i ∧ i ≤ l.length ∧ Pv i σ' H', ⟨l.length, rfl, Nat.zero_le _, h0⟩, ?_⟩
  rintro i m σ' H' ⟨rfl, hi, p⟩
  by_cases hlt : i < l.length
  · refine .inr ⟨hlt, Pv (i + 1), fun σ' H' p' => ⟨l.length - (i + 1), by omega, rfl, hlt, p'⟩, fun v H'' y => ?_⟩
    obtain ⟨rfl, c, hc, rfl⟩ := y
    exact hs i c σ' _ (by rw [← hc]; show l[i]? = l.toArray[i]?; rw [List.getElem?_toArray]) p
  · obtain rfl : i = l.length := by omega
    exact .inl ⟨Nat.le_refl _, hd _ _ p⟩
end
def spSigns : Sp := fun vs H Q _ => ∃ l : List Nat, vs = [.str (S l)] ∧ chkM true 0 l = true ∧ ∀ H', Same H H' → Q .non H'
theorem pure_signs {K : PySem.W.Frag} {w : World} (vs : List V) (H : Hp) (Q : VK) (E : XK) (h : spSigns vs H Q E) :
    t_check_signs K w spStand (Ends.mk (fun _ H' => Q .non H') Q (fun _ _ => False) (fun _ _ => False)) (start ["text", "due", "unclosed", "place", "sign"] vs) H := by
  obtain ⟨l, rfl, hc, q⟩ := h
  unfold t_check_signs
  tm_at "j"
  unfold t_check_signs_1
  refine l_for (l_iES ?_)
  tm_at "j"
  refine forES (fun i σ' H' => ∃ due k o3 o4, σ' = [some (.str (S l)), some (.bl due), some (.int ((k : Nat) : Int)), o3, o4] ∧ Same H H' ∧ chkM due k (l.drop i) = true) ⟨true, 0, _, _, rfl, Same.refl _, hc⟩ ?_ ?_
  · rintro i c T σ' H' H'' hx ⟨due, k, o3, o4, rfl, g, hk⟩ g2 eT
    have hi := (List.getElem?_eq_some_iff.mp hx).1
    have hx' : l[i]'hi = c := by
      rw [List.getElem?_eq_getElem hi] at hx
      exact Option.some.inj hx
    rw [List.drop_eq_getElem_cons hi, hx'] at hk
    unfold chkM at hk
    obtain ⟨hs, hk⟩ := Bool.and_eq_true_iff.mp hk
    tm_at "j"
    refine ⟨c, k, due, rfl, hs, fun H3 g3 => ?_⟩
    tm_at "j"
    rw [s40, sign_is]
    have g03 := (g.trans g2).trans g3
    by_cases h40 : c = 40
    · subst h40
      rw [decide_eq_true rfl]
      tm_at "j"
      refine l_inSign (l := ahead) (by decide +kernel) ?_
      tm_at "j"
      exact ⟨_, k + 1, _, _, rfl, g03, hk⟩
    · rw [decide_eq_false h40]
      tm_at "j"
      rw [s41, sign_is]
      by_cases h41 : c = 41
      · subst h41
        rw [decide_eq_true rfl]
        have hk0 : 0 < k := by
          cases due
          · exact of_decide_eq_true hs
          · exact absurd (show decide (41 ∈ begs) = true from hs) (by decide)
        tm_at "j"
        refine l_inSign (l := ahead) (by decide +kernel) ?_
        tm_at "j"
        rw [show ((k : Int) - 1) = ((k - 1 : Nat) : Int) by omega]
        exact ⟨_, k - 1, _, _, rfl, g03, hk⟩
      · rw [decide_eq_false h41]
        tm_at "j"
        refine l_inSign (l := ahead) (by decide +kernel) ?_
        tm_at "j"
        refine ⟨_, k, _, _, rfl, g03, ?_⟩
        have : depth k c = k := by unfold depth; rw [if_neg h40, if_neg h41]
        rw [this] at hk
        exact hk
  · rintro σ' H' ⟨due, k, o3, o4, rfl, g, hk⟩
    rw [List.drop_length] at hk
    unfold chkM at hk
    obtain ⟨h1, h2⟩ := Bool.and_eq_true_iff.mp hk
    have h2 := of_decide_eq_true h2
    subst h2
    cases due
    · tm_at "j"
      exact q _ g
    · cases h1
/-! condition_of, read -/
def opOf (x : Nat) : Op := if x = 33 then .no else if x = 38 then .bi true else if x = 124 then .bi false else .par
def stepM (x : Nat) (s : List Cond × List Op) : Option (List Cond × List Op) :=
  if 97 ≤ x ∧ x < 105 then some (.look (x - 97) :: s.1, s.2)
  else if x = 41 then (joinM 1 s.1 s.2).bind fun s' => match s'.2 with
    | _ :: w => some (s'.1, w)
    | [] => none
  else if x = 38 ∨ x = 124 then (joinM (opOf x).bnd s.1 s.2).map fun s' => (s'.1, opOf x :: s'.2)
  else if x = 33 ∨ x = 40 then some (s.1, opOf x :: s.2) else none
def readM : List Nat → List Cond × List Op → Option (List Cond × List Op)
  | [], s => some s
  | x :: r, s => (stepM x s).bind (readM r)
def readL (l : List Nat) : Option (List Cond × List Op) := (readM l ([], [])).bind fun s => joinM 1 s.1 s.2
def spCondOf : Sp := fun vs H Q _ => ∃ l : List Nat, ∃ c, vs = [.str (S l)] ∧ l.length ≤ 50000 ∧ readL l = some ([c], []) ∧ ∀ v H', Same H H' → CA H' v c → Q v H'
theorem lets : ("abcdefgh" : Str).cps.toList = [97, 98, 99, 100, 101, 102, 103, 104] := by decide +kernel
theorem letter_ix {x : Nat} (h : 97 ≤ x ∧ x < 105) : PySem.Txt.index0 ("abcdefgh" : Str) (S [x]) = some (x - 97) := by
  obtain rfl | rfl | rfl | rfl | rfl | rfl | rfl | rfl : x = 97 ∨ x = 98 ∨ x = 99 ∨ x = 100 ∨ x = 101 ∨ x = 102 ∨ x = 103 ∨ x = 104 := by omega
  all_goals decide +kernel
theorem mem_let {x : Nat} : decide (x ∈ [97, 98, 99, 100, 101, 102, 103, 104]) = decide (97 ≤ x ∧ x < 105) := by
  by_cases h : 97 ≤ x ∧ x < 105
  · rw [decide_eq_true h]
    obtain rfl | rfl | rfl | rfl | rfl | rfl | rfl | rfl : x = 97 ∨ x = 98 ∨ x = 99 ∨ x = 100 ∨ x = 101 ∨ x = 102 ∨ x = 103 ∨ x = 104 := by omega
    all_goals decide
  · rw [decide_eq_false h]
    refine decide_eq_false fun hm => h ?_
    simp only [List.mem_cons, List.mem_nil_iff, or_false] at hm
    omega
theorem opOf_code {x : Nat} (h : x = 33 ∨ x = 38 ∨ x = 124 ∨ x = 40) : (opOf x).code = x := by
  rcases h with rfl | rfl | rfl | rfl <;> rfl
theorem pure_condof {K : PySem.W.Frag} {w : World} {aB aW : Addr} (hb : ∀ o : Op, KDct K w aB (S [o.code]) (.int (o.bnd : Int))) (ia : KHas K w aW "&" true) (io : KHas K w aW "|" true) (im : KHas K w aW "!" false) (ip : KHas K w aW "(" false) (vs : List V) (H : Hp) (Q : VK) (E : XK) (h : spCondOf vs H Q E) :
    t_condition_of K w aB aW (spJoin 60000) (Ends.mk (fun _ H' => Q .non H') Q (fun _ _ => False) (fun _ _ => False)) (start ["text", "done", "waiting", "sign"] vs) H := by
  obtain ⟨l, c, rfl, hl, hr, q⟩ := h
  have b1 : KDct K w aB "|" (.int 1) := by rw [s124]; exact hb (.bi false)
  unfold t_condition_of
  tm_at "j"
  rename_i dn H1 n1 g1 e1 wt H2 n2 g2 e2
  have nd : dn ≠ wt := ne_of_none e1 n2
  have nw : H wt = none := g1.free n2
  obtain ⟨s1, hr1, hr2⟩ := Option.bind_eq_some_iff.mp hr
  unfold t_condition_of_1
  refine l_for (l_iS ?_)
  tm_at "j"
  refine forS (fun i σ' H' => ∃ o3 us ds ops, σ' = [some (.str (S l)), some (.ref dn), some (.ref wt), o3] ∧ Same H H' ∧ H' dn = some (.lst us.reverse) ∧ CAL H' us ds ∧ us.length ≤ i ∧ H' wt = some (.lst (ops.map sv).reverse) ∧ ops.length ≤ i ∧ readM (l.drop i) (ds, ops) = some s1) ⟨_, [], [], [], rfl, g1.trans g2, g2 _ _ e1, .nil, Nat.le_refl _, e2, Nat.le_refl _, hr1⟩ ?_ ?_
  · rintro i x σ' H' hx ⟨o3, us, ds, ops, rfl, g, ed, cd, lu, ew, lo, hr⟩
    have hi := (List.getElem?_eq_some_iff.mp hx).1
    have hx' : l[i]'hi = x := by
      rw [List.getElem?_eq_getElem hi] at hx
      exact Option.some.inj hx
    rw [List.drop_eq_getElem_cons hi, hx'] at hr
    unfold readM at hr
    obtain ⟨s2, hst, hr⟩ := Option.bind_eq_some_iff.mp hr
    unfold stepM at hst
    tm_at "j"
    refine l_inSign lets ?_
    rw [mem_let]
    by_cases hlet : 97 ≤ x ∧ x < 105
    · rw [if_pos hlet] at hst
      obtain rfl := Option.some.inj hst
      rw [decide_eq_true hlet]
      tm_at "j"
      refine ⟨rfl, ?_⟩
      tm_at "j"
      refine ⟨("abcdefgh" : Str), S [x], x - 97, rfl, rfl, letter_ix hlet, ?_⟩
      tm_at "j"
      rename_i p3 H3 n3 g3 e3
      have ed3 := g3 _ _ ed
      refine l_append' ed3 (by rw [List.length_reverse]; omega) fun H4 b4 e4 => ?_
      have tp4 := b4.tups ed3
      refine ⟨_, .ref p3 :: us, _, ops, rfl, sm_but (g.trans g3) b4 n1, by rw [e4, List.reverse_cons], .cons (.look (tp4 _ _ e3)) ((cd.tups (Same.tups g3)).tups tp4), by show us.length + 1 ≤ _; omega, b4 _ _ nd.symm (g3 _ _ ew), by omega, hr⟩
    · rw [if_neg hlet] at hst
      rw [decide_eq_false hlet]
      tm_at "j"
      rw [s41, sign_is]
      by_cases h41 : x = 41
      · rw [if_pos h41] at hst
        rw [decide_eq_true h41]
        obtain ⟨⟨d', w'⟩, hj, hst⟩ := Option.bind_eq_some_iff.mp hst
        tm_at "j"
        refine ⟨dn, wt, 1, us, ds, ops, d', w', rfl, nd, ed, cd, by omega, ew, by omega, hj, fun us' H3 f3 ed3 cd3 lu3 ew3 lo3 => ?_⟩
        match w', hst, ew3, lo3 with
        | o :: w'', hst, ew3, lo3 =>
          obtain rfl := Option.some.inj hst
          have ew3' : H3 wt = some (.lst ((w''.map sv).reverse ++ [sv o])) := by rw [ew3, List.map_cons, List.reverse_cons]
          have lo3' : w''.length + 1 ≤ ops.length := lo3
          tm_at "j"
          refine l_popL ew3' fun H4 b4 e4 => ?_
          have tp4 := b4.tups ew3'
          have gs : Same H H4 := fun a o e => b4 _ _ (ne_of_none e nw) (f3 a o (ne_of_none e n1) (ne_of_none e nw) (g _ _ e))
          exact ⟨_, us', _, w'', rfl, gs, b4 _ _ nd ed3, cd3.tups tp4, by omega, e4, by omega, hr⟩
      · rw [if_neg h41] at hst
        rw [decide_eq_false h41]
        tm_at "j"
        by_cases hop : x = 38 ∨ x = 124
        · rw [if_pos hop] at hst
          obtain ⟨⟨d', w'⟩, hj, rfl⟩ := Option.map_eq_some_iff.mp hst
          have hcode : (opOf x).code = x := opOf_code (by omega)
          have hbx : KDct K w aB (S [x]) (.int ((opOf x).bnd : Int)) := by
            have := hb (opOf x)
            rw [hcode] at this
            exact this
          refine l_inKD (b := true) (by rcases hop with rfl | rfl; (rw [← s38]; exact ia); (rw [← s124]; exact io)) ?_
          tm_at "j"
          refine ⟨dn, wt, (opOf x).bnd, us, ds, ops, d', w', rfl, nd, ed, cd, by omega, ew, by omega, hj, fun us' H3 f3 ed3 cd3 lu3 ew3 lo3 => ?_⟩
          tm_at "j"
          refine l_append' ew3 (by rw [List.length_reverse, List.length_map]; omega) fun H4 b4 e4 => ?_
          have tp4 := b4.tups ew3
          have gs : Same H H4 := fun a o e => b4 _ _ (ne_of_none e nw) (f3 a o (ne_of_none e n1) (ne_of_none e nw) (g _ _ e))
          refine ⟨_, us', _, opOf x :: w', rfl, gs, b4 _ _ nd ed3, cd3.tups tp4, by omega, ?_, by show w'.length + 1 ≤ _; omega, hr⟩
          rw [e4, List.map_cons, List.reverse_cons]
          show _ = some (HO.lst ((w'.map sv).reverse ++ [V.str (S [(opOf x).code])]))
          rw [hcode]
        · rw [if_neg hop] at hst
          by_cases h3 : x = 33 ∨ x = 40
          · rw [if_pos h3] at hst
            obtain rfl := Option.some.inj hst
            have hcode : (opOf x).code = x := opOf_code (by omega)
            refine l_inKD (b := false) (by rcases h3 with rfl | rfl; (rw [← s33]; exact im); (rw [← s40]; exact ip)) ?_
            tm_at "j"
            refine l_append' ew (by rw [List.length_reverse, List.length_map]; omega) fun H4 b4 e4 => ?_
            have tp4 := b4.tups ew
            refine ⟨_, us, _, opOf x :: ops, rfl, sm_but g b4 nw, b4 _ _ nd ed, cd.tups tp4, by omega, ?_, by show ops.length + 1 ≤ _; omega, hr⟩
            rw [e4, List.map_cons, List.reverse_cons]
            show _ = some (HO.lst ((ops.map sv).reverse ++ [V.str (S [(opOf x).code])]))
            rw [hcode]
          · rw [if_neg h3] at hst
            cases hst
  · rintro σ' H' ⟨o3, us, ds, ops, rfl, g, ed, cd, lu, ew, lo, hr⟩
    rw [List.drop_length] at hr
    obtain rfl := Option.some.inj hr
    tm_at "j"
    refine ⟨dn, wt, 1, us, ds, ops, [c], [], rfl, nd, ed, cd, by omega, ew, by omega, hr2, fun us' H3 f3 ed3 cd3 lu3 ew3 lo3 => ?_⟩
    cases cd3 with
    | cons hc hu =>
      cases hu
      tm_at "j"
      have gs : Same H H3 := fun a o e => f3 a o (ne_of_none e n1) (ne_of_none e nw) (g _ _ e)
      exact q _ _ gs hc
def spRead : Sp := fun vs H Q _ => ∃ l : List Nat, ∃ c, vs = [.str (S l)] ∧ l.length ≤ 50000 ∧ chkM true 0 l = true ∧ readL l = some ([c], []) ∧ c.ok ∧ c.deep ≤ 10 ∧ c.looks ≤ 12 ∧ ∀ v H', Same H H' → CA H' v c → Q v H'
theorem pure_read {K : PySem.W.Frag} {w : World} (vs : List V) (H : Hp) (Q : VK) (E : XK) (h : spRead vs H Q E) :
    t_read K w spSigns spCondOf spCheck (Ends.mk (fun _ H' => Q .non H') Q (fun _ _ => False) (fun _ _ => False)) (start ["text", "condition"] vs) H := by
  obtain ⟨l, c, rfl, hl, hch, hr, ho, hd, hk, q⟩ := h
  unfold t_read
  tm_at "j"
  refine ⟨l, rfl, hch, fun H1 g1 => ?_⟩
  tm_at "j"
  refine ⟨l, c, rfl, hl, hr, fun v H2 g2 hc => ?_⟩
  tm_at "j"
  refine ⟨v, c, rfl, hc, ho, hd, hk, fun H3 g3 => ?_⟩
  tm_at "j"
  exact q _ _ ((g1.trans g2).trans g3) (hc.mono g3)

/-! which texts write which condition -/
inductive RT' : List Nat → Cond → Nat → Prop
  | look {i m : Nat} : i < 8 → RT' [97 + i] (.look i) m
  | not {t : List Nat} {c : Cond} {m : Nat} : RT' t c 2 → RT' (33 :: t) (.not c) m
  | bin {t u : List Nat} {a : Bool} {l r : Cond} {m : Nat} : RT' t l (rk a) → RT' u r (rk a + 1) → m ≤ rk a → RT' (t ++ sg a :: u) (.bin a l r) m
  | brk {t : List Nat} {c : Cond} {m : Nat} : RT' t c 0 → RT' (40 :: (t ++ [41])) c m
theorem rk_le (a : Bool) : rk a ≤ 1 := by cases a <;> decide
theorem rt_text : ∀ (c : Cond) (m : Nat), c.ok → RT' (textL c m) c m
  | .look i, m, h => .look h
  | .not c, m, h => .not (rt_text c 2 h)
  | .bin a l r, m, h => by
    unfold textL
    have hl := rt_text l (rk a) h.1
    have hr := rt_text r (rk a + 1) h.2
    by_cases hm : m ≤ rk a
    · rw [if_pos hm, List.append_assoc]
      exact .bin hl hr hm
    · rw [if_neg hm]
      have := RT'.brk (m := m) (RT'.bin (a := a) (m := 0) hl hr (Nat.zero_le _))
      rw [List.append_assoc (textL l (rk a)) [sg a] (textL r (rk a + 1))]
      exact this
/-- each sign may stand -/
theorem rt_chk {t : List Nat} {c : Cond} {m : Nat} (h : RT' t c m) : ∀ (k : Nat) (r : List Nat), chkM true k (t ++ r) = chkM false k r := by
  induction h with
  | look h =>
    rename_i i m
    intro k r
    show (stand true k (97 + i) && chkM (decide (97 + i ∈ ahead)) (depth k (97 + i)) r) = _
    obtain rfl | rfl | rfl | rfl | rfl | rfl | rfl | rfl : i = 0 ∨ i = 1 ∨ i = 2 ∨ i = 3 ∨ i = 4 ∨ i = 5 ∨ i = 6 ∨ i = 7 := by omega
    all_goals rfl
  | not h ih =>
    intro k r
    show (stand true k 33 && chkM (decide (33 ∈ ahead)) (depth k 33) _) = _
    exact ih k r
  | bin h1 h2 hm i1 i2 =>
    rename_i t u a l r' m
    intro k r
    rw [List.append_assoc, i1]
    show (stand false k (sg a) && chkM (decide (sg a ∈ ahead)) (depth k (sg a)) (u ++ r)) = _
    cases a
    · exact i2 k r
    · exact i2 k r
  | brk h ih =>
    rename_i t c m
    intro k r
    show (stand true k 40 && chkM (decide (40 ∈ ahead)) (depth k 40) (t ++ [41] ++ r)) = _
    rw [List.append_assoc]
    show chkM true (k + 1) (t ++ ([41] ++ r)) = _
    rw [ih]
    show (stand false (k + 1) 41 && chkM (decide (41 ∈ ahead)) (depth (k + 1) 41) r) = _
    have e1 : stand false (k + 1) 41 = true := decide_eq_true (Nat.succ_pos k)
    rw [e1]
    rfl
theorem rt_good {t : List Nat} {c : Cond} (h : RT' t c 0) : chkM true 0 t = true := by
  have := rt_chk h 0 []
  rw [List.append_nil] at this
  rw [this]; rfl
/-- what waits is joined -/
def redAll : List Op → List Cond → Option (List Cond)
  | [], d => some d
  | o :: ws, d => (redM o d).bind (redAll ws)
theorem redAll_app : ∀ (a b : List Op) (d : List Cond), redAll (a ++ b) d = (redAll a d).bind (redAll b)
  | [], _, _ => rfl
  | o :: a, b, d => by
    show (redM o d).bind (redAll (a ++ b)) = ((redM o d).bind (redAll a)).bind (redAll b)
    rw [Option.bind_assoc]
    congr 1
    funext e
    exact redAll_app a b e
theorem join_all {least : Nat} : ∀ (ops : List Op) (d e : List Cond) (w : List Op), (∀ o ∈ ops, least ≤ o.bnd) → redAll ops d = some e → joinM least d (ops ++ w) = joinM least e w
  | [], d, e, w, _, h => by rw [Option.some.inj h]; rfl
  | o :: ops, d, e, w, hb, h => by
    obtain ⟨d', h1, h2⟩ := Option.bind_eq_some_iff.mp h
    show (if least ≤ o.bnd then (redM o d).bind fun d' => joinM least d' (ops ++ w) else some (d, o :: (ops ++ w))) = _
    rw [if_pos (hb o List.mem_cons_self), h1]
    exact join_all ops d' e w (fun x hx => hb x (List.mem_cons_of_mem _ hx)) h2
theorem join_stop {least : Nat} {d : List Cond} {w : List Op} (h : ∀ o w', w = o :: w' → o.bnd < least) : joinM least d w = some (d, w) := by
  cases w with
  | nil => rfl
  | cons o w' =>
    show (if least ≤ o.bnd then _ else some (d, o :: w')) = _
    rw [if_neg (by have := h o w' rfl; omega)]
theorem read_app : ∀ (t u : List Nat) (s : List Cond × List Op), readM (t ++ u) s = (readM t s).bind (readM u)
  | [], _, _ => rfl
  | x :: t, u, s => by
    show (stepM x s).bind (readM (t ++ u)) = ((stepM x s).bind (readM t)).bind (readM u)
    rw [Option.bind_assoc]
    congr 1
    funext e
    exact read_app t u e
theorem step_op (a : Bool) (d : List Cond) (w : List Op) : stepM (sg a) (d, w) = (joinM (rk a + 1) d w).map fun s' => (s'.1, Op.bi a :: s'.2) := by cases a <;> rfl
theorem rt_read {t : List Nat} {c : Cond} {m : Nat} (h : RT' t c m) : m ≤ 2 → ∀ (d : List Cond) (w : List Op), (m = 2 ∨ ∀ o w', w = o :: w' → o.bnd < m + 1) → ∃ d' ops, readM t (d, w) = some (d', ops ++ w) ∧ (∀ o ∈ ops, m + 1 ≤ o.bnd) ∧ redAll ops d' = some (c :: d) := by
  induction h with
  | look h =>
    rename_i i m
    intro _ d w _
    refine ⟨.look i :: d, [], ?_, (fun o ho => absurd ho List.not_mem_nil), rfl⟩
    show (stepM (97 + i) (d, w)).bind (readM []) = _
    unfold stepM
    rw [if_pos ⟨by omega, by omega⟩]
    show some (Cond.look (97 + i - 97) :: d, w) = _
    rw [Nat.add_sub_cancel_left]; rfl
  | not h ih =>
    rename_i t c m
    intro hm d w _
    obtain ⟨d', ops, h1, h2, h3⟩ := ih (Nat.le_refl _) d (.no :: w) (.inl rfl)
    refine ⟨d', ops ++ [.no], ?_, fun o ho => ?_, ?_⟩
    · show readM t (d, .no :: w) = _
      rw [h1, List.append_assoc]; rfl
    · rcases List.mem_append.mp ho with ho | ho
      · have := h2 o ho; omega
      · rw [List.mem_singleton.mp ho]; show m + 1 ≤ 3; omega
    · rw [redAll_app, h3]; rfl
  | bin h1 h2 hm i1 i2 =>
    rename_i t u a l r m
    intro hm2 d w hw
    have ha := rk_le a
    have hw' : ∀ o w', w = o :: w' → o.bnd < rk a + 1 := by
      rcases hw with hw | hw
      · omega
      · intro o w' e
        have := hw o w' e
        omega
    obtain ⟨d1, ops1, e1, b1, r1⟩ := i1 (by omega) d w (.inr hw')
    obtain ⟨d2, ops2, e2, b2, r2⟩ := i2 (by omega) (l :: d) (.bi a :: w) (.inr fun o w' e => by
      obtain ⟨rfl, _⟩ := List.cons.inj e
      show rk a + 1 < rk a + 1 + 1
      omega)
    refine ⟨d2, ops2 ++ [.bi a], ?_, fun o ho => ?_, ?_⟩
    · rw [read_app, e1]
      show (stepM (sg a) (d1, ops1 ++ w)).bind (readM u) = _
      rw [step_op, join_all ops1 d1 (l :: d) w (fun o ho => b1 o ho) r1, join_stop hw']
      show readM u (l :: d, .bi a :: w) = _
      rw [e2, List.append_assoc]; rfl
    · rcases List.mem_append.mp ho with ho | ho
      · have := b2 o ho; omega
      · rw [List.mem_singleton.mp ho]; show m + 1 ≤ rk a + 1; omega
    · rw [redAll_app, r2]; rfl
  | brk h ih =>
    rename_i t c m
    intro _ d w _
    obtain ⟨d', ops, h1, h2, h3⟩ := ih (by decide) d (.par :: w) (.inr fun o w' e => by
      obtain ⟨rfl, _⟩ := List.cons.inj e
      show 0 < 0 + 1
      decide)
    refine ⟨c :: d, [], ?_, (fun o ho => absurd ho List.not_mem_nil), rfl⟩
    show readM (t ++ [41]) (d, .par :: w) = _
    rw [read_app, h1]
    show (stepM 41 (d', ops ++ .par :: w)).bind (readM []) = _
    have e : stepM 41 (d', ops ++ .par :: w) = (joinM 1 d' (ops ++ .par :: w)).bind fun s' => match s'.2 with
      | _ :: w => some (s'.1, w)
      | [] => none := rfl
    rw [e, join_all ops d' (c :: d) (.par :: w) (fun o ho => h2 o ho) h3, join_stop fun o w' e => by
      obtain ⟨rfl, _⟩ := List.cons.inj e
      show 0 < 1
      decide]
    rfl
theorem rt_readL {t : List Nat} {c : Cond} (h : RT' t c 0) : readL t = some ([c], []) := by
  obtain ⟨d', ops, h1, h2, h3⟩ := rt_read h (by decide) [] [] (.inr fun o w' e => by cases e)
  unfold readL
  rw [h1]
  show joinM 1 d' (ops ++ []) = _
  rw [join_all ops d' [c] [] (fun o ho => h2 o ho) h3]
  rfl

/-! conditions that may be none: refusals -/
def spCountX (C : Addr) (n : Nat) : Sp := fun vs H Q E => ∃ v c, ∃ ar : Nat, vs = [v, .int (ar : Int)] ∧ CA H v c ∧ c.ok ∧ 11 < ar + n ∧ ar ≤ 11 ∧ (ar + c.deep ≤ 10 → ∀ H', Same H H' → Q (.int (c.looks : Int)) H') ∧ (¬ ar + c.deep ≤ 10 → ∀ H', Same H H' → E (.ref C) none H')
theorem no_countx {C : Addr} (vs : List V) (H : Hp) (Q : VK) (E : XK) : ¬ spCountX C 0 vs H Q E := fun ⟨_, _, _, _, _, _, h1, h2, _⟩ => by omega
theorem pure_countx {K : PySem.W.Frag} {w : World} {C : Addr} {n : Nat} (vs : List V) (H : Hp) (Q : VK) (E : XK) (h : spCountX C (n + 1) vs H Q E) :
    t_count_looksx K w C spForm (spCountX C n) E (Ends.mk (fun _ H' => Q .non H') Q (fun _ _ => False) (fun _ _ => False)) (start ["condition", "around", "side"] vs) H := by
  obtain ⟨v, c, ar, rfl, hc, ho, hn, ha, q, x⟩ := h
  unfold t_count_looksx
  tm_at "j"
  refine i_b (fun e => ?_) (fun e => ?_)
  · have e1 : (10 : Int) < (ar : Int) := of_decide_eq_true e
    exact l_raise (x (by omega) _ (Same.refl _))
  have e1 : ¬ (10 : Int) < (ar : Int) := of_decide_eq_false e
  tm_at "j"
  refine ⟨_, _, rfl, hc, ho, fun H1 g1 => ?_⟩
  tm_at "j"
  cases hc with
  | look e =>
    tm_at "j"
    exact q (show ar + 0 ≤ 10 by omega) _ (by tm_at "hp")
  | not e hc =>
    rename_i v1 c1
    have q' : ar + 1 + c1.deep ≤ 10 → ∀ H', Same H H' → Q (.int (c1.looks : Int)) H' := fun z => q (show ar + (c1.deep + 1) ≤ 10 by omega)
    have x' : ¬ ar + 1 + c1.deep ≤ 10 → ∀ H', Same H H' → E (.ref C) none H' := fun z => x (show ¬ ar + (c1.deep + 1) ≤ 10 by omega)
    tm_at "j"
    refine lcTX (fun _ => ar + 1 + c1.deep ≤ 10) (xs := [v1]) (ys := [.int (c1.looks : Int)]) (fun _ => rfl) (by tm_at "hp") (by tm_at "dec") ⟨rfl, ?_⟩ ?_
    · intro i x1 y H' Q' hx hy g _ k
      rcases i with _ | i
      · obtain rfl : v1 = x1 := Option.some.inj hx
        obtain rfl := Option.some.inj hy
        tm_at "j"
        exact ⟨v1, c1, ar + 1, rfl, by tm_at "hp", ho, by omega, by omega, k, fun z H'' s => x' z _ (by tm_at "hp")⟩
      · cases hx
    · intro hg D H2 hD g e2
      refine l_sum (ns := [(c1.looks : Int)]) (by tm_at "hp") ?_
      rw [show [(c1.looks : Int)].sum = (c1.looks : Int) by simp]
      exact q' (hg 0 (Nat.succ_pos _)) _ (by tm_at "hp")
  | bin e h1 h2 =>
    rename_i a v1 v2 c1 c2
    have q' : ar + 1 + c1.deep ≤ 10 → ar + 1 + c2.deep ≤ 10 → ∀ H', Same H H' → Q (.int ((c1.looks + c2.looks : Nat) : Int)) H' := fun z z2 => q (show ar + (max c1.deep c2.deep + 1) ≤ 10 by omega)
    have x' : ¬ (ar + 1 + c1.deep ≤ 10 ∧ ar + 1 + c2.deep ≤ 10) → ∀ H', Same H H' → E (.ref C) none H' := fun z => x (show ¬ ar + (max c1.deep c2.deep + 1) ≤ 10 by omega)
    cases a <;> (
      tm_at "j"
      refine lcTX (fun i => ar + 1 + (if i = 0 then c1.deep else c2.deep) ≤ 10) (xs := [v1, v2]) (ys := [.int (c1.looks : Int), .int (c2.looks : Int)]) (fun _ => rfl) (by tm_at "hp") (by tm_at "dec") ⟨rfl, ?_⟩ ?_
      · intro i x1 y H' Q' hx hy g _ k
        rcases i with _ | _ | i
        · obtain rfl : v1 = x1 := Option.some.inj hx
          obtain rfl := Option.some.inj hy
          tm_at "j"
          exact ⟨v1, c1, ar + 1, rfl, by tm_at "hp", ho.1, by omega, by omega, k, fun z H'' s => x' (fun y => z y.1) _ (by tm_at "hp")⟩
        · obtain rfl : v2 = x1 := Option.some.inj hx
          obtain rfl := Option.some.inj hy
          tm_at "j"
          exact ⟨v2, c2, ar + 1, rfl, by tm_at "hp", ho.2, by omega, by omega, k, fun z H'' s => x' (fun y => z y.2) _ (by tm_at "hp")⟩
        · cases hx
      · intro hg D H2 hD g e2
        refine l_sum (ns := [(c1.looks : Int), (c2.looks : Int)]) (by tm_at "hp") ?_
        have e3 : [(c1.looks : Int), (c2.looks : Int)].sum = (((c1.looks + c2.looks : Nat)) : Int) := by simp
        rw [e3]
        exact q' (hg 0 (Nat.succ_pos _)) (hg 1 (Nat.lt_succ_self _)) _ (by tm_at "hp"))
def spCheckX (C : Addr) : Sp := fun vs H Q E => ∃ v c, vs = [v] ∧ CA H v c ∧ c.ok ∧ (c.deep ≤ 10 → c.looks ≤ 12 → ∀ H', Same H H' → Q .non H') ∧ (¬ (c.deep ≤ 10 ∧ c.looks ≤ 12) → ∀ H', Same H H' → E (.ref C) none H')
theorem pure_checkx {K : PySem.W.Frag} {w : World} {C : Addr} (vs : List V) (H : Hp) (Q : VK) (E : XK) (h : spCheckX C vs H Q E) :
    t_check_conditionx K w C (spCountX C 12) E (Ends.mk (fun _ H' => Q .non H') Q (fun _ _ => False) (fun _ _ => False)) (start ["condition"] vs) H := by
  obtain ⟨v, c, rfl, hc, ho, q, x⟩ := h
  unfold t_check_conditionx
  tm_at "j"
  refine ⟨v, c, 0, rfl, hc, ho, by omega, by omega, fun hd H1 g1 => ?_, fun hd H1 g1 => x (fun z => hd (by omega)) _ g1⟩
  tm_at "j"
  refine i_b (fun e => ?_) (fun e => ?_)
  · have e1 : (12 : Int) < (c.looks : Int) := of_decide_eq_true e
    exact l_raise (x (fun z => by omega) _ g1)
  · have e1 : ¬ (12 : Int) < (c.looks : Int) := of_decide_eq_false e
    tm_at "j"
    exact q (by omega) (by omega) _ g1
def spReadX (C : Addr) : Sp := fun vs H Q E => ∃ l : List Nat, ∃ c, vs = [.str (S l)] ∧ l.length ≤ 50000 ∧ chkM true 0 l = true ∧ readL l = some ([c], []) ∧ c.ok ∧ (c.deep ≤ 10 → c.looks ≤ 12 → ∀ v H', Same H H' → CA H' v c → Q v H') ∧ (¬ (c.deep ≤ 10 ∧ c.looks ≤ 12) → ∀ H', Same H H' → E (.ref C) none H')
theorem pure_readx {K : PySem.W.Frag} {w : World} {C : Addr} (vs : List V) (H : Hp) (Q : VK) (E : XK) (h : spReadX C vs H Q E) :
    t_readx K w spSigns spCondOf (spCheckX C) E (Ends.mk (fun _ H' => Q .non H') Q (fun _ _ => False) (fun _ _ => False)) (start ["text", "condition"] vs) H := by
  obtain ⟨l, c, rfl, hl, hch, hr, ho, q, x⟩ := h
  unfold t_readx
  tm_at "j"
  refine ⟨l, rfl, hch, fun H1 g1 => ?_⟩
  tm_at "j"
  refine ⟨l, c, rfl, hl, hr, fun v H2 g2 hc => ?_⟩
  tm_at "j"
  refine ⟨v, c, rfl, hc, ho, fun hd hk H3 g3 => ?_, fun z H3 g3 => x z _ ((g1.trans g2).trans g3)⟩
  tm_at "j"
  exact q hd hk _ _ ((g1.trans g2).trans g3) (hc.mono g3)

/-! texts that the signs allow are texts of a condition -/
theorem rt_ok {t : List Nat} {c : Cond} {m : Nat} (h : RT' t c m) : c.ok := by
  induction h with
  | look h => exact h
  | not _ ih => exact ih
  | bin _ _ _ i1 i2 => exact ⟨i1, i2⟩
  | brk _ ih => exact ih
theorem rt_le {t : List Nat} {c : Cond} {m n : Nat} (h : RT' t c m) (l : n ≤ m) : RT' t c n := by
  cases h with
  | look h => exact .look h
  | not h => exact .not h
  | bin h1 h2 h3 => exact .bin h1 h2 (Nat.le_trans l h3)
  | brk h => exact .brk h
/-- what stands open: brackets, nots, first sides -/
inductive Fm where
  | par
  | no
  | bi (a : Bool) (t : List Nat) (l : Cond)
def Fm.text : Fm → List Nat
  | .par => [40]
  | .no => [33]
  | .bi a t _ => t ++ [sg a]
/-- the open ones, the last one ahead; n: how many brackets, a pair binds more than the one it stands in -/
inductive Fs : List Fm → Nat → Prop
  | nil : Fs [] 0
  | par {fs n} : Fs fs n → Fs (.par :: fs) (n + 1)
  | no {fs n} : Fs fs n → Fs (.no :: fs) n
  | bi {fs n a t l} : Fs fs n → RT' t l (rk a) → (∀ b u d gs, fs = .bi b u d :: gs → rk b < rk a) → (∀ gs, fs ≠ .no :: gs) → Fs (.bi a t l :: fs) n
def ftext : List Fm → List Nat
  | [] => []
  | f :: fs => ftext fs ++ f.text
/-- what binds at least as a is closed -/
theorem close_to {a : Nat} : ∀ (fs : List Fm) (n : Nat) (t : List Nat) (c : Cond) (m : Nat), Fs fs n → RT' t c m → a ≤ m → (∀ b u d gs, fs = .bi b u d :: gs → rk b + 1 ≤ m) → ((∃ gs, fs = .no :: gs) → m = 2) →
    ∃ gs u d m', Fs gs n ∧ RT' u d m' ∧ a ≤ m' ∧ ftext fs ++ t = ftext gs ++ u ∧ (∀ b u d hs, gs = .bi b u d :: hs → rk b < a) ∧ (∀ hs, gs ≠ .no :: hs)
  | [], n, t, c, m, hf, ht, ha, _, _ => ⟨[], t, c, m, hf, ht, ha, rfl, (fun _ _ _ _ e => by cases e), fun _ e => by cases e⟩
  | .par :: fs, n, t, c, m, hf, ht, ha, _, _ => ⟨.par :: fs, t, c, m, hf, ht, ha, rfl, (fun _ _ _ _ e => by cases e), fun _ e => by cases e⟩
  | .no :: fs, n, t, c, m, hf, ht, ha, hb, hn => by
    cases hf with
    | no hf =>
      have h2 := hn ⟨fs, rfl⟩
      subst h2
      obtain ⟨gs, u, d, m', k1, k2, k3, k4, k5, k6⟩ := close_to (a := a) fs n (33 :: t) (.not c) 2 hf (.not ht) ha (fun b _ _ _ _ => by have := rk_le b; omega) fun _ => rfl
      refine ⟨gs, u, d, m', k1, k2, k3, ?_, k5, k6⟩
      rw [← k4]
      show ftext fs ++ [33] ++ t = _
      rw [List.append_assoc]; rfl
  | .bi b v l :: fs, n, t, c, m, hf, ht, ha, hb, hn => by
    by_cases hr : rk b < a
    · exact ⟨.bi b v l :: fs, t, c, m, hf, ht, ha, rfl, (fun b' _ _ _ e => by cases e; exact hr), fun _ e => by cases e⟩
    · cases hf with
      | bi hf hl hlt hno =>
        have hm := hb b v l fs rfl
        have hx : RT' (v ++ sg b :: t) (.bin b l c) (rk b) := .bin hl (rt_le ht hm) (Nat.le_refl _)
        obtain ⟨gs, u, d, m', k1, k2, k3, k4, k5, k6⟩ := close_to (a := a) fs n (v ++ sg b :: t) (.bin b l c) (rk b) hf hx (by omega) (fun b' u' d' gs' e => hlt b' u' d' gs' e) fun ⟨gs', e⟩ => absurd e (hno gs')
        refine ⟨gs, u, d, m', k1, k2, k3, ?_, k5, k6⟩
        rw [← k4]
        show ftext fs ++ (v ++ [sg b]) ++ t = _
        rw [List.append_assoc, List.append_assoc]; rfl
/-- as far as a text may go: what is open, and behind a look or a bracket what was read last -/
def Rd (t : List Nat) (due : Bool) (n : Nat) : Prop := ∃ fs, Fs fs n ∧ (if due then t = ftext fs else ∃ u c, RT' u c 2 ∧ t = ftext fs ++ u)
theorem chk_rd : ∀ (r t : List Nat) (due : Bool) (n : Nat), chkM due n r = true → Rd t due n → ∃ c, RT' (t ++ r) c 0
  | [], t, due, n, h, ⟨fs, hf, ht⟩ => by
    obtain ⟨h1, h2⟩ := Bool.and_eq_true_iff.mp h
    have h2 := of_decide_eq_true h2
    subst h2
    cases due with
    | true => cases h1
    | false =>
      obtain ⟨u, c, hu, rfl⟩ := ht
      obtain ⟨gs, u', d, m', k1, k2, _, k4, k5, k6⟩ := close_to (a := 0) fs 0 u c 2 hf hu (Nat.zero_le _) (fun b _ _ _ _ => by have := rk_le b; omega) fun _ => rfl
      cases k1 with
      | nil =>
        rw [List.append_nil, k4]
        exact ⟨d, rt_le k2 (Nat.zero_le _)⟩
      | no _ => exact absurd rfl (k6 _)
      | bi _ _ _ _ => exact absurd (k5 _ _ _ _ rfl) (Nat.not_lt_zero _)
  | x :: r, t, due, n, h, ⟨fs, hf, ht⟩ => by
    obtain ⟨h1, h2⟩ := Bool.and_eq_true_iff.mp h
    rw [show t ++ x :: r = (t ++ [x]) ++ r by rw [List.append_assoc]; rfl]
    refine chk_rd r (t ++ [x]) _ _ h2 ?_
    cases due with
    | true =>
      obtain rfl : t = ftext fs := ht
      have hx : x ∈ begs := of_decide_eq_true h1
      by_cases h40 : x = 40
      · subst h40
        exact ⟨.par :: fs, .par hf, rfl⟩
      by_cases h33 : x = 33
      · subst h33
        exact ⟨.no :: fs, .no hf, rfl⟩
      have hl : 97 ≤ x ∧ x < 105 := by
        simp only [begs, List.mem_cons, List.mem_nil_iff, or_false] at hx
        omega
      have hd : decide (x ∈ ahead) = false := decide_eq_false fun z => by
        simp only [ahead, List.mem_cons, List.mem_nil_iff, or_false] at z
        omega
      have hk : depth n x = n := by unfold depth; rw [if_neg h40, if_neg (by omega)]
      rw [hd, hk]
      refine ⟨fs, hf, [x], .look (x - 97), ?_, rfl⟩
      have := RT'.look (i := x - 97) (m := 2) (by omega)
      rw [show 97 + (x - 97) = x by omega] at this
      exact this
    | false =>
      obtain ⟨u, c, hu, rfl⟩ := ht
      by_cases h41 : x = 41
      · subst h41
        have hn : 0 < n := of_decide_eq_true h1
        obtain ⟨gs, u', d, m', k1, k2, _, k4, k5, k6⟩ := close_to (a := 0) fs n u c 2 hf hu (Nat.zero_le _) (fun b _ _ _ _ => by have := rk_le b; omega) fun _ => rfl
        cases k1 with
        | nil => omega
        | no _ => exact absurd rfl (k6 _)
        | bi _ _ _ _ => exact absurd (k5 _ _ _ _ rfl) (Nat.not_lt_zero _)
        | par hg =>
          rename_i gs n
          refine ⟨gs, hg, 40 :: (u' ++ [41]), d, .brk (rt_le k2 (Nat.zero_le _)), ?_⟩
          rw [k4]
          show ftext gs ++ [40] ++ u' ++ [41] = _
          rw [List.append_assoc, List.append_assoc]; rfl
      · have h1 : decide (x = 38 ∨ x = 124) = true := by
          have h1 : (if x = 41 then decide (0 < n) else decide (x = 38 ∨ x = 124)) = true := h1
          rw [if_neg h41] at h1
          exact h1
        obtain ⟨a, rfl⟩ : ∃ a, x = sg a := by
          rcases of_decide_eq_true h1 with rfl | rfl
          · exact ⟨true, rfl⟩
          · exact ⟨false, rfl⟩
        obtain ⟨gs, u', d, m', k1, k2, k3, k4, k5, k6⟩ := close_to (a := rk a) fs n u c 2 hf hu (by have := rk_le a; omega) (fun b _ _ _ _ => by have := rk_le b; omega) fun _ => rfl
        have hd : decide (sg a ∈ ahead) = true := by cases a <;> rfl
        have hk : depth n (sg a) = n := by cases a <;> rfl
        rw [hd, hk]
        refine ⟨.bi a u' d :: gs, .bi k1 (rt_le k2 k3) (fun b v l hs e => k5 b v l hs e) k6, ?_⟩
        rw [k4]
        show ftext gs ++ u' ++ [sg a] = ftext gs ++ (u' ++ [sg a])
        rw [List.append_assoc]
theorem chk_rt {t : List Nat} (h : chkM true 0 t = true) : ∃ c, RT' t c 0 := chk_rd t [] true 0 h ⟨[], .nil, rfl⟩
/-- .. and what is read of them -/
theorem chk_read {t : List Nat} (h : chkM true 0 t = true) : ∃ c, RT' t c 0 ∧ readL t = some ([c], []) ∧ c.ok := by
  obtain ⟨c, hc⟩ := chk_rt h
  exact ⟨c, hc, rt_readL hc, rt_ok hc⟩
/-! the fewest brackets -/
theorem text_brk (c : Cond) (m : Nat) : (textL c m).count 40 ≤ (textL c 0).count 40 + 1 := by
  cases c with
  | look i => exact Nat.le_succ _
  | not c => exact Nat.le_succ _
  | bin a l r =>
    unfold textL
    rw [if_pos (Nat.zero_le _)]
    split
    · exact Nat.le_succ _
    · rw [List.cons_append, List.count_cons_self, List.count_append (l₂ := [41])]
      exact Nat.le_refl _
theorem text_brk2 (a : Bool) (l r : Cond) {m : Nat} (h : m ≤ rk a) : textL (.bin a l r) m = textL l (rk a) ++ [sg a] ++ textL r (rk a + 1) := by
  rw [textL, if_pos h]
theorem rt_min {t : List Nat} {c : Cond} {m : Nat} (h : RT' t c m) : (textL c m).count 40 ≤ t.count 40 := by
  induction h with
  | look h => exact Nat.le_refl _
  | not h ih =>
    rename_i t c m
    show (33 :: textL c 2).count 40 ≤ (33 :: t).count 40
    rw [List.count_cons_of_ne (by decide), List.count_cons_of_ne (by decide)]
    exact ih
  | bin h1 h2 hm i1 i2 =>
    rename_i t u a l r m
    rw [text_brk2 a l r hm, List.append_assoc, List.count_append, List.count_append (l₁ := t)]
    have e : ([sg a] ++ textL r (rk a + 1)).count 40 = (textL r (rk a + 1)).count 40 := List.count_cons_of_ne (by cases a <;> decide)
    have e2 : (sg a :: u).count 40 = u.count 40 := List.count_cons_of_ne (by cases a <;> decide)
    rw [e, e2]
    exact Nat.add_le_add i1 i2
  | brk h ih =>
    rename_i t c m
    rw [List.count_cons_self, List.count_append]
    have := text_brk c m
    omega
/-- the signs take a text as one side -/
def GD (t : List Nat) : Prop := ∀ (k : Nat) (r : List Nat), chkM true k (t ++ r) = chkM false k r
theorem gd_brk {t : List Nat} (h : GD t) : GD (40 :: (t ++ [41])) := by
  intro k r
  show (stand true k 40 && chkM (decide (40 ∈ ahead)) (depth k 40) (t ++ [41] ++ r)) = _
  rw [List.append_assoc]
  show chkM true (k + 1) (t ++ ([41] ++ r)) = _
  rw [h]
  show (stand false (k + 1) 41 && chkM (decide (41 ∈ ahead)) (depth (k + 1) 41) r) = _
  rw [show stand false (k + 1) 41 = true from decide_eq_true (Nat.succ_pos k)]
  rfl
theorem gd_not {t : List Nat} (h : GD t) : GD (33 :: t) := by
  intro k r
  show (stand true k 33 && chkM (decide (33 ∈ ahead)) (depth k 33) (t ++ r)) = _
  exact h k r
theorem gd_bin {t u : List Nat} (a : Bool) (h1 : GD t) (h2 : GD u) : GD (t ++ sg a :: u) := by
  intro k r
  rw [List.append_assoc, h1]
  show (stand false k (sg a) && chkM (decide (sg a ∈ ahead)) (depth k (sg a)) (u ++ r)) = _
  cases a <;> exact h2 k r
theorem gd_ok {t : List Nat} (h : GD t) : chkM true 0 t = true := by
  have := h 0 []
  rw [List.append_nil] at this
  rw [this]; rfl
theorem rt_gd {t : List Nat} {c : Cond} {m : Nat} (h : RT' t c m) : GD t := rt_chk h

theorem wd_at {r : Int} (h0 : 0 ≤ r) (h1 : r < 2) : ∃ a, atI [V.str "and", V.str "or"] r = some (.str (wd a)) := by
  obtain rfl | rfl : r = 0 ∨ r = 1 := by omega
  · exact ⟨true, rfl⟩
  · exact ⟨false, rfl⟩
theorem left_at {r u : Int} {m : Nat} (hm : 2 ≤ m) (u0 : 0 ≤ u) (u1 : u < (m : Int) - 1) (h0 : 0 ≤ r) (h1 : r < 4) : ∃ k : Nat, atI [V.int 1, V.int ((m : Int) - 1), V.int (1 + u), V.int ((m : Int) / 2)] r = some (.int (k : Int)) ∧ 1 ≤ k ∧ k + 1 ≤ m := by
  obtain rfl | rfl | rfl | rfl : r = 0 ∨ r = 1 ∨ r = 2 ∨ r = 3 := by omega
  · exact ⟨1, rfl, by omega, by omega⟩
  · refine ⟨m - 1, ?_, by omega, by omega⟩
    rw [show ((m - 1 : Nat) : Int) = (m : Int) - 1 by omega]; rfl
  · refine ⟨(1 + u).toNat, ?_, by omega, by omega⟩
    rw [show (((1 + u).toNat : Nat) : Int) = 1 + u by omega]; rfl
  · refine ⟨m / 2, ?_, by omega, by omega⟩
    rw [show ((m / 2 : Nat) : Int) = (m : Int) / 2 by omega]; rfl
def spPB (x n : Nat) : Sp := fun vs H Q _ => ∃ b l ns s, ∃ m : Nat, ∃ t, ∃ ts : List Nat, vs = [.ref b, .int (m : Int), .ref t] ∧ Bx H b l ns s ∧ 1 ≤ m ∧ m ≤ n ∧ n ≤ 20 ∧ t ≠ b ∧ t ≠ l ∧ H t = some (.lst (ts.map vn)) ∧ 0 < ts.length ∧ ts.length ≤ 8 ∧ (∀ i ∈ ts, i < 8) ∧
  ∀ v c ns' s' H', Fr b l H H' → Bx H' b l ns' s' → CA H' v c → c.ok → c.looks = m → c.deep + x ≤ 2 * m → Q v H'
theorem pure_part {K : PySem.W.Frag} {w : World} {n : Nat} (vs : List V) (H : Hp) (Q : VK) (E : XK) (h : spPB 1 n vs H Q E) :
    t_law_part K w spTake (spPB 2 n) (Ends.mk (fun _ H' => Q .non H') Q (fun _ _ => False) (fun _ _ => False)) (start ["_law_box", "_law_many", "_law_things"] vs) H := by
  obtain ⟨b, l, ns, s, m, t, ts, rfl, x, m1, mn, n20, tb, tl, ht, t0, t8, ti, q⟩ := h
  unfold t_law_part
  tm_at "j"
  refine ⟨b, l, ns, s, 5, rfl, x, by decide, by decide, fun r ns1 s1 H1 f1 x1 r0 r1 => ?_⟩
  tm_at "j"
  have ht1 : H1 t = some (.lst (ts.map vn)) := f1.at tb tl ht
  refine i_b (fun e => ?_) (fun e => ?_)
  · tm_at "j"
    refine ⟨b, l, ns1, s1, m, t, ts, rfl, x1, m1, mn, n20, tb, tl, ht1, t0, t8, ti, fun v c ns2 s2 H2 f2 x2 hc ho hk hd => ?_⟩
    tm_at "j"
    rename_i p H3 np g3 e3
    exact q _ (.not c) ns2 s2 _ ((f1.trans f2).trans (Fr.of g3)) (x2.same g3) (.not e3 (hc.mono g3)) ho hk (by show c.deep + 1 + 1 ≤ 2 * m; omega)
  · tm_at "j"
    refine ⟨b, l, ns1, s1, m, t, ts, rfl, x1, m1, mn, n20, tb, tl, ht1, t0, t8, ti, fun v c ns2 s2 H2 f2 x2 hc ho hk hd => ?_⟩
    tm_at "j"
    exact q _ c ns2 s2 _ (f1.trans f2) x2 hc ho hk (by omega)
theorem pure_bare {K : PySem.W.Frag} {w : World} {n : Nat} (vs : List V) (H : Hp) (Q : VK) (E : XK) (h : spPB 2 (n + 1) vs H Q E) :
    t_law_bare K w spTake (spPB 1 n) (Ends.mk (fun _ H' => Q .non H') Q (fun _ _ => False) (fun _ _ => False)) (start ["_law_box", "_law_many", "_law_things", "_law_left", "_law_word"] vs) H := by
  obtain ⟨b, l, ns, s, m, t, ts, rfl, x, m1, mn, n20, tb, tl, ht, t0, t8, ti, q⟩ := h
  unfold t_law_bare
  tm_at "j"
  refine i_b (fun e => ?_) (fun e => ?_)
  · have em : (m : Int) = 1 := V.int.inj (of_decide_eq_true e)
    have em1 : m = 1 := by omega
    tm_at "j"
    have hlen : (ts.map vn).length = ts.length := List.length_map _
    refine ⟨b, l, ns, s, _, rfl, x, by omega, by omega, fun r ns1 s1 H1 f1 x1 r0 r1 => ?_⟩
    rw [hlen] at r1
    have ht1 : H1 t = some (.lst (ts.map vn)) := f1.at tb tl ht
    obtain ⟨k, rfl⟩ : ∃ k : Nat, r = (k : Int) := ⟨r.toNat, by omega⟩
    have hk : k < ts.length := by omega
    refine l_ixL (by tm_at "hp") (at_map (d := 0) hk) ?_
    tm_at "j"
    rename_i p H2 np g2 e2
    refine q _ (.look (ts.getD k 0)) ns1 s1 _ (f1.trans (Fr.of g2)) (x1.same g2) (.look e2) ?_ (by rw [em1]; rfl) (by rw [em1]; exact Nat.le_refl _)
    show ts.getD k 0 < 8
    refine ti _ ?_
    rw [List.getD_eq_getElem?_getD, List.getElem?_eq_getElem hk]
    exact List.getElem_mem hk
  · have em : ¬ (m : Int) = 1 := fun z => by
      have := of_decide_eq_false e
      exact this (congrArg V.int z)
    tm_at "j"
    refine ⟨b, l, ns, s, _, rfl, x, by omega, by omega, fun u ns1 s1 H1 f1 x1 u0 u1 => ?_⟩
    tm_at "j"
    rename_i p2 H2 np2 g2 e2
    have x2 := x1.same g2
    refine ⟨b, l, ns1, s1, 4, rfl, x2, by decide, by decide, fun r ns3 s3 H3 f3 x3 r0 r1 => ?_⟩
    have e3 := f3.at (ne_of_none x1.hb np2).symm (ne_of_none x1.hl np2).symm e2
    obtain ⟨k, hk, k1, k2⟩ := left_at (r := r) (u := u) (m := m) (by omega) u0 (by omega) r0 r1
    refine l_ixL (by tm_at "hp") hk ?_
    tm_at "j"
    rename_i p4 H4 np4 g4 e4
    have x4 := x3.same g4
    refine ⟨b, l, ns3, s3, 2, rfl, x4, by decide, by decide, fun r2 ns5 s5 H5 f5 x5 r20 r21 => ?_⟩
    have e5 := f5.at (ne_of_none x3.hb np4).symm (ne_of_none x3.hl np4).symm e4
    obtain ⟨a, ha⟩ := wd_at r20 r21
    refine l_ixL (by tm_at "hp") ha ?_
    tm_at "j"
    have f05 : Fr b l H H5 := (((f1.trans (Fr.of g2)).trans f3).trans (Fr.of g4)).trans f5
    refine ⟨b, l, ns5, s5, k, t, ts, rfl, x5, k1, by omega, by omega, tb, tl, f05.at tb tl ht, t0, t8, ti, fun v1 c1 ns6 s6 H6 f6 x6 hc1 ho1 hk1 hd1 => ?_⟩
    tm_at "j"
    refine ⟨b, l, ns6, s6, m - k, t, ts, ?_, x6, by omega, by omega, by omega, tb, tl, (f05.trans f6).at tb tl ht, t0, t8, ti, fun v2 c2 ns7 s7 H7 f7 x7 hc2 ho2 hk2 hd2 => ?_⟩
    · rw [show ((m - k : Nat) : Int) = (m : Int) - (k : Int) by omega]
    tm_at "j"
    rename_i p8 H8 np8 g8 e8
    have hc1' : CA H8 v1 c1 := (hc1.tups (x6.tups f7)).mono g8
    refine q _ (.bin a c1 c2) ns7 s7 _ (((f05.trans f6).trans f7).trans (Fr.of g8)) (x7.same g8) (.bin e8 hc1' (hc2.mono g8)) ⟨ho1, ho2⟩ ?_ ?_
    · show c1.looks + c2.looks = m
      omega
    · show max c1.deep c2.deep + 1 + 2 ≤ 2 * m
      omega

def spDeep (n : Nat) : Sp := fun vs H Q _ => ∃ v c, vs = [v] ∧ CA H v c ∧ c.deep < n ∧ n ≤ 60 ∧ ∀ H', Same H H' → Q (.int (c.deep : Int)) H'
theorem pure_deep {K : PySem.W.Frag} {w : World} {n : Nat} (vs : List V) (H : Hp) (Q : VK) (E : XK) (h : spDeep (n + 1) vs H Q E) :
    t_law_deep K w (spDeep n) (Ends.mk (fun _ H' => Q .non H') Q (fun _ _ => False) (fun _ _ => False)) (start ["_law_part_here", "_law_one"] vs) H := by
  obtain ⟨v, c, rfl, hc, hn, n60, q⟩ := h
  unfold t_law_deep
  cases hc with
  | look e =>
    tm_at "j"
    exact q _ (Same.refl _)
  | not e hc =>
    rename_i v1 c1
    have hn1 : c1.deep + 1 < n + 1 := hn
    tm_at "j"
    refine lcT (xs := [v1]) (ys := [.int (c1.deep : Int)]) (fun _ => rfl) (by tm_at "hp") (by tm_at "dec") ⟨rfl, ?_⟩ ?_
    · intro i x y H' Q' hx hy g k
      rcases i with _ | i
      · obtain rfl : v1 = x := Option.some.inj hx
        obtain rfl := Option.some.inj hy
        tm_at "j"
        exact ⟨v1, c1, rfl, by tm_at "hp", by omega, by omega, k⟩
      · cases hx
    · intro D H2 hD g e2
      tm_at "j"
      refine l_max (ns := [(c1.deep : Int)]) (by tm_at "hp") (by tm_at "dec") ?_
      intro mx hm hle
      obtain rfl : mx = (c1.deep : Int) := by simpa using hm
      tm_at "j"
      rw [show (1 : Int) + (c1.deep : Int) = (((c1.not).deep : Nat) : Int) by show (1 : Int) + _ = ((c1.deep + 1 : Nat) : Int); omega]
      exact q _ (by tm_at "hp")
  | bin e h1 h2 =>
    rename_i a v1 v2 c1 c2
    have hn1 : max c1.deep c2.deep + 1 < n + 1 := hn
    cases a <;> (
      tm_at "j"
      refine lcT (xs := [v1, v2]) (ys := [.int (c1.deep : Int), .int (c2.deep : Int)]) (fun _ => rfl) (by tm_at "hp") (by tm_at "dec") ⟨rfl, ?_⟩ ?_
      · intro i x y H' Q' hx hy g k
        rcases i with _ | _ | i
        · obtain rfl : v1 = x := Option.some.inj hx
          obtain rfl := Option.some.inj hy
          tm_at "j"
          exact ⟨v1, c1, rfl, by tm_at "hp", by omega, by omega, k⟩
        · obtain rfl : v2 = x := Option.some.inj hx
          obtain rfl := Option.some.inj hy
          tm_at "j"
          exact ⟨v2, c2, rfl, by tm_at "hp", by omega, by omega, k⟩
        · cases hx
      · intro D H2 hD g e2
        tm_at "j"
        refine l_max (ns := [(c1.deep : Int), (c2.deep : Int)]) (by tm_at "hp") (by tm_at "dec") ?_
        intro mx hm hle
        have l1 := hle c1.deep (by simp)
        have l2 := hle c2.deep (by simp)
        have em : mx = ((max c1.deep c2.deep : Nat) : Int) := by
          rcases List.mem_cons.mp hm with e0 | hm
          · omega
          · have := List.mem_singleton.mp hm
            omega
        subst em
        tm_at "j"
        have e3 : (1 : Int) + ((max c1.deep c2.deep : Nat) : Int) = ((max c1.deep c2.deep + 1 : Nat) : Int) := by omega
        rw [e3]
        exact q _ (by tm_at "hp"))
/-! _law_condition -/
/-- a condition of at most mx looks -/
def spCond : Sp := fun vs H Q _ => ∃ b l ns s, ∃ mx : Nat, vs = [.ref b, .int (mx : Int)] ∧ Bx H b l ns s ∧ 1 ≤ mx ∧ mx ≤ 20 ∧
  ∀ v c ns' s' H', Fr b l H H' → Bx H' b l ns' s' → CA H' v c → c.ok → c.looks ≤ mx → c.deep ≤ 10 → Q v H'
theorem things_at {t1 t2 t3 : Addr} {H : Hp} {r : Int} (h1 : H t1 = some (.lst [.int 0, .int 1, .int 2])) (h2 : H t2 = some (.lst [.int 0, .int 1, .int 2, .int 3, .int 4, .int 5, .int 6, .int 7])) (h3 : H t3 = some (.lst [.int 5, .int 7])) (r0 : 0 ≤ r) (r1 : r < 3) :
    ∃ t, ∃ ts : List Nat, atI [V.ref t1, V.ref t2, V.ref t3] r = some (.ref t) ∧ H t = some (.lst (ts.map vn)) ∧ 0 < ts.length ∧ ts.length ≤ 8 ∧ ∀ i ∈ ts, i < 8 := by
  obtain rfl | rfl | rfl : r = 0 ∨ r = 1 ∨ r = 2 := by omega
  · exact ⟨t1, [0, 1, 2], rfl, h1, by decide, by decide, by decide⟩
  · exact ⟨t2, [0, 1, 2, 3, 4, 5, 6, 7], rfl, h2, by decide, by decide, by decide⟩
  · exact ⟨t3, [5, 7], rfl, h3, by decide, by decide, by decide⟩
/-- the value in a condition's first place, one step down -/
theorem down {H : Hp} {v : V} {c : Cond} (h : CA H v c) (hd : 0 < c.deep) : ∃ p xs v1 c1, v = .ref p ∧ H p = some (.tup xs) ∧ atI xs 1 = some v1 ∧ CA H v1 c1 ∧ c1.deep < c.deep ∧ c1.looks ≤ c.looks ∧ (c.ok → c1.ok) := by
  cases h with
  | look e => exact absurd hd (Nat.lt_irrefl 0)
  | not e hc => exact ⟨_, _, _, _, rfl, e, rfl, hc, Nat.lt_succ_self _, Nat.le_refl _, id⟩
  | bin e h1 h2 => exact ⟨_, _, _, _, rfl, e, rfl, h1, Nat.lt_succ_of_le (Nat.le_max_left _ _), Nat.le_add_right _ _, fun h => h.1⟩
theorem pure_condition {K : PySem.W.Frag} {w : World} (vs : List V) (H : Hp) (Q : VK) (E : XK) (h : spCond vs H Q E) :
    t_law_condition K w spTake (spPB 1 20) (spDeep 60) (Ends.mk (fun _ H' => Q .non H') Q (fun _ _ => False) (fun _ _ => False)) (start ["_law_box", "_law_most", "_law_things", "_law_part_here"] vs) H := by
  obtain ⟨b, l, ns, s, mx, rfl, x, m1, m20, q⟩ := h
  unfold t_law_condition
  tm_at "j"
  rename_i p1 H1 n1 g1 e1 p2 H2 n2 g2 e2 p3 H3 n3 g3 e3 p4 H4 n4 g4 e4
  have x1 := x.same g1
  have x2 := x1.same g2
  have x3 := x2.same g3
  have x4 := x3.same g4
  refine ⟨b, l, ns, s, 3, rfl, x4, by decide, by decide, fun r ns5 s5 H5 f5 x5 r0 r1 => ?_⟩
  have e15 := f5.at (ne_of_none x.hb n1).symm (ne_of_none x.hl n1).symm (g4 _ _ (g3 _ _ (g2 _ _ e1)))
  have e25 := f5.at (ne_of_none x1.hb n2).symm (ne_of_none x1.hl n2).symm (g4 _ _ (g3 _ _ e2))
  have e35 := f5.at (ne_of_none x2.hb n3).symm (ne_of_none x2.hl n3).symm (g4 _ _ e3)
  have e45 := f5.at (ne_of_none x3.hb n4).symm (ne_of_none x3.hl n4).symm e4
  obtain ⟨t, ts, hat, ht, t0, t8, ti⟩ := things_at e15 e25 e35 r0 r1
  have tb : t ≠ b := by
    intro z
    subst z
    rw [x5.hb] at ht
    match ts, ht with
    | [], h => cases h
    | _ :: _, h => cases h
  have tl : t ≠ l := by
    intro z
    rcases (show t = p1 ∨ t = p2 ∨ t = p3 from by
      obtain rfl | rfl | rfl : r = 0 ∨ r = 1 ∨ r = 2 := by omega
      · exact Or.inl (V.ref.inj (Option.some.inj hat)).symm
      · exact Or.inr (Or.inl (V.ref.inj (Option.some.inj hat)).symm)
      · exact Or.inr (Or.inr (V.ref.inj (Option.some.inj hat)).symm)) with y | y | y
    · exact ne_of_none x.hl n1 (z.symm.trans y)
    · exact ne_of_none x1.hl n2 (z.symm.trans y)
    · exact ne_of_none x2.hl n3 (z.symm.trans y)
  have f05 : Fr b l H H5 := (Fr.of (((g1.trans g2).trans g3).trans g4)).trans f5
  refine l_ixL (by tm_at "hp") hat ?_
  tm_at "j"
  refine ⟨b, l, ns5, s5, _, rfl, x5, by omega, by omega, fun r2 ns6 s6 H6 f6 x6 r20 r21 => ?_⟩
  tm_at "j"
  refine ⟨b, l, ns6, s6, (1 + r2).toNat, t, ts, ?_, x6, by omega, by omega, by decide, tb, tl, f6.at tb tl ht, t0, t8, ti, fun v c ns7 s7 H7 f7 x7 hc ho hk hd => ?_⟩
  · rw [show (((1 + r2).toNat : Nat) : Int) = 1 + r2 by omega]
  have f07 := (f05.trans f6).trans f7
  tm_at "j"
  refine l_whileN (fun m σ' H' => ∃ v c, Same H7 H' ∧ σ' = [some (.ref b), some (.int (mx : Int)), some (.ref t), some v] ∧ CA H' v c ∧ c.ok ∧ c.looks ≤ mx ∧ c.deep ≤ 40 ∧ c.deep = m) c.deep ⟨v, c, Same.refl _, rfl, hc, ho, by omega, by omega, rfl⟩ ?_
  rintro m σ' H' ⟨v, c, g7, rfl, hc, ho, hk, hd, rfl⟩
  tm_at "j"
  refine ⟨v, c, rfl, hc, by omega, by decide, fun H8 g8 => ?_⟩
  tm_at "j"
  refine wb (fun e => ?_) (fun e => ?_)
  · have h10 := of_decide_eq_true e
    obtain ⟨p, xs, v1, c1, rfl, ep, ev1, hc1, hd1, hk1, ho1⟩ := down hc (by omega)
    tm_at "j"
    refine l_ixT (by tm_at "hp") ev1 ?_
    tm_at "j"
    exact ⟨c1.deep, hd1, v1, c1, by tm_at "hp", rfl, by tm_at "hp", ho1 ho, by omega, by omega, rfl⟩
  · have h10 := of_decide_eq_false e
    tm_at "j"
    have g78 := g7.trans g8
    exact q _ c ns7 s7 _ (f07.trans (Fr.of g78)) (x7.same g78) (hc.mono g8) ho hk (by omega)

/-! k11: texts that may be none -/
/-- the place of the first sign that can't stand there -/
def fstM : Bool → Nat → Nat → List Nat → Option Nat
  | due, k, p, [] => if (!due && decide (k = 0)) = true then none else some p
  | due, k, p, x :: r => if stand due k x = true then fstM (decide (x ∈ ahead)) (depth k x) (p + 1) r else some p
theorem fst_nil {due : Bool} {k p : Nat} : fstM due k p [] = if (!due && decide (k = 0)) = true then none else some p := rfl
theorem fst_cons {due : Bool} {k p x : Nat} {r : List Nat} : fstM due k p (x :: r) = if stand due k x = true then fstM (decide (x ∈ ahead)) (depth k x) (p + 1) r else some p := rfl
theorem fst_chk : ∀ (l : List Nat) (due : Bool) (k p : Nat), fstM due k p l = none ↔ chkM due k l = true
  | [], due, k, p => by
    show (if (!due && decide (k = 0)) = true then none else some p) = none ↔ (!due && decide (k = 0)) = true
    split
    · rename_i h; simp [h]
    · rename_i h; simp [h]
  | x :: r, due, k, p => by
    show (if stand due k x = true then fstM (decide (x ∈ ahead)) (depth k x) (p + 1) r else some p) = none ↔ (stand due k x && chkM (decide (x ∈ ahead)) (depth k x) r) = true
    cases h : stand due k x with
    | true => rw [if_pos rfl, Bool.true_and]; exact fst_chk r _ _ _
    | false => rw [if_neg Bool.false_ne_true, Bool.false_and]; simp
theorem fst_le : ∀ (l : List Nat) (due : Bool) (k p q : Nat), fstM due k p l = some q → q ≤ p + l.length
  | [], due, k, p, q, h => by
    have h : (if (!due && decide (k = 0)) = true then none else some p) = some q := h
    split at h
    · cases h
    · obtain rfl := Option.some.inj h
      exact Nat.le_refl _
  | x :: r, due, k, p, q, h => by
    have h : (if stand due k x = true then fstM (decide (x ∈ ahead)) (depth k x) (p + 1) r else some p) = some q := h
    split at h
    · have := fst_le r _ _ _ _ h
      rw [List.length_cons]
      omega
    · obtain rfl := Option.some.inj h
      omega
def spStandG : Sp := fun vs H Q _ => ∃ x k : Nat, ∃ due : Bool, vs = [.str (S [x]), .bl due, .int (k : Int)] ∧ ∀ H', Same H H' → Q (.bl (stand due k x)) H'
theorem pure_standG {K : PySem.W.Frag} {w : World} {aW : Addr} (ia : KHas K w aW "&" true) (io : KHas K w aW "|" true) (no : ∀ z : Str, (∀ x ∈ [("&" : Str), ("|" : Str)], x ≠ z) → KHas K w aW z false) (vs : List V) (H : Hp) (Q : VK) (E : XK) (h : spStandG vs H Q E) :
    t_may_stand K w aW (Ends.mk (fun _ H' => Q .non H') Q (fun _ _ => False) (fun _ _ => False)) (start ["sign", "due", "unclosed"] vs) H := by
  obtain ⟨x, k, due, rfl, q⟩ := h
  unfold t_may_stand
  cases due
  · tm_at "j"
    rw [s41, sign_is]
    have q := q _ (Same.refl _)
    unfold stand at q
    rw [if_neg Bool.false_ne_true] at q
    by_cases h41 : x = 41
    · rw [if_pos h41] at q
      rw [decide_eq_true h41]
      tm_at "j"
      rw [show decide ((0 : Int) < (k : Int)) = decide (0 < k) from decide_eq_decide.mpr (by omega)]
      exact q
    · rw [if_neg h41] at q
      rw [decide_eq_false h41]
      tm_at "j"
      by_cases h38 : x = 38
      · subst h38
        exact l_inKD (b := true) (by rw [← s38]; exact ia) q
      · by_cases h124 : x = 124
        · subst h124
          exact l_inKD (b := true) (by rw [← s124]; exact io) q
        · rw [decide_eq_false (show ¬ (x = 38 ∨ x = 124) by omega)] at q
          have inj : ∀ y, S [y] = S [x] → y = x := fun y e => by
            have e2 : #[y] = #[x] := congrArg Str.cps e
            have e3 : [y] = [x] := congrArg Array.toList e2
            exact List.head_eq_of_cons_eq e3
          refine l_inKD (b := false) (no _ fun z hz e => ?_) q
          rcases List.mem_cons.mp hz with rfl | hz
          · rw [s38] at e; exact h38 (inj _ e).symm
          · obtain rfl := List.mem_singleton.mp hz
            rw [s124] at e; exact h124 (inj _ e).symm
  · tm_at "j"
    refine l_inSign (l := begs) (by decide +kernel) ?_
    exact q _ (Same.refl _)
def spSignsX (C : Addr) : Sp := fun vs H Q E => ∃ l : List Nat, vs = [.str (S l)] ∧ l.length ≤ 5000 ∧ (fstM true 0 0 l = none → ∀ H', Same H H' → Q .non H') ∧
  ∀ p : Nat, fstM true 0 0 l = some p → ∀ d H', H d = none → Same H H' → H' d = some (.xd [("place", .int (p : Int))]) → E (.ref C) (some d) H'
theorem pure_signsx {K : PySem.W.Frag} {w : World} {C : Addr} (vs : List V) (H : Hp) (Q : VK) (E : XK) (h : spSignsX C vs H Q E) :
    t_check_signsx K w C spStandG E (Ends.mk (fun _ H' => Q .non H') Q (fun _ _ => False) (fun _ _ => False)) (start ["text", "due", "unclosed", "place", "sign"] vs) H := by
  obtain ⟨l, rfl, hl, q, x⟩ := h
  have small : ∀ k : Nat, k ≤ 5000 → (k : Int).natAbs < 10 ^ 40 := fun k hk => Nat.lt_of_le_of_lt (show (k : Int).natAbs ≤ 5000 by omega) (by decide)
  unfold t_check_signsx
  tm_at "j"
  unfold t_check_signsx_1
  refine l_for (l_iES ?_)
  tm_at "j"
  refine forES (fun i σ' H' => ∃ due k o3 o4, σ' = [some (.str (S l)), some (.bl due), some (.int ((k : Nat) : Int)), o3, o4] ∧ Same H H' ∧ fstM true 0 0 l = fstM due k i (l.drop i)) ⟨true, 0, _, _, rfl, Same.refl _, rfl⟩ ?_ ?_
  · rintro i c T σ' H' H'' hx ⟨due, k, o3, o4, rfl, g, hk⟩ g2 eT
    have hi := (List.getElem?_eq_some_iff.mp hx).1
    have hx' : l[i]'hi = c := by
      rw [List.getElem?_eq_getElem hi] at hx
      exact Option.some.inj hx
    rw [List.drop_eq_getElem_cons hi, hx', fst_cons] at hk
    tm_at "j"
    refine ⟨c, k, due, rfl, fun H3 g3 => ?_⟩
    have g03 := (g.trans g2).trans g3
    cases hs : stand due k c with
    | false =>
      rw [hs, if_neg Bool.false_ne_true] at hk
      tm_at "j"
      refine l_raiseP ?_
      tm_at "j"
      refine rp (small i (by omega)) fun d H4 hd g4 e4 => ?_
      exact x i hk d H4 (g03.free hd) (g03.trans g4) e4
    | true =>
    rw [hs, if_pos rfl] at hk
    tm_at "j"
    rw [s40, sign_is]
    by_cases h40 : c = 40
    · subst h40
      rw [decide_eq_true rfl]
      tm_at "j"
      refine l_inSign (l := ahead) (by decide +kernel) ?_
      tm_at "j"
      exact ⟨_, k + 1, _, _, rfl, g03, hk⟩
    · rw [decide_eq_false h40]
      tm_at "j"
      rw [s41, sign_is]
      by_cases h41 : c = 41
      · subst h41
        rw [decide_eq_true rfl]
        have hk0 : 0 < k := by
          cases due
          · exact of_decide_eq_true hs
          · exact absurd (show decide (41 ∈ begs) = true from hs) (by decide)
        tm_at "j"
        refine l_inSign (l := ahead) (by decide +kernel) ?_
        tm_at "j"
        rw [show ((k : Int) - 1) = ((k - 1 : Nat) : Int) by omega]
        exact ⟨_, k - 1, _, _, rfl, g03, hk⟩
      · rw [decide_eq_false h41]
        tm_at "j"
        refine l_inSign (l := ahead) (by decide +kernel) ?_
        tm_at "j"
        refine ⟨_, k, _, _, rfl, g03, ?_⟩
        have : depth k c = k := by unfold depth; rw [if_neg h40, if_neg h41]
        rw [this] at hk
        exact hk
  · rintro σ' H' ⟨due, k, o3, o4, rfl, g, hk⟩
    rw [List.drop_length, fst_nil] at hk
    have out : (!due && decide (k = 0)) = false → tRaiseP C E (tCons (tCB rLenStr (tCons (tVar 0) tNil)) tNil) (Ends.mk (fun _ H' => Q .non H') Q (fun _ _ => False) (fun _ _ => False)) [some (.str (S l)), some (.bl due), some (.int (k : Int)), o3, o4] H' := fun z => by
      rw [z, if_neg Bool.false_ne_true] at hk
      refine l_raiseP ?_
      tm_at "j"
      refine ⟨S l, rfl, Nat.le_trans hl (by decide), ?_⟩
      tm_at "j"
      rw [show (S l).length = l.length from rfl]
      refine rp (small _ hl) fun d H4 hd g4 e4 => ?_
      exact x _ hk d H4 (g.free hd) (g.trans g4) e4
    cases due
    · tm_at "j"
      refine i_b (fun e => ?_) (fun e => ?_)
      · exact out (by rw [decide_eq_false (show ¬ k = 0 by have := of_decide_eq_true e; omega)]; rfl)
      · have hk0 : k = 0 := by have := of_decide_eq_false e; omega
        subst hk0
        tm_at "j"
        exact q hk _ g
    · tm_at "j"
      exact out rfl
/-- of each text: the place, or what is read -/
def spReadY (CT CB : Addr) : Sp := fun vs H Q E => ∃ l : List Nat, vs = [.str (S l)] ∧ l.length ≤ 5000 ∧ (∀ p : Nat, fstM true 0 0 l = some p → ∀ d H', H d = none → Same H H' → H' d = some (.xd [("place", .int (p : Int))]) → E (.ref CT) (some d) H') ∧
  (fstM true 0 0 l = none → ∃ c, readL l = some ([c], []) ∧ c.ok ∧ (c.deep ≤ 10 → c.looks ≤ 12 → ∀ v H', Same H H' → CA H' v c → Q v H') ∧ (¬ (c.deep ≤ 10 ∧ c.looks ≤ 12) → ∀ H', Same H H' → E (.ref CB) none H'))
theorem pure_ready {K : PySem.W.Frag} {w : World} {CT CB : Addr} (vs : List V) (H : Hp) (Q : VK) (E : XK) (h : spReadY CT CB vs H Q E) :
    t_ready K w (spSignsX CT) spCondOf (spCheckX CB) E (Ends.mk (fun _ H' => Q .non H') Q (fun _ _ => False) (fun _ _ => False)) (start ["text", "condition"] vs) H := by
  obtain ⟨l, rfl, hl, x, q⟩ := h
  unfold t_ready
  tm_at "j"
  refine ⟨l, rfl, hl, fun hn H1 g1 => ?_, x⟩
  obtain ⟨c, hr, ho, q, xb⟩ := q hn
  tm_at "j"
  refine ⟨l, c, rfl, by omega, hr, fun v H2 g2 hc => ?_⟩
  tm_at "j"
  refine ⟨v, c, rfl, hc, ho, fun hd hk H3 g3 => ?_, fun z H3 g3 => xb z _ ((g1.trans g2).trans g3)⟩
  tm_at "j"
  exact q hd hk _ _ ((g1.trans g2).trans g3) (hc.mono g3)
/-! k11: told -/
theorem l_xfv {a C d : Addr} {i : Nat} {f : Str} {fs : List (Str × V)} {v : V} {σ : St} {H : Hp} {Q : VK} (e : σ[i]? = some (some (.ref a))) (h1 : H d = some (.xd fs)) (h2 : fs.lookup f = some v) (q : Q v H) : tXf a (.ref C) (some d) C f (tVar i) σ H Q :=
  ⟨.ref a, e, rfl, rfl, d, fs, v, rfl, h1, h2, q⟩
def spTold11 (K : PySem.W.Frag) : Sp := fun vs H Q _ => ∃ l : List Nat, vs = [.str (S l)] ∧ l.length ≤ 5000 ∧ (∀ p : Nat, fstM true 0 0 l = some p → ∀ v' H', Same H H' → TD H' v' (.tuple [.str "BadText", .int (p : Int)]) → Q v' H') ∧
  (fstM true 0 0 l = none → ∃ c, readL l = some ([c], []) ∧ c.ok ∧ (c.deep ≤ 10 → c.looks ≤ 12 → ∀ v' H', Same H H' → TD H' v' (.tuple [.str "told", cdata c]) → Q v' H') ∧ (¬ (c.deep ≤ 10 ∧ c.looks ≤ 12) → ∀ v' H', Same H H' → TD H' v' (.tuple [.str "BadCondition", .int 0]) → Q v' H'))
theorem pure_told11 {K : PySem.W.Frag} {w : World} {CJ C0 C1 C2 C3 C4 C5 C6 CT : Addr} (te : PySem.W.exmOne K (.ref CT) (.ref CJ) = some true) (be : PySem.W.exmOne K (.ref C0) (.ref CJ) = some true) (WT : ExcW K CT) (WB : ExcW K C0) (hT : ClsAt K C0 C1 C2 C3 C4 C5 C6 CT CT 7) (hB : ClsAt K C0 C1 C2 C3 C4 C5 C6 CT C0 0) (vs : List V) (H : Hp) (Q : VK) (E : XK) (h : spTold11 K vs H Q E) :
    t_law_told K w CJ CT (spReadY CT C0) (spClass K C0 C1 C2 C3 C4 C5 C6 CT) (Ends.mk (fun _ H' => Q .non H') Q (fun _ _ => False) (fun _ _ => False)) (start ["_law_text_here", "_law_e", "_law_word"] vs) H := by
  obtain ⟨l, rfl, hl, x, q⟩ := h
  unfold t_law_told tTryA
  tm_at "j"
  refine l_callS ?_
  tm_at "j"
  refine ⟨l, rfl, hl, fun p hp d H1 hd g ed => ?_, fun hn => ?_⟩
  · refine ⟨true, te, fun _ a0 ha0 => ?_, fun e => Bool.noConfusion e⟩
    tm_at "j"
    refine l_callS ?_
    tm_at "j"
    refine ⟨CT, 7, rfl, WT, hT, rfl, fun dx e => ?_, fun H2 g2 => ?_⟩
    · obtain rfl := Option.some.inj e
      exact ⟨_, ed⟩
    tm_at "j"
    refine l_xfv rfl (g2 _ _ ed) (v := .int (p : Int)) rfl ?_
    tm_at "j"
    rename_i p3 H3 n3 g3 e3
    exact x p hp _ _ ((g.trans g2).trans g3) (.tup e3 (.cons (.str _) (.cons (.int _) .nil)))
  · obtain ⟨c, hr, ho, q, xb⟩ := q hn
    refine ⟨c, hr, ho, fun hd hk v H1 g1 hc => ?_, fun z H1 g1 => ?_⟩
    · tm_at "j"
      rename_i p3 H3 n3 g3 e3
      exact q hd hk _ _ (g1.trans g3) (.tup e3 (.cons (.str _) (.cons (hc.mono g3).td .nil)))
    · refine ⟨true, be, fun _ a0 ha0 => ?_, fun e => Bool.noConfusion e⟩
      tm_at "j"
      refine l_callS ?_
      tm_at "j"
      refine ⟨C0, 0, rfl, WB, hB, rfl, (fun dx e => by cases e), fun H2 g2 => ?_⟩
      tm_at "j"
      rename_i p3 H3 n3 g3 e3
      exact xb z _ _ ((g1.trans g2).trans g3) (.tup e3 (.cons (.str _) (.cons (.int _) .nil)))

/-! k11: the law's own going: signs that can't stand, parts, spoilt texts -/
def brD : List (Key × V) := [(Sum.inr "(", .int 1), (Sum.inr ")", .int (-1))]
theorem br_merge : mergeK [] brD = brD := by decide +kernel
def dlt (x : Nat) : Int := if x = 40 then 1 else if x = 41 then -1 else 0
theorem S_inj {x y : Nat} (e : S [x] = S [y]) : x = y := by
  have e2 : #[x] = #[y] := congrArg Str.cps e
  have e3 : [x] = [y] := congrArg Array.toList e2
  exact List.head_eq_of_cons_eq e3
theorem br_at (x : Nat) : (valV brD (Sum.inr (S [x]))).getD (.int 0) = .int (dlt x) := by
  unfold valV brD dlt
  by_cases h40 : x = 40
  · subst h40
    rw [if_pos rfl]
    decide +kernel
  · by_cases h41 : x = 41
    · subst h41
      decide +kernel
    · rw [if_neg h40, if_neg h41]
      have n1 : decide ((Sum.inr ("(" : Str) : Key) = Sum.inr (S [x])) = false := decide_eq_false fun e => h40 (S_inj (by rw [← s40]; exact (Sum.inr.inj e).symm))
      have n2 : decide ((Sum.inr (")" : Str) : Key) = Sum.inr (S [x])) = false := decide_eq_false fun e => h41 (S_inj (by rw [← s41]; exact (Sum.inr.inj e).symm))
      rw [List.find?_cons, n1, List.find?_cons, n2]
      rfl
/-- {"(": 1, ")": -1}.get(sign, 0) -/
theorem l_brGet {i x : Nat} {σ : St} {H : Hp} {Q : VK} (e : σ[i]? = some (some (.str (S [x])))) (q : ∀ H', Same H H' → Q (.int (dlt x)) H') :
    tDGet2 (tDisp [(tC (.str "("), tC (.int 1)), (tC (.str ")"), tUn (rU fun i => .int (-i)) (tC (.int 1)))]) (tVar i) (tC (.int 0)) σ H Q := by
  refine l_dget2 fun p hp => ?_
  refine ⟨1, rfl, upd_same, brD, rfl, by decide, ?_⟩
  rw [upd_upd, br_merge]
  have g : Same H (upd H p (.dK brD)) := sm_new hp _
  have ed : L2.Rd (upd H p (.dK brD)) p (.dK brD) := .inl upd_same
  refine ⟨p, rfl, .inl ⟨brD, ed⟩, .str (S [x]), e, ?_⟩
  refine ⟨valV brD (Sum.inr (S [x])), .inl ⟨brD, Sum.inr (S [x]), ed, rfl, rfl⟩, ?_⟩
  rw [br_at]
  exact q _ g
theorem in_sgs {x : Nat} (z : Str) : inV (.str (S [x])) ((sgs z).map V.str) = decide (x ∈ z.cps.toList) := by
  have key : ∀ cs : List Nat, ((cs.map fun c => (⟨#[c]⟩ : Str)).map V.str).any (fun y => eqV y (.str (S [x]))) = decide (x ∈ cs) := by
    intro cs
    induction cs with
    | nil => rfl
    | cons c cs ih =>
      rw [List.map_cons, List.map_cons, List.any_cons, ih]
      show ((S [c] == S [x]) || _) = _
      by_cases h : x = c
      · subst h
        rw [beq_self_eq_true, decide_eq_true List.mem_cons_self]; rfl
      · have n : (S [c] == S [x]) = false := by simpa using fun e => h (S_inj e).symm
        rw [n, Bool.false_or]
        exact decide_eq_decide.mpr ⟨fun m => List.mem_cons_of_mem _ m, fun m => (List.mem_cons.mp m).resolve_left h⟩
  exact key z.cps.toList
theorem in_two (x : Nat) : inV (.str (S [x])) [.str "&", .str "|"] = decide (x = 38 ∨ x = 124) := by
  show ((("&" : Str) == S [x]) || ((("|" : Str) == S [x]) || false)) = _
  rw [s38, s124]
  by_cases h1 : x = 38
  · subst h1; rfl
  · by_cases h2 : x = 124
    · subst h2; rfl
    · have n1 : (S [38] == S [x]) = false := by simpa using fun e => h1 (S_inj e).symm
      have n2 : (S [124] == S [x]) = false := by simpa using fun e => h2 (S_inj e).symm
      rw [n1, n2, decide_eq_false (show ¬ (x = 38 ∨ x = 124) by omega)]; rfl
theorem ne_empty (x : Nat) : (!decide (V.str (S [x]) = V.str "")) = true := by
  rw [decide_eq_false]; · rfl
  intro e
  have e1 : S [x] = ("" : Str) := V.str.inj e
  have e2 : (S [x]).length = ("" : Str).length := congrArg Str.length e1
  exact absurd (show (1 : Nat) = 0 from e2) (by decide)
def endS : List Nat := [97, 98, 99, 100, 101, 102, 103, 104, 41]
/-- behind a sign that may stand: whether one is due -/
theorem due_next {due : Bool} {k x : Nat} (h : stand due k x = true) : decide (x ∈ ahead) = !decide (x ∈ endS) := by
  have key : x ∈ begs ∨ x = 41 ∨ x = 38 ∨ x = 124 := by
    cases due with
    | true => exact .inl (of_decide_eq_true h)
    | false =>
      have h : (if x = 41 then decide (0 < k) else decide (x = 38 ∨ x = 124)) = true := h
      by_cases e : x = 41
      · exact .inr (.inl e)
      · rw [if_neg e] at h
        rcases of_decide_eq_true h with e | e
        · exact .inr (.inr (.inl e))
        · exact .inr (.inr (.inr e))
  rcases key with h | rfl | rfl | rfl
  · simp only [begs, List.mem_cons, List.mem_nil_iff, or_false] at h
    rcases h with rfl | rfl | rfl | rfl | rfl | rfl | rfl | rfl | rfl | rfl <;> rfl
  all_goals rfl
theorem depth_dlt {due : Bool} {k x : Nat} (h : stand due k x = true) : (k : Int) + dlt x = ((depth k x : Nat) : Int) := by
  unfold dlt depth
  by_cases h40 : x = 40
  · rw [if_pos h40, if_pos h40]; omega
  · rw [if_neg h40, if_neg h40]
    by_cases h41 : x = 41
    · subst h41
      rw [if_pos rfl, if_pos rfl]
      have : 0 < k := by
        cases due with
        | true => exact absurd (show decide (41 ∈ begs) = true from h) (by decide)
        | false => exact of_decide_eq_true h
      omega
    · rw [if_neg h41, if_neg h41]; omega
def fstV : Option Nat → V
  | some k => .int (k : Int)
  | none => .non
def AhV (av : V) (due : Bool) : Prop := (av = .str "" ∧ due = true) ∨ ∃ y, av = .str (S [y]) ∧ due = !decide (y ∈ endS)
def spFirstL : Sp := fun vs H Q _ => ∃ l : List Nat, vs = [.str (S l)] ∧ l.length ≤ 5000 ∧ ∀ H', Same H H' → Q (fstV (fstM true 0 0 l)) H'
theorem pure_firstL {K : PySem.W.Frag} {w : World} (vs : List V) (H : Hp) (Q : VK) (E : XK) (h : spFirstL vs H Q E) :
    t_law_first K w (Ends.mk (fun _ H' => Q .non H') Q (fun _ _ => False) (fun _ _ => False)) (start ["_law_text_here", "_law_deep_here", "_law_ahead", "_law_place", "_law_sign", "_law_good"] vs) H := by
  obtain ⟨l, rfl, hl, q⟩ := h
  unfold t_law_first
  tm_at "j"
  refine ⟨S l, rfl, Nat.le_trans hl (by decide), ?_⟩
  tm_at "j"
  rw [show (S l).length = l.length from rfl]
  refine forR (n := l.length) (by omega) (fun i σ' H' => ∃ due k av o3 o4 o5, σ' = [some (.str (S l)), some (.int ((k : Nat) : Int)), some av, o3, o4, o5] ∧ AhV av due ∧ Same H H' ∧ fstM true 0 0 l = fstM due k i (l.drop i)) ⟨true, 0, _, _, _, _, rfl, .inl ⟨rfl, rfl⟩, Same.refl _, rfl⟩ ?_ ?_
  · rintro i σ' H' hi ⟨due, k, av, o3, o4, o5, rfl, hav, g, hk⟩
    rw [Int.zero_add]
    have hx : l[i]? = some (l[i]'hi) := List.getElem?_eq_getElem hi
    generalize hxx : l[i]'hi = x at hx
    rw [List.drop_eq_getElem_cons hi, hxx, fst_cons] at hk
    tm_at "j"
    refine l_ixS (by omega) hx ?_
    tm_at "j"
    have fin : ∀ (bk : St → Hp → Prop) H1, Same H' H1 → ∀ b, b = stand due k x → tSeq (tIfS (tNot (tB (tVar 5))) (tRet (tVar 3)) (tNext))
        (tSeq (tAsg (tOp (rI0 fun i j => .int (i + j)) (tVar 1) (tDGet2 (tDisp [(tC (.str "("), tC (.int 1)), (tC (.str ")"), tUn (rU fun i => .int (-i)) (tC (.int 1)))]) (tVar 4) (tC (.int 0)))) (gName 1))
        (tAsg (tVar 4) (gName 2)))
        (Ends.mk (fun σ' H' => ∃ due k av o3 o4 o5, σ' = [some (.str (S l)), some (.int ((k : Nat) : Int)), some av, o3, o4, o5] ∧ AhV av due ∧ Same H H' ∧ fstM true 0 0 l = fstM due k (i + 1) (l.drop (i + 1))) Q bk (fun σ' H' => ∃ due k av o3 o4 o5, σ' = [some (.str (S l)), some (.int ((k : Nat) : Int)), some av, o3, o4, o5] ∧ AhV av due ∧ Same H H' ∧ fstM true 0 0 l = fstM due k (i + 1) (l.drop (i + 1))))
        [some (.str (S l)), some (.int (k : Int)), some av, some (.int (i : Int)), some (.str (S [x])), some (.bl b)] H1 := fun bk H1 g1 b eb => by
      subst eb
      cases hs : stand due k x with
      | false =>
        rw [hs, if_neg Bool.false_ne_true] at hk
        have := q _ (g.trans g1)
        rw [hk] at this
        tm_at "j"
        exact this
      | true =>
        rw [hs, if_pos rfl] at hk
        tm_at "j"
        refine l_brGet rfl fun H2 g2 => ?_
        refine l_I0 ?_
        rw [depth_dlt hs]
        tm_at "j"
        exact ⟨_, _, _, _, _, _, rfl, .inr ⟨x, rfl, due_next hs⟩, (g.trans g1).trans g2, hk⟩
    have isdue : due = true → ∀ Qv : VK, (∀ H1, Same H' H1 → Qv (.bl (stand due k x)) H1) → rListS [.str "abcdefgh!("] H' (fun y H2 => rIn K false (.str (S [x])) y H2 Qv) := fun ed Qv hq => by
      refine l_listS (by decide) fun p2 H2 n2 g2 e2 => ?_
      refine ⟨p2, _, rfl, .inl (SqL.of e2), rfl, ?_, ?_⟩
      · rw [List.all_map]
        exact List.all_eq_true.mpr fun _ _ => rfl
      · rw [in_sgs]
        have := hq _ g2
        subst ed
        exact this
    rcases hav with ⟨rfl, ed⟩ | ⟨y, rfl, ed⟩
    · tm_at "j"
      refine isdue ed _ fun H1 g1 => ?_
      exact l_name (fin _ H1 g1 _ rfl)
    · tm_at "j"
      refine l_inSign (l := endS) (by decide +kernel) ?_
      cases hy : decide (y ∈ endS) with
      | false =>
        rw [hy] at ed
        tm_at "j"
        refine isdue ed _ fun H1 g1 => ?_
        exact l_name (fin _ H1 g1 _ rfl)
      | true =>
        rw [hy] at ed
        have ed : due = false := ed
        subst ed
        tm_at "j"
        rename_i p2 H2 n2 g2 e2
        rw [if_neg Bool.false_ne_true, in_two]
        have es : stand false k x = if x = 41 then decide (0 < k) else decide (x = 38 ∨ x = 124) := rfl
        by_cases h41 : x = 41
        · subst h41
          refine i_f rfl ?_
          refine l_andV (l_op (l_var rfl (l_c (l_eq rfl ?_))))
          refine l_bl (i_t (by decide +kernel) ?_)
          refine l_op (l_var rfl (l_c (l_I0 (l_name ?_))))
          refine fin _ H2 g2 _ ?_
          rw [es, if_pos rfl]
          exact decide_eq_decide.mpr (by omega)
        · rw [if_neg h41] at es
          refine i_b (fun e => ?_) (fun e => ?_)
          · exact l_name (fin _ H2 g2 _ (by rw [es, e]))
          · refine l_andV (l_op (l_var rfl (l_c (l_eq rfl ?_))))
            rw [s41, sign_is, decide_eq_false h41]
            refine l_bl (i_f rfl (l_name ?_))
            exact fin _ H2 g2 _ (by rw [es, e])
  · rintro σ' H' ⟨due, k, av, o3, o4, o5, rfl, hav, g, hk⟩
    rw [List.drop_length, fst_nil] at hk
    have q := q _ g
    rw [hk] at q
    have out : (!due && decide (k = 0)) = false → rLenStr [.str (S l)] H' Q := fun z => by
      rw [z, if_neg Bool.false_ne_true] at q
      exact ⟨S l, rfl, Nat.le_trans hl (by decide), q⟩
    rcases hav with ⟨rfl, rfl⟩ | ⟨y, rfl, rfl⟩
    · tm_at "j"
      refine ⟨S l, rfl, Nat.le_trans hl (by decide), ?_⟩
      exact q
    · tm_at "j"
      refine l_inSign (l := endS) (by decide +kernel) ?_
      cases hy : decide (y ∈ endS) with
      | false =>
        rw [hy] at out
        tm_at "j"
        exact out rfl
      | true =>
        rw [hy] at out q
        tm_at "j"
        refine i_b (fun e => ?_) (fun e => ?_)
        · have hk0 : k = 0 := by have := V.int.inj (of_decide_eq_true e); omega
          subst hk0
          tm_at "j"
          exact q
        · have hk0 : ¬ k = 0 := fun z => by subst z; cases e
          tm_at "j"
          exact out (by rw [decide_eq_false hk0]; rfl)
def cutM (x : Nat) : Int → List Nat → List Nat → List (List Nat)
  | _, cur, [] => [cur]
  | d, cur, y :: r => if y = x ∧ d + dlt y = 0 then cur :: cutM x (d + dlt y) [] r else cutM x (d + dlt y) (cur ++ [y]) r
theorem cut_nil {x : Nat} {d : Int} {cur : List Nat} : cutM x d cur [] = [cur] := rfl
theorem cut_cons {x y : Nat} {d : Int} {cur r : List Nat} : cutM x d cur (y :: r) = if y = x ∧ d + dlt y = 0 then cur :: cutM x (d + dlt y) [] r else cutM x (d + dlt y) (cur ++ [y]) r := rfl
def sS (t : List Nat) : V := .str (S t)
theorem at_last {xs : List V} {v : V} : atI (xs ++ [v]) (-1) = some v := by
  have h : ixN (xs ++ [v]).length (-1) = some xs.length := by
    unfold ixN
    rw [List.length_append, List.length_singleton]
    simp
    omega
  unfold atI
  rw [h]
  show (xs ++ [v])[xs.length]? = some v
  rw [List.getElem?_append_right (Nat.le_refl _), Nat.sub_self]; rfl
theorem ix_last {n : Nat} : ixN (n + 1) (-1) = some n := by
  unfold ixN
  simp
  omega
theorem set_last {xs : List V} {v y : V} : (xs ++ [v]).set xs.length y = xs ++ [y] := by
  rw [List.set_append_right _ _ (Nat.le_refl _), Nat.sub_self]; rfl
theorem S_nil : ("" : Str) = S [] := rfl
def spPartsL : Sp := fun vs H Q _ => ∃ l : List Nat, ∃ x : Nat, vs = [.str (S l), .str (S [x])] ∧ l.length ≤ 5000 ∧ ∀ p H', Same H H' → H' p = some (.lst ((cutM x 0 [] l).map sS)) → Q (.ref p) H'
theorem pure_partsL {K : PySem.W.Frag} {w : World} (vs : List V) (H : Hp) (Q : VK) (E : XK) (h : spPartsL vs H Q E) :
    t_law_parts K w (Ends.mk (fun _ H' => Q .non H') Q (fun _ _ => False) (fun _ _ => False)) (start ["_law_text_here", "_law_sign", "_law_found", "_law_deep_here", "_law_one"] vs) H := by
  obtain ⟨l, x, rfl, hl, q⟩ := h
  unfold t_law_parts
  tm_at "j"
  rename_i f H1 n1 g1 e1
  refine l_for (l_iS ?_)
  tm_at "j"
  refine forS (fun i σ' H' => ∃ (d : Int) (don : List (List Nat)) (cur : List Nat) (o4 : Option V), σ' = [some (.str (S l)), some (.str (S [x])), some (.ref f), some (.int d), o4] ∧ Same H H' ∧ H' f = some (.lst ((don ++ [cur]).map sS)) ∧ don ++ cutM x d cur (l.drop i) = cutM x 0 [] l ∧ don.length + cur.length ≤ i) ⟨0, [], [], none, rfl, g1, e1, rfl, Nat.le_refl _⟩ ?_ ?_
  · rintro i c σ' H' hx ⟨d, don, cur, o4, rfl, g, ef, hk, hz⟩
    have hi := (List.getElem?_eq_some_iff.mp hx).1
    have hx' : l[i]'hi = c := by
      rw [List.getElem?_eq_getElem hi] at hx
      exact Option.some.inj hx
    rw [List.drop_eq_getElem_cons hi, hx', cut_cons] at hk
    refine l_name ?_
    refine l_seq (l_asg (l_op (l_var rfl ?_)))
    refine l_brGet rfl fun H2 g2 => ?_
    refine l_I0 (l_name ?_)
    have ef2 := g2 _ _ ef
    refine l_ifS (l_and (l_test (l_op (l_var rfl (l_var rfl (l_eq rfl ?_))))))
    rw [sign_is]
    have els : ∀ bk, ¬ (c = x ∧ d + dlt c = 0) → tAsg (tOp (rAddStr) (tOp (rIxL K) (tVar 2) (tUn (rU fun i => .int (-i)) (tC (.int 1)))) (tVar 4)) (gSub (tVar 2) (tUn (rU fun i => .int (-i)) (tC (.int 1))) rSetL)
        (Ends.mk (fun σ' H' => ∃ (d : Int) (don : List (List Nat)) (cur : List Nat) (o4 : Option V), σ' = [some (.str (S l)), some (.str (S [x])), some (.ref f), some (.int d), o4] ∧ Same H H' ∧ H' f = some (.lst ((don ++ [cur]).map sS)) ∧ don ++ cutM x d cur (l.drop (i + 1)) = cutM x 0 [] l ∧ don.length + cur.length ≤ i + 1) Q bk
          (fun σ' H' => ∃ (d : Int) (don : List (List Nat)) (cur : List Nat) (o4 : Option V), σ' = [some (.str (S l)), some (.str (S [x])), some (.ref f), some (.int d), o4] ∧ Same H H' ∧ H' f = some (.lst ((don ++ [cur]).map sS)) ∧ don ++ cutM x d cur (l.drop (i + 1)) = cutM x 0 [] l ∧ don.length + cur.length ≤ i + 1))
        [some (.str (S l)), some (.str (S [x])), some (.ref f), some (.int (d + dlt c)), some (.str (S [c]))] H2 := fun bk z => by
      rw [if_neg z] at hk
      have ef2 : H2 f = some (.lst (don.map sS ++ [sS cur])) := by rw [ef2, List.map_append]; rfl
      tm_at "j"
      refine l_ixL (SqL.of ef2) at_last ?_
      tm_at "j"
      refine l_addS (by show cur.length + 1 ≤ _; omega) ?_
      tm_at "j"
      have hlen : (don.map sS ++ [sS cur]).length = (don.map sS).length + 1 := by rw [List.length_append]; rfl
      refine l_setL' (K := K) ef2 (by rw [hlen]; exact ix_last) fun H3 g3 e3 => ?_
      rw [set_last] at e3
      tm_at "j"
      refine ⟨_, don, cur ++ [c], _, rfl, sm_but (g.trans g2) g3 n1, by rw [e3, List.map_append]; rfl, hk, by rw [List.length_append]; show don.length + (cur.length + 1) ≤ _; omega⟩
    refine l_bl ?_
    by_cases hc : c = x
    · subst hc
      rw [decide_eq_true rfl]
      refine i_t rfl (l_test (l_op (l_var rfl (l_c (l_eq rfl ?_)))))
      by_cases hd : d + dlt c = 0
      · rw [if_pos ⟨rfl, hd⟩] at hk
        refine l_bl ?_
        rw [decide_eq_true (congrArg V.int hd)]
        refine i_t rfl ?_
        tm_at "j"
        refine l_append' ef2 (by rw [List.length_map, List.length_append]; show _ + 1 < _; omega) fun H3 g3 e3 => ?_
        refine ⟨_, don ++ [cur], [], _, rfl, sm_but (g.trans g2) g3 n1, by rw [e3, List.map_append (l₁ := don ++ [cur])]; rfl, ?_, by rw [List.length_append]; show don.length + 1 + 0 ≤ _; omega⟩
        rw [← hk, List.append_assoc]; rfl
      · refine l_bl ?_
        rw [decide_eq_false fun e => hd (V.int.inj e)]
        exact i_f rfl (els _ fun z => hd z.2)
    · rw [decide_eq_false hc]
      exact i_f rfl (i_f rfl (els _ fun z => hc z.1))
  · rintro σ' H' ⟨d, don, cur, o4, rfl, g, ef, hk, hz⟩
    rw [List.drop_length, cut_nil] at hk
    tm_at "j"
    exact q _ _ g (by rw [ef, hk])
/-- a text's slices -/
theorem cutS_lo {l : List Nat} {i : Nat} (h : i ≤ l.length) : cutS (S l) (some (i : Int)) none = S (l.drop i) := by
  unfold cutS
  rw [HT.sIx_nat, HT.sIx_none, show (S l).length = l.length from rfl, Nat.min_eq_left h]
  show Str.mk ((l.drop i).take (l.length - i)).toArray = _
  rw [List.take_of_length_le (by rw [List.length_drop]; exact Nat.le_refl _)]
  rfl
theorem cutS_hi {l : List Nat} {j : Nat} (h : j ≤ l.length) : cutS (S l) none (some (j : Int)) = S (l.take j) := by
  unfold cutS
  rw [HT.sIx_nat, HT.sIx_none, show (S l).length = l.length from rfl, Nat.min_eq_left h]
  rfl
theorem cutS_lohi {l : List Nat} {i j : Nat} (h : i ≤ l.length) (h2 : j ≤ l.length) : cutS (S l) (some (i : Int)) (some (j : Int)) = S ((l.drop i).take (j - i)) := by
  unfold cutS
  rw [HT.sIx_nat, HT.sIx_nat, show (S l).length = l.length from rfl, Nat.min_eq_left h, Nat.min_eq_left h2]
  rfl
theorem l_slS {l : List Nat} {lo hi : Option Int} {H : Hp} {Q : VK} (hl : l.length ≤ 100000) {r : List Nat} (e : cutS (S l) lo hi = S r) (q : Q (.str (S r)) H) : rSlS (.str (S l)) lo hi H Q := ⟨S l, rfl, Nat.le_trans hl (by decide), by rw [e]; exact q⟩
theorem cutS_lo' (l : List Nat) (i : Nat) : cutS (S l) (some (i : Int)) none = S (l.drop i) := by
  by_cases h : i ≤ l.length
  · exact cutS_lo h
  · unfold cutS
    rw [HT.sIx_nat, HT.sIx_none, show (S l).length = l.length from rfl, Nat.min_eq_right (by omega)]
    show Str.mk ((l.drop l.length).take (l.length - l.length)).toArray = Str.mk (l.drop i).toArray
    rw [List.drop_length, List.drop_eq_nil_of_le (show l.length ≤ i by omega), List.take_nil]
theorem S_self (z : Str) : z = S z.cps.toList := by
  obtain ⟨c⟩ := z
  show Str.mk c = Str.mk c.toList.toArray
  rw [Array.toArray_toList]
def spSpoilt : Sp := fun vs H Q _ => ∃ b l ns s, ∃ t : List Nat, vs = [.ref b, .str (S t)] ∧ Bx H b l ns s ∧ t.length ≤ 5000 ∧ ∀ (u : List Nat) ns' s' H', Fr b l H H' → Bx H' b l ns' s' → u.length ≤ 2 * t.length + 2 → Q (.str (S u)) H'
theorem s_close_open : (")(" : Str) = S [41, 40] := by decide +kernel
theorem pure_spoilt {K : PySem.W.Frag} {w : World} (vs : List V) (H : Hp) (Q : VK) (E : XK) (h : spSpoilt vs H Q E) :
    t_law_spoilt K w spTake (Ends.mk (fun _ H' => Q .non H') Q (fun _ _ => False) (fun _ _ => False)) (start ["_law_box", "_law_text_here", "_law_deed", "_law_place", "_law_end", "_law_signs", "_law_sign"] vs) H := by
  obtain ⟨b, l, ns, s, t, rfl, x, ht, q⟩ := h
  have lS : (S t).length = t.length := rfl
  have ltS : (S t).length ≤ sizeLine := Nat.le_trans ht (by decide)
  unfold t_law_spoilt
  tm_at "j"
  refine ⟨b, l, ns, s, 6, rfl, x, by decide, by decide, fun dd ns1 s1 H1 f1 x1 d0 d1 => ?_⟩
  tm_at "j"
  refine ⟨S t, rfl, ltS, ?_⟩
  tm_at "j"
  rw [lS]
  refine ⟨b, l, ns1, s1, _, rfl, x1, by omega, by omega, fun pp ns2 s2 H2 f2 x2 p0 p1 => ?_⟩
  obtain ⟨p, rfl⟩ : ∃ k : Nat, pp = (k : Int) := ⟨pp.toNat, by omega⟩
  have hp : p ≤ t.length := by omega
  tm_at "j"
  refine ⟨S t, rfl, ltS, ?_⟩
  tm_at "j"
  rw [lS]
  refine ⟨b, l, ns2, s2, _, rfl, x2, by omega, by omega, fun ee ns3 s3 H3 f3 x3 e0 e1 => ?_⟩
  obtain ⟨e, he, hep, het⟩ : ∃ e : Nat, (p : Int) + ee = (e : Int) ∧ p ≤ e ∧ e ≤ t.length := ⟨((p : Int) + ee).toNat, by omega, by omega, by omega⟩
  refine l_I0 ?_
  rw [he]
  have f03 := (f1.trans f2).trans f3
  have c1 := cutS_hi (l := t) hp
  have c2 := cutS_lohi (l := t) hp het
  have c3 := cutS_lo (l := t) het
  have c4 := cutS_hi (l := t) het
  have c5 := cutS_lo (l := t) hp
  have sm : t.length ≤ 100000 := by omega
  tm_at "j"
  refine i_b (fun ed => ?_) (fun ed => ?_)
  · tm_at "j"
    refine l_slS sm c1 ?_
    rw [s40]
    tm_at "j"
    refine l_addS (by rw [List.length_take]; show _ + 1 ≤ _; omega) ?_
    tm_at "j"
    refine l_slS sm c2 ?_
    refine l_addS (by rw [List.length_append, List.length_take, List.length_take, List.length_drop]; show _ + 1 + _ ≤ _; omega) ?_
    rw [s41]
    tm_at "j"
    refine l_addS (by rw [List.length_append, List.length_append, List.length_take, List.length_take, List.length_drop]; show _ + 1 + _ + 1 ≤ _; omega) ?_
    tm_at "j"
    refine l_slS sm c3 ?_
    refine l_addS (by rw [List.length_append, List.length_append, List.length_append, List.length_take, List.length_take, List.length_drop, List.length_drop]; show _ + 1 + _ + 1 + _ ≤ _; omega) ?_
    refine q _ _ _ _ f03 x3 ?_
    rw [List.length_append, List.length_append, List.length_append, List.length_append, List.length_take, List.length_take, List.length_drop, List.length_drop]
    show _ + 1 + _ + 1 + _ ≤ _
    omega
  tm_at "j"
  refine i_b (fun ed1 => ?_) (fun ed1 => ?_)
  · tm_at "j"
    refine l_slS sm c4 ?_
    tm_at "j"
    refine l_slS sm c5 ?_
    refine l_addS (by rw [List.length_take, List.length_drop]; omega) ?_
    refine q _ _ _ _ f03 x3 ?_
    rw [List.length_append, List.length_take, List.length_drop]
    omega
  tm_at "j"
  generalize hz : (Str.ofString "ab&|!()h cdefgijklmnopqrstuvwxyz0123456789-+*/<>=~^?\x40[]{}_.,:;#$'`ABCDEFGHIJKLMNOPQRSTUVWXYZ") = z
  have z90 : 8 ≤ z.length ∧ z.length ≤ 100 := by subst hz; decide +kernel
  refine ⟨z, rfl, Nat.le_trans z90.2 (by decide), ?_⟩
  tm_at "j"
  rename_i p4 H4 n4 g4 e4
  refine ⟨b, l, ns3, s3, 2, rfl, x3.same g4, by decide, by decide, fun w0 ns5 s5 H5 f5 x5 w1 w2 => ?_⟩
  have e45 := f5 _ _ (ne_of_none x3.hb n4).symm (ne_of_none x3.hl n4).symm e4
  obtain ⟨m, hm, hm0, hm1⟩ : ∃ m : Nat, atI [V.int 8, V.int (z.length : Int)] w0 = some (.int (m : Int)) ∧ 0 < m ∧ m ≤ z.length := by
    obtain rfl | rfl : w0 = 0 ∨ w0 = 1 := by omega
    · exact ⟨8, rfl, by decide, z90.1⟩
    · exact ⟨z.length, rfl, by omega, Nat.le_refl _⟩
  refine l_ixL (SqL.of e45) hm ?_
  tm_at "j"
  refine ⟨b, l, ns5, s5, (m : Int), rfl, x5, by omega, by omega, fun kk ns6 s6 H6 f6 x6 k0 k1 => ?_⟩
  obtain ⟨k, rfl⟩ : ∃ k : Nat, kk = (k : Int) := ⟨kk.toNat, by omega⟩
  have lz : z.cps.toList.length = z.length := by rw [Array.length_toList]; rfl
  have hk : z.cps.toList[k]? = some (z.cps.toList[k]'(by omega)) := List.getElem?_eq_getElem _
  generalize z.cps.toList[k]'(by omega) = y at hk
  have ez := S_self z
  rw [ez]
  refine l_ixS (by omega) hk ?_
  tm_at "j"
  have f06 : Fr b l H H6 := ((f03.trans (Fr.of g4)).trans f5).trans f6
  refine l_slS sm c1 ?_
  have s2 : ("" : Str) = S [] := rfl
  rw [s2, s_close_open]
  tm_at "j"
  rename_i p7 H7 n7 g7 e7
  obtain ⟨u, hu, hul⟩ : ∃ u : List Nat, atI [V.str (S [y]), V.str (S [y]), V.str (S []), V.str (S [41, 40])] (dd - 2) = some (.str (S u)) ∧ u.length ≤ 2 := by
    have h1 : ¬ dd = 0 := fun z => by subst z; cases ed
    have h2 : ¬ dd = 1 := fun z => by subst z; cases ed1
    obtain rfl | rfl | rfl | rfl : dd = 2 ∨ dd = 3 ∨ dd = 4 ∨ dd = 5 := by omega
    · exact ⟨[y], rfl, by show 1 ≤ 2; decide⟩
    · exact ⟨[y], rfl, by show 1 ≤ 2; decide⟩
    · exact ⟨[], rfl, by show 0 ≤ 2; decide⟩
    · exact ⟨[41, 40], rfl, by show 2 ≤ 2; decide⟩
  refine l_ixL (SqL.of e7) hu ?_
  refine l_addS (by rw [List.length_take]; omega) ?_
  tm_at "j"
  obtain ⟨j, hj, hjp⟩ : ∃ j : Nat, (p : Int) + (if decide (2 < dd) = true then (1 : Int) else 0) = (j : Int) ∧ p ≤ j := by
    split
    · exact ⟨p + 1, by omega, by omega⟩
    · exact ⟨p, by omega, Nat.le_refl _⟩
  rw [hj]
  refine l_slS sm (cutS_lo' t j) ?_
  refine l_addS (by rw [List.length_append, List.length_take, List.length_drop]; omega) ?_
  refine q _ _ _ _ (f06.trans (Fr.of g7)) (x6.same g7) ?_
  rw [List.length_append, List.length_append, List.length_take, List.length_drop]
  omega

/-! _law_pairs, _law_looked, _law_exchanged -/
def spPairs (n : Nat) : Sp := fun vs H Q _ => ∃ v c, vs = [v] ∧ CA H v c ∧ c.deep < n ∧ ∀ H', Same H H' → Q (.int (c.pairs : Int)) H'
theorem pure_pairs {K : PySem.W.Frag} {w : World} {n : Nat} (vs : List V) (H : Hp) (Q : VK) (E : XK) (h : spPairs (n + 1) vs H Q E) :
    t_law_pairs K w (spPairs n) (Ends.mk (fun _ H' => Q .non H') Q (fun _ _ => False) (fun _ _ => False)) (start ["_law_part_here", "_law_one"] vs) H := by
  obtain ⟨v, c, rfl, hc, hn, q⟩ := h
  unfold t_law_pairs
  cases hc with
  | look e =>
    tm_at "j"
    exact q _ (Same.refl _)
  | not e hc =>
    rename_i v1 c1
    have hn1 : c1.deep + 1 < n + 1 := hn
    tm_at "j"
    refine lcT (xs := [v1]) (ys := [.int (c1.pairs : Int)]) (fun _ => rfl) (by tm_at "hp") (by tm_at "dec") ⟨rfl, ?_⟩ ?_
    · intro i x y H' Q' hx hy g k
      rcases i with _ | i
      · obtain rfl : v1 = x := Option.some.inj hx
        obtain rfl := Option.some.inj hy
        tm_at "j"
        exact ⟨v1, c1, rfl, by tm_at "hp", by omega, k⟩
      · cases hx
    · intro D H2 hD g e2
      tm_at "j"
      refine l_sum (ns := [(c1.pairs : Int)]) (by tm_at "hp") ?_
      tm_at "j"
      have e3 : (if (!decide (V.str "not" = V.str "not")) = true then (1 : Int) else 0) + [(c1.pairs : Int)].sum = ((c1.not.pairs : Nat) : Int) := by
        rw [decide_eq_true rfl]; simp [Cond.pairs]
      rw [e3]
      exact q _ (by tm_at "hp")
  | bin e h1 h2 =>
    rename_i a v1 v2 c1 c2
    have hn1 : max c1.deep c2.deep + 1 < n + 1 := hn
    have hw : decide (V.str (wd a) = V.str "not") = false := by cases a <;> decide +kernel
    have hl : decide (V.str (wd a) = V.str "look") = false := by cases a <;> decide +kernel
    tm_at "j"
    rw [hl]
    tm_at "j"
    rw [hw]
    tm_at "j"
    refine lcT (xs := [v1, v2]) (ys := [.int (c1.pairs : Int), .int (c2.pairs : Int)]) (fun _ => rfl) (by tm_at "hp") (by tm_at "dec") ⟨rfl, ?_⟩ ?_
    · intro i x y H' Q' hx hy g k
      rcases i with _ | _ | i
      · obtain rfl : v1 = x := Option.some.inj hx
        obtain rfl := Option.some.inj hy
        tm_at "j"
        exact ⟨v1, c1, rfl, by tm_at "hp", by omega, k⟩
      · obtain rfl : v2 = x := Option.some.inj hx
        obtain rfl := Option.some.inj hy
        tm_at "j"
        exact ⟨v2, c2, rfl, by tm_at "hp", by omega, k⟩
      · cases hx
    · intro D H2 hD g e2
      tm_at "j"
      refine l_sum (ns := [(c1.pairs : Int), (c2.pairs : Int)]) (by tm_at "hp") ?_
      tm_at "j"
      have e3 : (if (!false) = true then (1 : Int) else 0) + [(c1.pairs : Int), (c2.pairs : Int)].sum = (((Cond.bin a c1 c2).pairs : Nat) : Int) := by
        simp [Cond.pairs]; omega
      rw [e3]
      exact q _ (by tm_at "hp")
def spLooked (n : Nat) : Sp := fun vs H Q _ => ∃ v c, vs = [v] ∧ CA H v c ∧ c.deep < n ∧ ∀ H', Same H H' → Q (.int (c.looks : Int)) H'
theorem pure_looked {K : PySem.W.Frag} {w : World} {n : Nat} (vs : List V) (H : Hp) (Q : VK) (E : XK) (h : spLooked (n + 1) vs H Q E) :
    t_law_looked K w (spLooked n) (Ends.mk (fun _ H' => Q .non H') Q (fun _ _ => False) (fun _ _ => False)) (start ["_law_part_here", "_law_one"] vs) H := by
  obtain ⟨v, c, rfl, hc, hn, q⟩ := h
  unfold t_law_looked
  cases hc with
  | look e =>
    tm_at "j"
    exact q _ (Same.refl _)
  | not e hc =>
    rename_i v1 c1
    have hn1 : c1.deep + 1 < n + 1 := hn
    tm_at "j"
    refine lcT (xs := [v1]) (ys := [.int (c1.looks : Int)]) (fun _ => rfl) (by tm_at "hp") (by tm_at "dec") ⟨rfl, ?_⟩ ?_
    · intro i x y H' Q' hx hy g k
      rcases i with _ | i
      · obtain rfl : v1 = x := Option.some.inj hx
        obtain rfl := Option.some.inj hy
        tm_at "j"
        exact ⟨v1, c1, rfl, by tm_at "hp", by omega, k⟩
      · cases hx
    · intro D H2 hD g e2
      tm_at "j"
      refine l_sum (ns := [(c1.looks : Int)]) (by tm_at "hp") ?_
      rw [show [(c1.looks : Int)].sum = ((c1.not.looks : Nat) : Int) by simp [Cond.looks]]
      exact q _ (by tm_at "hp")
  | bin e h1 h2 =>
    rename_i a v1 v2 c1 c2
    have hn1 : max c1.deep c2.deep + 1 < n + 1 := hn
    have hl : decide (V.str (wd a) = V.str "look") = false := by cases a <;> decide +kernel
    tm_at "j"
    rw [hl]
    tm_at "j"
    refine lcT (xs := [v1, v2]) (ys := [.int (c1.looks : Int), .int (c2.looks : Int)]) (fun _ => rfl) (by tm_at "hp") (by tm_at "dec") ⟨rfl, ?_⟩ ?_
    · intro i x y H' Q' hx hy g k
      rcases i with _ | _ | i
      · obtain rfl : v1 = x := Option.some.inj hx
        obtain rfl := Option.some.inj hy
        tm_at "j"
        exact ⟨v1, c1, rfl, by tm_at "hp", by omega, k⟩
      · obtain rfl : v2 = x := Option.some.inj hx
        obtain rfl := Option.some.inj hy
        tm_at "j"
        exact ⟨v2, c2, rfl, by tm_at "hp", by omega, k⟩
      · cases hx
    · intro D H2 hD g e2
      tm_at "j"
      refine l_sum (ns := [(c1.looks : Int), (c2.looks : Int)]) (by tm_at "hp") ?_
      rw [show [(c1.looks : Int), (c2.looks : Int)].sum = (((Cond.bin a c1 c2).looks : Nat) : Int) by simp [Cond.looks]]
      exact q _ (by tm_at "hp")
/-- a condition with sides exchanged -/
def spExch (K : PySem.W.Frag) (n : Nat) : Sp := fun vs H Q _ => ∃ v c p, ∃ ts : List Bool, vs = [v, .ref p] ∧ CA H v c ∧ SqL K H p (ts.map vb) ∧ ts.length = c.pairs ∧ ts.length ≤ 1000 ∧ c.deep < n ∧ n ≤ 20 ∧ ∀ v' H', Same H H' → CA H' v' (exch c ts) → Q v' H'
theorem turn_at {ts : List Bool} (h : 0 < ts.length) : atI (ts.map vb) 0 = some (vb (ts.getD 0 false)) := by
  cases ts with
  | nil => exact absurd h (Nat.lt_irrefl 0)
  | cons b r => exact at0
theorem pure_exch {K : PySem.W.Frag} {w : World} {n : Nat} (vs : List V) (H : Hp) (Q : VK) (E : XK) (h : spExch K (n + 1) vs H Q E) :
    t_law_exchanged K w (spExch K n) (spPairs 30) (Ends.mk (fun _ H' => Q .non H') Q (fun _ _ => False) (fun _ _ => False)) (start ["_law_part_here", "_law_turns", "_law_here", "_law_one", "_law_other"] vs) H := by
  obtain ⟨v, c, p, ts, rfl, hc, hp, hl, h1000, hn, n20, q⟩ := h
  unfold t_law_exchanged
  cases hc with
  | look e =>
    tm_at "j"
    exact q _ _ (Same.refl _) (.look e)
  | not e hc =>
    rename_i v1 c1
    have hn1 : c1.deep + 1 < n + 1 := hn
    tm_at "j"
    refine ⟨v1, c1, p, ts, rfl, hc, hp, hl, h1000, by omega, by omega, fun v' H1 g1 hc1 => ?_⟩
    tm_at "j"
    rename_i p2 H2 n2 g2 e2
    exact q _ _ (g1.trans g2) (.not e2 (hc1.mono g2))
  | bin e h1 h2 =>
    rename_i a v1 v2 c1 c2
    have hn1 : max c1.deep c2.deep + 1 < n + 1 := hn
    have hw : decide (V.str (wd a) = V.str "not") = false := by cases a <;> decide +kernel
    have hk : decide (V.str (wd a) = V.str "look") = false := by cases a <;> decide +kernel
    have hl2 : ts.length = 1 + c1.pairs + c2.pairs := hl
    tm_at "j"
    rw [hk]
    tm_at "j"
    rw [hw]
    tm_at "j"
    refine ⟨v1, c1, rfl, h1, by omega, fun H1 g1 => ?_⟩
    tm_at "j"
    have eh : (1 : Int) + (c1.pairs : Int) = ((1 + c1.pairs : Nat) : Int) := by omega
    rw [eh]
    have hlm : (ts.map vb).length = ts.length := List.length_map _
    have hp1 := sm_l g1 hp
    tm_at "j"
    rename_i p2 H2 np2 g2 e2
    have e2' : H2 p2 = some (.lst (((ts.drop 1).take c1.pairs).map vb)) := by
      have e0 : cutV (ts.map vb) (some (1 : Int)) (some ((1 + c1.pairs : Nat) : Int)) = ((ts.drop 1).take c1.pairs).map vb := by
        rw [show (1 : Int) = ((1 : Nat) : Int) from rfl, cut_lohi (by omega) (by omega), Nat.add_sub_cancel_left, List.map_take, List.map_drop]
      rw [← e0]
      exact e2
    refine ⟨v1, c1, p2, _, rfl, by tm_at "hp", SqL.of e2', by rw [List.length_take, List.length_drop]; omega, by rw [List.length_take, List.length_drop]; omega, by omega, by omega, fun v3 H3 g3 hc3 => ?_⟩
    have hp3 := sm_l g3 (sm_l g2 hp1)
    tm_at "j"
    rename_i p4 H4 np4 g4 e4
    have e4' : H4 p4 = some (.lst ((ts.drop (1 + c1.pairs)).map vb)) := by
      have e0 : cutV (ts.map vb) (some ((1 + c1.pairs : Nat) : Int)) none = (ts.drop (1 + c1.pairs)).map vb := by
        rw [cut_lo (by omega), List.map_drop]
      rw [← e0]
      exact e4
    refine ⟨v2, c2, p4, _, rfl, by tm_at "hp", SqL.of e4', by rw [List.length_drop]; omega, by rw [List.length_drop]; omega, by omega, by omega, fun v5 H5 g5 hc5 => ?_⟩
    have hp5 := sm_l g5 (sm_l g4 hp3)
    have hc35 := (hc3.mono g4).mono g5
    tm_at "j"
    refine l_ixL hp5 (turn_at (by omega)) ?_
    tm_at "j"
    rw [vb1]
    have g05 := (((g1.trans g2).trans g3).trans g4).trans g5
    unfold exch at q
    refine i_b (fun et => ?_) (fun et => ?_)
    · rw [et] at q
      tm_at "j"
      rename_i p6 H6 np6 g6 e6
      exact q _ _ (g05.trans g6) (.bin e6 (hc5.mono g6) (hc35.mono g6))
    · rw [et] at q
      tm_at "j"
      rename_i p6 H6 np6 g6 e6
      exact q _ _ (g05.trans g6) (.bin e6 (hc35.mono g6) (hc5.mono g6))

/-! k11: _law_deep of any condition, _law_read -/
def spDeepG (n : Nat) : Sp := fun vs H Q _ => ∃ v c, vs = [v] ∧ CA H v c ∧ c.deep < n ∧ ∀ H', Same H H' → Q (.int (c.deep : Int)) H'
theorem pure_deepG {K : PySem.W.Frag} {w : World} {n : Nat} (vs : List V) (H : Hp) (Q : VK) (E : XK) (h : spDeepG (n + 1) vs H Q E) :
    t_law_deep K w (spDeepG n) (Ends.mk (fun _ H' => Q .non H') Q (fun _ _ => False) (fun _ _ => False)) (start ["_law_part_here", "_law_one"] vs) H := by
  obtain ⟨v, c, rfl, hc, hn, q⟩ := h
  unfold t_law_deep
  cases hc with
  | look e =>
    tm_at "j"
    exact q _ (Same.refl _)
  | not e hc =>
    rename_i v1 c1
    have hn1 : c1.deep + 1 < n + 1 := hn
    tm_at "j"
    refine lcT (xs := [v1]) (ys := [.int (c1.deep : Int)]) (fun _ => rfl) (by tm_at "hp") (by tm_at "dec") ⟨rfl, ?_⟩ ?_
    · intro i x y H' Q' hx hy g k
      rcases i with _ | i
      · obtain rfl : v1 = x := Option.some.inj hx
        obtain rfl := Option.some.inj hy
        tm_at "j"
        exact ⟨v1, c1, rfl, by tm_at "hp", by omega, k⟩
      · cases hx
    · intro D H2 hD g e2
      tm_at "j"
      refine l_max (ns := [(c1.deep : Int)]) (by tm_at "hp") (by tm_at "dec") ?_
      intro mx hm hle
      obtain rfl : mx = (c1.deep : Int) := by simpa using hm
      tm_at "j"
      rw [show (1 : Int) + (c1.deep : Int) = (((c1.not).deep : Nat) : Int) by show (1 : Int) + _ = ((c1.deep + 1 : Nat) : Int); omega]
      exact q _ (by tm_at "hp")
  | bin e h1 h2 =>
    rename_i a v1 v2 c1 c2
    have hn1 : max c1.deep c2.deep + 1 < n + 1 := hn
    cases a <;> (
      tm_at "j"
      refine lcT (xs := [v1, v2]) (ys := [.int (c1.deep : Int), .int (c2.deep : Int)]) (fun _ => rfl) (by tm_at "hp") (by tm_at "dec") ⟨rfl, ?_⟩ ?_
      · intro i x y H' Q' hx hy g k
        rcases i with _ | _ | i
        · obtain rfl : v1 = x := Option.some.inj hx
          obtain rfl := Option.some.inj hy
          tm_at "j"
          exact ⟨v1, c1, rfl, by tm_at "hp", by omega, k⟩
        · obtain rfl : v2 = x := Option.some.inj hx
          obtain rfl := Option.some.inj hy
          tm_at "j"
          exact ⟨v2, c2, rfl, by tm_at "hp", by omega, k⟩
        · cases hx
      · intro D H2 hD g e2
        tm_at "j"
        refine l_max (ns := [(c1.deep : Int), (c2.deep : Int)]) (by tm_at "hp") (by tm_at "dec") ?_
        intro mx hm hle
        have l1 := hle c1.deep (by simp)
        have l2 := hle c2.deep (by simp)
        have em : mx = ((max c1.deep c2.deep : Nat) : Int) := by
          rcases List.mem_cons.mp hm with e0 | hm
          · omega
          · have := List.mem_singleton.mp hm
            omega
        subst em
        tm_at "j"
        have e3 : (1 : Int) + ((max c1.deep c2.deep : Nat) : Int) = ((max c1.deep c2.deep + 1 : Nat) : Int) := by omega
        rw [e3]
        exact q _ (by tm_at "hp"))
theorem sg_ne {b a : Bool} (h : b ≠ a) : sg b ≠ sg a := by cases a <;> cases b <;> first | exact absurd rfl h | decide
theorem sg_dlt (a : Bool) : dlt (sg a) = 0 := by cases a <;> rfl
theorem let_ne (a : Bool) {i : Nat} (h : i < 8) : 97 + i ≠ sg a ∧ dlt (97 + i) = 0 := by
  have : sg a = 38 ∨ sg a = 124 := by cases a <;> simp [sg]
  refine ⟨by omega, ?_⟩
  unfold dlt
  rw [if_neg (by omega), if_neg (by omega)]
/-- inside brackets, and where the sign is bound, nothing is cut -/
theorem cut_pass {a : Bool} {t : List Nat} {c : Cond} {m : Nat} (h : RT' t c m) : ∀ d : Int, 0 ≤ d → (0 < d ∨ rk a < m) → ∀ cur r, cutM (sg a) d cur (t ++ r) = cutM (sg a) d (cur ++ t) r := by
  induction h with
  | look h =>
    rename_i i m
    intro d _ _ cur r
    obtain ⟨h1, h2⟩ := let_ne a h
    show cutM (sg a) d cur ((97 + i) :: r) = _
    rw [cut_cons, if_neg fun z => h1 z.1, h2, Int.add_zero]
  | not h ih =>
    rename_i t c m
    intro d d0 hd cur r
    show cutM (sg a) d cur (33 :: (t ++ r)) = _
    rw [cut_cons, if_neg (fun z => absurd z.1 (by cases a <;> decide)), show dlt 33 = 0 from rfl, Int.add_zero, ih d d0 (.inr (by have := rk_le a; omega)), List.append_assoc]
    rfl
  | bin h1 h2 hm i1 i2 =>
    rename_i t u b l r' m
    intro d d0 hd cur r
    rw [List.append_assoc, i1 d d0 (by rcases hd with h | h; exact .inl h; exact .inr (by omega))]
    show cutM (sg a) d (cur ++ t) (sg b :: (u ++ r)) = _
    rw [cut_cons, sg_dlt, Int.add_zero, if_neg ?_, i2 d d0 (by rcases hd with h | h; exact .inl h; exact .inr (by omega)), List.append_assoc, List.append_assoc]
    · rfl
    · rintro ⟨e, z⟩
      rcases hd with h | h
      · omega
      · refine sg_ne (b := b) (a := a) (fun e2 => ?_) e
        subst e2
        omega
  | brk h ih =>
    rename_i t c m
    intro d d0 hd cur r
    show cutM (sg a) d cur (40 :: (t ++ [41] ++ r)) = _
    rw [cut_cons, if_neg (fun z => absurd z.1 (by cases a <;> decide)), show dlt 40 = 1 from rfl, List.append_assoc, ih (d + 1) (by omega) (.inl (by omega))]
    show cutM (sg a) (d + 1) (cur ++ [40] ++ t) (41 :: r) = _
    rw [cut_cons, if_neg (fun z => absurd z.1 (by cases a <;> decide)), show dlt 41 = -1 from rfl, show d + 1 + -1 = d by omega, List.append_assoc, List.append_assoc]
    rfl
abbrev TC := List Nat × Cond
def foldC (a : Bool) : List TC → Cond
  | [] => .look 0
  | p :: ps => ps.foldl (fun acc q => .bin a acc q.2) p.2
theorem foldC_snoc (a : Bool) {ps : List TC} (h : ps ≠ []) (z : TC) : foldC a (ps ++ [z]) = .bin a (foldC a ps) z.2 := by
  cases ps with
  | nil => exact absurd rfl h
  | cons p ps =>
    show (ps ++ [z]).foldl _ p.2 = _
    rw [List.foldl_append]; rfl
/-- a text's sides, from the left -/
structure Cut (a : Bool) (t : List Nat) (c : Cond) (qs : List TC) (z : TC) : Prop where
  rt : ∀ p ∈ qs ++ [z], RT' p.1 p.2 (rk a + 1)
  cut : ∀ r, cutM (sg a) 0 [] (t ++ r) = qs.map Prod.fst ++ cutM (sg a) 0 z.1 r
  fold : c = foldC a (qs ++ [z])
  len : ∀ p ∈ qs ++ [z], p.1.length ≤ t.length ∧ (qs ≠ [] → p.1.length < t.length)
  one : qs = [] → z = (t, c)
  num : qs.length ≤ t.length
theorem cut_one {a : Bool} {t : List Nat} {c : Cond} (h : RT' t c (rk a + 1)) : Cut a t c [] (t, c) where
  rt := fun p hp => by
    obtain rfl := List.mem_singleton.mp hp
    exact h
  cut := fun r => by
    have := cut_pass (a := a) h 0 (Int.le_refl _) (.inr (Nat.lt_succ_self _)) [] r
    rw [this]; rfl
  fold := rfl
  len := fun p hp => by
    obtain rfl := List.mem_singleton.mp hp
    exact ⟨Nat.le_refl _, fun z => absurd rfl z⟩
  one := fun _ => rfl
  num := Nat.zero_le _
theorem rk_inj {a b : Bool} (h : rk a = rk b) : a = b := by cases a <;> cases b <;> first | rfl | exact absurd h (by decide)
theorem cut_split {a : Bool} {t : List Nat} {c : Cond} {m : Nat} (h : RT' t c m) : m = rk a → ∃ qs z, Cut a t c qs z := by
  induction h with
  | look h => exact fun _ => ⟨[], _, cut_one (.look h)⟩
  | not h _ => exact fun _ => ⟨[], _, cut_one (.not h)⟩
  | brk h _ => exact fun _ => ⟨[], _, cut_one (.brk h)⟩
  | bin h1 h2 hm i1 i2 =>
    rename_i t u b l r m
    intro e
    by_cases hb : b = a
    · subst hb
      obtain ⟨qs, z, C⟩ := i1 rfl
      have lt : (t ++ sg b :: u).length = t.length + (u.length + 1) := by rw [List.length_append, List.length_cons]
      refine ⟨qs ++ [z], (u, r), fun p hp => ?_, fun s => ?_, ?_, fun p hp => ?_, fun z => absurd z (by simp), by have := C.num; rw [lt, List.length_append, List.length_singleton]; omega⟩
      · rcases List.mem_append.mp hp with hp | hp
        · exact C.rt p hp
        · obtain rfl := List.mem_singleton.mp hp
          exact h2
      · rw [List.append_assoc, C.cut]
        show qs.map Prod.fst ++ cutM (sg b) 0 z.1 (sg b :: (u ++ s)) = _
        rw [cut_cons, sg_dlt, Int.add_zero, if_pos ⟨rfl, rfl⟩, cut_pass (a := b) h2 0 (Int.le_refl _) (.inr (Nat.lt_succ_self _)), List.map_append, List.append_assoc]
        rfl
      · rw [foldC_snoc _ (by simp), ← C.fold]
      · rw [lt]
        rcases List.mem_append.mp hp with hp | hp
        · have := (C.len p hp).1
          exact ⟨by omega, fun _ => by omega⟩
        · obtain rfl := List.mem_singleton.mp hp
          exact ⟨by show u.length ≤ _; omega, fun _ => by show u.length < _; omega⟩
    · refine ⟨[], _, cut_one (.bin h1 h2 ?_)⟩
      have : rk b ≠ rk a := fun z => hb (rk_inj z)
      omega
theorem Cut.parts {a : Bool} {t : List Nat} {c : Cond} {qs : List TC} {z : TC} (C : Cut a t c qs z) : cutM (sg a) 0 [] t = (qs ++ [z]).map Prod.fst := by
  have := C.cut []
  rw [List.append_nil] at this
  rw [this, cut_nil, List.map_append]; rfl
theorem cutS_in {t : List Nat} {x y : Nat} : cutS (S (x :: (t ++ [y]))) (some 1) (some (-1)) = S t := by
  have lS : (S (x :: (t ++ [y]))).length = t.length + 2 := by
    show (x :: (t ++ [y])).length = _
    rw [List.length_cons, List.length_append]; rfl
  unfold cutS
  have e1 : HT.sIx (S (x :: (t ++ [y]))).length 0 (some 1) = 1 := by
    rw [lS]
    have := HT.sIx_nat (t.length + 2) 0 1
    rw [show ((1 : Nat) : Int) = 1 from rfl] at this
    rw [this]
    omega
  have e2 : HT.sIx (S (x :: (t ++ [y]))).length (S (x :: (t ++ [y]))).length (some (-1)) = t.length + 1 := by
    rw [lS]
    unfold HT.sIx
    show (if (-1 : Int) < 0 then ((-1 : Int) + ((t.length + 2 : Nat) : Int)).toNat else _) = _
    rw [if_pos (by decide)]
    omega
  rw [e1, e2]
  show Str.mk (((x :: (t ++ [y])).drop 1).take (t.length + 1 - 1)).toArray = _
  rw [Nat.add_sub_cancel, List.drop_succ_cons, List.drop_zero, List.take_left]
  rfl
def spLRead (n : Nat) : Sp := fun vs H Q _ => ∃ l : List Nat, ∃ c, vs = [.str (S l)] ∧ RT' l c 0 ∧ l.length < n ∧ l.length ≤ 1000 ∧ ∀ v H', Same H H' → CA H' v c → Q v H'
theorem rk_i {i : Nat} (h : i < 2) : ∃ a : Bool, rk a = i ∧ (if i = 0 then V.str "|" else V.str "&") = sS [sg a] ∧ (if i = 0 then V.str "or" else V.str "and") = V.str (wd a) := by
  obtain rfl | rfl : i = 0 ∨ i = 1 := by omega
  · exact ⟨false, rfl, by rw [if_pos rfl, s124]; rfl, rfl⟩
  · exact ⟨true, rfl, by rw [if_neg (by decide), s38]; rfl, rfl⟩
/-- the sides, one behind the other -/
theorem lread_fold {K : PySem.W.Frag} {n : Nat} {a : Bool} {H : Hp} {l : List Nat} {ps : List TC} {p0 : TC} {v0 : V} {o1 o3 o5 : Option V} {us : List V} {q : Addr} {nx bk ct : St → Hp → Prop} {rt : VK} (h0 : CA H v0 p0.2) (hq : H q = some (.lst us)) (hus : us = ps.map fun p => sS p.1) (hps : ∀ p ∈ ps, RT' p.1 p.2 0 ∧ p.1.length < n ∧ p.1.length ≤ 1000) (hl : ps.length ≤ 1000)
    (k : ∀ v H' o5, Same H H' → CA H' v (ps.foldl (fun acc q => .bin a acc q.2) p0.2) → nx [some (.str (S l)), o1, some (.str (wd a)), o3, some v, o5] H') :
    IL K (.ref q) H (ForB (gName 5) (tAsg (tTup (tCons (tVar 2) (tCons (tVar 4) (tCons (tCall (spLRead n) [] E0 (tCons (tVar 5) (tNil))) (tNil))))) (gName 4)) (Ends.mk nx rt bk ct) [some (.str (S l)), o1, some (.str (wd a)), o3, some v0, o5]) := by
  refine forL (xs := us) (fun i σ' H' => ∃ v o5, σ' = [some (.str (S l)), o1, some (.str (wd a)), o3, some v, o5] ∧ Same H H' ∧ CA H' v ((ps.take i).foldl (fun acc q => .bin a acc q.2) p0.2)) ⟨v0, _, rfl, Same.refl _, h0⟩ (SqL.of hq) ?_ ?_ ?_
  · rintro i σ' H' hi ⟨v, o5, rfl, g, hc⟩
    exact SqL.of (g _ _ hq)
  · rintro i x σ' H' hx ⟨v, o5, rfl, g, hc⟩
    rw [hus, List.getElem?_map] at hx
    obtain ⟨p, hp, rfl⟩ := Option.map_eq_some_iff.mp hx
    obtain ⟨r1, r2, r3⟩ := hps p (List.mem_of_getElem? hp)
    tm_at "j"
    refine ⟨p.1, p.2, rfl, r1, r2, r3, fun v2 H2 g2 h2 => ?_⟩
    tm_at "j"
    rename_i p3 H3 n3 g3 e3
    refine ⟨_, _, rfl, (g.trans g2).trans g3, ?_⟩
    rw [take_snoc hp, List.foldl_append]
    exact .bin e3 ((hc.mono g2).mono g3) (h2.mono g3)
  · rintro σ' H' ⟨v, o5, rfl, g, hc⟩
    have hlen : us.length = ps.length := by rw [hus, List.length_map]
    rw [hlen, List.take_length] at hc
    exact k _ _ _ g hc
theorem pure_lread {K : PySem.W.Frag} {w : World} {n : Nat} (vs : List V) (H : Hp) (Q : VK) (E : XK) (h : spLRead (n + 1) vs H Q E) :
    t_law_read K w spPartsL (spLRead n) (Ends.mk (fun _ H' => Q .non H') Q (fun _ _ => False) (fun _ _ => False)) (start ["_law_text_here", "_law_sign", "_law_word", "_law_parts_here", "_law_found", "_law_part_here"] vs) H := by
  obtain ⟨l, c, rfl, hrt, hn, hl, q⟩ := h
  unfold t_law_read
  tm_at "j"
  rename_i p1 H1 n1 g1 e1 p2 H2 n2 g2 e2 p3 H3 n3 g3 e3
  have e1' := g3 _ _ (g2 _ _ e1)
  have e2' := g3 _ _ e2
  have g03 := (g1.trans g2).trans g3
  refine forL (xs := [.ref p1, .ref p2]) (fun i σ' H' => ∃ o1 o2 o3 o4 o5, σ' = [some (.str (S l)), o1, o2, o3, o4, o5] ∧ Same H3 H' ∧ RT' l c i) ⟨_, _, _, _, _, rfl, Same.refl _, hrt⟩ (SqL.of e3) ?_ ?_ ?_
  · rintro i σ' H' hi ⟨o1, o2, o3, o4, o5, rfl, g, hr⟩
    exact SqL.of (g _ _ e3)
  · rintro i x σ' H' hx ⟨o1, o2, o3, o4, o5, rfl, g, hr⟩
    have hi : i < 2 := (List.getElem?_eq_some_iff.mp hx).1
    obtain ⟨a, ha, hs, hw⟩ := rk_i hi
    obtain ⟨px, rfl, epx⟩ : ∃ px, x = .ref px ∧ H' px = some (.tup [sS [sg a], .str (wd a)]) := by
      rw [← hs, ← hw]
      obtain rfl | rfl : i = 0 ∨ i = 1 := by omega
      · exact ⟨p1, (Option.some.inj hx).symm, g _ _ e1'⟩
      · exact ⟨p2, (Option.some.inj hx).symm, g _ _ e2'⟩
    refine l_gtup (SqT.of epx) rfl ?_
    tm_at "j"
    subst ha
    obtain ⟨qs, z, C⟩ := cut_split hr rfl
    refine ⟨l, sg a, rfl, by omega, fun f H4 g4 e4 => ?_⟩
    rw [C.parts] at e4
    have lp : (((qs ++ [z]).map Prod.fst).map sS).length = qs.length + 1 := by rw [List.length_map, List.length_map, List.length_append]; rfl
    tm_at "j"
    rw [lp]
    by_cases hq : qs = []
    · subst hq
      obtain rfl := C.one rfl
      refine i_f (decide_eq_false (by show ¬ (1 : Int) < ((0 + 1 : Nat) : Int); omega)) ?_
      tm_at "j"
      exact ⟨_, _, _, _, _, rfl, g.trans g4, C.rt _ List.mem_cons_self⟩
    · have hq1 : 0 < qs.length := List.length_pos_iff.mpr hq
      refine i_t (decide_eq_true (by omega)) ?_
      cases hqs : qs ++ [z] with
      | nil => exact absurd hqs (by simp)
      | cons p0 ps =>
        rw [hqs] at e4
        have hmem : ∀ p ∈ p0 :: ps, RT' p.1 p.2 0 ∧ p.1.length < n ∧ p.1.length ≤ 1000 := fun p hp => by
          rw [← hqs] at hp
          have h1 := (C.len p hp).2 hq
          exact ⟨rt_le (C.rt p hp) (Nat.zero_le _), by omega, by omega⟩
        have hf : c = ps.foldl (fun acc q => .bin a acc q.2) p0.2 := by rw [C.fold, hqs]; rfl
        have hlen : ps.length ≤ 1000 := by
          have h1 := congrArg List.length hqs
          rw [List.length_append, List.length_cons] at h1
          have h1 : qs.length + 1 = ps.length + 1 := h1
          have := C.num
          omega
        refine l_seq (l_asg (l_call (l_cons (l_op (l_var rfl (l_c ?_))))))
        refine l_ixL (SqL.of e4) (v := sS p0.1) at0 ?_
        obtain ⟨r1, r2, r3⟩ := hmem p0 List.mem_cons_self
        refine l_nil ⟨p0.1, p0.2, rfl, r1, r2, r3, fun v0 H5 g5 h5 => ?_⟩
        refine l_name ?_
        tm_at "j"
        rename_i f2 H6 n6 g6 e6
        have e6' : H6 f2 = some (.lst (ps.map fun p => sS p.1)) := by
          have ec : cutV (((p0 :: ps).map Prod.fst).map sS) (some ((1 : Nat) : Int)) none = (((p0 :: ps).map Prod.fst).map sS).drop 1 := cut_lo (by rw [List.length_map, List.length_map, List.length_cons]; omega)
          rw [e6]
          have ec : cutV (((p0 :: ps).map Prod.fst).map sS) (some 1) none = _ := ec
          rw [ec, List.map_map]
          rfl
        refine lread_fold (h5.mono g6) e6' rfl (fun p hp => hmem p (List.mem_cons_of_mem _ hp)) hlen fun v H7 o5 g7 h7 => ?_
        tm_at "j"
        rw [← hf] at h7
        exact q _ _ ((((g03.trans g).trans g4).trans g5).trans (g6.trans g7)) h7
  · rintro σ' H' ⟨o1, o2, o3, o4, o5, rfl, g, hr⟩
    have g := g03.trans g
    have hr : RT' l c 2 := hr
    cases hr with
    | look h =>
      rename_i i
      tm_at "j"
      refine l_ixS (i := 0) (by omega) rfl ?_
      tm_at "j"
      rw [s33, sign_is, decide_eq_false (show ¬ 97 + i = 33 by omega)]
      tm_at "j"
      refine l_ixS (i := 0) (by omega) rfl ?_
      tm_at "j"
      rw [s40, sign_is, decide_eq_false (show ¬ 97 + i = 40 by omega)]
      tm_at "j"
      refine ⟨rfl, ?_⟩
      tm_at "j"
      refine ⟨("abcdefgh" : Str), S [97 + i], 97 + i - 97, rfl, rfl, letter_ix ⟨by omega, by omega⟩, ?_⟩
      tm_at "j"
      rename_i p6 H6 n6 g6 e6
      refine q _ _ (g.trans g6) ?_
      rw [show 97 + i - 97 = i by omega] at e6
      exact .look e6
    | not h =>
      rename_i t c
      tm_at "j"
      refine l_ixS (i := 0) (by omega) rfl ?_
      tm_at "j"
      refine l_slS (by omega) (r := t) (by have := cutS_lo (l := 33 :: t) (i := 1) (by rw [List.length_cons]; omega); exact this) ?_
      tm_at "j"
      have ht : (33 :: t).length = t.length + 1 := List.length_cons
      refine ⟨t, c, rfl, rt_le h (Nat.zero_le _), by omega, by omega, fun v H6 g6 h6 => ?_⟩
      tm_at "j"
      rename_i p7 H7 n7 g7 e7
      exact q _ _ ((g.trans g6).trans g7) (.not e7 (h6.mono g7))
    | bin h1 h2 h3 =>
      rename_i a _ _
      have := rk_le a
      omega
    | brk h =>
      rename_i t
      tm_at "j"
      refine l_ixS (i := 0) (by omega) rfl ?_
      tm_at "j"
      refine l_ixS (i := 0) (by omega) rfl ?_
      tm_at "j"
      refine l_slS (by omega) (r := t) cutS_in ?_
      have ht : (40 :: (t ++ [41])).length = t.length + 2 := by rw [List.length_cons, List.length_append]; rfl
      exact ⟨t, c, rfl, h, by omega, by omega, fun v H6 g6 h6 => q _ _ (g.trans g6) h6⟩
/-- short texts -/
theorem text_short : ∀ (c : Cond) (m : Nat), (textL c m).length + 3 ≤ c.looks * (c.deep + 4)
  | .look i, m => Nat.le_refl _
  | .not c, m => by
    have h := text_short c 2
    have l : 1 ≤ c.looks := by have := pairs_looks c; omega
    show (textL c 2).length + 1 + 3 ≤ c.looks * (c.deep + 1 + 4)
    rw [show c.looks * (c.deep + 1 + 4) = c.looks * (c.deep + 4) + c.looks by rw [← Nat.mul_succ]]
    omega
  | .bin a l r, m => by
    have h1 := text_short l (rk a)
    have h2 := text_short r (rk a + 1)
    have e : (textL (.bin a l r) m).length ≤ (textL l (rk a)).length + (textL r (rk a + 1)).length + 3 := by
      rw [textL]
      split
      · rw [List.length_append, List.length_append]
        show (textL l (rk a)).length + 1 + (textL r (rk a + 1)).length ≤ _
        omega
      · rw [List.length_append, List.length_cons, List.length_append, List.length_append]
        show (textL l (rk a)).length + 1 + (textL r (rk a + 1)).length + 1 + 1 ≤ _
        omega
    have g1 : l.looks * (l.deep + 4) ≤ l.looks * (max l.deep r.deep + 1 + 4) := Nat.mul_le_mul_left _ (by have := Nat.le_max_left l.deep r.deep; omega)
    have g2 : r.looks * (r.deep + 4) ≤ r.looks * (max l.deep r.deep + 1 + 4) := Nat.mul_le_mul_left _ (by have := Nat.le_max_right l.deep r.deep; omega)
    show (textL (.bin a l r) m).length + 3 ≤ (l.looks + r.looks) * (max l.deep r.deep + 1 + 4)
    rw [Nat.add_mul]
    omega
theorem text_200 {c : Cond} {m : Nat} (h1 : c.deep ≤ 10) (h2 : c.looks ≤ 12) : (textL c m).length ≤ 200 := by
  have h := text_short c m
  have : c.looks * (c.deep + 4) ≤ 12 * 14 := Nat.mul_le_mul h2 (by omega)
  omega

/-! _law_begun -/
def spBegun (K : PySem.W.Frag) : Sp := fun vs H Q _ => ∃ a ns, vs = [.ref a] ∧ SqL K H a (ns.map V.int) ∧ ns.length ≤ 63 ∧ ∀ b l s H', Same H H' → Bx H' b l ns s → H b = none → H l = none → Q (.ref b) H'
theorem pure_begun {K : PySem.W.Frag} {w : World} (vs : List V) (H : Hp) (Q : VK) (E : XK) (h : spBegun K vs H Q E) :
    t_law_begun K w (Ends.mk (fun _ H' => Q .non H') Q (fun _ _ => False) (fun _ _ => False)) (start ["_law_script", "_law_stirred", "_law_cell"] vs) H := by
  obtain ⟨a, ns, rfl, ha, n63, q⟩ := h
  unfold t_law_begun
  tm_at "j"
  refine forL (fun i σ' H' => H' = H ∧ ∃ s o, σ' = [some (.ref a), some (.int s), o] ∧ 0 ≤ s ∧ s < 2147483647) ⟨rfl, 0, none, rfl, by decide, by decide⟩ ha ?_ ?_ ?_
  · rintro i σ' H' hi ⟨rfl, _⟩
    exact ha
  · rintro i x σ' H' hx ⟨rfl, s, o, rfl, s0, s1⟩
    rw [List.getElem?_map] at hx
    cases hn : ns[i]? with
    | none => rw [hn] at hx; cases hx
    | some n =>
      rw [hn] at hx
      obtain rfl : V.int n = x := Option.some.inj hx
      tm_at "j"
      exact ⟨rfl, _, _, rfl, Int.emod_nonneg _ (by decide), Int.emod_lt_of_pos _ (by decide)⟩
  · rintro σ' H' ⟨rfl, s, o, rfl, s0, s1⟩
    tm_at "j"
    have hk : (-(2 ^ 64) < (if decide (2 < (((ns.map V.int).length : Nat) : Int)) = true then (1 : Int) else 0)) ∧ (if decide (2 < (((ns.map V.int).length : Nat) : Int)) = true then (1 : Int) else 0) < 2 ^ 64 ∧ 0 ≤ s * (if decide (2 < (((ns.map V.int).length : Nat) : Int)) = true then (1 : Int) else 0) ∧ s * (if decide (2 < (((ns.map V.int).length : Nat) : Int)) = true then (1 : Int) else 0) < 2147483647 := by
      split
      · exact ⟨by decide, by decide, by omega, by omega⟩
      · exact ⟨by decide, by decide, by omega, by omega⟩
    refine l_I (Or.inr ⟨hk.1, hk.2.1⟩) ?_
    tm_at "j"
    rename_i l H1 n1 g1 e1 b H2 n2 g2 e2
    exact q b l _ _ (g1.trans g2) ⟨fun z => ne_of_none e1 n2 z.symm, e2, g2 _ _ e1, hk.2.2.1, hk.2.2.2, n63⟩ (g1.free n2) n1

/-! _law_alike, of the same data -/
def spAlike (K : PySem.W.Frag) (n : Nat) : Sp := fun vs H Q _ => ∃ v u d, vs = [v, u] ∧ Dp K H v d ∧ Dp K H u d ∧ okd n d ∧ ∀ H', Same H H' → Q (.bl true) H'
theorem pure_alike {K : PySem.W.Frag} {w : World} {n : Nat} (vs : List V) (H : Hp) (Q : VK) (E : XK) (h : spAlike K (n + 1) vs H Q E) :
    t_law_alike K w (spAlike K n) (Ends.mk (fun _ H' => Q .non H') Q (fun _ _ => False) (fun _ _ => False)) (start ["_law_found", "_law_due", "_law_k"] vs) H := by
  obtain ⟨v, u, d, rfl, hv, hu, hn, q⟩ := h
  unfold t_law_alike
  cases hv with
  | non =>
    cases hu
    tm_at "j"
    exact q _ (Same.refl _)
  | bl b =>
    cases hu
    tm_at "j"
    rw [decide_eq_true rfl]
    exact q _ (Same.refl _)
  | int b =>
    cases hu
    tm_at "j"
    rw [decide_eq_true rfl]
    exact q _ (Same.refl _)
  | str b =>
    cases hu
    tm_at "j"
    rw [decide_eq_true rfl]
    exact q _ (Same.refl _)
  | lst hl ha =>
    cases hu with
    | lst hm hb =>
      rename_i a1 xs ds a2 ys
      have l1 := DpAll.len ha
      have l2 := DpAll.len hb
      have hsz : ds.length ≤ 1000 := hn.1
      tm_at "j"
      refine i_f ?_ ?_
      · rw [l1, l2, decide_eq_true rfl]; rfl
      tm_at "j"
      refine forR (n := ys.length) (by omega) (fun i σ' H' => Same H H' ∧ ∃ o, σ' = [some (.ref a1), some (.ref a2), o]) ⟨Same.refl _, none, rfl⟩ ?_ ?_
      · rintro i σ' H' hi ⟨g, o, rfl⟩
        obtain ⟨x, d, hx, hd, hxd⟩ := DpAll.get (i := i) ha (by omega)
        obtain ⟨y, d', hy, hd', hyd⟩ := DpAll.get (i := i) hb (by omega)
        rw [hd] at hd'
        obtain rfl := Option.some.inj hd'
        rw [Int.zero_add]
        tm_at "j"
        refine l_ixSL (by tm_at "hp") (atI_nat hx) ?_
        tm_at "j"
        refine l_ixSL (by tm_at "hp") (atI_nat hy) ?_
        tm_at "j"
        refine ⟨x, y, d, rfl, Dp.mono g hxd, Dp.mono g hyd, hn.2 d (List.mem_of_getElem? hd), fun H2 g2 => ?_⟩
        tm_at "j"
        exact ⟨g.trans g2, _, rfl⟩
      · rintro σ' H' ⟨g, o, rfl⟩
        tm_at "j"
        exact q _ g
  | tup hl ha =>
    cases hu with
    | tup hm hb =>
      rename_i a1 xs ds a2 ys
      have l1 := DpAll.len ha
      have l2 := DpAll.len hb
      have hsz : ds.length ≤ 1000 := hn.1
      tm_at "j"
      refine i_f ?_ ?_
      · rw [l1, l2, decide_eq_true rfl]; rfl
      tm_at "j"
      refine forR (n := ys.length) (by omega) (fun i σ' H' => Same H H' ∧ ∃ o, σ' = [some (.ref a1), some (.ref a2), o]) ⟨Same.refl _, none, rfl⟩ ?_ ?_
      · rintro i σ' H' hi ⟨g, o, rfl⟩
        obtain ⟨x, d, hx, hd, hxd⟩ := DpAll.get (i := i) ha (by omega)
        obtain ⟨y, d', hy, hd', hyd⟩ := DpAll.get (i := i) hb (by omega)
        rw [hd] at hd'
        obtain rfl := Option.some.inj hd'
        rw [Int.zero_add]
        tm_at "j"
        refine l_ixST (by tm_at "hp") (atI_nat hx) ?_
        tm_at "j"
        refine l_ixST (by tm_at "hp") (atI_nat hy) ?_
        tm_at "j"
        refine ⟨x, y, d, rfl, Dp.mono g hxd, Dp.mono g hyd, hn.2 d (List.mem_of_getElem? hd), fun H2 g2 => ?_⟩
        tm_at "j"
        exact ⟨g.trans g2, _, rfl⟩
      · rintro σ' H' ⟨g, o, rfl⟩
        tm_at "j"
        exact q _ g

/-! are_numbers_up_to, are_bits: of a tuple -/
def spNumsT (K : PySem.W.Frag) : Sp := fun vs H Q _ => ∃ a, ∃ ns : List Int, ∃ n : Nat, ∃ m : Int, vs = [.ref a, .int (n : Int), .int m] ∧ SqT K H a (ns.map V.int) ∧ ns.length ≤ 100000 ∧ ∀ H', Same H H' → Q (.bl (decide (ns.length = n) && ns.all fun i => decide (0 ≤ i) && decide (i ≤ m))) H'
theorem pure_nums_T {K : PySem.W.Frag} {w : World} (vs : List V) (H : Hp) (Q : VK) (E : XK) (h : spNumsT K vs H Q E) :
    t_are_numbers_up_to_T K w spNum (Ends.mk (fun _ H' => Q .non H') Q (fun _ _ => False) (fun _ _ => False)) (start ["values", "many", "most", "value"] vs) H := by
  obtain ⟨a, ns, n, m, rfl, ha, h1, q⟩ := h
  unfold t_are_numbers_up_to_T
  tm_at "j"
  refine i_b (fun e => ?_) (fun e => ?_)
  · have hl : ns.length = n := by
      have := V.int.inj (of_decide_eq_true e)
      rw [List.length_map] at this
      omega
    rw [decide_eq_true hl, Bool.true_and] at q
    tm_at "j"
    refine lcT (xs := ns.map V.int) (ys := ns.map fun i => V.bl (decide (0 ≤ i) && decide (i ≤ m))) (fun _ => rfl) (by tm_at "hp") (by rw [List.length_map]; exact h1) ⟨by rw [List.length_map, List.length_map], ?_⟩ ?_
    · intro i x y H' Q' hx hy g k
      rw [List.getElem?_map] at hx hy
      cases hb : ns[i]? with
      | none => rw [hb] at hx; cases hx
      | some b =>
        rw [hb] at hx hy
        obtain rfl : V.int b = x := Option.some.inj hx
        obtain rfl : V.bl (decide (0 ≤ b) && decide (b ≤ m)) = y := Option.some.inj hy
        tm_at "j"
        exact ⟨b, m, rfl, k⟩
    · intro D H2 hD g e2
      refine l_all (bs := ns.map fun i => decide (0 ≤ i) && decide (i ≤ m)) (by rw [List.map_map]; exact SqL.of e2) ?_
      rw [List.all_map]
      exact q _ (by tm_at "hp")
  · have hl : ¬ ns.length = n := fun z => by
      refine of_decide_eq_false e (congrArg V.int ?_)
      rw [List.length_map]
      omega
    rw [decide_eq_false hl, Bool.false_and] at q
    exact q _ (by tm_at "hp")
def spBitsT (K : PySem.W.Frag) : Sp := fun vs H Q _ => ∃ a, ∃ ns : List Int, ∃ n : Nat, vs = [.ref a, .int (n : Int)] ∧ SqT K H a (ns.map V.int) ∧ ns.length ≤ 100000 ∧ ∀ H', Same H H' → Q (.bl (decide (ns.length = n) && ns.all fun i => decide (0 ≤ i) && decide (i ≤ 1))) H'
theorem pure_bits_T {K : PySem.W.Frag} {w : World} (vs : List V) (H : Hp) (Q : VK) (E : XK) (h : spBitsT K vs H Q E) :
    t_are_bits K w (spNumsT K) (Ends.mk (fun _ H' => Q .non H') Q (fun _ _ => False) (fun _ _ => False)) (start ["values", "many"] vs) H := by
  obtain ⟨a, ns, n, rfl, ha, h1, q⟩ := h
  unfold t_are_bits
  tm_at "j"
  exact ⟨a, ns, n, 1, rfl, ha, h1, q⟩
/-! are_numbers_up_to, are_bits: of a list -/
def spNumsL (K : PySem.W.Frag) : Sp := fun vs H Q _ => ∃ a, ∃ ns : List Int, ∃ n : Nat, ∃ m : Int, vs = [.ref a, .int (n : Int), .int m] ∧ SqL K H a (ns.map V.int) ∧ ns.length ≤ 100000 ∧ ∀ H', Same H H' → Q (.bl (decide (ns.length = n) && ns.all fun i => decide (0 ≤ i) && decide (i ≤ m))) H'
theorem pure_nums_L {K : PySem.W.Frag} {w : World} (vs : List V) (H : Hp) (Q : VK) (E : XK) (h : spNumsL K vs H Q E) :
    t_are_numbers_up_to_L K w spNum (Ends.mk (fun _ H' => Q .non H') Q (fun _ _ => False) (fun _ _ => False)) (start ["values", "many", "most", "value"] vs) H := by
  obtain ⟨a, ns, n, m, rfl, ha, h1, q⟩ := h
  unfold t_are_numbers_up_to_L
  tm_at "j"
  refine i_b (fun e => ?_) (fun e => ?_)
  · have hl : ns.length = n := by
      have := V.int.inj (of_decide_eq_true e)
      rw [List.length_map] at this
      omega
    rw [decide_eq_true hl, Bool.true_and] at q
    tm_at "j"
    refine lcL (xs := ns.map V.int) (ys := ns.map fun i => V.bl (decide (0 ≤ i) && decide (i ≤ m))) (fun _ => rfl) (by tm_at "hp") (by rw [List.length_map]; exact h1) ⟨by rw [List.length_map, List.length_map], ?_⟩ ?_
    · intro i x y H' Q' hx hy g k
      rw [List.getElem?_map] at hx hy
      cases hb : ns[i]? with
      | none => rw [hb] at hx; cases hx
      | some b =>
        rw [hb] at hx hy
        obtain rfl : V.int b = x := Option.some.inj hx
        obtain rfl : V.bl (decide (0 ≤ b) && decide (b ≤ m)) = y := Option.some.inj hy
        tm_at "j"
        exact ⟨b, m, rfl, k⟩
    · intro D H2 hD g e2
      refine l_all (bs := ns.map fun i => decide (0 ≤ i) && decide (i ≤ m)) (by rw [List.map_map]; exact SqL.of e2) ?_
      rw [List.all_map]
      exact q _ (by tm_at "hp")
  · have hl : ¬ ns.length = n := fun z => by
      refine of_decide_eq_false e (congrArg V.int ?_)
      rw [List.length_map]
      omega
    rw [decide_eq_false hl, Bool.false_and] at q
    exact q _ (by tm_at "hp")
def spBitsL (K : PySem.W.Frag) : Sp := fun vs H Q _ => ∃ a, ∃ ns : List Int, ∃ n : Nat, vs = [.ref a, .int (n : Int)] ∧ SqL K H a (ns.map V.int) ∧ ns.length ≤ 100000 ∧ ∀ H', Same H H' → Q (.bl (decide (ns.length = n) && ns.all fun i => decide (0 ≤ i) && decide (i ≤ 1))) H'
theorem pure_bits_L {K : PySem.W.Frag} {w : World} (vs : List V) (H : Hp) (Q : VK) (E : XK) (h : spBitsL K vs H Q E) :
    t_are_bits K w (spNumsL K) (Ends.mk (fun _ H' => Q .non H') Q (fun _ _ => False) (fun _ _ => False)) (start ["values", "many"] vs) H := by
  obtain ⟨a, ns, n, rfl, ha, h1, q⟩ := h
  unfold t_are_bits
  tm_at "j"
  exact ⟨a, ns, n, 1, rfl, ha, h1, q⟩
/-! check_worths, check_chances, check_first -/
theorem vb_ints (ws : List Bool) : ws.map vb = (ws.map bi).map V.int := by rw [List.map_map]; rfl
theorem vn_ints (ns : List Nat) : ns.map vn = (ns.map fun (k : Nat) => (k : Int)).map V.int := by rw [List.map_map]; rfl
theorem bits_good (ws : List Bool) (n : Nat) (h : ws.length = n) : (decide ((ws.map bi).length = n) && (ws.map bi).all fun i => decide (0 ≤ i) && decide (i ≤ 1)) = true := by
  rw [List.length_map, decide_eq_true h, Bool.true_and, List.all_map, List.all_eq_true]
  intro b _
  cases b <;> decide
def spWorths : Sp := fun vs H Q _ => ∃ v ws, vs = [v] ∧ WA H v ws ∧ ∀ H', Same H H' → Q .non H'
theorem pure_worths {K : PySem.W.Frag} {w : World} (vs : List V) (H : Hp) (Q : VK) (E : XK) (h : spWorths vs H Q E) :
    t_check_worths K w (spBitsT K) (Ends.mk (fun _ H' => Q .non H') Q (fun _ _ => False) (fun _ _ => False)) (start ["worths"] vs) H := by
  obtain ⟨v, ws, rfl, ⟨a, rfl, e, l⟩, q⟩ := h
  unfold t_check_worths
  tm_at "j"
  rw [vb_ints] at e
  refine ⟨a, ws.map bi, 8, rfl, SqT.of e, by rw [List.length_map]; omega, fun H1 g1 => ?_⟩
  rw [bits_good ws 8 l]
  tm_at "j"
  exact q _ (by tm_at "hp")
def spChances : Sp := fun vs H Q _ => ∃ v ch, vs = [v] ∧ ChA H v ch ∧ ∀ H', Same H H' → Q .non H'
theorem chances_good (ch : List Nat) (h : ch.length = 8) (hc : ∀ x ∈ ch, x ≤ 100) : (decide ((ch.map fun (k : Nat) => (k : Int)).length = 8) && (ch.map fun (k : Nat) => (k : Int)).all fun i => decide (0 ≤ i) && decide (i ≤ 100)) = true := by
  rw [List.length_map, decide_eq_true h, Bool.true_and, List.all_map, List.all_eq_true]
  intro k hk
  have := hc k hk
  show (decide ((0 : Int) ≤ (k : Int)) && decide ((k : Int) ≤ 100)) = true
  rw [decide_eq_true (by omega), decide_eq_true (by omega)]; rfl
theorem pure_chances {K : PySem.W.Frag} {w : World} (vs : List V) (H : Hp) (Q : VK) (E : XK) (h : spChances vs H Q E) :
    t_check_chances K w (spNumsT K) (Ends.mk (fun _ H' => Q .non H') Q (fun _ _ => False) (fun _ _ => False)) (start ["chances"] vs) H := by
  obtain ⟨v, ch, rfl, ⟨a, rfl, e, l, hc⟩, q⟩ := h
  unfold t_check_chances
  tm_at "j"
  rw [vn_ints] at e
  refine ⟨a, ch.map fun (k : Nat) => (k : Int), 8, 100, rfl, SqT.of e, by rw [List.length_map]; omega, fun H1 g1 => ?_⟩
  rw [chances_good ch l hc]
  tm_at "j"
  exact q _ (by tm_at "hp")
def spFirst : Sp := fun vs H Q _ => ∃ f : Bool, vs = [vb f] ∧ ∀ H', Same H H' → Q .non H'
theorem pure_first {K : PySem.W.Frag} {w : World} (vs : List V) (H : Hp) (Q : VK) (E : XK) (h : spFirst vs H Q E) :
    t_check_first K w spNum (Ends.mk (fun _ H' => Q .non H') Q (fun _ _ => False) (fun _ _ => False)) (start ["first"] vs) H := by
  obtain ⟨f, rfl, q⟩ := h
  unfold t_check_first
  tm_at "j"
  refine ⟨bi f, 1, rfl, fun H1 g1 => ?_⟩
  rw [show (decide (0 ≤ bi f) && decide (bi f ≤ 1)) = true by cases f <;> decide]
  tm_at "j"
  exact q _ (by tm_at "hp")
/-! meant -/
theorem pure_meant {K : PySem.W.Frag} {w : World} (vs : List V) (H : Hp) (Q : VK) (E : XK) (h : spMeant vs H Q E) :
    t_meant K w spCheck spWorths (spOut 11) (Ends.mk (fun _ H' => Q .non H') Q (fun _ _ => False) (fun _ _ => False)) (start ["condition", "worths"] vs) H := by
  obtain ⟨v, u, c, ws, rfl, hc, ho, hd, hk, hw, q⟩ := h
  unfold t_meant
  tm_at "j"
  refine ⟨v, c, rfl, hc, ho, hd, hk, fun H1 g1 => ?_⟩
  tm_at "j"
  refine ⟨u, ws, rfl, hw.mono g1, fun H2 g2 => ?_⟩
  tm_at "j"
  refine ⟨v, u, c, ws, rfl, (hc.mono g1).mono g2, by omega, by decide, ho, (hw.mono g1).mono g2, fun v' H3 g3 ht => ?_⟩
  exact q _ _ ((g1.trans g2).trans g3) (ht.back (g1.trans g2))

/-! look_row, rows_of, code_of, coded -/
theorem at2 {a b : V} {f : Bool} : atI [a, b] (bi f) = some (if f then b else a) := by cases f <;> rfl
/-- one of the dues is the next row behind the part, the other one further down -/
def Due2 (e y no : Nat) : Prop := (y = e ∧ e < no) ∨ (no = e ∧ e < y)
theorem due2_lt {e m y no : Nat} (h : Due2 e y no) (hm : m < e) : m < y ∧ m < no := by
  rcases h with ⟨h1, h2⟩ | ⟨h1, h2⟩ <;> omega
def spLookRow : Sp := fun vs H Q _ => ∃ t k y no : Nat, ∃ d, vs = [vn t, .int (k : Int), .ref d] ∧ H d = some (.lst [vn no, vn y]) ∧ Due2 (k + 1) y no ∧
  ∀ v' H', Same H H' → TD H' v' (rowD (if y = k + 1 then .look t false no else .look t true y)) → Q v' H'
theorem pure_lookrow {K : PySem.W.Frag} {w : World} (vs : List V) (H : Hp) (Q : VK) (E : XK) (h : spLookRow vs H Q E) :
    t_look_row K w (Ends.mk (fun _ H' => Q .non H') Q (fun _ _ => False) (fun _ _ => False)) (start ["thing", "place", "dues", "when"] vs) H := by
  obtain ⟨t, k, y, no, d, rfl, ed, hd, q⟩ := h
  unfold t_look_row
  tm_at "j"
  rw [vnn]
  rcases hd with ⟨rfl, h2⟩ | ⟨rfl, h2⟩
  · rw [if_pos rfl] at q
    refine i_f (decide_eq_false (by omega)) ?_
    tm_at "j"
    rename_i p2 H2 n2 g2 e2
    exact q _ _ g2 (row_look_mk (w := false) e2)
  · rw [if_neg (by omega)] at q
    refine i_t (decide_eq_true rfl) ?_
    tm_at "j"
    rename_i p2 H2 n2 g2 e2
    exact q _ _ g2 (row_look_mk (w := true) e2)
def spRowsOf (n : Nat) : Sp := fun vs H Q _ => ∃ v c, ∃ s y no : Nat, ∃ d, vs = [v, .int (s : Int), .ref d] ∧ CA H v c ∧ c.ok ∧ c.deep < n ∧ n ≤ 11 ∧ c.looks ≤ 2000 ∧ H d = some (.lst [vn no, vn y]) ∧ Due2 (s + c.looks) y no ∧
  ∀ v' H', Same H H' → RN H H' v' (rowsM s (dueM c s y no)) → Q v' H'
theorem pure_rowsof {K : PySem.W.Frag} {w : World} {aG : Addr} (k1 : KDct K w aG "and" (.int 1)) (k0 : KDct K w aG "or" (.int 0)) {n : Nat} (vs : List V) (H : Hp) (Q : VK) (E : XK) (h : spRowsOf (n + 1) vs H Q E) :
    t_rows_of K w aG spLookRow (spRowsOf n) (spCount 11) (Ends.mk (fun _ H' => Q .non H') Q (fun _ _ => False) (fun _ _ => False)) (start ["condition", "start", "dues", "word", "middle", "first_dues"] vs) H := by
  obtain ⟨v, c, s, y, no, d, rfl, hc, ho, hn, n11, hk, ed, hd, q⟩ := h
  unfold t_rows_of
  cases hc with
  | look e =>
    rename_i i
    tm_at "j"
    refine ⟨i, s, y, no, d, rfl, ed, hd, fun v1 H1 g1 t1 => ?_⟩
    tm_at "j"
    rename_i p2 H2 n2 g2 e2
    exact q _ _ (g1.trans g2) ⟨p2, _, rfl, g1.free n2, e2, .cons (t1.mono g2) .nil⟩
  | not e hc =>
    rename_i v1 c1
    have hn1 : c1.deep + 1 < n + 1 := hn
    tm_at "j"
    rename_i p2 H2 n2 g2 e2
    refine ⟨v1, c1, s, no, y, p2, rfl, hc.mono g2, ho, by omega, by omega, hk, e2, hd.symm, fun v' H' g h => q v' H' (g2.trans g) (h.back g2)⟩
  | bin e h1 h2 =>
    rename_i a v1 v2 c1 c2
    have hn1 : max c1.deep c2.deep + 1 < n + 1 := hn
    have hk1 : c1.looks + c2.looks ≤ 2000 := hk
    have hd : Due2 (s + (c1.looks + c2.looks)) y no := hd
    have hl1 : 1 ≤ c1.looks := by have := pairs_looks c1; omega
    have hl2 : 1 ≤ c2.looks := by have := pairs_looks c2; omega
    have hdd : Due2 (s + c1.looks + c2.looks) y no := by rw [Nat.add_assoc]; exact hd
    unfold dueM at q
    rw [rowsM_app] at q
    have hw : decide (V.str (wd a) = V.str "not") = false := by cases a <;> decide +kernel
    have hlk : decide (V.str (wd a) = V.str "look") = false := by cases a <;> decide +kernel
    tm_at "j"
    rw [hlk]
    tm_at "j"
    rw [hw]
    tm_at "j"
    refine ⟨v1, c1, 0, rfl, h1, ho.1, by omega, by omega, fun H1 g1 => ?_⟩
    refine l_I0 ?_
    rw [show V.int ((s : Int) + (c1.looks : Int)) = V.int ((s + c1.looks : Nat) : Int) from congrArg V.int (by omega)]
    have ed1 := g1 _ _ ed
    tm_at "j"
    rename_i p2 H2 n2 g2 e2
    have nd : d ≠ p2 := ne_of_none ed1 n2
    cases a
    · tm_at "j"
      refine l_setL' (K := K) e2 rfl fun H3 g3 e3 => ?_
      have tp := g3.tups e2
      have g13 : Same H1 H3 := sm_but g2 g3 n2
      rw [if_neg Bool.false_ne_true, dueM_len] at q
      tm_at "j"
      refine ⟨v1, c1, s, y, s + c1.looks, p2, rfl, (h1.mono g1).mono g13, ho.1, by omega, by omega, by omega, e3, Or.inr ⟨rfl, (due2_lt hd (show s + c1.looks < s + (c1.looks + c2.looks) by omega)).1⟩, fun v4 H4 g4 r4 => ?_⟩
      obtain ⟨l4, us4, rfl, n4, e4, t4⟩ := r4
      tm_at "j"
      refine ⟨v2, c2, s + c1.looks, y, no, d, rfl, ((h2.mono g1).mono g13).mono g4, ho.2, by omega, by omega, by omega, g4 _ _ (g13 _ _ ed1), hdd, fun v5 H5 g5 r5 => ?_⟩
      obtain ⟨l5, us5, rfl, n5, e5, t5⟩ := r5
      have z4 : us4.length = c1.looks := by rw [t4.len, List.length_map, rowsM_len, dueM_len]
      have z5 : us5.length = c2.looks := by rw [t5.len, List.length_map, rowsM_len, dueM_len]
      refine l_cat (g5 _ _ e4) e5 (by omega) fun p6 H6 n6 g6 e6 => ?_
      refine q _ _ ((((g1.trans g13).trans g4).trans g5).trans g6) ⟨p6, _, rfl, g1.free (g13.free (g4.free (g5.free n6))), e6, ?_⟩
      rw [List.map_append]
      exact ((t4.mono g5).mono g6).append (t5.mono g6)
    · tm_at "j"
      refine l_setL' (K := K) e2 rfl fun H3 g3 e3 => ?_
      have tp := g3.tups e2
      have g13 : Same H1 H3 := sm_but g2 g3 n2
      rw [if_pos rfl, dueM_len] at q
      tm_at "j"
      refine ⟨v1, c1, s, s + c1.looks, no, p2, rfl, (h1.mono g1).mono g13, ho.1, by omega, by omega, by omega, e3, Or.inl ⟨rfl, (due2_lt hd (show s + c1.looks < s + (c1.looks + c2.looks) by omega)).2⟩, fun v4 H4 g4 r4 => ?_⟩
      obtain ⟨l4, us4, rfl, n4, e4, t4⟩ := r4
      tm_at "j"
      refine ⟨v2, c2, s + c1.looks, y, no, d, rfl, ((h2.mono g1).mono g13).mono g4, ho.2, by omega, by omega, by omega, g4 _ _ (g13 _ _ ed1), hdd, fun v5 H5 g5 r5 => ?_⟩
      obtain ⟨l5, us5, rfl, n5, e5, t5⟩ := r5
      have z4 : us4.length = c1.looks := by rw [t4.len, List.length_map, rowsM_len, dueM_len]
      have z5 : us5.length = c2.looks := by rw [t5.len, List.length_map, rowsM_len, dueM_len]
      refine l_cat (g5 _ _ e4) e5 (by omega) fun p6 H6 n6 g6 e6 => ?_
      refine q _ _ ((((g1.trans g13).trans g4).trans g5).trans g6) ⟨p6, _, rfl, g1.free (g13.free (g4.free (g5.free n6))), e6, ?_⟩
      rw [List.map_append]
      exact ((t4.mono g5).mono g6).append (t5.mono g6)
def spCodeOf : Sp := fun vs H Q _ => ∃ v c, ∃ f : Bool, vs = [v, vb f] ∧ CA H v c ∧ c.ok ∧ c.deep ≤ 10 ∧ ∀ v' H', Same H H' → RN H H' v' (codeM c f) → Q v' H'
theorem code_tail {K : PySem.W.Frag} {w : World} {H H' : Hp} {v : V} {c : Cond} {f : Bool} {d : Addr} {Q : VK} {nx bk ct : St → Hp → Prop} (hk : c.looks ≤ 2000) (ho : c.ok) (hd : c.deep ≤ 10) (hc : CA H' v c) (gs : Same H H') (ed : H' d = some (.lst [vn (if f then c.looks + 1 else c.looks), vn (if f then c.looks else c.looks + 1)])) (q : ∀ v' H', Same H H' → RN H H' v' (codeM c f) → Q v' H') :
    tRet (tOp (rCat) (tCall (spRowsOf 11) [] E0 (tCons (tVar 0) (tCons (tC (.int 0)) (tCons (tVar 3) (tNil))))) (tLst (tCons (tTup (tCons (tC (.str "end")) (tCons (tVar 1) (tNil)))) (tCons (tTup (tCons (tC (.str "end")) (tCons (tOp (rI0 fun i j => .int (i - j)) (tC (.int 1)) (tVar 1)) (tNil)))) (tNil)))))
      (Ends.mk nx Q bk ct) [some v, some (vb f), some (.int (c.looks : Int)), some (.ref d)] H' := by
  tm_at "j"
  refine ⟨v, c, 0, if f then c.looks else c.looks + 1, if f then c.looks + 1 else c.looks, d, rfl, hc, ho, by omega, by omega, hk, ed, ?_, fun v1 H1 g1 r1 => ?_⟩
  · rw [Nat.zero_add]
    cases f
    · exact Or.inr ⟨rfl, Nat.lt_succ_self _⟩
    · exact Or.inl ⟨rfl, Nat.lt_succ_self _⟩
  obtain ⟨l1, us, rfl, n1, e1, t1⟩ := r1
  have z1 : us.length = c.looks := by rw [t1.len, List.length_map, rowsM_len, dueM_len]
  tm_at "j"
  rw [show vb f = V.int (bi f) from rfl]
  tm_at "j"
  rename_i p5 H5 np5 g5 e5 p6 H6 np6 g6 e6 p7 H7 np7 g7 e7
  refine l_cat (by tm_at "hp") (by tm_at "hp") (by rw [z1]; show c.looks + 2 ≤ 100000; omega) fun p8 H8 np8 g8 e8 => ?_
  have g58 := ((g5.trans g6).trans g7).trans g8
  refine q _ _ ((gs.trans g1).trans g58) ⟨p8, _, rfl, gs.free (g1.free (g5.free (g6.free (g7.free np8)))), e8, ?_⟩
  unfold codeM
  rw [List.map_append]
  refine (t1.mono g58).append (.cons (row_fin_mk (g8 _ _ (g7 _ _ (g6 _ _ e5)))) (.cons (row_fin_mk ?_) .nil))
  have e6' := g8 _ _ (g7 _ _ e6)
  rw [show V.int (1 - bi f) = vb (!f) from congrArg V.int (bi_not f)] at e6'
  exact e6'
theorem pure_codeof {K : PySem.W.Frag} {w : World} (vs : List V) (H : Hp) (Q : VK) (E : XK) (h : spCodeOf vs H Q E) :
    t_code_of K w (spCount 11) (spRowsOf 11) (Ends.mk (fun _ H' => Q .non H') Q (fun _ _ => False) (fun _ _ => False)) (start ["condition", "first", "behind", "dues"] vs) H := by
  obtain ⟨v, c, f, rfl, hc, ho, hd, q⟩ := h
  have hk : c.looks ≤ 2000 := by
    have h1 := looks_deep c
    have h2 := Nat.pow_le_pow_right (n := 2) (by decide) hd
    omega
  unfold t_code_of
  tm_at "j"
  refine ⟨v, c, 0, rfl, hc, ho, by omega, by omega, fun H1 g1 => ?_⟩
  tm_at "j"
  rename_i p2 H2 n2 g2 e2
  have el : V.int ((c.looks : Int) + 1) = vn (c.looks + 1) := congrArg V.int (by omega)
  cases f
  · tm_at "j"
    rw [show vb false = V.int 0 from rfl]
    tm_at "j"
    refine l_setL' (K := K) e2 rfl fun H3 g3 e3 => ?_
    rw [el] at e3
    have g13 : Same H1 H3 := sm_but g2 g3 n2
    exact code_tail (K := K) (w := w) (f := false) hk ho hd ((hc.mono g1).mono g13) (g1.trans g13) e3 q
  · tm_at "j"
    rw [show vb true = V.int 1 from rfl]
    tm_at "j"
    refine l_setL' (K := K) e2 rfl fun H3 g3 e3 => ?_
    rw [el] at e3
    have g13 : Same H1 H3 := sm_but g2 g3 n2
    exact code_tail (K := K) (w := w) (f := true) hk ho hd ((hc.mono g1).mono g13) (g1.trans g13) e3 q
theorem pure_coded {K : PySem.W.Frag} {w : World} (vs : List V) (H : Hp) (Q : VK) (E : XK) (h : spCoded vs H Q E) :
    t_coded K w spCheck spFirst spCodeOf (Ends.mk (fun _ H' => Q .non H') Q (fun _ _ => False) (fun _ _ => False)) (start ["condition", "first"] vs) H := by
  obtain ⟨v, c, f, rfl, hc, ho, hd, hk, q⟩ := h
  unfold t_coded
  tm_at "j"
  refine ⟨v, c, rfl, hc, ho, hd, hk, fun H1 g1 => ?_⟩
  tm_at "j"
  refine ⟨f, rfl, fun H2 g2 => ?_⟩
  tm_at "j"
  exact ⟨v, c, f, rfl, (hc.mono g1).mono g2, ho, hd, fun v' H' g r => q v' H' ((g1.trans g2).trans g) (r.back (g1.trans g2))⟩

/-! k11: the law itself -/
theorem deep_len {t : List Nat} {c : Cond} {m : Nat} (h : RT' t c m) : c.deep < t.length := by
  induction h with
  | look h => exact Nat.zero_lt_one
  | not h ih =>
    rename_i t c m
    show c.deep + 1 < (33 :: t).length
    rw [List.length_cons]; omega
  | bin h1 h2 hm i1 i2 =>
    rename_i t u a l r m
    show max l.deep r.deep + 1 < (t ++ sg a :: u).length
    rw [List.length_append, List.length_cons]; omega
  | brk h ih =>
    rename_i t c m
    rw [List.length_cons, List.length_append]
    omega
theorem fst_none {t : List Nat} (h : fstM true 0 0 t = none) : ∃ c, RT' t c 0 ∧ readL t = some ([c], []) ∧ c.ok := chk_read ((fst_chk t true 0 0).mp h)
section
variable {K : PySem.W.Frag} {w : World}
abbrev S11 (K : PySem.W.Frag) (w : World) (t : (K : PySem.W.Frag) → (w : World) → Sp → Sp → Sp → Sp → Sp → Sp → Sp → Sp → Sp → Sp → Sp → TS) : TS := t K w (spBegun K) spTake spCond (spText 13) spSpoilt spFirstL (spLRead 202) (spDeepG 202) (spLooked 202) (spTold11 K) (spAlike K 16)
theorem k11_alike {H : Hp} {t : List Nat} {D : PyData} {pd : V} {σ : St} {nx bk ct : St → Hp → Prop} {rt : VK} (e4 : σ[4]? = some (some (.str (S t)))) (e7 : σ[7]? = some (some pd)) (hd : TD H pd D) (ok : okd 16 D)
    (told : ∀ H1, Same H H1 → ∀ Qk : VK, (∀ v' H', Same H1 H' → TD H' v' D → Qk v' H') → spTold11 K [.str (S t)] H1 Qk E0) (q : ∀ H', Same H H' → nx σ H') :
    tIfS (tOr (tNot (tB (tCall (spAlike K 16) [] E0 (tCons (tCall (spTold11 K) [] E0 (tCons (tVar 4) (tNil))) (tCons (tVar 7) (tNil)))))) (tNot (tB (tCall (spAlike K 16) [] E0 (tCons (tCall (spTold11 K) [] E0 (tCons (tVar 4) (tNil))) (tCons (tVar 7) (tNil))))))) (tRet (tC (.bl false))) (tNext)
      (Ends.mk nx rt bk ct) σ H := by
  have one : ∀ {H1 : Hp} {P : VK}, Same H H1 → (∀ H', Same H H' → P (.bl true) H') → tCall (spAlike K 16) [] E0 (tCons (tCall (spTold11 K) [] E0 (tCons (tVar 4) (tNil))) (tCons (tVar 7) (tNil))) σ H1 P := fun {H1 P} g1 hP => by
    refine l_call (l_cons (l_call (l_cons (l_var e4 (l_nil ?_)))))
    refine told _ g1 _ fun v' H2 g2 td => ?_
    refine l_cons (l_var e7 (l_nil ?_))
    have g02 := g1.trans g2
    exact ⟨v', pd, D, rfl, td.dp, (hd.mono g02).dp, ok, fun H3 g3 => hP _ (g02.trans g3)⟩
  refine l_ifS (l_or (l_not (l_tB ?_)))
  refine one (Same.refl _) fun H1 g1 => l_bl (i_f rfl ?_)
  refine l_not (l_tB ?_)
  refine one g1 fun H2 g2 => l_bl (i_f rfl (l_next (q _ g2)))
/-- behind a text: what is due, and whether it is told -/
theorem k11_2 {H : Hp} {t : List Nat} {o0 o1 o2 o3 o5 o6 o7 o8 o9 : Option V} {nx bk ct : St → Hp → Prop} {rt : VK} (ht : t.length ≤ 200)
    (q : ∀ o6 o7 o8 o9 H', Same H H' → nx [o0, o1, o2, o3, some (.str (S t)), o5, o6, o7, o8, o9] H') :
    (tSeq (tAsg (tCall spFirstL [] E0 (tCons (tVar 4) (tNil))) (gName 6))
  (tSeq (tAsg (tTup (tCons (tC (.str "BadText")) (tCons (tVar 6) (tNil)))) (gName 7))
  (tSeq (tIfS (tTest (tOp (rIsNone) (tVar 6) (tC .non))) (tSeq (tAsg (tCall (spLRead 202) [] E0 (tCons (tVar 4) (tNil))) (gName 8))
  (tSeq (tAsg (tAndV (tOp (rI0 fun i j => .bl (decide (i ≤ j))) (tCall (spDeepG 202) [] E0 (tCons (tVar 8) (tNil))) (tC (.int 10))) (tOp (rI0 fun i j => .bl (decide (i ≤ j))) (tCall (spLooked 202) [] E0 (tCons (tVar 8) (tNil))) (tC (.int 12)))) (gName 9))
  (tAsg (tIf (tB (tVar 9)) (tTup (tCons (tC (.str "told")) (tCons (tVar 8) (tNil)))) (tTup (tCons (tC (.str "BadCondition")) (tCons (tC (.int 0)) (tNil))))) (gName 7)))) (tNext))
  (tIfS (tOr (tNot (tB (tCall (spAlike K 16) [] E0 (tCons (tCall (spTold11 K) [] E0 (tCons (tVar 4) (tNil))) (tCons (tVar 7) (tNil)))))) (tNot (tB (tCall (spAlike K 16) [] E0 (tCons (tCall (spTold11 K) [] E0 (tCons (tVar 4) (tNil))) (tCons (tVar 7) (tNil))))))) (tRet (tC (.bl false))) (tNext)))))
      (Ends.mk nx rt bk ct) [o0, o1, o2, o3, some (.str (S t)), o5, o6, o7, o8, o9] H := by
  have ht5 : t.length ≤ 5000 := by omega
  have okt : ∀ x y, (∀ n, okd (n + 1) x) → okd 15 y → okd 16 (.tuple [x, y]) := fun x y hx hy => ⟨by show 2 ≤ 1000; decide, fun z hz => by
    rcases List.mem_cons.mp hz with rfl | hz
    · exact hx 14
    · obtain rfl := List.mem_singleton.mp hz
      exact hy⟩
  tm_at "j"
  refine ⟨t, rfl, ht5, fun H1 g1 => ?_⟩
  refine l_name (l_seq (l_asg (l_tup (l_cons (l_c (l_cons (l_var rfl (l_nil ?_))))))))
  refine l_new (by show 2 ≤ 100000; decide) fun p2 H2 n2 g2 e2 => ?_
  refine l_name (l_seq ?_)
  cases hf : fstM true 0 0 t with
  | some p =>
    rw [hf] at e2
    refine l_ifS (l_test (l_op (l_var rfl (l_c (l_isNone ?_)))))
    refine l_bl (i_f (show decide (V.int (p : Int) = V.non) = false from decide_eq_false (by intro z; cases z)) (l_next ?_))
    refine k11_alike (t := t) (D := .tuple [.str "BadText", .int (p : Int)]) (pd := .ref p2) rfl rfl (.tup e2 (.cons (.str _) (.cons (.int _) .nil))) (okt _ _ (fun _ => trivial) trivial) (fun H3 g3 Qk hk => ?_) fun H3 g3 => ?_
    · refine ⟨t, rfl, ht5, fun p' hp' v' H4 g4 td => ?_, fun z => (by rw [hf] at z; cases z)⟩
      obtain rfl : p = p' := Option.some.inj (hf.symm.trans hp')
      exact hk _ _ g4 td
    · exact q _ _ _ _ _ ((g1.trans g2).trans g3)
  | none =>
    obtain ⟨c, hrt, hrd, hok⟩ := fst_none hf
    have hdl := deep_len hrt
    refine l_ifS (l_test (l_op (l_var rfl (l_c (l_isNone ?_)))))
    refine l_bl (i_t (show decide (fstV none = V.non) = true from decide_eq_true rfl) ?_)
    tm_at "j"
    refine ⟨t, c, rfl, hrt, by omega, by omega, fun v H3 g3 hc => ?_⟩
    tm_at "j"
    refine ⟨v, c, rfl, hc, by omega, fun H4 g4 => ?_⟩
    have told : ∀ H1, ∀ Qk : VK, (c.deep ≤ 10 → c.looks ≤ 12 → ∀ v' H', Same H1 H' → TD H' v' (.tuple [.str "told", cdata c]) → Qk v' H') → (¬ (c.deep ≤ 10 ∧ c.looks ≤ 12) → ∀ v' H', Same H1 H' → TD H' v' (.tuple [.str "BadCondition", .int 0]) → Qk v' H') → spTold11 K [.str (S t)] H1 Qk E0 := fun H1 Qk k1 k2 =>
      ⟨t, rfl, ht5, fun p' hp' => (by rw [hf] at hp'; cases hp'), fun _ => ⟨c, hrd, hok, k1, k2⟩⟩
    have g04 := ((g1.trans g2).trans g3).trans g4
    have bad : ¬ (c.deep ≤ 10 ∧ c.looks ≤ 12) → ∀ {H5 : Hp} {o8 : Option V}, Same H4 H5 → tSeq (tAsg (tIf (tB (tVar 9)) (tTup (tCons (tC (.str "told")) (tCons (tVar 8) (tNil)))) (tTup (tCons (tC (.str "BadCondition")) (tCons (tC (.int 0)) (tNil))))) (gName 7))
        (tIfS (tOr (tNot (tB (tCall (spAlike K 16) [] E0 (tCons (tCall (spTold11 K) [] E0 (tCons (tVar 4) (tNil))) (tCons (tVar 7) (tNil)))))) (tNot (tB (tCall (spAlike K 16) [] E0 (tCons (tCall (spTold11 K) [] E0 (tCons (tVar 4) (tNil))) (tCons (tVar 7) (tNil))))))) (tRet (tC (.bl false))) (tNext))
        (Ends.mk nx rt bk ct) [o0, o1, o2, o3, some (.str (S t)), o5, some (fstV none), some (.ref p2), o8, some (.bl false)] H5 := fun z {H5 o8} g5 => by
      refine l_seq (l_asg (l_if (l_tB (l_var rfl (l_bl (i_f rfl (l_tup (l_cons (l_c (l_cons (l_c (l_nil ?_))))))))))))
      refine l_new (by show 2 ≤ 100000; decide) fun p6 H6 n6 g6 e6 => l_name ?_
      refine k11_alike (t := t) (D := .tuple [.str "BadCondition", .int 0]) (pd := .ref p6) rfl rfl (.tup e6 (.cons (.str _) (.cons (.int _) .nil))) (okt _ _ (fun _ => trivial) trivial) (fun H7 g7 Qk hk => ?_) fun H7 g7 => ?_
      · exact told H7 Qk (fun h1 h2 => absurd ⟨h1, h2⟩ z) fun _ v' H8 g8 td => hk v' H8 g8 td
      · exact q _ _ _ _ _ (((g04.trans g5).trans g6).trans g7)
    refine l_c (l_I0 ?_)
    refine ⟨decide ((c.deep : Int) ≤ 10), rfl, ?_⟩
    refine i_b (fun ed => ?_) (fun ed => ?_)
    · have hd10 : c.deep ≤ 10 := by have := of_decide_eq_true ed; omega
      refine l_op (l_call (l_cons (l_var rfl (l_nil ?_))))
      refine ⟨v, c, rfl, hc.mono g4, by omega, fun H5 g5 => ?_⟩
      refine l_c (l_I0 (l_name ?_))
      by_cases hk : c.looks ≤ 12
      · rw [decide_eq_true (show (c.looks : Int) ≤ 12 by omega)]
        refine l_seq (l_asg (l_if (l_tB (l_var rfl (l_bl (i_t rfl (l_tup (l_cons (l_c (l_cons (l_var rfl (l_nil ?_))))))))))))
        refine l_new (by show 2 ≤ 100000; decide) fun p6 H6 n6 g6 e6 => l_name ?_
        refine k11_alike (t := t) (D := .tuple [.str "told", cdata c]) (pd := .ref p6) rfl rfl (.tup e6 (.cons (.str _) (.cons (((hc.mono g4).mono g5).mono g6).td .nil))) (okt _ _ (fun _ => trivial) (ok_cond c 15 (by omega))) (fun H7 g7 Qk hk7 => ?_) fun H7 g7 => ?_
        · exact told H7 Qk (fun _ _ v' H8 g8 td => hk7 v' H8 g8 td) fun z => absurd ⟨hd10, hk⟩ z
        · exact q _ _ _ _ _ (((g04.trans g5).trans g6).trans g7)
      · rw [decide_eq_false (show ¬ (c.looks : Int) ≤ 12 by omega)]
        exact bad (fun z => hk z.2) g5
    · refine l_name ?_
      exact bad (fun z => by have := of_decide_eq_false ed; omega) (Same.refl _)
theorem k11_1 {H : Hp} {b l : Addr} {ns : List Int} {s : Int} {t : List Nat} {o0 o2 o3 o5 o6 o7 o8 o9 : Option V} {nx bk ct : St → Hp → Prop} {rt : VK} (hx : Bx H b l ns s) (ht : t.length ≤ 200)
    (q : ∀ o5 t ns s H', Fr b l H H' → Bx H' b l ns s → t.length ≤ 5000 → nx [o0, some (.ref b), o2, o3, some (.str (S t)), o5, o6, o7, o8, o9] H') :
    S11 K w t_law_1 (Ends.mk nx rt bk ct) [o0, some (.ref b), o2, o3, some (.str (S t)), o5, o6, o7, o8, o9] H := by
  show t_law_1 _ _ _ _ _ _ _ _ _ _ _ _ _ _ _ _
  unfold t_law_1
  tm_at "j"
  refine ⟨b, l, ns, s, 4, rfl, hx, by decide, by decide, fun r ns2 s2 H2 f2 x2 r0 r1 => ?_⟩
  obtain ⟨n, rfl⟩ : ∃ k : Nat, r = (k : Int) := ⟨r.toNat, by omega⟩
  tm_at "j"
  refine forR (n := n) (by omega) (fun i σ' H' => ∃ ns s t o5, σ' = [o0, some (.ref b), o2, o3, some (.str (S t)), o5, o6, o7, o8, o9] ∧ Fr b l H H' ∧ Bx H' b l ns s ∧ t.length + 2 ≤ 202 * 2 ^ i) ⟨ns2, s2, t, _, rfl, f2, x2, by omega⟩ ?_ ?_
  · rintro i σ' H' hi ⟨ns, s, t, o5, rfl, f, x, ht⟩
    have p3 : 2 ^ i ≤ 2 ^ 3 := Nat.pow_le_pow_right (by decide) (by omega)
    have h8 : (2 : Nat) ^ 3 = 8 := rfl
    tm_at "j"
    refine ⟨b, l, ns, s, t, rfl, x, by omega, fun u ns3 s3 H3 f3 x3 hu => ?_⟩
    tm_at "j"
    exact ⟨ns3, s3, u, _, rfl, f.trans f3, x3, by rw [Nat.pow_succ]; omega⟩
  · rintro σ' H' ⟨ns, s, t, o5, rfl, f, x, ht⟩
    have p3 : 2 ^ n ≤ 2 ^ 3 := Nat.pow_le_pow_right (by decide) (by omega)
    have h8 : (2 : Nat) ^ 3 = 8 := rfl
    exact q _ _ _ _ _ f x (by omega)
/-- the odd texts -/
def OddV (xs : List V) : Prop := xs.length = 18 ∧ ∀ x ∈ xs, ∃ t, x = .str (S t) ∧ t.length ≤ 200
theorem odd_all {xs : List V} (h : (xs.all fun x => match x with | .str z => decide (z.length ≤ 200) | _ => false) = true) : ∀ x ∈ xs, ∃ t, x = .str (S t) ∧ t.length ≤ 200 := fun x hx => by
  have := List.all_eq_true.mp h x hx
  cases x with
  | str z =>
    refine ⟨z.cps.toList, by rw [← S_self], ?_⟩
    rw [Array.length_toList]
    exact of_decide_eq_true this
  | _ => cases this
theorem pure_main (vs : List V) (H : Hp) (Q : VK) (E : XK) (h : spLaw K vs H Q E) :
    t_law K w (spBegun K) spTake spCond (spText 13) spSpoilt spFirstL (spLRead 202) (spDeepG 202) (spLooked 202) (spTold11 K) (spAlike K 16) (Ends.mk (fun _ H' => Q .non H') Q (fun _ _ => False) (fun _ _ => False)) (start ["_law_script", "_law_box", "_law_odd", "_law_turn", "_law_text_here", "_law_deed", "_law_first_here", "_law_due", "_law_part_here", "_law_good"] vs) H := by
  obtain ⟨a, ns, rfl, ha, n63, q⟩ := h
  unfold t_law
  tm_at "j"
  refine ⟨a, ns, rfl, ha, n63, fun b l s H1 g1 x1 nb nl => ?_⟩
  tm_at "j"
  refine ⟨"!", 11, rfl, rfl, by decide +kernel, by decide, by decide, ?_⟩
  tm_at "j"
  refine ⟨_, _, rfl, rfl, by decide +kernel, ?_⟩
  tm_at "j"
  refine ⟨"!", 10, rfl, rfl, by decide +kernel, by decide, by decide, ?_⟩
  tm_at "j"
  refine ⟨_, _, rfl, rfl, by decide +kernel, ?_⟩
  tm_at "j"
  refine ⟨rfl, ?_⟩
  tm_at "j"
  refine ⟨_, _, rfl, rfl, by decide +kernel, by decide +kernel, by decide +kernel, ?_⟩
  tm_at "j"
  refine ⟨rfl, ?_⟩
  tm_at "j"
  refine ⟨_, _, rfl, rfl, by decide +kernel, by decide +kernel, by decide +kernel, ?_⟩
  tm_at "j"
  rename_i p1 H2 n2 g2 e2 p2 H3 n3 g3 e3 po Ho no go eo
  have odd : ∃ xs, Ho po = some (.lst xs) ∧ OddV xs := ⟨_, eo, by decide +kernel, odd_all (by decide +kernel)⟩
  obtain ⟨xs, eo, ox⟩ := odd
  have g1o := (g2.trans g3).trans go
  have xo := x1.same g1o
  have fo : po ≠ b ∧ po ≠ l := by
    have z := x1.same (g2.trans g3)
    exact ⟨(ne_of_none z.hb no).symm, (ne_of_none z.hl no).symm⟩
  unfold t_law_2
  tm_at "j"
  refine forR (n := 4) (by decide) (fun i σ' H' => ∃ ns s o3 o4 o5 o6 o7 o8 o9, σ' = [some (.ref a), some (.ref b), some (.ref po), o3, o4, o5, o6, o7, o8, o9] ∧ Bx H' b l ns s ∧ H' po = some (.lst xs)) ⟨ns, s, _, _, _, _, _, _, _, rfl, xo, eo⟩ ?_ ?_
  · rintro i σ' H' hi ⟨ns, s, o3, o4, o5, o6, o7, o8, o9, rfl, x, eo⟩
    tm_at "j"
    refine ⟨b, l, ns, s, 12, rfl, x, by decide, by decide, fun v c ns2 s2 H2 f2 x2 hc ho hk hd => ?_⟩
    tm_at "j"
    refine ⟨v, c, 0, rfl, hc, ho, by omega, by decide, fun H3 g3 => ?_⟩
    have x3 := x2.same g3
    tm_at "j"
    refine ⟨b, l, ns2, s2, 18, rfl, x3, by decide, by decide, fun r ns4 s4 H4 f4 x4 r0 r1 => ?_⟩
    obtain ⟨j, rfl⟩ : ∃ j : Nat, r = (j : Int) := ⟨r.toNat, by omega⟩
    have eo4 := f4 _ _ fo.1 fo.2 (g3 _ _ (f2 _ _ fo.1 fo.2 eo))
    have hj : xs[j]? = some (xs[j]'(by rw [ox.1]; omega)) := List.getElem?_eq_getElem _
    generalize xs[j]'(by rw [ox.1]; omega) = y at hj
    obtain ⟨t1, rfl, ht1⟩ := ox.2 y (List.mem_of_getElem? hj)
    refine l_ixL (SqL.of eo4) (atI_nat hj) ?_
    tm_at "j"
    rename_i p5 H5 n5 g5 e5
    refine ⟨b, l, ns4, s4, 3, rfl, x4.same g5, by decide, by decide, fun r3 ns6 s6 H6 f6 x6 k0 k1 => ?_⟩
    have e56 := f6 _ _ (ne_of_none x4.hb n5).symm (ne_of_none x4.hl n5).symm e5
    have eo6 := f6 _ _ fo.1 fo.2 (g5 _ _ eo4)
    obtain ⟨t, hat, ht⟩ : ∃ t : List Nat, atI [V.str (S (textL c 0)), V.str (S t1)] (r3 / 2) = some (.str (S t)) ∧ t.length ≤ 200 := by
      obtain rfl | rfl | rfl : r3 = 0 ∨ r3 = 1 ∨ r3 = 2 := by omega
      · exact ⟨_, rfl, text_200 (by omega) (by omega)⟩
      · exact ⟨_, rfl, text_200 (by omega) (by omega)⟩
      · exact ⟨_, rfl, ht1⟩
    tm_at "j"
    refine l_ixL (SqL.of e56) hat ?_
    refine l_name (l_seq ?_)
    refine k11_1 x6 ht fun o5 t ns7 s7 H7 f7 x7 ht7 => ?_
    have eo7 := f7 _ _ fo.1 fo.2 eo6
    refine l_ifS (l_and (l_test (l_op (l_CB (l_cons (l_var rfl (l_nil ?_)))))))
    refine ⟨S t, rfl, Nat.le_trans ht7 (by decide), ?_⟩
    refine l_c (l_I0 (l_bl ?_))
    refine i_b (fun e200 => ?_) (fun _ => ?_)
    · have ht2 : t.length ≤ 200 := by
        have h1 : ((t.length : Nat) : Int) ≤ 200 := of_decide_eq_true e200
        omega
      refine l_test (l_op (l_bm (l_var rfl ⟨rfl, l_cons (l_c (l_nil ?_))⟩)))
      refine ⟨S t, "(", rfl, rfl, ?_⟩
      refine l_c (l_I0 (l_bl ?_))
      refine i_b (fun _ => ?_) (fun _ => ?_)
      · refine k11_2 ht2 fun o6 o7 o8 o9 H8 g8 => ?_
        exact ⟨ns7, s7, _, _, _, _, _, _, _, rfl, x7.same g8, g8 _ _ eo7⟩
      · exact l_next ⟨ns7, s7, _, _, _, _, _, _, _, rfl, x7, eo7⟩
    · exact i_f rfl (l_next ⟨ns7, s7, _, _, _, _, _, _, _, rfl, x7, eo7⟩)
  · rintro σ' H' ⟨ns, s, o3, o4, o5, o6, o7, o8, o9, rfl, x, eo⟩
    tm_at "j"
    exact q _
end

theorem ok_check_conditionx {P : Program} {w : World} {K : PySem.W.Frag} {mg : Str → Option Value} {base : Heap} (T : Tx P K mg w) {k : Nat} {sp_count_looks sp : Sp} (G_count_looks : FnOk P w K mg base (L2.CX P w) (k) T.f_count_looks T.d_count_looks ["condition", "around"] sp_count_looks)
    (len : ∀ vs H Q E, sp vs H Q E → vs.length = 1)
    (pure : ∀ vs H Q E, sp vs H Q E → t_check_conditionx K w T.C_BadCondition sp_count_looks E (Ends.mk (fun _ H' => Q .non H') Q (fun _ _ => False) (fun _ _ => False)) (start ["condition"] vs) H) :
    FnOk P w K mg base (L2.CX P w) (k + 1) T.f_check_condition T.d_check_condition ["condition"] sp := by
  refine T.F_check_condition.okX sc_check_condition len (fun cdv A outer s H vs Q E hr h => ⟨t_check_conditionx K w T.C_BadCondition sp_count_looks E, ?_, pure vs H Q E h⟩)
  exact (pss_one (ps_if (pt_cmpR op_gt (pe_call G_count_looks hr rfl T.m_count_looks T.F_count_looks.kp T.b_count_looks .nil (passes_call (takes_of rfl rfl rfl rfl) fun _ _ _ _ z => z) (pa_cons (pv 0) (pa_cons (pe_int) (pa_nil)))) (pe_glob rfl T.c_MOST_LOOKS ⟨_, rfl⟩) (nomark _)) (pss_one (ps_raise rfl (takes_of rfl rfl rfl rfl) (pmk_own PySem.F.excBase_ValueError T.e_BadCondition T.x_BadCondition T.k_BadCondition (raises_own T.s_BadCondition T.t_BadCondition) (by rfl)))) (pss_nil)))

theorem ok_check_signsx {P : Program} {w : World} {K : PySem.W.Frag} {mg : Str → Option Value} {base : Heap} (T : Tx P K mg w) {k : Nat} {sp_may_stand sp : Sp} (G_may_stand : FnOk P w K mg base CX0 (k + 2) T.f_may_stand T.d_may_stand ["sign", "due", "unclosed"] sp_may_stand)
    (len : ∀ vs H Q E, sp vs H Q E → vs.length = 1)
    (pure : ∀ vs H Q E, sp vs H Q E → t_check_signsx K w T.C_BadText sp_may_stand E (Ends.mk (fun _ H' => Q .non H') Q (fun _ _ => False) (fun _ _ => False)) (start ["text", "due", "unclosed", "place", "sign"] vs) H) :
    FnOk P w K mg base (L2.CX P w) (k + 2 + 1) T.f_check_signs T.d_check_signs ["text"] sp := by
  refine T.F_check_signs.okX sc_check_signs len (fun cdv A outer s H vs Q E hr h => ⟨t_check_signsx K w T.C_BadText sp_may_stand E, ?_, pure vs H Q E h⟩)
  exact (pss_cons (ps_set (i := 1) sc_check_signs.nd rfl (by first | exact Or.inl rfl | exact Or.inr rfl) (pe_bl))
      (pss_cons (ps_set (i := 2) sc_check_signs.nd rfl (by first | exact Or.inl rfl | exact Or.inr rfl) (pe_int))
      (pss_cons (ps_for PassesOwn.leaving rfl (pi_enumS (by rfl) T.n_enumerate (pa_cons (pv 0) (pa_nil))) (pg_tup rfl (pgs_cons (pg_name (i := 3) sc_check_signs.nd rfl (by first | exact Or.inl rfl | exact Or.inr rfl)) (pgs_cons (pg_name (i := 4) sc_check_signs.nd rfl (by first | exact Or.inl rfl | exact Or.inr rfl)) (pgs_nil)))) (pss_cons (ps_if (pt_not (pt_val (pe_call G_may_stand hr rfl T.m_may_stand T.F_may_stand.kp T.b_may_stand .nil pass0 (pa_cons (pv 4) (pa_cons (pv 1) (pa_cons (pv 2) (pa_nil))))))) (pss_one (ps_raiseP rfl T.p_BadText T.b_BadText T.x_BadText hr (Nat.le_add_left 2 k) (takes_of rfl rfl rfl rfl) (by exact (pa_cons (pv 3) pa_nil)))) (pss_nil))
      (pss_cons (ps_if (pt_cmpR op_eq (pv 4) (pe_str) (nomark _)) (pss_one (ps_aug (i := 2) sc_check_signs.nd rfl (by first | exact Or.inl rfl | exact Or.inr rfl) (pe_int) ip_add)) (pss_nil))
      (pss_cons (ps_if (pt_cmpR op_eq (pv 4) (pe_str) (nomark _)) (pss_one (ps_aug (i := 2) sc_check_signs.nd rfl (by first | exact Or.inl rfl | exact Or.inr rfl) (pe_int) ip_sub)) (pss_nil))
      (pss_one (ps_set (i := 1) sc_check_signs.nd rfl (by first | exact Or.inl rfl | exact Or.inr rfl) (pe_cmpR op_in_sign (pv 4) (pe_glob rfl T.c_BEFORE_ONE ⟨_, rfl⟩) (by with_unfolding_all rfl))))))))
      (pss_one (ps_if (PW.pt (pw_or (pt_val (pv 1)) (pw_or1 (pt_cmpR op_gt (pv 2) (pe_int) (nomark _))))) (pss_one (ps_raiseP rfl T.p_BadText T.b_BadText T.x_BadText hr (Nat.le_add_left 2 k) (takes_of rfl rfl rfl rfl) (by exact (pa_cons (pe_callB call_len_str (by rfl) T.n_len PySem.boot_len (pa_cons (pv 0) (pa_nil))) pa_nil)))) (pss_nil))))))

theorem ok_condition_of {P : Program} {w : World} {K : PySem.W.Frag} {mg : Str → Option Value} {base : Heap} (T : Tx P K mg w) {k : Nat} {sp_join_waiting sp : Sp} (G_join_waiting : FnOk P w K mg base CX0 (k) T.f_join_waiting T.d_join_waiting ["done", "waiting", "least"] sp_join_waiting)
    (len : ∀ vs H Q E, sp vs H Q E → vs.length = 1)
    (pure : ∀ vs H Q E, sp vs H Q E → t_condition_of K w T.a_BINDS T.a_WORDS sp_join_waiting (Ends.mk (fun _ H' => Q .non H') Q (fun _ _ => False) (fun _ _ => False)) (start ["text", "done", "waiting", "sign"] vs) H) :
    FnOk P w K mg base CX0 (k + 1) T.f_condition_of T.d_condition_of ["text"] sp := by
  refine T.F_condition_of.ok sc_condition_of len (fun cdv A outer s H vs Q E hr h => ⟨t_condition_of K w T.a_BINDS T.a_WORDS sp_join_waiting, ?_, pure vs H Q E h⟩)
  exact (pss_cons (ps_set (i := 1) sc_condition_of.nd rfl (by first | exact Or.inl rfl | exact Or.inr rfl) (pe_lst (pa_nil)))
      (pss_cons (ps_set (i := 2) sc_condition_of.nd rfl (by first | exact Or.inl rfl | exact Or.inr rfl) (pe_lst (pa_nil)))
      (pss_cons (ps_for PassesOwn.never rfl (pi_str (pv 0)) (pg_name (i := 3) sc_condition_of.nd rfl (by first | exact Or.inl rfl | exact Or.inr rfl)) (pss_one (ps_if (pt_cmpR op_in_sign (pv 3) (pe_glob rfl T.c_LETTERS ⟨_, rfl⟩) (by with_unfolding_all rfl)) (pss_one (ps_expr (pe_bm PySem.F.plainAttrs_list PySem.F.slot_list_append PySem.F.type_list_append mt_append (pv 1) (pa_cons (pe_tup (pa_cons (pe_str) (pa_cons (pe_bm PySem.F.plainAttrs_str PySem.F.slot_str_index PySem.F.type_str_index mt_indexS (pe_glob rfl T.c_LETTERS ⟨_, rfl⟩) (pa_cons (pv 3) (pa_nil))) (pa_nil)))) (pa_nil))))) (pss_one (ps_if (pt_cmpR op_eq (pv 3) (pe_str) (nomark _)) (pss_cons (ps_expr (pe_call G_join_waiting hr rfl T.m_join_waiting T.F_join_waiting.kp T.b_join_waiting .nil pass0 (pa_cons (pv 1) (pa_cons (pv 2) (pa_cons (pe_ix ix_kdict (pe_glob rfl T.c_BINDS rfl) (pe_str) (fun _ _ => rfl)) (pa_nil))))))
      (pss_one (ps_expr (pe_bm0 PySem.F.plainAttrs_list PySem.F.slot_list_pop PySem.F.type_list_pop mt_pop (pv 2))))) (pss_cons (ps_if (pt_cmpR op_inKD (pv 3) (pe_glob rfl T.c_WORDS rfl) (by with_unfolding_all rfl)) (pss_one (ps_expr (pe_call G_join_waiting hr rfl T.m_join_waiting T.F_join_waiting.kp T.b_join_waiting .nil pass0 (pa_cons (pv 1) (pa_cons (pv 2) (pa_cons (pe_ix ix_kdict (pe_glob rfl T.c_BINDS rfl) (pv 3) (fun _ _ => rfl)) (pa_nil))))))) (pss_nil))
      (pss_one (ps_expr (pe_bm PySem.F.plainAttrs_list PySem.F.slot_list_append PySem.F.type_list_append mt_append (pv 2) (pa_cons (pv 3) (pa_nil)))))))))))
      (pss_cons (ps_expr (pe_call G_join_waiting hr rfl T.m_join_waiting T.F_join_waiting.kp T.b_join_waiting .nil pass0 (pa_cons (pv 1) (pa_cons (pv 2) (pa_cons (pe_ix ix_kdict (pe_glob rfl T.c_BINDS rfl) (pe_str) (fun _ _ => rfl)) (pa_nil))))))
      (pss_one (ps_ret (pe_ix ix_list (pv 1) (pe_int) (fun _ _ => rfl))))))))

theorem ok_count_looksx {P : Program} {w : World} {K : PySem.W.Frag} {mg : Str → Option Value} {base : Heap} (T : Tx P K mg w) {k : Nat} {sp_has_form sp_count_looks sp : Sp} (G_has_form : FnOk P w K mg base CX0 (k) T.f_has_form T.d_has_form ["condition"] sp_has_form) (G_count_looks : FnOk P w K mg base (L2.CX P w) (k) T.f_count_looks T.d_count_looks ["condition", "around"] sp_count_looks)
    (len : ∀ vs H Q E, sp vs H Q E → vs.length = 2)
    (pure : ∀ vs H Q E, sp vs H Q E → t_count_looksx K w T.C_BadCondition sp_has_form sp_count_looks E (Ends.mk (fun _ H' => Q .non H') Q (fun _ _ => False) (fun _ _ => False)) (start ["condition", "around", "side"] vs) H) :
    FnOk P w K mg base (L2.CX P w) (k + 1) T.f_count_looks T.d_count_looks ["condition", "around"] sp := by
  refine T.F_count_looks.okX sc_count_looks len (fun cdv A outer s H vs Q E hr h => ⟨t_count_looksx K w T.C_BadCondition sp_has_form sp_count_looks E, ?_, pure vs H Q E h⟩)
  exact (pss_cons (ps_if (pt_cmpR op_gt (pv 1) (pe_glob rfl T.c_MOST_AROUND ⟨_, rfl⟩) (nomark _)) (pss_one (ps_raise rfl (takes_of rfl rfl rfl rfl) (pmk_own PySem.F.excBase_ValueError T.e_BadCondition T.x_BadCondition T.k_BadCondition (raises_own T.s_BadCondition T.t_BadCondition) (by rfl)))) (pss_nil))
      (pss_cons (ps_if (pt_not (pt_val (pe_call G_has_form hr rfl T.m_has_form T.F_has_form.kp T.b_has_form .nil pass0 (pa_cons (pv 0) (pa_nil))))) (pss_one (ps_raise rfl (takes_of rfl rfl rfl rfl) (pmk_own PySem.F.excBase_ValueError T.e_BadCondition T.x_BadCondition T.k_BadCondition (raises_own T.s_BadCondition T.t_BadCondition) (by rfl)))) (pss_nil))
      (pss_cons (ps_if (pt_cmpR op_eq (pe_ix ix_tup (pv 0) (pe_int) (fun _ _ => rfl)) (pe_str) (nomark _)) (pss_one (ps_ret (pe_int))) (pss_nil))
      (pss_one (ps_ret (pe_callB (cr_sum rfl) (by rfl) T.n_sum (by decide +kernel) (pa_cons (pe_lcX (W := fun c d _ H => E c d H) (E := E) (own := [("side", 2)]) rfl sc_count_looks.nd rfl rfl (takes_of rfl rfl rfl rfl) (fun _ _ _ _ z => z) (pi_tup (pe_slice sl_tup (pv 0) (po_some (pe_int)) (po_none))) (blkOk_by (own := [("side", 2)]) (N := ["condition", "around", "side"]) (sc := defScope s_count_looks) (by decide +kernel)) (fun _ _ _ _ _ => pg_name (i := 2) sc_count_looks.nd rfl (by first | exact Or.inl rfl | exact Or.inr rfl)) (fun _ _ _ _ _ => pts_nil) (fun _ _ _ _ _ px => pe_call G_count_looks hr rfl T.m_count_looks T.F_count_looks.kp T.b_count_looks .nil px (pa_cons (pv 2) (pa_cons (pe_op op_add (pv 1) (pe_int)) (pa_nil))))) (pa_nil))))))))

theorem ok_has_form {P : Program} {w : World} {K : PySem.W.Frag} {mg : Str → Option Value} {base : Heap} (T : Tx P K mg w) {k : Nat} {sp_is_number_up_to sp : Sp} (G_is_number_up_to : FnOk P w K mg base CX0 (k) T.f_is_number_up_to T.d_is_number_up_to ["value", "most"] sp_is_number_up_to)
    (len : ∀ vs H Q E, sp vs H Q E → vs.length = 1)
    (pure : ∀ vs H Q E, sp vs H Q E → t_has_form K w sp_is_number_up_to (Ends.mk (fun _ H' => Q .non H') Q (fun _ _ => False) (fun _ _ => False)) (start ["condition", "word"] vs) H) :
    FnOk P w K mg base CX0 (k + 1) T.f_has_form T.d_has_form ["condition"] sp := by
  refine T.F_has_form.ok sc_has_form len (fun cdv A outer s H vs Q E hr h => ⟨t_has_form K w sp_is_number_up_to, ?_, pure vs H Q E h⟩)
  exact (pss_cons (ps_if (PW.pt (pw_or (pt_not (pt_val (pe_callB call_isi (by rfl) T.n_isinstance (by decide +kernel) (pa_cons (pv 0) (pa_cons (pe_bltn (by rfl) T.n_tuple (by decide +kernel) rfl) (pa_nil)))))) (pw_or1 (pt_cmpR op_eq (pe_callB call_rLen (by rfl) T.n_len PySem.boot_len (pa_cons (pv 0) (pa_nil))) (pe_int) (nomark _))))) (pss_one (ps_ret (pe_bl))) (pss_nil))
      (pss_cons (ps_set (i := 1) sc_has_form.nd rfl (by first | exact Or.inl rfl | exact Or.inr rfl) (pe_ix ix_tup (pv 0) (pe_int) (fun _ _ => rfl)))
      (pss_cons (ps_if (pt_cmpR op_eq (pv 1) (pe_str) (nomark _)) (pss_one (ps_ret (pe_and (pe_cmpR op_eq (pe_callB call_rLen (by rfl) T.n_len PySem.boot_len (pa_cons (pv 0) (pa_nil))) (pe_int) (nomark _)) (pe_one (pe_call G_is_number_up_to hr rfl T.m_is_number_up_to T.F_is_number_up_to.kp T.b_is_number_up_to .nil pass0 (pa_cons (pe_ix ix_tup (pv 0) (pe_int) (fun _ _ => rfl)) (pa_cons (pe_op op_sub (pe_glob rfl T.c_THINGS ⟨_, rfl⟩) (pe_int)) (pa_nil)))))))) (pss_nil))
      (pss_cons (ps_if (pt_cmpR op_eq (pv 1) (pe_str) (nomark _)) (pss_one (ps_ret (pe_cmpR op_eq (pe_callB call_rLen (by rfl) T.n_len PySem.boot_len (pa_cons (pv 0) (pa_nil))) (pe_int) (nomark _)))) (pss_nil))
      (pss_one (ps_ret (pe_and (pe_cmpR op_in_seq (pv 1) (pe_tup (pa_cons (pe_str) (pa_cons (pe_str) (pa_nil)))) (by with_unfolding_all rfl)) (pe_one (pe_cmpR op_eq (pe_callB call_rLen (by rfl) T.n_len PySem.boot_len (pa_cons (pv 0) (pa_nil))) (pe_int) (nomark _))))))))))

theorem ok_is_number_up_to {P : Program} {w : World} {K : PySem.W.Frag} {mg : Str → Option Value} {base : Heap} (T : Tx P K mg w) {k : Nat} { sp : Sp} 
    (len : ∀ vs H Q E, sp vs H Q E → vs.length = 2)
    (pure : ∀ vs H Q E, sp vs H Q E → t_is_number_up_to K w (Ends.mk (fun _ H' => Q .non H') Q (fun _ _ => False) (fun _ _ => False)) (start ["value", "most"] vs) H) :
    FnOk P w K mg base CX0 (k + 1) T.f_is_number_up_to T.d_is_number_up_to ["value", "most"] sp := by
  refine T.F_is_number_up_to.ok sc_is_number_up_to len (fun cdv A outer s H vs Q E hr h => ⟨t_is_number_up_to K w, ?_, pure vs H Q E h⟩)
  exact (pss_cons (ps_if (PW.pt (pw_or (pt_val (pe_callB call_isi (by rfl) T.n_isinstance (by decide +kernel) (pa_cons (pv 0) (pa_cons (pe_bltn (by rfl) T.n_bool (by decide +kernel) rfl) (pa_nil))))) (pw_or1 (pt_not (pt_val (pe_callB call_isi (by rfl) T.n_isinstance (by decide +kernel) (pa_cons (pv 0) (pa_cons (pe_bltn (by rfl) T.n_int (by decide +kernel) rfl) (pa_nil))))))))) (pss_one (ps_ret (pe_bl))) (pss_nil))
      (pss_one (ps_ret (pe_chain op_le op_le (pe_int) (pv 0) (pv 1)))))

theorem ok_join_waiting {P : Program} {w : World} {K : PySem.W.Frag} {mg : Str → Option Value} {base : Heap} (T : Tx P K mg w) {k : Nat} { sp : Sp} 
    (len : ∀ vs H Q E, sp vs H Q E → vs.length = 3)
    (pure : ∀ vs H Q E, sp vs H Q E → t_join_waiting K w T.a_BINDS T.a_WORDS (Ends.mk (fun _ H' => Q .non H') Q (fun _ _ => False) (fun _ _ => False)) (start ["done", "waiting", "least", "sign", "last"] vs) H) :
    FnOk P w K mg base CX0 (k + 1) T.f_join_waiting T.d_join_waiting ["done", "waiting", "least"] sp := by
  refine T.F_join_waiting.ok sc_join_waiting len (fun cdv A outer s H vs Q E hr h => ⟨t_join_waiting K w T.a_BINDS T.a_WORDS, ?_, pure vs H Q E h⟩)
  exact (pss_one (ps_while PassesOwn.never (PW.pt (pw_and (pt_cmpR op_gt (pe_callB call_rLen (by rfl) T.n_len PySem.boot_len (pa_cons (pv 1) (pa_nil))) (pe_int) (nomark _)) (pw_and1 (pt_cmpR op_ge (pe_ix ix_kdict (pe_glob rfl T.c_BINDS rfl) (pe_ix ix_list (pv 1) (pe_un un_neg (pe_int)) (fun _ _ => rfl)) (fun _ _ => rfl)) (pv 2) (nomark _))))) (pss_cons (ps_set (i := 3) sc_join_waiting.nd rfl (by first | exact Or.inl rfl | exact Or.inr rfl) (pe_bm0 PySem.F.plainAttrs_list PySem.F.slot_list_pop PySem.F.type_list_pop mt_pop (pv 1)))
      (pss_cons (ps_set (i := 4) sc_join_waiting.nd rfl (by first | exact Or.inl rfl | exact Or.inr rfl) (pe_bm0 PySem.F.plainAttrs_list PySem.F.slot_list_pop PySem.F.type_list_pop mt_pop (pv 0)))
      (pss_one (ps_if (pt_cmpR op_eq (pv 3) (pe_str) (nomark _)) (pss_one (ps_expr (pe_bm PySem.F.plainAttrs_list PySem.F.slot_list_append PySem.F.type_list_append mt_append (pv 0) (pa_cons (pe_tup (pa_cons (pe_str) (pa_cons (pv 4) (pa_nil)))) (pa_nil))))) (pss_one (ps_expr (pe_bm PySem.F.plainAttrs_list PySem.F.slot_list_append PySem.F.type_list_append mt_append (pv 0) (pa_cons (pe_tup (pa_cons (pe_ix ix_kdict (pe_glob rfl T.c_WORDS rfl) (pv 3) (fun _ _ => rfl)) (pa_cons (pe_bm0 PySem.F.plainAttrs_list PySem.F.slot_list_pop PySem.F.type_list_pop mt_pop (pv 0)) (pa_cons (pv 4) (pa_nil))))) (pa_nil)))))))))))

theorem ok_law {P : Program} {w : World} {K : PySem.W.Frag} {mg : Str → Option Value} {base : Heap} (T : Tx P K mg w) {k : Nat} {sp_law_begun sp_law_take sp_law_condition sp_law_text sp_law_spoilt sp_law_first sp_law_read sp_law_deep sp_law_looked sp_law_told sp_law_alike sp : Sp} (G_law_begun : FnOk P w K mg base CX0 (k) T.f_law_begun T.d_law_begun ["_law_script"] sp_law_begun) (G_law_take : FnOk P w K mg base CX0 (k) T.f_law_take T.d_law_take ["_law_box", "_law_many"] sp_law_take) (G_law_condition : FnOk P w K mg base CX0 (k) T.f_law_condition T.d_law_condition ["_law_box", "_law_most"] sp_law_condition) (G_law_text : FnOk P w K mg base CX0 (k) T.f_law_text T.d_law_text ["_law_part_here", "_law_least"] sp_law_text) (G_law_spoilt : FnOk P w K mg base CX0 (k) T.f_law_spoilt T.d_law_spoilt ["_law_box", "_law_text_here"] sp_law_spoilt) (G_law_first : FnOk P w K mg base CX0 (k) T.f_law_first T.d_law_first ["_law_text_here"] sp_law_first) (G_law_read : FnOk P w K mg base CX0 (k) T.f_law_read T.d_law_read ["_law_text_here"] sp_law_read) (G_law_deep : FnOk P w K mg base CX0 (k) T.f_law_deep T.d_law_deep ["_law_part_here"] sp_law_deep) (G_law_looked : FnOk P w K mg base CX0 (k) T.f_law_looked T.d_law_looked ["_law_part_here"] sp_law_looked) (G_law_told : FnOk P w K mg base CX0 (k) T.f_law_told T.d_law_told ["_law_text_here"] sp_law_told) (G_law_alike : FnOk P w K mg base CX0 (k) T.f_law_alike T.d_law_alike ["_law_found", "_law_due"] sp_law_alike)
    (len : ∀ vs H Q E, sp vs H Q E → vs.length = 1)
    (pure : ∀ vs H Q E, sp vs H Q E → t_law K w sp_law_begun sp_law_take sp_law_condition sp_law_text sp_law_spoilt sp_law_first sp_law_read sp_law_deep sp_law_looked sp_law_told sp_law_alike (Ends.mk (fun _ H' => Q .non H') Q (fun _ _ => False) (fun _ _ => False)) (start ["_law_script", "_law_box", "_law_odd", "_law_turn", "_law_text_here", "_law_deed", "_law_first_here", "_law_due", "_law_part_here", "_law_good"] vs) H) :
    FnOk P w K mg base CX0 (k + 1) T.f_law T.d_law ["_law_script"] sp := by
  refine T.F_law.ok sc_law len (fun cdv A outer s H vs Q E hr h => ⟨t_law K w sp_law_begun sp_law_take sp_law_condition sp_law_text sp_law_spoilt sp_law_first sp_law_read sp_law_deep sp_law_looked sp_law_told sp_law_alike, ?_, pure vs H Q E h⟩)
  exact (pss_cons (ps_set (i := 1) sc_law.nd rfl (by first | exact Or.inl rfl | exact Or.inr rfl) (pe_call G_law_begun hr rfl T.m_law_begun T.F_law_begun.kp T.b_law_begun .nil pass0 (pa_cons (pv 0) (pa_nil))))
      (pss_cons (ps_set (i := 2) sc_law.nd rfl (by first | exact Or.inl rfl | exact Or.inr rfl) (pe_lst (pa_cons (pe_str) (pa_cons (pe_str) (pa_cons (pe_str) (pa_cons (pe_str) (pa_cons (pe_str) (pa_cons (pe_str) (pa_cons (pe_str) (pa_cons (pe_str) (pa_cons (pe_str) (pa_cons (pe_str) (pa_cons (pe_str) (pa_cons (pe_str) (pa_cons (pe_str) (pa_cons (pe_str) (pa_nil)))))))))))))))))
      (pss_cons (ps_set (i := 2) sc_law.nd rfl (by first | exact Or.inl rfl | exact Or.inr rfl) (pe_op op_cat (pv 2) (pe_lst (pa_cons (pe_op op_add_str (pe_op op_mul_str (pe_str) (pe_int)) (pe_str)) (pa_cons (pe_op op_add_str (pe_op op_mul_str (pe_str) (pe_int)) (pe_str)) (pa_cons (pe_bm PySem.F.plainAttrs_str PySem.F.slot_str_join PySem.F.type_str_join (mt_joinS rfl) (pe_str) (pa_cons (pe_str) (pa_nil))) (pa_cons (pe_bm PySem.F.plainAttrs_str PySem.F.slot_str_join PySem.F.type_str_join (mt_joinS rfl) (pe_str) (pa_cons (pe_str) (pa_nil))) (pa_nil))))))))
      (pss_cons (ps_for PassesOwn.never rfl (pi_range1 (by rfl) T.n_range (pa_cons (pe_int) (pa_nil))) (pg_name (i := 3) sc_law.nd rfl (by first | exact Or.inl rfl | exact Or.inr rfl)) (pss_cons (ps_set (i := 4) sc_law.nd rfl (by first | exact Or.inl rfl | exact Or.inr rfl) (pe_ix ix_list (pe_lst (pa_cons (pe_call G_law_text hr rfl T.m_law_text T.F_law_text.kp T.b_law_text .nil pass0 (pa_cons (pe_call G_law_condition hr rfl T.m_law_condition T.F_law_condition.kp T.b_law_condition .nil pass0 (pa_cons (pv 1) (pa_cons (pe_int) (pa_nil)))) (pa_cons (pe_int) (pa_nil)))) (pa_cons (pe_ix ix_list (pv 2) (pe_call G_law_take hr rfl T.m_law_take T.F_law_take.kp T.b_law_take .nil pass0 (pa_cons (pv 1) (pa_cons (pe_int) (pa_nil)))) (fun _ _ => rfl)) (pa_nil)))) (pe_op op_fdiv (pe_call G_law_take hr rfl T.m_law_take T.F_law_take.kp T.b_law_take .nil pass0 (pa_cons (pv 1) (pa_cons (pe_int) (pa_nil)))) (pe_int)) (fun _ _ => rfl)))
      (pss_cons (ps_for PassesOwn.never rfl (pi_range1 (by rfl) T.n_range (pa_cons (pe_call G_law_take hr rfl T.m_law_take T.F_law_take.kp T.b_law_take .nil pass0 (pa_cons (pv 1) (pa_cons (pe_int) (pa_nil)))) (pa_nil))) (pg_name (i := 5) sc_law.nd rfl (by first | exact Or.inl rfl | exact Or.inr rfl)) (pss_one (ps_set (i := 4) sc_law.nd rfl (by first | exact Or.inl rfl | exact Or.inr rfl) (pe_call G_law_spoilt hr rfl T.m_law_spoilt T.F_law_spoilt.kp T.b_law_spoilt .nil pass0 (pa_cons (pv 1) (pa_cons (pv 4) (pa_nil)))))))
      (pss_one (ps_if (PW.pt (pw_and (pt_cmpR op_le (pe_callB call_len_str (by rfl) T.n_len PySem.boot_len (pa_cons (pv 4) (pa_nil))) (pe_int) (nomark _)) (pw_and1 (pt_cmpR op_le (pe_bm PySem.F.plainAttrs_str PySem.F.slot_str_count PySem.F.type_str_count mt_countS (pv 4) (pa_cons (pe_str) (pa_nil))) (pe_int) (nomark _))))) (pss_cons (ps_set (i := 6) sc_law.nd rfl (by first | exact Or.inl rfl | exact Or.inr rfl) (pe_call G_law_first hr rfl T.m_law_first T.F_law_first.kp T.b_law_first .nil pass0 (pa_cons (pv 4) (pa_nil))))
      (pss_cons (ps_set (i := 7) sc_law.nd rfl (by first | exact Or.inl rfl | exact Or.inr rfl) (pe_tup (pa_cons (pe_str) (pa_cons (pv 6) (pa_nil)))))
      (pss_cons (ps_if (pt_cmpR op_isN (pv 6) (pe_non) (nomark _)) (pss_cons (ps_set (i := 8) sc_law.nd rfl (by first | exact Or.inl rfl | exact Or.inr rfl) (pe_call G_law_read hr rfl T.m_law_read T.F_law_read.kp T.b_law_read .nil pass0 (pa_cons (pv 4) (pa_nil))))
      (pss_cons (ps_set (i := 9) sc_law.nd rfl (by first | exact Or.inl rfl | exact Or.inr rfl) (pe_and (pe_cmpR op_le (pe_call G_law_deep hr rfl T.m_law_deep T.F_law_deep.kp T.b_law_deep .nil pass0 (pa_cons (pv 8) (pa_nil))) (pe_int) (nomark _)) (pe_one (pe_cmpR op_le (pe_call G_law_looked hr rfl T.m_law_looked T.F_law_looked.kp T.b_law_looked .nil pass0 (pa_cons (pv 8) (pa_nil))) (pe_int) (nomark _)))))
      (pss_one (ps_set (i := 7) sc_law.nd rfl (by first | exact Or.inl rfl | exact Or.inr rfl) (pe_ifExp (pt_val (pv 9)) (pe_tup (pa_cons (pe_str) (pa_cons (pv 8) (pa_nil)))) (pe_tup (pa_cons (pe_str) (pa_cons (pe_int) (pa_nil))))))))) (pss_nil))
      (pss_one (ps_if (PW.pt (pw_or (pt_not (pt_val (pe_call G_law_alike hr rfl T.m_law_alike T.F_law_alike.kp T.b_law_alike .nil pass0 (pa_cons (pe_call G_law_told hr rfl T.m_law_told T.F_law_told.kp T.b_law_told .nil pass0 (pa_cons (pv 4) (pa_nil))) (pa_cons (pv 7) (pa_nil)))))) (pw_or1 (pt_not (pt_val (pe_call G_law_alike hr rfl T.m_law_alike T.F_law_alike.kp T.b_law_alike .nil pass0 (pa_cons (pe_call G_law_told hr rfl T.m_law_told T.F_law_told.kp T.b_law_told .nil pass0 (pa_cons (pv 4) (pa_nil))) (pa_cons (pv 7) (pa_nil))))))))) (pss_one (ps_ret (pe_bl))) (pss_nil)))))) (pss_nil))))))
      (pss_one (ps_ret (pe_bl)))))))

theorem ok_law_alike {P : Program} {w : World} {K : PySem.W.Frag} {mg : Str → Option Value} {base : Heap} (T : Tx P K mg w) {k : Nat} {sp_law_alike sp : Sp} (G_law_alike : FnOk P w K mg base CX0 (k) T.f_law_alike T.d_law_alike ["_law_found", "_law_due"] sp_law_alike)
    (len : ∀ vs H Q E, sp vs H Q E → vs.length = 2)
    (pure : ∀ vs H Q E, sp vs H Q E → t_law_alike K w sp_law_alike (Ends.mk (fun _ H' => Q .non H') Q (fun _ _ => False) (fun _ _ => False)) (start ["_law_found", "_law_due", "_law_k"] vs) H) :
    FnOk P w K mg base CX0 (k + 1) T.f_law_alike T.d_law_alike ["_law_found", "_law_due"] sp := by
  refine T.F_law_alike.ok sc_law_alike len (fun cdv A outer s H vs Q E hr h => ⟨t_law_alike K w sp_law_alike, ?_, pure vs H Q E h⟩)
  exact (pss_cons (ps_if (pt_cmpR op_isN (pv 1) (pe_non) (nomark _)) (pss_one (ps_ret (pe_cmpR op_isN (pv 0) (pe_non) (nomark _)))) (pss_nil))
      (pss_cons (ps_if (pt_val (pe_callB call_isi (by rfl) T.n_isinstance (by decide +kernel) (pa_cons (pv 1) (pa_cons (pe_bltn (by rfl) T.n_bool (by decide +kernel) rfl) (pa_nil))))) (pss_one (ps_ret (pe_and (pe_callB call_isi (by rfl) T.n_isinstance (by decide +kernel) (pa_cons (pv 0) (pa_cons (pe_bltn (by rfl) T.n_bool (by decide +kernel) rfl) (pa_nil)))) (pe_one (pe_cmpR op_eq (pv 0) (pv 1) (nomark _)))))) (pss_nil))
      (pss_cons (ps_if (pt_val (pe_callB call_isi (by rfl) T.n_isinstance (by decide +kernel) (pa_cons (pv 1) (pa_cons (pe_bltn (by rfl) T.n_int (by decide +kernel) rfl) (pa_nil))))) (pss_one (ps_ret (pe_and (pe_callB call_isi (by rfl) T.n_isinstance (by decide +kernel) (pa_cons (pv 0) (pa_cons (pe_bltn (by rfl) T.n_int (by decide +kernel) rfl) (pa_nil)))) (pe_and (pe_not (pe_callB call_isi (by rfl) T.n_isinstance (by decide +kernel) (pa_cons (pv 0) (pa_cons (pe_bltn (by rfl) T.n_bool (by decide +kernel) rfl) (pa_nil))))) (pe_one (pe_cmpR op_eq (pv 0) (pv 1) (nomark _))))))) (pss_nil))
      (pss_cons (ps_if (pt_val (pe_callB call_isi (by rfl) T.n_isinstance (by decide +kernel) (pa_cons (pv 1) (pa_cons (pe_bltn (by rfl) T.n_str (by decide +kernel) rfl) (pa_nil))))) (pss_one (ps_ret (pe_and (pe_callB call_isi (by rfl) T.n_isinstance (by decide +kernel) (pa_cons (pv 0) (pa_cons (pe_bltn (by rfl) T.n_str (by decide +kernel) rfl) (pa_nil)))) (pe_one (pe_cmpR op_eq (pv 0) (pv 1) (nomark _)))))) (pss_nil))
      (pss_cons (ps_if (PW.pt (pw_or (pt_cmpR op_ne (pe_callB call_isi (by rfl) T.n_isinstance (by decide +kernel) (pa_cons (pv 1) (pa_cons (pe_bltn (by rfl) T.n_tuple (by decide +kernel) rfl) (pa_nil)))) (pe_callB call_isi (by rfl) T.n_isinstance (by decide +kernel) (pa_cons (pv 0) (pa_cons (pe_bltn (by rfl) T.n_tuple (by decide +kernel) rfl) (pa_nil)))) (nomark _)) (pw_or1 (pt_cmpR op_ne (pe_callB call_isi (by rfl) T.n_isinstance (by decide +kernel) (pa_cons (pv 1) (pa_cons (pe_bltn (by rfl) T.n_list (by decide +kernel) rfl) (pa_nil)))) (pe_callB call_isi (by rfl) T.n_isinstance (by decide +kernel) (pa_cons (pv 0) (pa_cons (pe_bltn (by rfl) T.n_list (by decide +kernel) rfl) (pa_nil)))) (nomark _))))) (pss_one (ps_ret (pe_bl))) (pss_nil))
      (pss_cons (ps_if (pt_cmpR op_ne (pe_callB call_rLen (by rfl) T.n_len PySem.boot_len (pa_cons (pv 0) (pa_nil))) (pe_callB call_rLen (by rfl) T.n_len PySem.boot_len (pa_cons (pv 1) (pa_nil))) (nomark _)) (pss_one (ps_ret (pe_bl))) (pss_nil))
      (pss_cons (ps_for PassesOwn.never rfl (pi_range1 (by rfl) T.n_range (pa_cons (pe_callB call_rLen (by rfl) T.n_len PySem.boot_len (pa_cons (pv 1) (pa_nil))) (pa_nil))) (pg_name (i := 2) sc_law_alike.nd rfl (by first | exact Or.inl rfl | exact Or.inr rfl)) (pss_one (ps_if (pt_not (pt_val (pe_call G_law_alike hr rfl T.m_law_alike T.F_law_alike.kp T.b_law_alike .nil pass0 (pa_cons (pe_ix ix_seq (pv 0) (pv 2) (fun _ _ => rfl)) (pa_cons (pe_ix ix_seq (pv 1) (pv 2) (fun _ _ => rfl)) (pa_nil)))))) (pss_one (ps_ret (pe_bl))) (pss_nil))))
      (pss_one (ps_ret (pe_bl))))))))))

theorem ok_law_bare {P : Program} {w : World} {K : PySem.W.Frag} {mg : Str → Option Value} {base : Heap} (T : Tx P K mg w) {k : Nat} {sp_law_take sp_law_part sp : Sp} (G_law_take : FnOk P w K mg base CX0 (k) T.f_law_take T.d_law_take ["_law_box", "_law_many"] sp_law_take) (G_law_part : FnOk P w K mg base CX0 (k) T.f_law_part T.d_law_part ["_law_box", "_law_many", "_law_things"] sp_law_part)
    (len : ∀ vs H Q E, sp vs H Q E → vs.length = 3)
    (pure : ∀ vs H Q E, sp vs H Q E → t_law_bare K w sp_law_take sp_law_part (Ends.mk (fun _ H' => Q .non H') Q (fun _ _ => False) (fun _ _ => False)) (start ["_law_box", "_law_many", "_law_things", "_law_left", "_law_word"] vs) H) :
    FnOk P w K mg base CX0 (k + 1) T.f_law_bare T.d_law_bare ["_law_box", "_law_many", "_law_things"] sp := by
  refine T.F_law_bare.ok sc_law_bare len (fun cdv A outer s H vs Q E hr h => ⟨t_law_bare K w sp_law_take sp_law_part, ?_, pure vs H Q E h⟩)
  exact (pss_cons (ps_if (pt_cmpR op_eq (pv 1) (pe_int) (nomark _)) (pss_one (ps_ret (pe_tup (pa_cons (pe_str) (pa_cons (pe_ix ix_list (pv 2) (pe_call G_law_take hr rfl T.m_law_take T.F_law_take.kp T.b_law_take .nil pass0 (pa_cons (pv 0) (pa_cons (pe_callB call_rLen (by rfl) T.n_len PySem.boot_len (pa_cons (pv 2) (pa_nil))) (pa_nil)))) (fun _ _ => rfl)) (pa_nil)))))) (pss_nil))
      (pss_cons (ps_set (i := 3) sc_law_bare.nd rfl (by first | exact Or.inl rfl | exact Or.inr rfl) (pe_ix ix_list (pe_lst (pa_cons (pe_int) (pa_cons (pe_op op_sub (pv 1) (pe_int)) (pa_cons (pe_op op_add (pe_int) (pe_call G_law_take hr rfl T.m_law_take T.F_law_take.kp T.b_law_take .nil pass0 (pa_cons (pv 0) (pa_cons (pe_op op_sub (pv 1) (pe_int)) (pa_nil))))) (pa_cons (pe_op op_fdiv (pv 1) (pe_int)) (pa_nil)))))) (pe_call G_law_take hr rfl T.m_law_take T.F_law_take.kp T.b_law_take .nil pass0 (pa_cons (pv 0) (pa_cons (pe_int) (pa_nil)))) (fun _ _ => rfl)))
      (pss_cons (ps_set (i := 4) sc_law_bare.nd rfl (by first | exact Or.inl rfl | exact Or.inr rfl) (pe_ix ix_list (pe_lst (pa_cons (pe_str) (pa_cons (pe_str) (pa_nil)))) (pe_call G_law_take hr rfl T.m_law_take T.F_law_take.kp T.b_law_take .nil pass0 (pa_cons (pv 0) (pa_cons (pe_int) (pa_nil)))) (fun _ _ => rfl)))
      (pss_one (ps_ret (pe_tup (pa_cons (pv 4) (pa_cons (pe_call G_law_part hr rfl T.m_law_part T.F_law_part.kp T.b_law_part .nil pass0 (pa_cons (pv 0) (pa_cons (pv 3) (pa_cons (pv 2) (pa_nil))))) (pa_cons (pe_call G_law_part hr rfl T.m_law_part T.F_law_part.kp T.b_law_part .nil pass0 (pa_cons (pv 0) (pa_cons (pe_op op_sub (pv 1) (pv 3)) (pa_cons (pv 2) (pa_nil))))) (pa_nil))))))))))

theorem ok_law_begun {P : Program} {w : World} {K : PySem.W.Frag} {mg : Str → Option Value} {base : Heap} (T : Tx P K mg w) {k : Nat} { sp : Sp} 
    (len : ∀ vs H Q E, sp vs H Q E → vs.length = 1)
    (pure : ∀ vs H Q E, sp vs H Q E → t_law_begun K w (Ends.mk (fun _ H' => Q .non H') Q (fun _ _ => False) (fun _ _ => False)) (start ["_law_script", "_law_stirred", "_law_cell"] vs) H) :
    FnOk P w K mg base CX0 (k + 1) T.f_law_begun T.d_law_begun ["_law_script"] sp := by
  refine T.F_law_begun.ok sc_law_begun len (fun cdv A outer s H vs Q E hr h => ⟨t_law_begun K w, ?_, pure vs H Q E h⟩)
  exact (pss_cons (ps_set (i := 1) sc_law_begun.nd rfl (by first | exact Or.inl rfl | exact Or.inr rfl) (pe_int))
      (pss_cons (ps_for PassesOwn.never rfl (pi_list (pv 0)) (pg_name (i := 2) sc_law_begun.nd rfl (by first | exact Or.inl rfl | exact Or.inr rfl)) (pss_one (ps_set (i := 1) sc_law_begun.nd rfl (by first | exact Or.inl rfl | exact Or.inr rfl) (pe_op op_mod (pe_op op_add (pe_op op_add (pe_op op_mul (pv 1) (pe_int)) (pe_op op_mul (pv 2) (pe_int))) (pe_int)) (pe_int)))))
      (pss_one (ps_ret (pe_lst (pa_cons (pe_callTy call_rListOf (by rfl) T.n_list (by decide +kernel) (pa_cons (pv 0) (pa_nil))) (pa_cons (pe_op op_mul (pv 1) (pe_callTy call_rInt1 (by rfl) T.n_int (by decide +kernel) (pa_cons (pe_cmpR op_gt (pe_callB call_rLen (by rfl) T.n_len PySem.boot_len (pa_cons (pv 0) (pa_nil))) (pe_int) (nomark _)) (pa_nil)))) (pa_nil))))))))

theorem ok_law_class {P : Program} {w : World} {K : PySem.W.Frag} {mg : Str → Option Value} {base : Heap} (T : Tx P K mg w) {k : Nat} { sp : Sp} {a D : Addr} {oe : Obj} {d : Option Addr} (W : ExcW K D) (hz : Zc (.ref D) d oe) (hf : ∃ vs, oe.data = .fields vs) 
    (len : ∀ vs H Q E, sp vs H Q E → vs.length = 1)
    (pure : ∀ vs H Q E, sp vs H Q E → t_law_class K w T.C_BadEnd T.C_BadTurns T.C_BadWorths T.C_BadCondition T.C_BadText T.C_TooMany T.C_BadChances T.C_BadCode a D d (Ends.mk (fun _ H' => Q .non H') Q (fun _ _ => False) (fun _ _ => False)) (start ["_law_e", "_law_kinds", "_law_words"] vs) H) :
    FnP P w K mg base CX0 (k + 1) T.f_law_class T.d_law_class ["_law_e"] sp (a, oe) := by
  refine fun_okP T.F_law_class sc_law_class len (fun cdv A outer s H vs Q E hr h => ⟨t_law_class K w T.C_BadEnd T.C_BadTurns T.C_BadWorths T.C_BadCondition T.C_BadText T.C_TooMany T.C_BadChances T.C_BadCode a D d, ?_, pure vs H Q E h⟩)
  exact (pss_cons (ps_set (i := 1) sc_law_class.nd rfl (by first | exact Or.inl rfl | exact Or.inr rfl) (pe_lst (pa_cons (pe_callB (call_rIs W (by exact List.mem_cons_self) hz hf) (by rfl) T.n_isinstance (by decide +kernel) (pa_cons (pv 0) (pa_cons (pe_glob rfl T.x_BadCondition rfl) (pa_nil)))) (pa_cons (pe_callB (call_rIs W (by exact List.mem_cons_self) hz hf) (by rfl) T.n_isinstance (by decide +kernel) (pa_cons (pv 0) (pa_cons (pe_glob rfl T.x_BadWorths rfl) (pa_nil)))) (pa_cons (pe_callB (call_rIs W (by exact List.mem_cons_self) hz hf) (by rfl) T.n_isinstance (by decide +kernel) (pa_cons (pv 0) (pa_cons (pe_glob rfl T.x_BadTurns rfl) (pa_nil)))) (pa_cons (pe_callB (call_rIs W (by exact List.mem_cons_self) hz hf) (by rfl) T.n_isinstance (by decide +kernel) (pa_cons (pv 0) (pa_cons (pe_glob rfl T.x_BadEnd rfl) (pa_nil)))) (pa_nil)))))))
      (pss_cons (ps_set (i := 1) sc_law_class.nd rfl (by first | exact Or.inl rfl | exact Or.inr rfl) (pe_op op_cat (pv 1) (pe_lst (pa_cons (pe_callB (call_rIs W (by exact List.mem_cons_self) hz hf) (by rfl) T.n_isinstance (by decide +kernel) (pa_cons (pv 0) (pa_cons (pe_glob rfl T.x_BadCode rfl) (pa_nil)))) (pa_cons (pe_callB (call_rIs W (by exact List.mem_cons_self) hz hf) (by rfl) T.n_isinstance (by decide +kernel) (pa_cons (pv 0) (pa_cons (pe_glob rfl T.x_BadChances rfl) (pa_nil)))) (pa_cons (pe_callB (call_rIs W (by exact List.mem_cons_self) hz hf) (by rfl) T.n_isinstance (by decide +kernel) (pa_cons (pv 0) (pa_cons (pe_glob rfl T.x_TooMany rfl) (pa_nil)))) (pa_cons (pe_callB (call_rIs W (by exact List.mem_cons_self) hz hf) (by rfl) T.n_isinstance (by decide +kernel) (pa_cons (pv 0) (pa_cons (pe_glob rfl T.x_BadText rfl) (pa_nil)))) (pa_nil))))))))
      (pss_cons (ps_set (i := 2) sc_law_class.nd rfl (by first | exact Or.inl rfl | exact Or.inr rfl) (pe_lst (pa_cons (pe_str) (pa_cons (pe_str) (pa_cons (pe_str) (pa_cons (pe_str) (pa_cons (pe_str) (pa_cons (pe_str) (pa_cons (pe_str) (pa_cons (pe_str) (pa_nil)))))))))))
      (pss_one (ps_ret (pe_ifExp (PW.pt (pw_and (pt_cmpR op_eq (pe_bm PySem.F.plainAttrs_list PySem.F.slot_list_count PySem.F.type_list_count mt_countB (pv 1) (pa_cons (pe_bl) (pa_nil))) (pe_int) (nomark _)) (pw_and1 (pt_val (pe_callB (call_rIs W (by exact List.mem_cons_self) hz hf) (by rfl) T.n_isinstance (by decide +kernel) (pa_cons (pv 0) (pa_cons (pe_bltn (by rfl) T.n_ValueError (by decide +kernel) rfl) (pa_nil)))))))) (pe_ix ix_list (pv 2) (pe_bm PySem.F.plainAttrs_list PySem.F.slot_list_index PySem.F.type_list_index mt_index (pv 1) (pa_cons (pe_bl) (pa_nil))) (fun _ _ => rfl)) (pe_str)))))))

theorem ok_law_condition {P : Program} {w : World} {K : PySem.W.Frag} {mg : Str → Option Value} {base : Heap} (T : Tx P K mg w) {k : Nat} {sp_law_take sp_law_part sp_law_deep sp : Sp} (G_law_take : FnOk P w K mg base CX0 (k) T.f_law_take T.d_law_take ["_law_box", "_law_many"] sp_law_take) (G_law_part : FnOk P w K mg base CX0 (k) T.f_law_part T.d_law_part ["_law_box", "_law_many", "_law_things"] sp_law_part) (G_law_deep : FnOk P w K mg base CX0 (k) T.f_law_deep T.d_law_deep ["_law_part_here"] sp_law_deep)
    (len : ∀ vs H Q E, sp vs H Q E → vs.length = 2)
    (pure : ∀ vs H Q E, sp vs H Q E → t_law_condition K w sp_law_take sp_law_part sp_law_deep (Ends.mk (fun _ H' => Q .non H') Q (fun _ _ => False) (fun _ _ => False)) (start ["_law_box", "_law_most", "_law_things", "_law_part_here"] vs) H) :
    FnOk P w K mg base CX0 (k + 1) T.f_law_condition T.d_law_condition ["_law_box", "_law_most"] sp := by
  refine T.F_law_condition.ok sc_law_condition len (fun cdv A outer s H vs Q E hr h => ⟨t_law_condition K w sp_law_take sp_law_part sp_law_deep, ?_, pure vs H Q E h⟩)
  exact (pss_cons (ps_set (i := 2) sc_law_condition.nd rfl (by first | exact Or.inl rfl | exact Or.inr rfl) (pe_ix ix_list (pe_lst (pa_cons (pe_lst (pa_cons (pe_int) (pa_cons (pe_int) (pa_cons (pe_int) (pa_nil))))) (pa_cons (pe_lst (pa_cons (pe_int) (pa_cons (pe_int) (pa_cons (pe_int) (pa_cons (pe_int) (pa_cons (pe_int) (pa_cons (pe_int) (pa_cons (pe_int) (pa_cons (pe_int) (pa_nil)))))))))) (pa_cons (pe_lst (pa_cons (pe_int) (pa_cons (pe_int) (pa_nil)))) (pa_nil))))) (pe_call G_law_take hr rfl T.m_law_take T.F_law_take.kp T.b_law_take .nil pass0 (pa_cons (pv 0) (pa_cons (pe_int) (pa_nil)))) (fun _ _ => rfl)))
      (pss_cons (ps_set (i := 3) sc_law_condition.nd rfl (by first | exact Or.inl rfl | exact Or.inr rfl) (pe_call G_law_part hr rfl T.m_law_part T.F_law_part.kp T.b_law_part .nil pass0 (pa_cons (pv 0) (pa_cons (pe_op op_add (pe_int) (pe_call G_law_take hr rfl T.m_law_take T.F_law_take.kp T.b_law_take .nil pass0 (pa_cons (pv 0) (pa_cons (pv 1) (pa_nil))))) (pa_cons (pv 2) (pa_nil))))))
      (pss_cons (ps_while PassesOwn.never (pt_cmpR op_gt (pe_call G_law_deep hr rfl T.m_law_deep T.F_law_deep.kp T.b_law_deep .nil pass0 (pa_cons (pv 3) (pa_nil))) (pe_int) (nomark _)) (pss_one (ps_set (i := 3) sc_law_condition.nd rfl (by first | exact Or.inl rfl | exact Or.inr rfl) (pe_ix ix_tup (pv 3) (pe_int) (fun _ _ => rfl)))))
      (pss_one (ps_ret (pv 3))))))

theorem ok_law_deep {P : Program} {w : World} {K : PySem.W.Frag} {mg : Str → Option Value} {base : Heap} (T : Tx P K mg w) {k : Nat} {sp_law_deep sp : Sp} (G_law_deep : FnOk P w K mg base CX0 (k) T.f_law_deep T.d_law_deep ["_law_part_here"] sp_law_deep)
    (len : ∀ vs H Q E, sp vs H Q E → vs.length = 1)
    (pure : ∀ vs H Q E, sp vs H Q E → t_law_deep K w sp_law_deep (Ends.mk (fun _ H' => Q .non H') Q (fun _ _ => False) (fun _ _ => False)) (start ["_law_part_here", "_law_one"] vs) H) :
    FnOk P w K mg base CX0 (k + 1) T.f_law_deep T.d_law_deep ["_law_part_here"] sp := by
  refine T.F_law_deep.ok sc_law_deep len (fun cdv A outer s H vs Q E hr h => ⟨t_law_deep K w sp_law_deep, ?_, pure vs H Q E h⟩)
  exact (pss_one (ps_ret (pe_ifExp (pt_cmpR op_eq (pe_ix ix_tup (pv 0) (pe_int) (fun _ _ => rfl)) (pe_str) (nomark _)) (pe_int) (pe_op op_add (pe_int) (pe_callB (cr_max rfl) (by rfl) T.n_max (by decide +kernel) (pa_cons (pe_lc (own := [("_law_one", 1)]) rfl sc_law_deep.nd (pi_tup (pe_slice sl_tup (pv 0) (po_some (pe_int)) (po_none))) (blkOk_by (own := [("_law_one", 1)]) (N := ["_law_part_here", "_law_one"]) (sc := defScope s_law_deep) (by decide +kernel)) (fun _ _ _ _ _ => pg_name (i := 1) sc_law_deep.nd rfl (by first | exact Or.inl rfl | exact Or.inr rfl)) (fun _ _ _ _ _ => pts_nil) (fun _ _ _ _ _ => pe_call G_law_deep hr rfl T.m_law_deep T.F_law_deep.kp T.b_law_deep .nil pass0 (pa_cons (pv 1) (pa_nil)))) (pa_nil)))))))

theorem ok_law_first {P : Program} {w : World} {K : PySem.W.Frag} {mg : Str → Option Value} {base : Heap} (T : Tx P K mg w) {k : Nat} { sp : Sp} 
    (len : ∀ vs H Q E, sp vs H Q E → vs.length = 1)
    (pure : ∀ vs H Q E, sp vs H Q E → t_law_first K w (Ends.mk (fun _ H' => Q .non H') Q (fun _ _ => False) (fun _ _ => False)) (start ["_law_text_here", "_law_deep_here", "_law_ahead", "_law_place", "_law_sign", "_law_good"] vs) H) :
    FnOk P w K mg base CX0 (k + 1) T.f_law_first T.d_law_first ["_law_text_here"] sp := by
  refine T.F_law_first.ok sc_law_first len (fun cdv A outer s H vs Q E hr h => ⟨t_law_first K w, ?_, pure vs H Q E h⟩)
  exact (pss_cons (ps_set (i := 1) sc_law_first.nd rfl (by first | exact Or.inl rfl | exact Or.inr rfl) (pe_int))
      (pss_cons (ps_set (i := 2) sc_law_first.nd rfl (by first | exact Or.inl rfl | exact Or.inr rfl) (pe_str))
      (pss_cons (ps_for PassesOwn.never rfl (pi_range1 (by rfl) T.n_range (pa_cons (pe_callB call_len_str (by rfl) T.n_len PySem.boot_len (pa_cons (pv 0) (pa_nil))) (pa_nil))) (pg_name (i := 3) sc_law_first.nd rfl (by first | exact Or.inl rfl | exact Or.inr rfl)) (pss_cons (ps_set (i := 4) sc_law_first.nd rfl (by first | exact Or.inl rfl | exact Or.inr rfl) (pe_ix ix_str (pv 0) (pv 3) (fun _ _ => rfl)))
      (pss_cons (ps_if (PW.pt (pw_and (pt_cmpR op_ne (pv 2) (pe_str) (nomark _)) (pw_and1 (pt_cmpR op_in_sign (pv 2) (pe_str) (by with_unfolding_all rfl))))) (pss_one (ps_set (i := 5) sc_law_first.nd rfl (by first | exact Or.inl rfl | exact Or.inr rfl) (pe_or (pe_cmpR op_in_seq (pv 4) (pe_tup (pa_cons (pe_str) (pa_cons (pe_str) (pa_nil)))) (by with_unfolding_all rfl)) (pe_one (pe_and (pe_cmpR op_eq (pv 4) (pe_str) (nomark _)) (pe_one (pe_cmpR op_gt (pv 1) (pe_int) (nomark _)))))))) (pss_one (ps_set (i := 5) sc_law_first.nd rfl (by first | exact Or.inl rfl | exact Or.inr rfl) (pe_cmpR op_in_seq (pv 4) (pe_callTy (call_listS rfl) (by rfl) T.n_list (by decide +kernel) (pa_cons (pe_str) (pa_nil))) (by with_unfolding_all rfl)))))
      (pss_cons (ps_if (pt_not (pt_val (pv 5))) (pss_one (ps_ret (pv 3))) (pss_nil))
      (pss_cons (ps_set (i := 1) sc_law_first.nd rfl (by first | exact Or.inl rfl | exact Or.inr rfl) (pe_op op_add (pv 1) (pe_dget2 (hu_of hr) (pe_disp (pps_cons (pe_str) (pe_int) (pps_cons (pe_str) (pe_un un_neg (pe_int)) (pps_nil))) (by rfl) (by rfl) (fun z => by cases z) (by decide)) (pv 4) (pe_int) ⟨rfl, rfl, rfl, rfl⟩)))
      (pss_one (ps_set (i := 2) sc_law_first.nd rfl (by first | exact Or.inl rfl | exact Or.inr rfl) (pv 4))))))))
      (pss_one (ps_ret (pe_ifExp (PW.pt (pw_and (pt_cmpR op_ne (pv 2) (pe_str) (nomark _)) (pw_and (pt_cmpR op_in_sign (pv 2) (pe_str) (by with_unfolding_all rfl)) (pw_and1 (pt_cmpR op_eq (pv 1) (pe_int) (nomark _)))))) (pe_non) (pe_callB call_len_str (by rfl) T.n_len PySem.boot_len (pa_cons (pv 0) (pa_nil)))))))))

theorem ok_law_looked {P : Program} {w : World} {K : PySem.W.Frag} {mg : Str → Option Value} {base : Heap} (T : Tx P K mg w) {k : Nat} {sp_law_looked sp : Sp} (G_law_looked : FnOk P w K mg base CX0 (k) T.f_law_looked T.d_law_looked ["_law_part_here"] sp_law_looked)
    (len : ∀ vs H Q E, sp vs H Q E → vs.length = 1)
    (pure : ∀ vs H Q E, sp vs H Q E → t_law_looked K w sp_law_looked (Ends.mk (fun _ H' => Q .non H') Q (fun _ _ => False) (fun _ _ => False)) (start ["_law_part_here", "_law_one"] vs) H) :
    FnOk P w K mg base CX0 (k + 1) T.f_law_looked T.d_law_looked ["_law_part_here"] sp := by
  refine T.F_law_looked.ok sc_law_looked len (fun cdv A outer s H vs Q E hr h => ⟨t_law_looked K w sp_law_looked, ?_, pure vs H Q E h⟩)
  exact (pss_one (ps_ret (pe_ifExp (pt_cmpR op_eq (pe_ix ix_tup (pv 0) (pe_int) (fun _ _ => rfl)) (pe_str) (nomark _)) (pe_int) (pe_callB (cr_sum rfl) (by rfl) T.n_sum (by decide +kernel) (pa_cons (pe_lc (own := [("_law_one", 1)]) rfl sc_law_looked.nd (pi_tup (pe_slice sl_tup (pv 0) (po_some (pe_int)) (po_none))) (blkOk_by (own := [("_law_one", 1)]) (N := ["_law_part_here", "_law_one"]) (sc := defScope s_law_looked) (by decide +kernel)) (fun _ _ _ _ _ => pg_name (i := 1) sc_law_looked.nd rfl (by first | exact Or.inl rfl | exact Or.inr rfl)) (fun _ _ _ _ _ => pts_nil) (fun _ _ _ _ _ => pe_call G_law_looked hr rfl T.m_law_looked T.F_law_looked.kp T.b_law_looked .nil pass0 (pa_cons (pv 1) (pa_nil)))) (pa_nil))))))

theorem ok_law_part {P : Program} {w : World} {K : PySem.W.Frag} {mg : Str → Option Value} {base : Heap} (T : Tx P K mg w) {k : Nat} {sp_law_take sp_law_bare sp : Sp} (G_law_take : FnOk P w K mg base CX0 (k) T.f_law_take T.d_law_take ["_law_box", "_law_many"] sp_law_take) (G_law_bare : FnOk P w K mg base CX0 (k) T.f_law_bare T.d_law_bare ["_law_box", "_law_many", "_law_things"] sp_law_bare)
    (len : ∀ vs H Q E, sp vs H Q E → vs.length = 3)
    (pure : ∀ vs H Q E, sp vs H Q E → t_law_part K w sp_law_take sp_law_bare (Ends.mk (fun _ H' => Q .non H') Q (fun _ _ => False) (fun _ _ => False)) (start ["_law_box", "_law_many", "_law_things"] vs) H) :
    FnOk P w K mg base CX0 (k + 1) T.f_law_part T.d_law_part ["_law_box", "_law_many", "_law_things"] sp := by
  refine T.F_law_part.ok sc_law_part len (fun cdv A outer s H vs Q E hr h => ⟨t_law_part K w sp_law_take sp_law_bare, ?_, pure vs H Q E h⟩)
  exact (pss_cons (ps_if (pt_cmpR op_eq (pe_call G_law_take hr rfl T.m_law_take T.F_law_take.kp T.b_law_take .nil pass0 (pa_cons (pv 0) (pa_cons (pe_int) (pa_nil)))) (pe_int) (nomark _)) (pss_one (ps_ret (pe_tup (pa_cons (pe_str) (pa_cons (pe_call G_law_bare hr rfl T.m_law_bare T.F_law_bare.kp T.b_law_bare .nil pass0 (pa_cons (pv 0) (pa_cons (pv 1) (pa_cons (pv 2) (pa_nil))))) (pa_nil)))))) (pss_nil))
      (pss_one (ps_ret (pe_call G_law_bare hr rfl T.m_law_bare T.F_law_bare.kp T.b_law_bare .nil pass0 (pa_cons (pv 0) (pa_cons (pv 1) (pa_cons (pv 2) (pa_nil))))))))

theorem ok_law_parts {P : Program} {w : World} {K : PySem.W.Frag} {mg : Str → Option Value} {base : Heap} (T : Tx P K mg w) {k : Nat} { sp : Sp} 
    (len : ∀ vs H Q E, sp vs H Q E → vs.length = 2)
    (pure : ∀ vs H Q E, sp vs H Q E → t_law_parts K w (Ends.mk (fun _ H' => Q .non H') Q (fun _ _ => False) (fun _ _ => False)) (start ["_law_text_here", "_law_sign", "_law_found", "_law_deep_here", "_law_one"] vs) H) :
    FnOk P w K mg base CX0 (k + 1) T.f_law_parts T.d_law_parts ["_law_text_here", "_law_sign"] sp := by
  refine T.F_law_parts.ok sc_law_parts len (fun cdv A outer s H vs Q E hr h => ⟨t_law_parts K w, ?_, pure vs H Q E h⟩)
  exact (pss_cons (ps_set (i := 2) sc_law_parts.nd rfl (by first | exact Or.inl rfl | exact Or.inr rfl) (pe_lst (pa_cons (pe_str) (pa_nil))))
      (pss_cons (ps_set (i := 3) sc_law_parts.nd rfl (by first | exact Or.inl rfl | exact Or.inr rfl) (pe_int))
      (pss_cons (ps_for PassesOwn.never rfl (pi_str (pv 0)) (pg_name (i := 4) sc_law_parts.nd rfl (by first | exact Or.inl rfl | exact Or.inr rfl)) (pss_cons (ps_set (i := 3) sc_law_parts.nd rfl (by first | exact Or.inl rfl | exact Or.inr rfl) (pe_op op_add (pv 3) (pe_dget2 (hu_of hr) (pe_disp (pps_cons (pe_str) (pe_int) (pps_cons (pe_str) (pe_un un_neg (pe_int)) (pps_nil))) (by rfl) (by rfl) (fun z => by cases z) (by decide)) (pv 4) (pe_int) ⟨rfl, rfl, rfl, rfl⟩)))
      (pss_one (ps_if (PW.pt (pw_and (pt_cmpR op_eq (pv 4) (pv 1) (nomark _)) (pw_and1 (pt_cmpR op_eq (pv 3) (pe_int) (nomark _))))) (pss_one (ps_expr (pe_bm PySem.F.plainAttrs_list PySem.F.slot_list_append PySem.F.type_list_append mt_append (pv 2) (pa_cons (pe_str) (pa_nil))))) (pss_one (ps_asg (pe_op op_add_str (pe_ix ix_list (pv 2) (pe_un un_neg (pe_int)) (fun _ _ => rfl)) (pv 4)) (pg_sub (pv 2) (pe_un un_neg (pe_int)) set_list)))))))
      (pss_one (ps_ret (pv 2))))))

theorem ok_law_read {P : Program} {w : World} {K : PySem.W.Frag} {mg : Str → Option Value} {base : Heap} (T : Tx P K mg w) {k : Nat} {sp_law_parts sp_law_read sp : Sp} (G_law_parts : FnOk P w K mg base CX0 (k) T.f_law_parts T.d_law_parts ["_law_text_here", "_law_sign"] sp_law_parts) (G_law_read : FnOk P w K mg base CX0 (k) T.f_law_read T.d_law_read ["_law_text_here"] sp_law_read)
    (len : ∀ vs H Q E, sp vs H Q E → vs.length = 1)
    (pure : ∀ vs H Q E, sp vs H Q E → t_law_read K w sp_law_parts sp_law_read (Ends.mk (fun _ H' => Q .non H') Q (fun _ _ => False) (fun _ _ => False)) (start ["_law_text_here", "_law_sign", "_law_word", "_law_parts_here", "_law_found", "_law_part_here"] vs) H) :
    FnOk P w K mg base CX0 (k + 1) T.f_law_read T.d_law_read ["_law_text_here"] sp := by
  refine T.F_law_read.ok sc_law_read len (fun cdv A outer s H vs Q E hr h => ⟨t_law_read K w sp_law_parts sp_law_read, ?_, pure vs H Q E h⟩)
  exact (pss_cons (ps_for PassesOwn.never rfl (pi_list (pe_lst (pa_cons (pe_tup (pa_cons (pe_str) (pa_cons (pe_str) (pa_nil)))) (pa_cons (pe_tup (pa_cons (pe_str) (pa_cons (pe_str) (pa_nil)))) (pa_nil))))) (pg_tup rfl (pgs_cons (pg_name (i := 1) sc_law_read.nd rfl (by first | exact Or.inl rfl | exact Or.inr rfl)) (pgs_cons (pg_name (i := 2) sc_law_read.nd rfl (by first | exact Or.inl rfl | exact Or.inr rfl)) (pgs_nil)))) (pss_cons (ps_set (i := 3) sc_law_read.nd rfl (by first | exact Or.inl rfl | exact Or.inr rfl) (pe_call G_law_parts hr rfl T.m_law_parts T.F_law_parts.kp T.b_law_parts .nil pass0 (pa_cons (pv 0) (pa_cons (pv 1) (pa_nil)))))
      (pss_one (ps_if (pt_cmpR op_gt (pe_callB call_rLen (by rfl) T.n_len PySem.boot_len (pa_cons (pv 3) (pa_nil))) (pe_int) (nomark _)) (pss_cons (ps_set (i := 4) sc_law_read.nd rfl (by first | exact Or.inl rfl | exact Or.inr rfl) (pe_call G_law_read hr rfl T.m_law_read T.F_law_read.kp T.b_law_read .nil pass0 (pa_cons (pe_ix ix_list (pv 3) (pe_int) (fun _ _ => rfl)) (pa_nil))))
      (pss_cons (ps_for PassesOwn.never rfl (pi_list (pe_slice sl_list (pv 3) (po_some (pe_int)) (po_none))) (pg_name (i := 5) sc_law_read.nd rfl (by first | exact Or.inl rfl | exact Or.inr rfl)) (pss_one (ps_set (i := 4) sc_law_read.nd rfl (by first | exact Or.inl rfl | exact Or.inr rfl) (pe_tup (pa_cons (pv 2) (pa_cons (pv 4) (pa_cons (pe_call G_law_read hr rfl T.m_law_read T.F_law_read.kp T.b_law_read .nil pass0 (pa_cons (pv 5) (pa_nil))) (pa_nil))))))))
      (pss_one (ps_ret (pv 4))))) (pss_nil)))))
      (pss_cons (ps_if (pt_cmpR op_eq (pe_ix ix_str (pv 0) (pe_int) (fun _ _ => rfl)) (pe_str) (nomark _)) (pss_one (ps_ret (pe_tup (pa_cons (pe_str) (pa_cons (pe_call G_law_read hr rfl T.m_law_read T.F_law_read.kp T.b_law_read .nil pass0 (pa_cons (pe_slice sl_str (pv 0) (po_some (pe_int)) (po_none)) (pa_nil))) (pa_nil)))))) (pss_nil))
      (pss_one (ps_ret (pe_ifExp (pt_cmpR op_eq (pe_ix ix_str (pv 0) (pe_int) (fun _ _ => rfl)) (pe_str) (nomark _)) (pe_call G_law_read hr rfl T.m_law_read T.F_law_read.kp T.b_law_read .nil pass0 (pa_cons (pe_slice sl_str (pv 0) (po_some (pe_int)) (po_some (pe_un un_neg (pe_int)))) (pa_nil))) (pe_tup (pa_cons (pe_str) (pa_cons (pe_bm PySem.F.plainAttrs_str PySem.F.slot_str_index PySem.F.type_str_index mt_indexS (pe_str) (pa_cons (pv 0) (pa_nil))) (pa_nil)))))))))

theorem ok_law_spoilt {P : Program} {w : World} {K : PySem.W.Frag} {mg : Str → Option Value} {base : Heap} (T : Tx P K mg w) {k : Nat} {sp_law_take sp : Sp} (G_law_take : FnOk P w K mg base CX0 (k) T.f_law_take T.d_law_take ["_law_box", "_law_many"] sp_law_take)
    (len : ∀ vs H Q E, sp vs H Q E → vs.length = 2)
    (pure : ∀ vs H Q E, sp vs H Q E → t_law_spoilt K w sp_law_take (Ends.mk (fun _ H' => Q .non H') Q (fun _ _ => False) (fun _ _ => False)) (start ["_law_box", "_law_text_here", "_law_deed", "_law_place", "_law_end", "_law_signs", "_law_sign"] vs) H) :
    FnOk P w K mg base CX0 (k + 1) T.f_law_spoilt T.d_law_spoilt ["_law_box", "_law_text_here"] sp := by
  refine T.F_law_spoilt.ok sc_law_spoilt len (fun cdv A outer s H vs Q E hr h => ⟨t_law_spoilt K w sp_law_take, ?_, pure vs H Q E h⟩)
  exact (pss_cons (ps_set (i := 2) sc_law_spoilt.nd rfl (by first | exact Or.inl rfl | exact Or.inr rfl) (pe_call G_law_take hr rfl T.m_law_take T.F_law_take.kp T.b_law_take .nil pass0 (pa_cons (pv 0) (pa_cons (pe_int) (pa_nil)))))
      (pss_cons (ps_set (i := 3) sc_law_spoilt.nd rfl (by first | exact Or.inl rfl | exact Or.inr rfl) (pe_call G_law_take hr rfl T.m_law_take T.F_law_take.kp T.b_law_take .nil pass0 (pa_cons (pv 0) (pa_cons (pe_op op_add (pe_callB call_len_str (by rfl) T.n_len PySem.boot_len (pa_cons (pv 1) (pa_nil))) (pe_int)) (pa_nil)))))
      (pss_cons (ps_set (i := 4) sc_law_spoilt.nd rfl (by first | exact Or.inl rfl | exact Or.inr rfl) (pe_op op_add (pv 3) (pe_call G_law_take hr rfl T.m_law_take T.F_law_take.kp T.b_law_take .nil pass0 (pa_cons (pv 0) (pa_cons (pe_op op_sub (pe_op op_add (pe_callB call_len_str (by rfl) T.n_len PySem.boot_len (pa_cons (pv 1) (pa_nil))) (pe_int)) (pv 3)) (pa_nil))))))
      (pss_cons (ps_if (pt_cmpR op_eq (pv 2) (pe_int) (nomark _)) (pss_one (ps_ret (pe_op op_add_str (pe_op op_add_str (pe_op op_add_str (pe_op op_add_str (pe_slice sl_str (pv 1) (po_none) (po_some (pv 3))) (pe_str)) (pe_slice sl_str (pv 1) (po_some (pv 3)) (po_some (pv 4)))) (pe_str)) (pe_slice sl_str (pv 1) (po_some (pv 4)) (po_none))))) (pss_nil))
      (pss_cons (ps_if (pt_cmpR op_eq (pv 2) (pe_int) (nomark _)) (pss_one (ps_ret (pe_op op_add_str (pe_slice sl_str (pv 1) (po_none) (po_some (pv 4))) (pe_slice sl_str (pv 1) (po_some (pv 3)) (po_none))))) (pss_nil))
      (pss_cons (ps_set (i := 5) sc_law_spoilt.nd rfl (by first | exact Or.inl rfl | exact Or.inr rfl) (pe_str))
      (pss_cons (ps_set (i := 6) sc_law_spoilt.nd rfl (by first | exact Or.inl rfl | exact Or.inr rfl) (pe_ix ix_str (pv 5) (pe_call G_law_take hr rfl T.m_law_take T.F_law_take.kp T.b_law_take .nil pass0 (pa_cons (pv 0) (pa_cons (pe_ix ix_list (pe_lst (pa_cons (pe_int) (pa_cons (pe_callB call_len_str (by rfl) T.n_len PySem.boot_len (pa_cons (pv 5) (pa_nil))) (pa_nil)))) (pe_call G_law_take hr rfl T.m_law_take T.F_law_take.kp T.b_law_take .nil pass0 (pa_cons (pv 0) (pa_cons (pe_int) (pa_nil)))) (fun _ _ => rfl)) (pa_nil)))) (fun _ _ => rfl)))
      (pss_one (ps_ret (pe_op op_add_str (pe_op op_add_str (pe_slice sl_str (pv 1) (po_none) (po_some (pv 3))) (pe_ix ix_list (pe_lst (pa_cons (pv 6) (pa_cons (pv 6) (pa_cons (pe_str) (pa_cons (pe_str) (pa_nil)))))) (pe_op op_sub (pv 2) (pe_int)) (fun _ _ => rfl))) (pe_slice sl_str (pv 1) (po_some (pe_op op_add (pv 3) (pe_callTy call_rInt1 (by rfl) T.n_int (by decide +kernel) (pa_cons (pe_cmpR op_gt (pv 2) (pe_int) (nomark _)) (pa_nil))))) (po_none))))))))))))

theorem ok_law_take {P : Program} {w : World} {K : PySem.W.Frag} {mg : Str → Option Value} {base : Heap} (T : Tx P K mg w) {k : Nat} { sp : Sp} 
    (len : ∀ vs H Q E, sp vs H Q E → vs.length = 2)
    (pure : ∀ vs H Q E, sp vs H Q E → t_law_take K w (Ends.mk (fun _ H' => Q .non H') Q (fun _ _ => False) (fun _ _ => False)) (start ["_law_box", "_law_many", "_law_number"] vs) H) :
    FnOk P w K mg base CX0 (k + 1) T.f_law_take T.d_law_take ["_law_box", "_law_many"] sp := by
  refine T.F_law_take.ok sc_law_take len (fun cdv A outer s H vs Q E hr h => ⟨t_law_take K w, ?_, pure vs H Q E h⟩)
  exact (pss_cons (ps_if (pt_cmpR (op_eqD hr.units) (pe_ix ix_list (pv 0) (pe_int) (fun _ _ => rfl)) (pe_lst (pa_nil)) (nomark _)) (pss_cons (ps_asg (pe_op op_mod (pe_op op_mul (pe_ix ix_list (pv 0) (pe_int) (fun _ _ => rfl)) (pe_int)) (pe_int)) (pg_sub (pv 0) (pe_int) set_list))
      (pss_one (ps_ret (pe_op op_mod (pe_op op_fdiv (pe_ix ix_list (pv 0) (pe_int) (fun _ _ => rfl)) (pe_int)) (pv 1))))) (pss_nil))
      (pss_cons (ps_set (i := 2) sc_law_take.nd rfl (by first | exact Or.inl rfl | exact Or.inr rfl) (pe_ix ix_list (pe_ix ix_list (pv 0) (pe_int) (fun _ _ => rfl)) (pe_int) (fun _ _ => rfl)))
      (pss_cons (ps_asg (pe_op op_fdiv (pv 2) (pv 1)) (pg_sub (pe_ix ix_list (pv 0) (pe_int) (fun _ _ => rfl)) (pe_int) set_list))
      (pss_cons (ps_if (PW.pt (pw_or (pt_cmpR op_eq (pe_ix ix_list (pe_ix ix_list (pv 0) (pe_int) (fun _ _ => rfl)) (pe_int) (fun _ _ => rfl)) (pe_int) (nomark _)) (pw_or1 (pt_cmpR op_eq (pe_ix ix_list (pe_ix ix_list (pv 0) (pe_int) (fun _ _ => rfl)) (pe_int) (fun _ _ => rfl)) (pe_un un_neg (pe_int)) (nomark _))))) (pss_one (ps_expr (pe_bm PySem.F.plainAttrs_list PySem.F.slot_list_pop PySem.F.type_list_pop mt_popAt (pe_ix ix_list (pv 0) (pe_int) (fun _ _ => rfl)) (pa_cons (pe_int) (pa_nil))))) (pss_nil))
      (pss_one (ps_ret (pe_op op_mod (pv 2) (pv 1))))))))

theorem ok_law_text {P : Program} {w : World} {K : PySem.W.Frag} {mg : Str → Option Value} {base : Heap} (T : Tx P K mg w) {k : Nat} {sp_law_text sp : Sp} (G_law_text : FnOk P w K mg base CX0 (k) T.f_law_text T.d_law_text ["_law_part_here", "_law_least"] sp_law_text)
    (len : ∀ vs H Q E, sp vs H Q E → vs.length = 2)
    (pure : ∀ vs H Q E, sp vs H Q E → t_law_text K w sp_law_text (Ends.mk (fun _ H' => Q .non H') Q (fun _ _ => False) (fun _ _ => False)) (start ["_law_part_here", "_law_least", "_law_sign", "_law_rank", "_law_text_here"] vs) H) :
    FnOk P w K mg base CX0 (k + 1) T.f_law_text T.d_law_text ["_law_part_here", "_law_least"] sp := by
  refine T.F_law_text.ok sc_law_text len (fun cdv A outer s H vs Q E hr h => ⟨t_law_text K w sp_law_text, ?_, pure vs H Q E h⟩)
  exact (pss_cons (ps_if (pt_cmpR op_eq (pe_ix ix_tup (pv 0) (pe_int) (fun _ _ => rfl)) (pe_str) (nomark _)) (pss_one (ps_ret (pe_ix ix_str (pe_str) (pe_ix ix_tup (pv 0) (pe_int) (fun _ _ => rfl)) (fun _ _ => rfl)))) (pss_nil))
      (pss_cons (ps_if (pt_cmpR op_eq (pe_ix ix_tup (pv 0) (pe_int) (fun _ _ => rfl)) (pe_str) (nomark _)) (pss_one (ps_ret (pe_op op_add_str (pe_str) (pe_call G_law_text hr rfl T.m_law_text T.F_law_text.kp T.b_law_text .nil pass0 (pa_cons (pe_ix ix_tup (pv 0) (pe_int) (fun _ _ => rfl)) (pa_cons (pe_int) (pa_nil))))))) (pss_nil))
      (pss_cons (ps_asg (pe_ix ix_list (pe_lst (pa_cons (pe_tup (pa_cons (pe_str) (pa_cons (pe_int) (pa_nil)))) (pa_cons (pe_tup (pa_cons (pe_str) (pa_cons (pe_int) (pa_nil)))) (pa_nil)))) (pe_callTy call_rInt1 (by rfl) T.n_int (by decide +kernel) (pa_cons (pe_cmpR op_eq (pe_ix ix_tup (pv 0) (pe_int) (fun _ _ => rfl)) (pe_str) (nomark _)) (pa_nil))) (fun _ _ => rfl)) (pg_tup rfl (pgs_cons (pg_name (i := 2) sc_law_text.nd rfl (by first | exact Or.inl rfl | exact Or.inr rfl)) (pgs_cons (pg_name (i := 3) sc_law_text.nd rfl (by first | exact Or.inl rfl | exact Or.inr rfl)) (pgs_nil)))))
      (pss_cons (ps_set (i := 4) sc_law_text.nd rfl (by first | exact Or.inl rfl | exact Or.inr rfl) (pe_op op_add_str (pe_op op_add_str (pe_call G_law_text hr rfl T.m_law_text T.F_law_text.kp T.b_law_text .nil pass0 (pa_cons (pe_ix ix_tup (pv 0) (pe_int) (fun _ _ => rfl)) (pa_cons (pv 3) (pa_nil)))) (pv 2)) (pe_call G_law_text hr rfl T.m_law_text T.F_law_text.kp T.b_law_text .nil pass0 (pa_cons (pe_ix ix_tup (pv 0) (pe_int) (fun _ _ => rfl)) (pa_cons (pe_op op_add (pv 3) (pe_int)) (pa_nil))))))
      (pss_one (ps_ret (pe_ifExp (pt_cmpR op_ge (pv 3) (pv 1) (nomark _)) (pv 4) (pe_op op_add_str (pe_op op_add_str (pe_str) (pv 4)) (pe_str)))))))))

theorem ok_law_told {P : Program} {w : World} {K : PySem.W.Frag} {mg : Str → Option Value} {base : Heap} (T : Tx P K mg w) {k : Nat} {sp_read sp : Sp} (G_read : FnOk P w K mg base (L2.CX P w) (k) T.f_read T.d_read ["text"] sp_read) {sp_law_class : Addr → Value → Option Addr → Sp} (G_law_class : ∀ (a : Addr) (oe : Obj) (cls : Value) (d : Option Addr), Zc cls d oe → (∃ vs, oe.data = .fields vs) → FnP P w K mg base CX0 (k) T.f_law_class T.d_law_class ["_law_e"] (sp_law_class a cls d) (a, oe))
    (len : ∀ vs H Q E, sp vs H Q E → vs.length = 1)
    (pure : ∀ vs H Q E, sp vs H Q E → t_law_told K w T.C_JumpError T.C_BadText sp_read sp_law_class (Ends.mk (fun _ H' => Q .non H') Q (fun _ _ => False) (fun _ _ => False)) (start ["_law_text_here", "_law_e", "_law_word"] vs) H) :
    FnOk P w K mg base CX0 (k + 1) T.f_law_told T.d_law_told ["_law_text_here"] sp := by
  refine T.F_law_told.ok sc_law_told len (fun cdv A outer s H vs Q E hr h => ⟨t_law_told K w T.C_JumpError T.C_BadText sp_read sp_law_class, ?_, pure vs H Q E h⟩)
  exact (pss_one (ps_try_as (i := 1) (tb := fun W => tRet (tTup (tCons (tC (.str "told")) (tCons (tCallS sp_read (WE W) (tCons (tVar 0) (tNil))) (tNil))))) (ts := fun a cls d => tSeq (tAsg (tCallS (sp_law_class a cls d) (fun _ => E0) (tCons (tVar 1) (tNil))) (gName 2))
  (tRet (tIf (tTest (tOp (rEq) (tVar 2) (tC (.str "BadText")))) (tTup (tCons (tVar 2) (tCons (tXf a cls d T.C_BadText "place" (tVar 1)) (tNil)))) (tTup (tCons (tVar 2) (tCons (tC (.int 0)) (tNil))))))) (Wout := fun _ _ _ _ => False) rfl rfl sc_law_told.nd rfl rfl ⟨rfl, by decide, Or.inl T.x_JumpError⟩ takes0 (fun W pn xe tk _ => pss_one (ps_ret (pe_tup (pa_cons (pe_str) (pa_cons (pe_callS G_read hr rfl T.m_read T.F_read.kp T.b_read (fun τ => passAt tk τ) (by exact (pa_cons (pv 0) (pa_nil)))) (pa_nil)))))) (fun a oe cls d pn hz hf => pss_cons (ps_set (i := 2) sc_law_told.nd rfl (by first | exact Or.inl rfl | exact Or.inr rfl) (pe_callP (G_law_class a oe cls d hz hf) ⟨hr.dp, hr.un⟩ List.mem_cons_self rfl T.m_law_class T.F_law_class.kp T.b_law_class (fun _ _ _ _ _ _ _ h => h.elim) (by exact (pa_cons (pv 1) (pa_nil)))))
      (pss_one (ps_ret (pe_ifExp (pt_cmpR op_eq (pv 2) (pe_str) (nomark _)) (pe_tup (pa_cons (pv 2) (pa_cons (pe_xf T.xf_BadText T.np_BadText hz hf (pv 1)) (pa_nil)))) (pe_tup (pa_cons (pv 2) (pa_cons (pe_int) (pa_nil))))))))))

theorem ok_may_stand {P : Program} {w : World} {K : PySem.W.Frag} {mg : Str → Option Value} {base : Heap} (T : Tx P K mg w) {k : Nat} { sp : Sp} 
    (len : ∀ vs H Q E, sp vs H Q E → vs.length = 3)
    (pure : ∀ vs H Q E, sp vs H Q E → t_may_stand K w T.a_WORDS (Ends.mk (fun _ H' => Q .non H') Q (fun _ _ => False) (fun _ _ => False)) (start ["sign", "due", "unclosed"] vs) H) :
    FnOk P w K mg base CX0 (k + 1) T.f_may_stand T.d_may_stand ["sign", "due", "unclosed"] sp := by
  refine T.F_may_stand.ok sc_may_stand len (fun cdv A outer s H vs Q E hr h => ⟨t_may_stand K w T.a_WORDS, ?_, pure vs H Q E h⟩)
  exact (pss_cons (ps_if (pt_val (pv 1)) (pss_one (ps_ret (pe_cmpR op_in_sign (pv 0) (pe_glob rfl T.c_BEGINNINGS ⟨_, rfl⟩) (by with_unfolding_all rfl)))) (pss_nil))
      (pss_cons (ps_if (pt_cmpR op_eq (pv 0) (pe_str) (nomark _)) (pss_one (ps_ret (pe_cmpR op_gt (pv 2) (pe_int) (nomark _)))) (pss_nil))
      (pss_one (ps_ret (pe_cmpR op_inKD (pv 0) (pe_glob rfl T.c_WORDS rfl) (by with_unfolding_all rfl))))))

theorem ok_ready {P : Program} {w : World} {K : PySem.W.Frag} {mg : Str → Option Value} {base : Heap} (T : Tx P K mg w) {k : Nat} {sp_check_signs sp_condition_of sp_check_condition sp : Sp} (G_check_signs : FnOk P w K mg base (L2.CX P w) (k) T.f_check_signs T.d_check_signs ["text"] sp_check_signs) (G_condition_of : FnOk P w K mg base CX0 (k) T.f_condition_of T.d_condition_of ["text"] sp_condition_of) (G_check_condition : FnOk P w K mg base (L2.CX P w) (k) T.f_check_condition T.d_check_condition ["condition"] sp_check_condition)
    (len : ∀ vs H Q E, sp vs H Q E → vs.length = 1)
    (pure : ∀ vs H Q E, sp vs H Q E → t_ready K w sp_check_signs sp_condition_of sp_check_condition E (Ends.mk (fun _ H' => Q .non H') Q (fun _ _ => False) (fun _ _ => False)) (start ["text", "condition"] vs) H) :
    FnOk P w K mg base (L2.CX P w) (k + 1) T.f_read T.d_read ["text"] sp := by
  refine T.F_read.okX sc_read len (fun cdv A outer s H vs Q E hr h => ⟨t_ready K w sp_check_signs sp_condition_of sp_check_condition E, ?_, pure vs H Q E h⟩)
  exact (pss_cons (ps_expr (pe_call G_check_signs hr rfl T.m_check_signs T.F_check_signs.kp T.b_check_signs .nil (passes_call (takes_of rfl rfl rfl rfl) fun _ _ _ _ z => z) (pa_cons (pv 0) (pa_nil))))
      (pss_cons (ps_set (i := 1) sc_read.nd rfl (by first | exact Or.inl rfl | exact Or.inr rfl) (pe_call G_condition_of hr rfl T.m_condition_of T.F_condition_of.kp T.b_condition_of .nil pass0 (pa_cons (pv 0) (pa_nil))))
      (pss_cons (ps_expr (pe_call G_check_condition hr rfl T.m_check_condition T.F_check_condition.kp T.b_check_condition .nil (passes_call (takes_of rfl rfl rfl rfl) fun _ _ _ _ z => z) (pa_cons (pv 1) (pa_nil))))
      (pss_one (ps_ret (pv 1))))))

/-! the defs keep their promises -/
theorem fn_no {P : Program} {w : World} {K : PySem.W.Frag} {mg : Str → Option Value} {base : Heap} {CX : CXT} {f : Addr} {fd : FuncData} {ps : List Str} {sp : Sp} {k : Nat} (no : ∀ vs H Q E, ¬ sp vs H Q E) : FnOk P w K mg base CX k f fd ps sp :=
  ⟨fun vs H Q E h => absurd h (no vs H Q E), fun A outer s H args us vs Q E _ _ _ _ h => absurd h (no vs H Q E)⟩
theorem fn_or {P : Program} {w : World} {K : PySem.W.Frag} {mg : Str → Option Value} {base : Heap} {f : Addr} {fd : FuncData} {ps : List Str} {sp sa sb : Sp} {k : Nat} (h : ∀ vs H Q E, sp vs H Q E → sa vs H Q E ∨ sb vs H Q E) (ha : FnOk P w K mg base CX0 k f fd ps sa) (hb : FnOk P w K mg base CX0 k f fd ps sb) : FnOk P w K mg base CX0 k f fd ps sp :=
  ⟨fun vs H Q E z => (h vs H Q E z).elim (ha.len vs H Q E) (hb.len vs H Q E), fun A outer s H args us vs Q E r e b v z => (h vs H Q E z).elim (ha.run A outer s H args us vs Q E r e b v) (hb.run A outer s H args us vs Q E r e b v)⟩
section
variable {P : Program} {w : World} {K : PySem.W.Frag} {mg : Str → Option Value} {base : Heap}
theorem hb_of {aB : Addr} (n : KDct K w aB "!" (.int 3)) (a : KDct K w aB "&" (.int 2)) (o : KDct K w aB "|" (.int 1)) (p : KDct K w aB "(" (.int 0)) : ∀ o : Op, KDct K w aB (S [o.code]) (.int (o.bnd : Int))
  | .no => n
  | .bi true => a
  | .bi false => o
  | .par => p
theorem hw_of {aW : Addr} (a : KDct K w aW "&" (.str "and")) (o : KDct K w aW "|" (.str "or")) : ∀ x, KDct K w aW (S [sg x]) (.str (wd x))
  | true => a
  | false => o
theorem fn_begun (T : Tx P K mg w) : FnOk P w K mg base CX0 1 T.f_law_begun T.d_law_begun ["_law_script"] (spBegun K) := ok_law_begun T (k := 0)  (by tm_at "lnz") pure_begun
theorem fn_take (T : Tx P K mg w) : FnOk P w K mg base CX0 1 T.f_law_take T.d_law_take ["_law_box", "_law_many"] (spTake) := ok_law_take T (k := 0)  (by tm_at "lnz") pure_take
theorem no_pb {x : Nat} {vs : List V} {H : Hp} {Q : VK} {E : XK} : ¬ spPB x 0 vs H Q E := fun ⟨_, _, _, _, _, _, _, _, _, h1, h2, _⟩ => by omega
theorem fn_pb (T : Tx P K mg w) : ∀ n : Nat, FnOk P w K mg base CX0 (2 * n + 1) T.f_law_bare T.d_law_bare ["_law_box", "_law_many", "_law_things"] (spPB 2 n) ∧ FnOk P w K mg base CX0 (2 * n + 2) T.f_law_part T.d_law_part ["_law_box", "_law_many", "_law_things"] (spPB 1 n)
  | 0 => ⟨fn_no fun _ _ _ _ => no_pb, fn_no fun _ _ _ _ => no_pb⟩
  | n + 1 => by
    have ih := fn_pb T n
    have hb : FnOk P w K mg base CX0 (2 * n + 2 + 1) T.f_law_bare T.d_law_bare ["_law_box", "_law_many", "_law_things"] (spPB 2 (n + 1)) := ok_law_bare T ((fn_take T).mono (by omega)) ih.2 (by tm_at "lnz") pure_bare
    exact ⟨hb, ok_law_part T ((fn_take T).mono (by omega)) hb (by tm_at "lnz") pure_part⟩
theorem fn_deepG (T : Tx P K mg w) : ∀ n : Nat, FnOk P w K mg base CX0 (n) T.f_law_deep T.d_law_deep ["_law_part_here"] (spDeepG n)
  | 0 => fn_no (by intro vs H Q E h; simp only [spDeepG, Nat.not_lt_zero, false_and, and_false, exists_false, exists_const] at h)
  | n + 1 => ok_law_deep T (fn_deepG T n) (by tm_at "lnz") pure_deepG
theorem fn_deep (T : Tx P K mg w) : ∀ n : Nat, FnOk P w K mg base CX0 (n) T.f_law_deep T.d_law_deep ["_law_part_here"] (spDeep n)
  | 0 => fn_no (by intro vs H Q E h; simp only [spDeep, Nat.not_lt_zero, false_and, and_false, exists_false, exists_const] at h)
  | n + 1 => ok_law_deep T (fn_deep T n) (by tm_at "lnz") pure_deep
theorem fn_cond (T : Tx P K mg w) : FnOk P w K mg base CX0 70 T.f_law_condition T.d_law_condition ["_law_box", "_law_most"] (spCond) := ok_law_condition T (k := 69) ((fn_take T).mono (by omega)) ((fn_pb T 20).2.mono (by omega)) ((fn_deep T 60).mono (by omega)) (by tm_at "lnz") pure_condition
theorem fn_ltext (T : Tx P K mg w) : ∀ n : Nat, FnOk P w K mg base CX0 (n) T.f_law_text T.d_law_text ["_law_part_here", "_law_least"] (spText n)
  | 0 => fn_no (by intro vs H Q E h; simp only [spText, Nat.not_lt_zero, false_and, and_false, exists_false, exists_const] at h)
  | n + 1 => ok_law_text T (fn_ltext T n) (by tm_at "lnz") pure_text
theorem fn_spoilt (T : Tx P K mg w) : FnOk P w K mg base CX0 2 T.f_law_spoilt T.d_law_spoilt ["_law_box", "_law_text_here"] (spSpoilt) := ok_law_spoilt T (k := 1) ((fn_take T).mono (by omega)) (by tm_at "lnz") pure_spoilt
theorem fn_lfirst (T : Tx P K mg w) : FnOk P w K mg base CX0 1 T.f_law_first T.d_law_first ["_law_text_here"] (spFirstL) := ok_law_first T (k := 0)  (by tm_at "lnz") pure_firstL
theorem fn_parts (T : Tx P K mg w) : FnOk P w K mg base CX0 1 T.f_law_parts T.d_law_parts ["_law_text_here", "_law_sign"] (spPartsL) := ok_law_parts T (k := 0)  (by tm_at "lnz") pure_partsL
theorem fn_lread (T : Tx P K mg w) : ∀ n : Nat, FnOk P w K mg base CX0 (n + 1) T.f_law_read T.d_law_read ["_law_text_here"] (spLRead n)
  | 0 => fn_no (by intro vs H Q E h; simp only [spLRead, Nat.not_lt_zero, false_and, and_false, exists_false, exists_const] at h)
  | n + 1 => ok_law_read T ((fn_parts T).mono (by omega)) (fn_lread T n) (by tm_at "lnz") pure_lread
theorem fn_looked (T : Tx P K mg w) : ∀ n : Nat, FnOk P w K mg base CX0 (n) T.f_law_looked T.d_law_looked ["_law_part_here"] (spLooked n)
  | 0 => fn_no (by intro vs H Q E h; simp only [spLooked, Nat.not_lt_zero, false_and, and_false, exists_false, exists_const] at h)
  | n + 1 => ok_law_looked T (fn_looked T n) (by tm_at "lnz") pure_looked
theorem fn_stand (T : Tx P K mg w) : FnOk P w K mg base CX0 1 T.f_may_stand T.d_may_stand ["sign", "due", "unclosed"] (spStandG) := ok_may_stand T (k := 0)  (by tm_at "lnz") (pure_standG T.i_WORDS_0 T.i_WORDS_1 T.h_WORDS)
theorem fn_signsx (T : Tx P K mg w) : FnOk P w K mg base (L2.CX P w) 6 T.f_check_signs T.d_check_signs ["text"] (spSignsX T.C_BadText) := ok_check_signsx T (k := 3) ((fn_stand T).mono (by omega)) (by tm_at "lnz") pure_signsx
theorem fn_join (T : Tx P K mg w) : FnOk P w K mg base CX0 1 T.f_join_waiting T.d_join_waiting ["done", "waiting", "least"] (spJoin 60000) := ok_join_waiting T (k := 0)  (by tm_at "lnz") (pure_join (hb_of T.k_BINDS_0 T.k_BINDS_1 T.k_BINDS_2 T.k_BINDS_3) (hw_of T.k_WORDS_0 T.k_WORDS_1))
theorem fn_condof (T : Tx P K mg w) : FnOk P w K mg base CX0 3 T.f_condition_of T.d_condition_of ["text"] (spCondOf) := ok_condition_of T (k := 2) ((fn_join T).mono (by omega)) (by tm_at "lnz") (pure_condof (hb_of T.k_BINDS_0 T.k_BINDS_1 T.k_BINDS_2 T.k_BINDS_3) T.i_WORDS_0 T.i_WORDS_1 T.i_WORDS_2 T.i_WORDS_3)
theorem fn_num (T : Tx P K mg w) : FnOk P w K mg base CX0 1 T.f_is_number_up_to T.d_is_number_up_to ["value", "most"] (spNum) := ok_is_number_up_to T (k := 0)  (by tm_at "lnz") pure_num
theorem fn_form (T : Tx P K mg w) : FnOk P w K mg base CX0 2 T.f_has_form T.d_has_form ["condition"] (spForm) := ok_has_form T (k := 1) ((fn_num T).mono (by omega)) (by tm_at "lnz") pure_form
theorem fn_countx (T : Tx P K mg w) : ∀ n : Nat, FnOk P w K mg base (L2.CX P w) (n + 3) T.f_count_looks T.d_count_looks ["condition", "around"] (spCountX T.C_BadCondition n)
  | 0 => fn_no no_countx
  | n + 1 => ok_count_looksx T ((fn_form T).mono (by omega)) (fn_countx T n) (by tm_at "lnz") pure_countx
theorem fn_checkx (T : Tx P K mg w) : FnOk P w K mg base (L2.CX P w) 17 T.f_check_condition T.d_check_condition ["condition"] (spCheckX T.C_BadCondition) := ok_check_conditionx T (k := 16) ((fn_countx T 12).mono (by omega)) (by tm_at "lnz") pure_checkx
theorem fn_ready (T : Tx P K mg w) : FnOk P w K mg base (L2.CX P w) 31 T.f_read T.d_read ["text"] (spReadY T.C_BadText T.C_BadCondition) := ok_ready T (k := 30) ((fn_signsx T).mono (by omega)) ((fn_condof T).mono (by omega)) ((fn_checkx T).mono (by omega)) (by tm_at "lnz") pure_ready
theorem fn_class (T : Tx P K mg w) (a : Addr) (oe : Obj) (cls : Value) (d : Option Addr) (hz : Zc cls d oe) (hf : ∃ vs, oe.data = .fields vs) : FnP P w K mg base CX0 1 T.f_law_class T.d_law_class ["_law_e"] (spClass K T.C_BadCondition T.C_BadWorths T.C_BadTurns T.C_BadEnd T.C_BadCode T.C_BadChances T.C_TooMany T.C_BadText a cls d) (a, oe) :=
  ⟨by tm_at "lnz", fun A outer s H args us vs Q E h1 h2 e0 b r hsp => by
    obtain ⟨D, j, rfl, W, hk, h⟩ := id hsp
    exact (ok_law_class T (k := 0) (sp := spClassD a d j) W hz hf (by tm_at "lnz") (pure_class hk)).run A outer s H args us vs Q E h1 h2 e0 b r h⟩
theorem fn_told (T : Tx P K mg w) : FnOk P w K mg base CX0 40 T.f_law_told T.d_law_told ["_law_text_here"] (spTold11 K) := ok_law_told T (k := 39) ((fn_ready T).mono (by omega)) (fun a oe cls d hz hf => (fn_class T a oe cls d hz hf).mono (by omega)) (by tm_at "lnz") (pure_told11 T.m_BadText_JumpError T.m_BadCondition_JumpError T.w_BadText T.w_BadCondition ⟨by decide, T.q_BadText_BadCondition, T.q_BadText_BadWorths, T.q_BadText_BadTurns, T.q_BadText_BadEnd, T.q_BadText_BadCode, T.q_BadText_BadChances, T.q_BadText_TooMany, T.q_BadText_BadText, T.v_BadText⟩ ⟨by decide, T.q_BadCondition_BadCondition, T.q_BadCondition_BadWorths, T.q_BadCondition_BadTurns, T.q_BadCondition_BadEnd, T.q_BadCondition_BadCode, T.q_BadCondition_BadChances, T.q_BadCondition_TooMany, T.q_BadCondition_BadText, T.v_BadCondition⟩)
theorem fn_alike (T : Tx P K mg w) : ∀ n : Nat, FnOk P w K mg base CX0 (n) T.f_law_alike T.d_law_alike ["_law_found", "_law_due"] (spAlike K n)
  | 0 => fn_no fun vs H Q E ⟨_, _, _, _, _, _, h, _⟩ => h
  | n + 1 => ok_law_alike T (fn_alike T n) (by tm_at "lnz") pure_alike
theorem main (T : Tx P K mg w) : FnOk P w K mg base CX0 220 T.f_law T.d_law ["_law_script"] (spLaw K) :=
  ok_law T (k := 219) ((fn_begun T).mono (by omega)) ((fn_take T).mono (by omega)) ((fn_cond T).mono (by omega)) ((fn_ltext T 13).mono (by omega)) ((fn_spoilt T).mono (by omega)) ((fn_lfirst T).mono (by omega)) ((fn_lread T 202).mono (by omega)) ((fn_deepG T 202).mono (by omega)) ((fn_looked T 202).mono (by omega)) ((fn_told T).mono (by omega)) ((fn_alike T 16).mono (by omega)) (by tm_at "lnz") pure_main
end

theorem all_mk {l : PySem.W.OpenLaw} {w : World} {K : PySem.W.Frag} {h : Heap} {mg : Str → Option Value} {fa : Addr} (X : K.In h) (G : h.Ns mainGlobals mg) (hfa : mg "law" = some (.ref fa))
    {f0 : Addr} {od0 an0 : Option Addr} {sl0 : Array (Option Value)} {oc0 kV0 dc0 pm0 cd0 ct0 : Value}
    {f1 : Addr} {od1 an1 : Option Addr} {sl1 : Array (Option Value)} {oc1 kV1 dc1 pm1 cd1 ct1 : Value}
    {f2 : Addr} {od2 an2 : Option Addr} {sl2 : Array (Option Value)} {oc2 kV2 dc2 pm2 cd2 ct2 : Value}
    {f3 : Addr} {od3 an3 : Option Addr} {sl3 : Array (Option Value)} {oc3 kV3 dc3 pm3 cd3 ct3 : Value}
    {f4 : Addr} {od4 an4 : Option Addr} {sl4 : Array (Option Value)} {oc4 kV4 dc4 pm4 cd4 ct4 : Value}
    {f5 : Addr} {od5 an5 : Option Addr} {sl5 : Array (Option Value)} {oc5 kV5 dc5 pm5 cd5 ct5 : Value}
    {f6 : Addr} {od6 an6 : Option Addr} {sl6 : Array (Option Value)} {oc6 kV6 dc6 pm6 cd6 ct6 : Value}
    {f7 : Addr} {od7 an7 : Option Addr} {sl7 : Array (Option Value)} {oc7 kV7 dc7 pm7 cd7 ct7 : Value}
    {f8 : Addr} {od8 an8 : Option Addr} {sl8 : Array (Option Value)} {oc8 kV8 dc8 pm8 cd8 ct8 : Value}
    {f9 : Addr} {od9 an9 : Option Addr} {sl9 : Array (Option Value)} {oc9 kV9 dc9 pm9 cd9 ct9 : Value}
    {f10 : Addr} {od10 an10 : Option Addr} {sl10 : Array (Option Value)} {oc10 kV10 dc10 pm10 cd10 ct10 : Value}
    {f11 : Addr} {od11 an11 : Option Addr} {sl11 : Array (Option Value)} {oc11 kV11 dc11 pm11 cd11 ct11 : Value}
    {f12 : Addr} {od12 an12 : Option Addr} {sl12 : Array (Option Value)} {oc12 kV12 dc12 pm12 cd12 ct12 : Value}
    {f13 : Addr} {od13 an13 : Option Addr} {sl13 : Array (Option Value)} {oc13 kV13 dc13 pm13 cd13 ct13 : Value}
    {f14 : Addr} {od14 an14 : Option Addr} {sl14 : Array (Option Value)} {oc14 kV14 dc14 pm14 cd14 ct14 : Value}
    {f15 : Addr} {od15 an15 : Option Addr} {sl15 : Array (Option Value)} {oc15 kV15 dc15 pm15 cd15 ct15 : Value}
    {f16 : Addr} {od16 an16 : Option Addr} {sl16 : Array (Option Value)} {oc16 kV16 dc16 pm16 cd16 ct16 : Value}
    {f17 : Addr} {od17 an17 : Option Addr} {sl17 : Array (Option Value)} {oc17 kV17 dc17 pm17 cd17 ct17 : Value}
    {f18 : Addr} {od18 an18 : Option Addr} {sl18 : Array (Option Value)} {oc18 kV18 dc18 pm18 cd18 ct18 : Value}
    {f19 : Addr} {od19 an19 : Option Addr} {sl19 : Array (Option Value)} {oc19 kV19 dc19 pm19 cd19 ct19 : Value}
    {f20 : Addr} {od20 an20 : Option Addr} {sl20 : Array (Option Value)} {oc20 kV20 dc20 pm20 cd20 ct20 : Value}
    {f21 : Addr} {od21 an21 : Option Addr} {sl21 : Array (Option Value)} {oc21 kV21 dc21 pm21 cd21 ct21 : Value}
    {f22 : Addr} {od22 an22 : Option Addr} {sl22 : Array (Option Value)} {oc22 kV22 dc22 pm22 cd22 ct22 : Value}
    {f23 : Addr} {od23 an23 : Option Addr} {sl23 : Array (Option Value)} {oc23 kV23 dc23 pm23 cd23 ct23 : Value}
    {f24 : Addr} {od24 an24 : Option Addr} {sl24 : Array (Option Value)} {oc24 kV24 dc24 pm24 cd24 ct24 : Value}
    {C_BadCondition : Addr}
    {C_BadText : Addr}
    {fI_BadText : Addr} {nm_BadText q_BadText : Str} {N_BadText : Addr} {bs_BadText sub_BadText : List Value} {sn_BadText : List Str} {ab_BadText : Bool} {col_BadText : Option Bool} {dd_BadText : Option Addr} {m0_BadText m1_BadText m2_BadText m3_BadText m5_BadText : Option Value}
    {oc_BadText doc_BadText pm_BadText ct_BadText kV_BadText c3_BadText c4_BadText : Value} {od_BadText an_BadText d3_BadText d4_BadText : Option Addr} {osl_BadText s3_BadText s4_BadText : Array (Option Value)} {vs_BadText : Array Value} {cc_BadText cda_BadText : Addr} {tf_BadText : Tok} {file_BadText : Str}
    {C_BadEnd : Addr}
    {C_BadTurns : Addr}
    {C_BadWorths : Addr}
    {C_TooMany : Addr}
    {C_BadChances : Addr}
    {C_BadCode : Addr}
    {C_JumpError : Addr}
    {u_MOST_LOOKS : Tok}
    {u_MOST_AROUND : Tok}
    {u_THINGS : Tok}
    {u_BEFORE_ONE : Tok}
    {u_BEGINNINGS : Tok}
    {a_WORDS : Addr}
    {es_WORDS : Array DictEntry} {en_WORDS : Nat}
    {t_WORDS_0 : Tok}
    {t_WORDS_1 : Tok}
    {u_LETTERS : Tok}
    {a_BINDS : Addr}
    {es_BINDS : Array DictEntry} {en_BINDS : Nat}
    {t_BINDS_0 : Tok}
    {t_BINDS_1 : Tok}
    {t_BINDS_2 : Tok}
    {t_BINDS_3 : Tok}
    (a0 : PySem.W.nsIn K mainGlobals "check_condition" = some (some (.ref f0)))
    (l0 : K.lookup f0 = some ⟨oc0, od0, .func (PySem.W.fnOf "check_condition" "check_condition" (defArgs s_check_condition) (defBody s_check_condition) (defScope s_check_condition) .none kV0 dc0 pm0 an0 cd0 ct0), sl0⟩)
    (c0 : PySem.W.codeIn K cd0 "check_condition" = true)
    (k0 : PySem.W.keepIn K (.ref f0) = true)
    (a1 : PySem.W.nsIn K mainGlobals "count_looks" = some (some (.ref f1)))
    (l1 : K.lookup f1 = some ⟨oc1, od1, .func (PySem.W.fnOf "count_looks" "count_looks" (defArgs s_count_looks) (defBody s_count_looks) (defScope s_count_looks) .none kV1 dc1 pm1 an1 cd1 ct1), sl1⟩)
    (c1 : PySem.W.codeIn K cd1 "count_looks" = true)
    (k1 : PySem.W.keepIn K (.ref f1) = true)
    (a2 : PySem.W.nsIn K mainGlobals "has_form" = some (some (.ref f2)))
    (l2 : K.lookup f2 = some ⟨oc2, od2, .func (PySem.W.fnOf "has_form" "has_form" (defArgs s_has_form) (defBody s_has_form) (defScope s_has_form) .none kV2 dc2 pm2 an2 cd2 ct2), sl2⟩)
    (c2 : PySem.W.codeIn K cd2 "has_form" = true)
    (k2 : PySem.W.keepIn K (.ref f2) = true)
    (a3 : PySem.W.nsIn K mainGlobals "is_number_up_to" = some (some (.ref f3)))
    (l3 : K.lookup f3 = some ⟨oc3, od3, .func (PySem.W.fnOf "is_number_up_to" "is_number_up_to" (defArgs s_is_number_up_to) (defBody s_is_number_up_to) (defScope s_is_number_up_to) .none kV3 dc3 pm3 an3 cd3 ct3), sl3⟩)
    (c3 : PySem.W.codeIn K cd3 "is_number_up_to" = true)
    (k3 : PySem.W.keepIn K (.ref f3) = true)
    (a4 : PySem.W.nsIn K mainGlobals "read" = some (some (.ref f4)))
    (l4 : K.lookup f4 = some ⟨oc4, od4, .func (PySem.W.fnOf "read" "read" (defArgs s_read) (defBody s_read) (defScope s_read) .none kV4 dc4 pm4 an4 cd4 ct4), sl4⟩)
    (c4 : PySem.W.codeIn K cd4 "read" = true)
    (k4 : PySem.W.keepIn K (.ref f4) = true)
    (a5 : PySem.W.nsIn K mainGlobals "check_signs" = some (some (.ref f5)))
    (l5 : K.lookup f5 = some ⟨oc5, od5, .func (PySem.W.fnOf "check_signs" "check_signs" (defArgs s_check_signs) (defBody s_check_signs) (defScope s_check_signs) .none kV5 dc5 pm5 an5 cd5 ct5), sl5⟩)
    (c5 : PySem.W.codeIn K cd5 "check_signs" = true)
    (k5 : PySem.W.keepIn K (.ref f5) = true)
    (a6 : PySem.W.nsIn K mainGlobals "may_stand" = some (some (.ref f6)))
    (l6 : K.lookup f6 = some ⟨oc6, od6, .func (PySem.W.fnOf "may_stand" "may_stand" (defArgs s_may_stand) (defBody s_may_stand) (defScope s_may_stand) .none kV6 dc6 pm6 an6 cd6 ct6), sl6⟩)
    (c6 : PySem.W.codeIn K cd6 "may_stand" = true)
    (k6 : PySem.W.keepIn K (.ref f6) = true)
    (a7 : PySem.W.nsIn K mainGlobals "condition_of" = some (some (.ref f7)))
    (l7 : K.lookup f7 = some ⟨oc7, od7, .func (PySem.W.fnOf "condition_of" "condition_of" (defArgs s_condition_of) (defBody s_condition_of) (defScope s_condition_of) .none kV7 dc7 pm7 an7 cd7 ct7), sl7⟩)
    (c7 : PySem.W.codeIn K cd7 "condition_of" = true)
    (k7 : PySem.W.keepIn K (.ref f7) = true)
    (a8 : PySem.W.nsIn K mainGlobals "join_waiting" = some (some (.ref f8)))
    (l8 : K.lookup f8 = some ⟨oc8, od8, .func (PySem.W.fnOf "join_waiting" "join_waiting" (defArgs s_join_waiting) (defBody s_join_waiting) (defScope s_join_waiting) .none kV8 dc8 pm8 an8 cd8 ct8), sl8⟩)
    (c8 : PySem.W.codeIn K cd8 "join_waiting" = true)
    (k8 : PySem.W.keepIn K (.ref f8) = true)
    (a9 : PySem.W.nsIn K mainGlobals "_law_begun" = some (some (.ref f9)))
    (l9 : K.lookup f9 = some ⟨oc9, od9, .func (PySem.W.fnOf "_law_begun" "_law_begun" (defArgs s_law_begun) (defBody s_law_begun) (defScope s_law_begun) .none kV9 dc9 pm9 an9 cd9 ct9), sl9⟩)
    (c9 : PySem.W.codeIn K cd9 "_law_begun" = true)
    (k9 : PySem.W.keepIn K (.ref f9) = true)
    (a10 : PySem.W.nsIn K mainGlobals "_law_take" = some (some (.ref f10)))
    (l10 : K.lookup f10 = some ⟨oc10, od10, .func (PySem.W.fnOf "_law_take" "_law_take" (defArgs s_law_take) (defBody s_law_take) (defScope s_law_take) .none kV10 dc10 pm10 an10 cd10 ct10), sl10⟩)
    (c10 : PySem.W.codeIn K cd10 "_law_take" = true)
    (k10 : PySem.W.keepIn K (.ref f10) = true)
    (a11 : PySem.W.nsIn K mainGlobals "_law_alike" = some (some (.ref f11)))
    (l11 : K.lookup f11 = some ⟨oc11, od11, .func (PySem.W.fnOf "_law_alike" "_law_alike" (defArgs s_law_alike) (defBody s_law_alike) (defScope s_law_alike) .none kV11 dc11 pm11 an11 cd11 ct11), sl11⟩)
    (c11 : PySem.W.codeIn K cd11 "_law_alike" = true)
    (k11 : PySem.W.keepIn K (.ref f11) = true)
    (a12 : PySem.W.nsIn K mainGlobals "_law_class" = some (some (.ref f12)))
    (l12 : K.lookup f12 = some ⟨oc12, od12, .func (PySem.W.fnOf "_law_class" "_law_class" (defArgs s_law_class) (defBody s_law_class) (defScope s_law_class) .none kV12 dc12 pm12 an12 cd12 ct12), sl12⟩)
    (c12 : PySem.W.codeIn K cd12 "_law_class" = true)
    (k12 : PySem.W.keepIn K (.ref f12) = true)
    (a13 : PySem.W.nsIn K mainGlobals "_law_part" = some (some (.ref f13)))
    (l13 : K.lookup f13 = some ⟨oc13, od13, .func (PySem.W.fnOf "_law_part" "_law_part" (defArgs s_law_part) (defBody s_law_part) (defScope s_law_part) .none kV13 dc13 pm13 an13 cd13 ct13), sl13⟩)
    (c13 : PySem.W.codeIn K cd13 "_law_part" = true)
    (k13 : PySem.W.keepIn K (.ref f13) = true)
    (a14 : PySem.W.nsIn K mainGlobals "_law_bare" = some (some (.ref f14)))
    (l14 : K.lookup f14 = some ⟨oc14, od14, .func (PySem.W.fnOf "_law_bare" "_law_bare" (defArgs s_law_bare) (defBody s_law_bare) (defScope s_law_bare) .none kV14 dc14 pm14 an14 cd14 ct14), sl14⟩)
    (c14 : PySem.W.codeIn K cd14 "_law_bare" = true)
    (k14 : PySem.W.keepIn K (.ref f14) = true)
    (a15 : PySem.W.nsIn K mainGlobals "_law_deep" = some (some (.ref f15)))
    (l15 : K.lookup f15 = some ⟨oc15, od15, .func (PySem.W.fnOf "_law_deep" "_law_deep" (defArgs s_law_deep) (defBody s_law_deep) (defScope s_law_deep) .none kV15 dc15 pm15 an15 cd15 ct15), sl15⟩)
    (c15 : PySem.W.codeIn K cd15 "_law_deep" = true)
    (k15 : PySem.W.keepIn K (.ref f15) = true)
    (a16 : PySem.W.nsIn K mainGlobals "_law_condition" = some (some (.ref f16)))
    (l16 : K.lookup f16 = some ⟨oc16, od16, .func (PySem.W.fnOf "_law_condition" "_law_condition" (defArgs s_law_condition) (defBody s_law_condition) (defScope s_law_condition) .none kV16 dc16 pm16 an16 cd16 ct16), sl16⟩)
    (c16 : PySem.W.codeIn K cd16 "_law_condition" = true)
    (k16 : PySem.W.keepIn K (.ref f16) = true)
    (a17 : PySem.W.nsIn K mainGlobals "_law_text" = some (some (.ref f17)))
    (l17 : K.lookup f17 = some ⟨oc17, od17, .func (PySem.W.fnOf "_law_text" "_law_text" (defArgs s_law_text) (defBody s_law_text) (defScope s_law_text) .none kV17 dc17 pm17 an17 cd17 ct17), sl17⟩)
    (c17 : PySem.W.codeIn K cd17 "_law_text" = true)
    (k17 : PySem.W.keepIn K (.ref f17) = true)
    (a18 : PySem.W.nsIn K mainGlobals "_law_spoilt" = some (some (.ref f18)))
    (l18 : K.lookup f18 = some ⟨oc18, od18, .func (PySem.W.fnOf "_law_spoilt" "_law_spoilt" (defArgs s_law_spoilt) (defBody s_law_spoilt) (defScope s_law_spoilt) .none kV18 dc18 pm18 an18 cd18 ct18), sl18⟩)
    (c18 : PySem.W.codeIn K cd18 "_law_spoilt" = true)
    (k18 : PySem.W.keepIn K (.ref f18) = true)
    (a19 : PySem.W.nsIn K mainGlobals "_law_first" = some (some (.ref f19)))
    (l19 : K.lookup f19 = some ⟨oc19, od19, .func (PySem.W.fnOf "_law_first" "_law_first" (defArgs s_law_first) (defBody s_law_first) (defScope s_law_first) .none kV19 dc19 pm19 an19 cd19 ct19), sl19⟩)
    (c19 : PySem.W.codeIn K cd19 "_law_first" = true)
    (k19 : PySem.W.keepIn K (.ref f19) = true)
    (a20 : PySem.W.nsIn K mainGlobals "_law_parts" = some (some (.ref f20)))
    (l20 : K.lookup f20 = some ⟨oc20, od20, .func (PySem.W.fnOf "_law_parts" "_law_parts" (defArgs s_law_parts) (defBody s_law_parts) (defScope s_law_parts) .none kV20 dc20 pm20 an20 cd20 ct20), sl20⟩)
    (c20 : PySem.W.codeIn K cd20 "_law_parts" = true)
    (k20 : PySem.W.keepIn K (.ref f20) = true)
    (a21 : PySem.W.nsIn K mainGlobals "_law_read" = some (some (.ref f21)))
    (l21 : K.lookup f21 = some ⟨oc21, od21, .func (PySem.W.fnOf "_law_read" "_law_read" (defArgs s_law_read) (defBody s_law_read) (defScope s_law_read) .none kV21 dc21 pm21 an21 cd21 ct21), sl21⟩)
    (c21 : PySem.W.codeIn K cd21 "_law_read" = true)
    (k21 : PySem.W.keepIn K (.ref f21) = true)
    (a22 : PySem.W.nsIn K mainGlobals "_law_looked" = some (some (.ref f22)))
    (l22 : K.lookup f22 = some ⟨oc22, od22, .func (PySem.W.fnOf "_law_looked" "_law_looked" (defArgs s_law_looked) (defBody s_law_looked) (defScope s_law_looked) .none kV22 dc22 pm22 an22 cd22 ct22), sl22⟩)
    (c22 : PySem.W.codeIn K cd22 "_law_looked" = true)
    (k22 : PySem.W.keepIn K (.ref f22) = true)
    (a23 : PySem.W.nsIn K mainGlobals "_law_told" = some (some (.ref f23)))
    (l23 : K.lookup f23 = some ⟨oc23, od23, .func (PySem.W.fnOf "_law_told" "_law_told" (defArgs s_law_told) (defBody s_law_told) (defScope s_law_told) .none kV23 dc23 pm23 an23 cd23 ct23), sl23⟩)
    (c23 : PySem.W.codeIn K cd23 "_law_told" = true)
    (k23 : PySem.W.keepIn K (.ref f23) = true)
    (a24 : PySem.W.nsIn K mainGlobals "law" = some (some (.ref f24)))
    (l24 : K.lookup f24 = some ⟨oc24, od24, .func (PySem.W.fnOf "law" "law" (defArgs s_law) (defBody s_law) (defScope s_law) .none kV24 dc24 pm24 an24 cd24 ct24), sl24⟩)
    (c24 : PySem.W.codeIn K cd24 "law" = true)
    (k24 : PySem.W.keepIn K (.ref f24) = true)
    (z_sum : PySem.W.nsIn K mainGlobals "sum" = some none)
    (z_tuple : PySem.W.nsIn K mainGlobals "tuple" = some none)
    (z_isinstance : PySem.W.nsIn K mainGlobals "isinstance" = some none)
    (z_len : PySem.W.nsIn K mainGlobals "len" = some none)
    (z_bool : PySem.W.nsIn K mainGlobals "bool" = some none)
    (z_int : PySem.W.nsIn K mainGlobals "int" = some none)
    (z_enumerate : PySem.W.nsIn K mainGlobals "enumerate" = some none)
    (z_list : PySem.W.nsIn K mainGlobals "list" = some none)
    (z_str : PySem.W.nsIn K mainGlobals "str" = some none)
    (z_range : PySem.W.nsIn K mainGlobals "range" = some none)
    (z_ValueError : PySem.W.nsIn K mainGlobals "ValueError" = some none)
    (z_max : PySem.W.nsIn K mainGlobals "max" = some none)
    (zsup : PySem.W.nsIn K mainGlobals "super" = some none)
    (zopq : PySem.W.nsIn K cStatics "thirdparty.any" = some none)
    (znos : (l.prog.main.scope.names.lookup ("super" : Str)).isSome = false)
    (zgs : PySem.W.specialIn K (.builtin "object.__class__") "__get__" = some (some (.builtin "getset_descriptor.__get__")))
    (ztk : PySem.W.takesIn K (.builtin "object.__class__") = some true)
    (zx_BadCondition : PySem.W.nsIn K mainGlobals "BadCondition" = some (some (.ref C_BadCondition)))
    (zk_BadCondition : PySem.W.keepIn K (.ref C_BadCondition) = true)
    (zs_BadCondition : PySem.W.subIn K (.ref C_BadCondition) (.type "BaseException") = some true)
    (zt_BadCondition : PySem.W.typeIn K (.ref C_BadCondition) = some (.type "type"))
    (zi_BadCondition : PySem.W.isClsIn K C_BadCondition = true)
    (ze_BadCondition : PySem.W.excIn K C_BadCondition PySem.HandSPX.veTail "ValueError.__new__" = true)
    (zw1_BadCondition : (PySem.W.clsIn K C_BadCondition).isSome = true)
    (zw2_BadCondition : xfB K C_BadCondition = true)
    (zw3_BadCondition : PySem.W.findIn K (.ref C_BadCondition) "__class__" = some (some (.builtin "object.__class__")))
    (zw4_BadCondition : PySem.W.mroIn K C_BadCondition (.type "object") = some true)
    (zv_BadCondition : PySem.W.kitOne K (.ref C_BadCondition) (.type "ValueError") = some true)
    (zx_BadText : PySem.W.nsIn K mainGlobals "BadText" = some (some (.ref C_BadText)))
    (zk_BadText : PySem.W.keepIn K (.ref C_BadText) = true)
    (zs_BadText : PySem.W.subIn K (.ref C_BadText) (.type "BaseException") = some true)
    (zt_BadText : PySem.W.typeIn K (.ref C_BadText) = some (.type "type"))
    (zi_BadText : PySem.W.isClsIn K C_BadText = true)
    (zn_BadText : PySem.W.findIn K (.ref C_BadText) "place" = some none)
    (zo_BadText : K.lookup C_BadText = some (excClassObj nm_BadText q_BadText C_BadText N_BadText bs_BadText [.ref C_JumpError, .type "ValueError", .type "Exception", .type "BaseException", .type "object"] true sn_BadText sub_BadText ab_BadText col_BadText dd_BadText m0_BadText m1_BadText m2_BadText m3_BadText m5_BadText "ValueError.__new__"))
    (zsa_BadText : PySem.W.findIn K (.ref C_BadText) "__setattr__" = some (some (.builtin "object.__setattr__")))
    (zI_BadText : PySem.W.findIn K (.ref C_BadText) "__init__" = some (some (.ref fI_BadText)))
    (ztI_BadText : PySem.W.typeIn K (.ref fI_BadText) = some (.type "function"))
    (zvia_BadText : PySem.W.ks_superIn K C_BadText C_BadText "__init__" = some (some (.builtin "ValueError.__init__")))
    (zve_BadText : PySem.W.subIn K (.ref C_BadText) (.type "ValueError") = some true)
    (zslf_BadText : PySem.W.mroIn K C_BadText (.ref C_BadText) = some true)
    (zl_BadText : K.lookup fI_BadText = some ⟨oc_BadText, od_BadText, .func (PySem.W.fnX "__init__" "BadText.__init__" (defArgs (iniOf (top 9))) (defBody (iniOf (top 9))) (defScope (iniOf (top 9))) [("__class__", cc_BadText)] .none kV_BadText doc_BadText pm_BadText an_BadText (.ref cda_BadText) ct_BadText), osl_BadText⟩)
    (zcd_BadText : PySem.W.codeIn K (.ref cda_BadText) "BadText.__init__" = true)
    (zcc_BadText : K.lookup cc_BadText = some ⟨c4_BadText, d4_BadText, .cell (some (.ref C_BadText)), s4_BadText⟩)
    (zca_BadText : K.lookup cda_BadText = some ⟨c3_BadText, d3_BadText, .fields vs_BadText, s3_BadText⟩)
    (zv2_BadText : vs_BadText[2]? = some (.str file_BadText tf_BadText))
    (zfl_BadText : ((l.prog.main.file : Str) == file_BadText) = true)
    (zw1_BadText : (PySem.W.clsIn K C_BadText).isSome = true)
    (zw2_BadText : xfB K C_BadText = true)
    (zw3_BadText : PySem.W.findIn K (.ref C_BadText) "__class__" = some (some (.builtin "object.__class__")))
    (zw4_BadText : PySem.W.mroIn K C_BadText (.type "object") = some true)
    (zv_BadText : PySem.W.kitOne K (.ref C_BadText) (.type "ValueError") = some true)
    (zx_BadEnd : PySem.W.nsIn K mainGlobals "BadEnd" = some (some (.ref C_BadEnd)))
    (zx_BadTurns : PySem.W.nsIn K mainGlobals "BadTurns" = some (some (.ref C_BadTurns)))
    (zx_BadWorths : PySem.W.nsIn K mainGlobals "BadWorths" = some (some (.ref C_BadWorths)))
    (zx_TooMany : PySem.W.nsIn K mainGlobals "TooMany" = some (some (.ref C_TooMany)))
    (zx_BadChances : PySem.W.nsIn K mainGlobals "BadChances" = some (some (.ref C_BadChances)))
    (zx_BadCode : PySem.W.nsIn K mainGlobals "BadCode" = some (some (.ref C_BadCode)))
    (zx_JumpError : PySem.W.nsIn K mainGlobals "JumpError" = some (some (.ref C_JumpError)))
    (zk_JumpError : PySem.W.keepIn K (.ref C_JumpError) = true)
    (zs_JumpError : PySem.W.subIn K (.ref C_JumpError) (.type "BaseException") = some true)
    (zt_JumpError : PySem.W.typeIn K (.ref C_JumpError) = some (.type "type"))
    (zi_JumpError : PySem.W.isClsIn K C_JumpError = true)
    (zq_BadCondition_BadCondition : PySem.W.kitOne K (.ref C_BadCondition) (.ref C_BadCondition) = some true)
    (zq_BadCondition_BadText : PySem.W.kitOne K (.ref C_BadCondition) (.ref C_BadText) = some false)
    (zq_BadCondition_BadEnd : PySem.W.kitOne K (.ref C_BadCondition) (.ref C_BadEnd) = some false)
    (zq_BadCondition_BadTurns : PySem.W.kitOne K (.ref C_BadCondition) (.ref C_BadTurns) = some false)
    (zq_BadCondition_BadWorths : PySem.W.kitOne K (.ref C_BadCondition) (.ref C_BadWorths) = some false)
    (zq_BadCondition_TooMany : PySem.W.kitOne K (.ref C_BadCondition) (.ref C_TooMany) = some false)
    (zq_BadCondition_BadChances : PySem.W.kitOne K (.ref C_BadCondition) (.ref C_BadChances) = some false)
    (zq_BadCondition_BadCode : PySem.W.kitOne K (.ref C_BadCondition) (.ref C_BadCode) = some false)
    (zm_BadCondition_JumpError : PySem.W.subIn K (.ref C_BadCondition) (.ref C_JumpError) = some true)
    (zq_BadText_BadCondition : PySem.W.kitOne K (.ref C_BadText) (.ref C_BadCondition) = some false)
    (zq_BadText_BadText : PySem.W.kitOne K (.ref C_BadText) (.ref C_BadText) = some true)
    (zq_BadText_BadEnd : PySem.W.kitOne K (.ref C_BadText) (.ref C_BadEnd) = some false)
    (zq_BadText_BadTurns : PySem.W.kitOne K (.ref C_BadText) (.ref C_BadTurns) = some false)
    (zq_BadText_BadWorths : PySem.W.kitOne K (.ref C_BadText) (.ref C_BadWorths) = some false)
    (zq_BadText_TooMany : PySem.W.kitOne K (.ref C_BadText) (.ref C_TooMany) = some false)
    (zq_BadText_BadChances : PySem.W.kitOne K (.ref C_BadText) (.ref C_BadChances) = some false)
    (zq_BadText_BadCode : PySem.W.kitOne K (.ref C_BadText) (.ref C_BadCode) = some false)
    (zm_BadText_JumpError : PySem.W.subIn K (.ref C_BadText) (.ref C_JumpError) = some true)
    (y_MOST_LOOKS : PySem.W.nsIn K mainGlobals "MOST_LOOKS" = some (some (.int 12 u_MOST_LOOKS)))
    (y_MOST_AROUND : PySem.W.nsIn K mainGlobals "MOST_AROUND" = some (some (.int 10 u_MOST_AROUND)))
    (y_THINGS : PySem.W.nsIn K mainGlobals "THINGS" = some (some (.int 8 u_THINGS)))
    (y_BEFORE_ONE : PySem.W.nsIn K mainGlobals "BEFORE_ONE" = some (some (.str "!(&|" u_BEFORE_ONE)))
    (y_BEGINNINGS : PySem.W.nsIn K mainGlobals "BEGINNINGS" = some (some (.str "abcdefgh!(" u_BEGINNINGS)))
    (y_WORDS : PySem.W.nsIn K mainGlobals "WORDS" = some (some (.ref a_WORDS)))
    (h_WORDS : K.lookup a_WORDS = some ⟨.type "dict", none, .dict es_WORDS en_WORDS, #[]⟩)
    (q_WORDS : PySem.W.KeysLit w.params es_WORDS.toList)
    (v_WORDS_0 : PySem.W.nsIn K a_WORDS "&" = some (some (.str "and" t_WORDS_0)))
    (v_WORDS_1 : PySem.W.nsIn K a_WORDS "|" = some (some (.str "or" t_WORDS_1)))
    (ek_WORDS : (es_WORDS.toList.all fun e => match e.key with | .str x _ => [("&" : Str), ("|" : Str)].any (· == x) | _ => false) = true)
    (low_WORDS : (a_WORDS == sysModules) = false)
    (w_WORDS_2 : PySem.W.nsIn K a_WORDS "!" = some none)
    (w_WORDS_3 : PySem.W.nsIn K a_WORDS "(" = some none)
    (y_LETTERS : PySem.W.nsIn K mainGlobals "LETTERS" = some (some (.str "abcdefgh" u_LETTERS)))
    (y_BINDS : PySem.W.nsIn K mainGlobals "BINDS" = some (some (.ref a_BINDS)))
    (h_BINDS : K.lookup a_BINDS = some ⟨.type "dict", none, .dict es_BINDS en_BINDS, #[]⟩)
    (q_BINDS : PySem.W.KeysLit w.params es_BINDS.toList)
    (v_BINDS_0 : PySem.W.nsIn K a_BINDS "!" = some (some (.int 3 t_BINDS_0)))
    (v_BINDS_1 : PySem.W.nsIn K a_BINDS "&" = some (some (.int 2 t_BINDS_1)))
    (v_BINDS_2 : PySem.W.nsIn K a_BINDS "|" = some (some (.int 1 t_BINDS_2)))
    (v_BINDS_3 : PySem.W.nsIn K a_BINDS "(" = some (some (.int 0 t_BINDS_3))) :
    ∃ fd : FuncData, (∀ (s : Shared) (v : Value), BindsTo s fd ⟨[v], []⟩ [("_law_script", v)]) ∧ ∀ base : Heap, K.In base → base.Ns mainGlobals mg → FnOk l.prog w K mg base CX0 220 fa fd ["_law_script"] (spLaw K) := by
  have e := hfa.symm.trans (PySem.W.mg_of X G a24)
  cases e
  refine ⟨PySem.W.fnOf "law" "law" (defArgs s_law) (defBody s_law) (defScope s_law) .none kV24 dc24 pm24 an24 cd24 ct24, fun s v => .of_eq rfl, fun base _ _ => ?_⟩
  exact main (T := {
    f_check_condition := f0,
    d_check_condition := _,
    F_check_condition := fun_mk (st := s_check_condition) l0 c0 k0,
    m_check_condition := PySem.W.mg_of X G a0,
    b_check_condition := (fun_mk (st := s_check_condition) l0 c0 k0).binds (ps := ["condition"]) fun _ _ _ _ _ _ us hl => match us, hl with | [_], _ => rfl,
    f_count_looks := f1,
    d_count_looks := _,
    F_count_looks := fun_mk (st := s_count_looks) l1 c1 k1,
    m_count_looks := PySem.W.mg_of X G a1,
    b_count_looks := (fun_mk (st := s_count_looks) l1 c1 k1).binds (ps := ["condition", "around"]) fun _ _ _ _ _ _ us hl => match us, hl with | [_, _], _ => rfl,
    f_has_form := f2,
    d_has_form := _,
    F_has_form := fun_mk (st := s_has_form) l2 c2 k2,
    m_has_form := PySem.W.mg_of X G a2,
    b_has_form := (fun_mk (st := s_has_form) l2 c2 k2).binds (ps := ["condition"]) fun _ _ _ _ _ _ us hl => match us, hl with | [_], _ => rfl,
    f_is_number_up_to := f3,
    d_is_number_up_to := _,
    F_is_number_up_to := fun_mk (st := s_is_number_up_to) l3 c3 k3,
    m_is_number_up_to := PySem.W.mg_of X G a3,
    b_is_number_up_to := (fun_mk (st := s_is_number_up_to) l3 c3 k3).binds (ps := ["value", "most"]) fun _ _ _ _ _ _ us hl => match us, hl with | [_, _], _ => rfl,
    f_read := f4,
    d_read := _,
    F_read := fun_mk (st := s_read) l4 c4 k4,
    m_read := PySem.W.mg_of X G a4,
    b_read := (fun_mk (st := s_read) l4 c4 k4).binds (ps := ["text"]) fun _ _ _ _ _ _ us hl => match us, hl with | [_], _ => rfl,
    f_check_signs := f5,
    d_check_signs := _,
    F_check_signs := fun_mk (st := s_check_signs) l5 c5 k5,
    m_check_signs := PySem.W.mg_of X G a5,
    b_check_signs := (fun_mk (st := s_check_signs) l5 c5 k5).binds (ps := ["text"]) fun _ _ _ _ _ _ us hl => match us, hl with | [_], _ => rfl,
    f_may_stand := f6,
    d_may_stand := _,
    F_may_stand := fun_mk (st := s_may_stand) l6 c6 k6,
    m_may_stand := PySem.W.mg_of X G a6,
    b_may_stand := (fun_mk (st := s_may_stand) l6 c6 k6).binds (ps := ["sign", "due", "unclosed"]) fun _ _ _ _ _ _ us hl => match us, hl with | [_, _, _], _ => rfl,
    f_condition_of := f7,
    d_condition_of := _,
    F_condition_of := fun_mk (st := s_condition_of) l7 c7 k7,
    m_condition_of := PySem.W.mg_of X G a7,
    b_condition_of := (fun_mk (st := s_condition_of) l7 c7 k7).binds (ps := ["text"]) fun _ _ _ _ _ _ us hl => match us, hl with | [_], _ => rfl,
    f_join_waiting := f8,
    d_join_waiting := _,
    F_join_waiting := fun_mk (st := s_join_waiting) l8 c8 k8,
    m_join_waiting := PySem.W.mg_of X G a8,
    b_join_waiting := (fun_mk (st := s_join_waiting) l8 c8 k8).binds (ps := ["done", "waiting", "least"]) fun _ _ _ _ _ _ us hl => match us, hl with | [_, _, _], _ => rfl,
    f_law_begun := f9,
    d_law_begun := _,
    F_law_begun := fun_mk (st := s_law_begun) l9 c9 k9,
    m_law_begun := PySem.W.mg_of X G a9,
    b_law_begun := (fun_mk (st := s_law_begun) l9 c9 k9).binds (ps := ["_law_script"]) fun _ _ _ _ _ _ us hl => match us, hl with | [_], _ => rfl,
    f_law_take := f10,
    d_law_take := _,
    F_law_take := fun_mk (st := s_law_take) l10 c10 k10,
    m_law_take := PySem.W.mg_of X G a10,
    b_law_take := (fun_mk (st := s_law_take) l10 c10 k10).binds (ps := ["_law_box", "_law_many"]) fun _ _ _ _ _ _ us hl => match us, hl with | [_, _], _ => rfl,
    f_law_alike := f11,
    d_law_alike := _,
    F_law_alike := fun_mk (st := s_law_alike) l11 c11 k11,
    m_law_alike := PySem.W.mg_of X G a11,
    b_law_alike := (fun_mk (st := s_law_alike) l11 c11 k11).binds (ps := ["_law_found", "_law_due"]) fun _ _ _ _ _ _ us hl => match us, hl with | [_, _], _ => rfl,
    f_law_class := f12,
    d_law_class := _,
    F_law_class := fun_mk (st := s_law_class) l12 c12 k12,
    m_law_class := PySem.W.mg_of X G a12,
    b_law_class := (fun_mk (st := s_law_class) l12 c12 k12).binds (ps := ["_law_e"]) fun _ _ _ _ _ _ us hl => match us, hl with | [_], _ => rfl,
    f_law_part := f13,
    d_law_part := _,
    F_law_part := fun_mk (st := s_law_part) l13 c13 k13,
    m_law_part := PySem.W.mg_of X G a13,
    b_law_part := (fun_mk (st := s_law_part) l13 c13 k13).binds (ps := ["_law_box", "_law_many", "_law_things"]) fun _ _ _ _ _ _ us hl => match us, hl with | [_, _, _], _ => rfl,
    f_law_bare := f14,
    d_law_bare := _,
    F_law_bare := fun_mk (st := s_law_bare) l14 c14 k14,
    m_law_bare := PySem.W.mg_of X G a14,
    b_law_bare := (fun_mk (st := s_law_bare) l14 c14 k14).binds (ps := ["_law_box", "_law_many", "_law_things"]) fun _ _ _ _ _ _ us hl => match us, hl with | [_, _, _], _ => rfl,
    f_law_deep := f15,
    d_law_deep := _,
    F_law_deep := fun_mk (st := s_law_deep) l15 c15 k15,
    m_law_deep := PySem.W.mg_of X G a15,
    b_law_deep := (fun_mk (st := s_law_deep) l15 c15 k15).binds (ps := ["_law_part_here"]) fun _ _ _ _ _ _ us hl => match us, hl with | [_], _ => rfl,
    f_law_condition := f16,
    d_law_condition := _,
    F_law_condition := fun_mk (st := s_law_condition) l16 c16 k16,
    m_law_condition := PySem.W.mg_of X G a16,
    b_law_condition := (fun_mk (st := s_law_condition) l16 c16 k16).binds (ps := ["_law_box", "_law_most"]) fun _ _ _ _ _ _ us hl => match us, hl with | [_, _], _ => rfl,
    f_law_text := f17,
    d_law_text := _,
    F_law_text := fun_mk (st := s_law_text) l17 c17 k17,
    m_law_text := PySem.W.mg_of X G a17,
    b_law_text := (fun_mk (st := s_law_text) l17 c17 k17).binds (ps := ["_law_part_here", "_law_least"]) fun _ _ _ _ _ _ us hl => match us, hl with | [_, _], _ => rfl,
    f_law_spoilt := f18,
    d_law_spoilt := _,
    F_law_spoilt := fun_mk (st := s_law_spoilt) l18 c18 k18,
    m_law_spoilt := PySem.W.mg_of X G a18,
    b_law_spoilt := (fun_mk (st := s_law_spoilt) l18 c18 k18).binds (ps := ["_law_box", "_law_text_here"]) fun _ _ _ _ _ _ us hl => match us, hl with | [_, _], _ => rfl,
    f_law_first := f19,
    d_law_first := _,
    F_law_first := fun_mk (st := s_law_first) l19 c19 k19,
    m_law_first := PySem.W.mg_of X G a19,
    b_law_first := (fun_mk (st := s_law_first) l19 c19 k19).binds (ps := ["_law_text_here"]) fun _ _ _ _ _ _ us hl => match us, hl with | [_], _ => rfl,
    f_law_parts := f20,
    d_law_parts := _,
    F_law_parts := fun_mk (st := s_law_parts) l20 c20 k20,
    m_law_parts := PySem.W.mg_of X G a20,
    b_law_parts := (fun_mk (st := s_law_parts) l20 c20 k20).binds (ps := ["_law_text_here", "_law_sign"]) fun _ _ _ _ _ _ us hl => match us, hl with | [_, _], _ => rfl,
    f_law_read := f21,
    d_law_read := _,
    F_law_read := fun_mk (st := s_law_read) l21 c21 k21,
    m_law_read := PySem.W.mg_of X G a21,
    b_law_read := (fun_mk (st := s_law_read) l21 c21 k21).binds (ps := ["_law_text_here"]) fun _ _ _ _ _ _ us hl => match us, hl with | [_], _ => rfl,
    f_law_looked := f22,
    d_law_looked := _,
    F_law_looked := fun_mk (st := s_law_looked) l22 c22 k22,
    m_law_looked := PySem.W.mg_of X G a22,
    b_law_looked := (fun_mk (st := s_law_looked) l22 c22 k22).binds (ps := ["_law_part_here"]) fun _ _ _ _ _ _ us hl => match us, hl with | [_], _ => rfl,
    f_law_told := f23,
    d_law_told := _,
    F_law_told := fun_mk (st := s_law_told) l23 c23 k23,
    m_law_told := PySem.W.mg_of X G a23,
    b_law_told := (fun_mk (st := s_law_told) l23 c23 k23).binds (ps := ["_law_text_here"]) fun _ _ _ _ _ _ us hl => match us, hl with | [_], _ => rfl,
    f_law := fa,
    d_law := _,
    F_law := fun_mk (st := s_law) l24 c24 k24,
    m_law := PySem.W.mg_of X G a24,
    b_law := (fun_mk (st := s_law) l24 c24 k24).binds (ps := ["_law_script"]) fun _ _ _ _ _ _ us hl => match us, hl with | [_], _ => rfl,
    n_sum := PySem.W.mg_none_of X G z_sum,
    n_tuple := PySem.W.mg_none_of X G z_tuple,
    n_isinstance := PySem.W.mg_none_of X G z_isinstance,
    n_len := PySem.W.mg_none_of X G z_len,
    n_bool := PySem.W.mg_none_of X G z_bool,
    n_int := PySem.W.mg_none_of X G z_int,
    n_enumerate := PySem.W.mg_none_of X G z_enumerate,
    n_list := PySem.W.mg_none_of X G z_list,
    n_str := PySem.W.mg_none_of X G z_str,
    n_range := PySem.W.mg_none_of X G z_range,
    n_ValueError := PySem.W.mg_none_of X G z_ValueError,
    n_max := PySem.W.mg_none_of X G z_max,
    C_BadCondition := C_BadCondition,
    x_BadCondition := PySem.W.mg_of X G zx_BadCondition,
    k_BadCondition := zk_BadCondition,
    s_BadCondition := zs_BadCondition,
    t_BadCondition := zt_BadCondition,
    e_BadCondition := ze_BadCondition,
    w_BadCondition := excW_of zw1_BadCondition (xfB_ok zw2_BadCondition) zw3_BadCondition zgs ztk zw4_BadCondition,
    v_BadCondition := zv_BadCondition,
    C_BadText := C_BadText,
    x_BadText := PySem.W.mg_of X G zx_BadText,
    k_BadText := zk_BadText,
    s_BadText := zs_BadText,
    t_BadText := zt_BadText,
    fI_BadText := fI_BadText,
    fd_BadText := PySem.W.fnX "__init__" "BadText.__init__" (defArgs (iniOf (top 9))) (defBody (iniOf (top 9))) (defScope (iniOf (top 9))) [("__class__", cc_BadText)] .none kV_BadText doc_BadText pm_BadText an_BadText (.ref cda_BadText) ct_BadText,
    p_BadText := ⟨⟨⟨_, _, _, _, _, _, _, _, _, _, _, _, _, _, _, zo_BadText, rfl⟩, zsa_BadText, zs_BadText, zt_BadText, zk_BadText⟩, zI_BadText, ztI_BadText, zn_BadText, PySem.W.mg_none_of X G zsup, zvia_BadText, zve_BadText, zopq, zslf_BadText, pl_fn (iniOf (top 9)) zl_BadText zcd_BadText rfl rfl rfl (by first | exact plText3 (by decide +kernel) (by decide +kernel) | exact plText2 (by decide +kernel)) ⟨_, fun env => rfl⟩ ⟨_, _, _, _, _, _, zca_BadText, zv2_BadText, zfl_BadText⟩ ⟨_, _, _, zcc_BadText⟩, znos⟩,
    b_BadText := fun s us hk hl => match us, hl with | [_, _], _ => .of_eq rfl,
    w_BadText := excW_of zw1_BadText (xfB_ok zw2_BadText) zw3_BadText zgs ztk zw4_BadText,
    v_BadText := zv_BadText,
    xf_BadText := xfB_ok zw2_BadText,
    np_BadText := zn_BadText,
    C_BadEnd := C_BadEnd,
    x_BadEnd := PySem.W.mg_of X G zx_BadEnd,
    C_BadTurns := C_BadTurns,
    x_BadTurns := PySem.W.mg_of X G zx_BadTurns,
    C_BadWorths := C_BadWorths,
    x_BadWorths := PySem.W.mg_of X G zx_BadWorths,
    C_TooMany := C_TooMany,
    x_TooMany := PySem.W.mg_of X G zx_TooMany,
    C_BadChances := C_BadChances,
    x_BadChances := PySem.W.mg_of X G zx_BadChances,
    C_BadCode := C_BadCode,
    x_BadCode := PySem.W.mg_of X G zx_BadCode,
    C_JumpError := C_JumpError,
    x_JumpError := PySem.W.mg_of X G zx_JumpError,
    k_JumpError := zk_JumpError,
    s_JumpError := zs_JumpError,
    t_JumpError := zt_JumpError,
    q_BadCondition_BadCondition := zq_BadCondition_BadCondition,
    q_BadCondition_BadText := zq_BadCondition_BadText,
    q_BadCondition_BadEnd := zq_BadCondition_BadEnd,
    q_BadCondition_BadTurns := zq_BadCondition_BadTurns,
    q_BadCondition_BadWorths := zq_BadCondition_BadWorths,
    q_BadCondition_TooMany := zq_BadCondition_TooMany,
    q_BadCondition_BadChances := zq_BadCondition_BadChances,
    q_BadCondition_BadCode := zq_BadCondition_BadCode,
    m_BadCondition_JumpError := exm_at zs_JumpError zi_JumpError zt_JumpError zm_BadCondition_JumpError,
    q_BadText_BadCondition := zq_BadText_BadCondition,
    q_BadText_BadText := zq_BadText_BadText,
    q_BadText_BadEnd := zq_BadText_BadEnd,
    q_BadText_BadTurns := zq_BadText_BadTurns,
    q_BadText_BadWorths := zq_BadText_BadWorths,
    q_BadText_TooMany := zq_BadText_TooMany,
    q_BadText_BadChances := zq_BadText_BadChances,
    q_BadText_BadCode := zq_BadText_BadCode,
    m_BadText_JumpError := exm_at zs_JumpError zi_JumpError zt_JumpError zm_BadText_JumpError,
    u_MOST_LOOKS := u_MOST_LOOKS,
    c_MOST_LOOKS := PySem.W.mg_of X G y_MOST_LOOKS,
    u_MOST_AROUND := u_MOST_AROUND,
    c_MOST_AROUND := PySem.W.mg_of X G y_MOST_AROUND,
    u_THINGS := u_THINGS,
    c_THINGS := PySem.W.mg_of X G y_THINGS,
    u_BEFORE_ONE := u_BEFORE_ONE,
    c_BEFORE_ONE := PySem.W.mg_of X G y_BEFORE_ONE,
    u_BEGINNINGS := u_BEGINNINGS,
    c_BEGINNINGS := PySem.W.mg_of X G y_BEGINNINGS,
    a_WORDS := a_WORDS,
    c_WORDS := PySem.W.mg_of X G y_WORDS,
    k_WORDS_0 := ⟨_, _, _, h_WORDS, q_WORDS, v_WORDS_0, ⟨_, rfl⟩⟩,
    k_WORDS_1 := ⟨_, _, _, h_WORDS, q_WORDS, v_WORDS_1, ⟨_, rfl⟩⟩,
    h_WORDS := fun z hz => khas_no h_WORDS q_WORDS low_WORDS ek_WORDS hz,
    i_WORDS_0 := ⟨_, _, _, h_WORDS, q_WORDS, low_WORDS, v_WORDS_0, rfl⟩,
    i_WORDS_1 := ⟨_, _, _, h_WORDS, q_WORDS, low_WORDS, v_WORDS_1, rfl⟩,
    i_WORDS_2 := ⟨_, _, _, h_WORDS, q_WORDS, low_WORDS, w_WORDS_2, rfl⟩,
    i_WORDS_3 := ⟨_, _, _, h_WORDS, q_WORDS, low_WORDS, w_WORDS_3, rfl⟩,
    u_LETTERS := u_LETTERS,
    c_LETTERS := PySem.W.mg_of X G y_LETTERS,
    a_BINDS := a_BINDS,
    c_BINDS := PySem.W.mg_of X G y_BINDS,
    k_BINDS_0 := ⟨_, _, _, h_BINDS, q_BINDS, v_BINDS_0, ⟨_, rfl⟩⟩,
    k_BINDS_1 := ⟨_, _, _, h_BINDS, q_BINDS, v_BINDS_1, ⟨_, rfl⟩⟩,
    k_BINDS_2 := ⟨_, _, _, h_BINDS, q_BINDS, v_BINDS_2, ⟨_, rfl⟩⟩,
    k_BINDS_3 := ⟨_, _, _, h_BINDS, q_BINDS, v_BINDS_3, ⟨_, rfl⟩⟩ }) 
theorem walk {l : PySem.W.OpenLaw} {q : Program} {loose : List Str} {XP : (Str → Option Value) → Heap → Prop} {YP : World → Heap → Prop} {d : DefRec} {K : Params → PySem.W.Frag} (hn : l.most = some 63) (hdf : d.params.defaults = [])
    (hY : ∀ (w : World) (h : Heap), YP w h → (K w.params).In h)
    (F : ∀ (w : World) (mg : Str → Option Value) (fa : Addr) (h : Heap), (K w.params).In h → h.Ns mainGlobals mg → mg d.name = some (.ref fa) →
      ∃ fd : FuncData, (∀ (s : Shared) (u : Value), BindsTo s fd ⟨[u], []⟩ [("_law_script", u)]) ∧ ∀ base : Heap, (K w.params).In base → base.Ns mainGlobals mg → FnOk l.prog w (K w.params) mg base CX0 220 fa fd ["_law_script"] (spLaw (K w.params))) :
    PySem.W.WalkO q loose XP YP l.row.toRowW d [] (fun f vs => PySem.call f vs) :=
  L2.walk_of (n := 63) (k := 220) (x := "_law_script") (CX := fun _ => CX0) (sp := fun w => spLaw (K w.params)) hn (by decide) hdf ⟨rfl, by decide, by decide⟩ hY F (fun _ _ a ns hl _ hS => ⟨a, ns, rfl, hS, hl, fun _ => rfl⟩) fun _ _ _ _ _ z => z
end J
open PySem PySem.W PyProof.Rows
set_option maxRecDepth 100000 in
set_option maxHeartbeats 0 in
theorem PySem.Challenge.cw_jumpsay_k11_texts_refused_holds : PySem.Challenge.rw_jumpsay_k11_texts_refused.Holds := by
  w_on; o_law; k_head; (case hw => w_witness2)
  k_fill
  refine J.walk (l := PySem.Challenge.rw_jumpsay_k11_texts_refused) rfl rfl (fun w h Y => PySem.W.kIn_of Y) ?F
  case F =>
    intro w mg fa h KX G hmg
    refine' J.all_mk KX G hmg ?a0 ?l0 ?c0 ?k0 ?a1 ?l1 ?c1 ?k1 ?a2 ?l2 ?c2 ?k2 ?a3 ?l3 ?c3 ?k3 ?a4 ?l4 ?c4 ?k4 ?a5 ?l5 ?c5 ?k5 ?a6 ?l6 ?c6 ?k6 ?a7 ?l7 ?c7 ?k7 ?a8 ?l8 ?c8 ?k8 ?a9 ?l9 ?c9 ?k9 ?a10 ?l10 ?c10 ?k10 ?a11 ?l11 ?c11 ?k11 ?a12 ?l12 ?c12 ?k12 ?a13 ?l13 ?c13 ?k13 ?a14 ?l14 ?c14 ?k14 ?a15 ?l15 ?c15 ?k15 ?a16 ?l16 ?c16 ?k16 ?a17 ?l17 ?c17 ?k17 ?a18 ?l18 ?c18 ?k18 ?a19 ?l19 ?c19 ?k19 ?a20 ?l20 ?c20 ?k20 ?a21 ?l21 ?c21 ?k21 ?a22 ?l22 ?c22 ?k22 ?a23 ?l23 ?c23 ?k23 ?a24 ?l24 ?c24 ?k24 ?z_sum ?z_tuple ?z_isinstance ?z_len ?z_bool ?z_int ?z_enumerate ?z_list ?z_str ?z_range ?z_ValueError ?z_max ?zsup ?zopq ?znos ?zgs ?ztk ?zx_BadCondition ?zk_BadCondition ?zs_BadCondition ?zt_BadCondition ?zi_BadCondition ?ze_BadCondition ?zw1_BadCondition ?zw2_BadCondition ?zw3_BadCondition ?zw4_BadCondition ?zv_BadCondition ?zx_BadText ?zk_BadText ?zs_BadText ?zt_BadText ?zi_BadText ?zn_BadText ?zo_BadText ?zsa_BadText ?zI_BadText ?ztI_BadText ?zvia_BadText ?zve_BadText ?zslf_BadText ?zl_BadText ?zcd_BadText ?zcc_BadText ?zca_BadText ?zv2_BadText ?zfl_BadText ?zw1_BadText ?zw2_BadText ?zw3_BadText ?zw4_BadText ?zv_BadText ?zx_BadEnd ?zx_BadTurns ?zx_BadWorths ?zx_TooMany ?zx_BadChances ?zx_BadCode ?zx_JumpError ?zk_JumpError ?zs_JumpError ?zt_JumpError ?zi_JumpError ?zq_BadCondition_BadCondition ?zq_BadCondition_BadText ?zq_BadCondition_BadEnd ?zq_BadCondition_BadTurns ?zq_BadCondition_BadWorths ?zq_BadCondition_TooMany ?zq_BadCondition_BadChances ?zq_BadCondition_BadCode ?zm_BadCondition_JumpError ?zq_BadText_BadCondition ?zq_BadText_BadText ?zq_BadText_BadEnd ?zq_BadText_BadTurns ?zq_BadText_BadWorths ?zq_BadText_TooMany ?zq_BadText_BadChances ?zq_BadText_BadCode ?zm_BadText_JumpError ?y_MOST_LOOKS ?y_MOST_AROUND ?y_THINGS ?y_BEFORE_ONE ?y_BEGINNINGS ?y_WORDS ?h_WORDS ?q_WORDS ?v_WORDS_0 ?v_WORDS_1 ?ek_WORDS ?low_WORDS ?w_WORDS_2 ?w_WORDS_3 ?y_LETTERS ?y_BINDS ?h_BINDS ?q_BINDS ?v_BINDS_0 ?v_BINDS_1 ?v_BINDS_2 ?v_BINDS_3
    (case a0 => k_is); (case l0 => k_is); (case c0 => k_is); (case k0 => k_is)
    (case a1 => k_is); (case l1 => k_is); (case c1 => k_is); (case k1 => k_is)
    (case a2 => k_is); (case l2 => k_is); (case c2 => k_is); (case k2 => k_is)
    (case a3 => k_is); (case l3 => k_is); (case c3 => k_is); (case k3 => k_is)
    (case a4 => k_is); (case l4 => k_is); (case c4 => k_is); (case k4 => k_is)
    (case a5 => k_is); (case l5 => k_is); (case c5 => k_is); (case k5 => k_is)
    (case a6 => k_is); (case l6 => k_is); (case c6 => k_is); (case k6 => k_is)
    (case a7 => k_is); (case l7 => k_is); (case c7 => k_is); (case k7 => k_is)
    (case a8 => k_is); (case l8 => k_is); (case c8 => k_is); (case k8 => k_is)
    (case a9 => k_is); (case l9 => k_is); (case c9 => k_is); (case k9 => k_is)
    (case a10 => k_is); (case l10 => k_is); (case c10 => k_is); (case k10 => k_is)
    (case a11 => k_is); (case l11 => k_is); (case c11 => k_is); (case k11 => k_is)
    (case a12 => k_is); (case l12 => k_is); (case c12 => k_is); (case k12 => k_is)
    (case a13 => k_is); (case l13 => k_is); (case c13 => k_is); (case k13 => k_is)
    (case a14 => k_is); (case l14 => k_is); (case c14 => k_is); (case k14 => k_is)
    (case a15 => k_is); (case l15 => k_is); (case c15 => k_is); (case k15 => k_is)
    (case a16 => k_is); (case l16 => k_is); (case c16 => k_is); (case k16 => k_is)
    (case a17 => k_is); (case l17 => k_is); (case c17 => k_is); (case k17 => k_is)
    (case a18 => k_is); (case l18 => k_is); (case c18 => k_is); (case k18 => k_is)
    (case a19 => k_is); (case l19 => k_is); (case c19 => k_is); (case k19 => k_is)
    (case a20 => k_is); (case l20 => k_is); (case c20 => k_is); (case k20 => k_is)
    (case a21 => k_is); (case l21 => k_is); (case c21 => k_is); (case k21 => k_is)
    (case a22 => k_is); (case l22 => k_is); (case c22 => k_is); (case k22 => k_is)
    (case a23 => k_is); (case l23 => k_is); (case c23 => k_is); (case k23 => k_is)
    (case a24 => k_is); (case l24 => k_is); (case c24 => k_is); (case k24 => k_is)
    (case z_sum => k_is)
    (case z_tuple => k_is)
    (case z_isinstance => k_is)
    (case z_len => k_is)
    (case z_bool => k_is)
    (case z_int => k_is)
    (case z_enumerate => k_is)
    (case z_list => k_is)
    (case z_str => k_is)
    (case z_range => k_is)
    (case z_ValueError => k_is)
    (case z_max => k_is)
    (case zsup => first | k_is | rfl)
    (case zopq => first | k_is | rfl)
    (case znos => first | rfl | rfl)
    (case zgs => first | k_is | rfl)
    (case ztk => first | k_is | rfl)
    (case zx_BadCondition => first | k_is | rfl)
    (case zk_BadCondition => first | k_is | rfl)
    (case zs_BadCondition => first | k_is | rfl)
    (case zt_BadCondition => first | k_is | rfl)
    (case zi_BadCondition => first | k_is | rfl)
    (case ze_BadCondition => first | k_exc | rfl)
    (case zw1_BadCondition => first | k_is | rfl)
    (case zw2_BadCondition => first | k_is | rfl)
    (case zw3_BadCondition => first | k_is | rfl)
    (case zw4_BadCondition => first | k_is | rfl)
    (case zv_BadCondition => first | kit_is | rfl)
    (case zx_BadText => first | k_is | rfl)
    (case zk_BadText => first | k_is | rfl)
    (case zs_BadText => first | k_is | rfl)
    (case zt_BadText => first | k_is | rfl)
    (case zi_BadText => first | k_is | rfl)
    (case zn_BadText => first | k_is | rfl)
    (case zo_BadText => first | k_is | rfl)
    (case zsa_BadText => first | k_is | rfl)
    (case zI_BadText => first | k_is | rfl)
    (case ztI_BadText => first | k_is | rfl)
    (case zvia_BadText => first | ks_is | rfl)
    (case zve_BadText => first | k_is | rfl)
    (case zslf_BadText => first | k_is | rfl)
    (case zl_BadText => first | k_is | rfl)
    (case zcd_BadText => first | k_is | rfl)
    (case zcc_BadText => first | k_is | rfl)
    (case zca_BadText => first | k_is | rfl)
    (case zv2_BadText => first | rfl | rfl)
    (case zfl_BadText => first | rfl | rfl)
    (case zw1_BadText => first | k_is | rfl)
    (case zw2_BadText => first | k_is | rfl)
    (case zw3_BadText => first | k_is | rfl)
    (case zw4_BadText => first | k_is | rfl)
    (case zv_BadText => first | kit_is | rfl)
    (case zx_BadEnd => first | k_is | rfl)
    (case zx_BadTurns => first | k_is | rfl)
    (case zx_BadWorths => first | k_is | rfl)
    (case zx_TooMany => first | k_is | rfl)
    (case zx_BadChances => first | k_is | rfl)
    (case zx_BadCode => first | k_is | rfl)
    (case zx_JumpError => first | k_is | rfl)
    (case zk_JumpError => first | k_is | rfl)
    (case zs_JumpError => first | k_is | rfl)
    (case zt_JumpError => first | k_is | rfl)
    (case zi_JumpError => first | k_is | rfl)
    (case zq_BadCondition_BadCondition => first | kit_is | rfl)
    (case zq_BadCondition_BadText => first | kit_is | rfl)
    (case zq_BadCondition_BadEnd => first | kit_is | rfl)
    (case zq_BadCondition_BadTurns => first | kit_is | rfl)
    (case zq_BadCondition_BadWorths => first | kit_is | rfl)
    (case zq_BadCondition_TooMany => first | kit_is | rfl)
    (case zq_BadCondition_BadChances => first | kit_is | rfl)
    (case zq_BadCondition_BadCode => first | kit_is | rfl)
    (case zm_BadCondition_JumpError => first | k_is | rfl)
    (case zq_BadText_BadCondition => first | kit_is | rfl)
    (case zq_BadText_BadText => first | kit_is | rfl)
    (case zq_BadText_BadEnd => first | kit_is | rfl)
    (case zq_BadText_BadTurns => first | kit_is | rfl)
    (case zq_BadText_BadWorths => first | kit_is | rfl)
    (case zq_BadText_TooMany => first | kit_is | rfl)
    (case zq_BadText_BadChances => first | kit_is | rfl)
    (case zq_BadText_BadCode => first | kit_is | rfl)
    (case zm_BadText_JumpError => first | k_is | rfl)
    (case y_MOST_LOOKS => k_is)
    (case y_MOST_AROUND => k_is)
    (case y_THINGS => k_is)
    (case y_BEFORE_ONE => k_is)
    (case y_BEGINNINGS => k_is)
    (case y_WORDS => k_is)
    (case h_WORDS => k_is); (case q_WORDS => exact ⟨⟨_, _, rfl, rfl⟩, ⟨_, _, rfl, rfl⟩, trivial⟩)
    (case v_WORDS_0 => k_is)
    (case v_WORDS_1 => k_is)
    (case ek_WORDS => first | rfl | decide +kernel)
    (case low_WORDS => first | k_is | rfl | decide)
    (case w_WORDS_2 => k_is)
    (case w_WORDS_3 => k_is)
    (case y_LETTERS => k_is)
    (case y_BINDS => k_is)
    (case h_BINDS => k_is); (case q_BINDS => exact ⟨⟨_, _, rfl, rfl⟩, ⟨_, _, rfl, rfl⟩, ⟨_, _, rfl, rfl⟩, ⟨_, _, rfl, rfl⟩, trivial⟩)
    (case v_BINDS_0 => k_is)
    (case v_BINDS_1 => k_is)
    (case v_BINDS_2 => k_is)
    (case v_BINDS_3 => k_is)
