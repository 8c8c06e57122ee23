import PyProof.Rows.All
import Wide.All
import OpenK.AllK
import Wide.FinOn
import HandS.ForMost
import HandS.Codes
import KE.GoesEnum
import HandS.Strs
import HandS.SetFor
import HandS.SetBool
import PyProof.ExcBaseAll.ValueError
import HandS.ExcInit
import HandS.ExcSuper
import HandS.FStr
import HandS.ForExc
import KE.KExcSuper
import HandS.IsInst
import HandS.Walk
import HandS.Conv
import HandS.DictComp
import HandS.TupAny
import HandS.More
import HandS.Property
import HandS.Finally
import HandS.DeepEq
import HandS.OwnEq
import HandS.WordsExc
import KE.DataEq
import HandS.TupMul
import HandS.GenList
import HandS.GenYield
import HandS.Lambda
import HandS.ExcField
import HandS.ExcIs
import KE.KExcIs
import KE.DataFind
import HandS.Style
import HandS.EndTab
import HandS.EndOwn
import HandS.Dict
import PyProof.StrOps2
import KE.KeyNested
import PySem.Challenge.RW_lostplates_k47_texts_rejected
set_option Elab.async false
set_option linter.all false
set_option maxRecDepth 100000
set_option maxHeartbeats 4000000
namespace Lp
open PySem L2
open C8 (Cal pe_c Def)
def top (i : Nat) : Stmt := PySem.Challenge.pw_lostplates_k47_texts_rejected.main.body.getD i (.Pass ⟨0, 0, 0, 0⟩)
/-! ## the layer: terms by tactic, readings by tactic -/
section
variable {X : Cx} {K : PySem.W.Frag}
theorem rd_seq {t u : TS} {D : Ends} {σ : St} {H : Hp} (h : t { D with nx := u D } σ H) : tSeq t u D σ H := h
theorem rd_asg {te : TE} {g : TG} {D : Ends} {σ : St} {H : Hp} (h : te σ H fun x H1 => g x σ H1 D.nx) : tAsg te g D σ H := h
theorem rd_gName {i : Nat} {v : V} {σ : St} {H : Hp} {Q : St → Hp → Prop} (h : Q (σ.set i (some v)) H) : gName i v σ H Q := h
theorem rd_var {i : Nat} {v : V} {σ : St} {H : Hp} {Q : VK} (e : σ[i]? = some (some v)) (h : Q v H) : tVar i σ H Q := ⟨v, e, h⟩
theorem rd_c {v : V} {σ : St} {H : Hp} {Q : VK} (h : Q v H) : tC v σ H Q := h
theorem rd_op {r : R2} {ta tb : TE} {σ : St} {H : Hp} {Q : VK} (h : ta σ H fun x H1 => tb σ H1 fun y H2 => r x y H2 Q) : tOp r ta tb σ H Q := h
theorem rd_un {r : V → Hp → VK → Prop} {ta : TE} {σ : St} {H : Hp} {Q : VK} (h : ta σ H fun x H1 => r x H1 Q) : tUn r ta σ H Q := h
theorem rd_I0 {g : Int → Int → V} {i j : Int} {H : Hp} {Q : VK} (h : Q (g i j) H) : rI0 g (.int i) (.int j) H Q := ⟨i, j, rfl, rfl, h⟩
theorem rd_I {C : Int → Int → Prop} {g : Int → Int → V} {i j : Int} {H : Hp} {Q : VK} (c : C i j) (h : Q (g i j) H) : rI C g (.int i) (.int j) H Q := ⟨i, j, rfl, rfl, c, h⟩
theorem rd_U {g : Int → V} {i : Int} {H : Hp} {Q : VK} (h : Q (g i) H) : rU g (.int i) H Q := ⟨i, rfl, h⟩
theorem rd_test {t : TE} {σ : St} {H : Hp} {Q : Bool → Hp → Prop} (h : t σ H fun x H' => ∃ k, x = .bl k ∧ Q k H') : tTest t σ H Q := h
theorem rd_tB {t : TE} {σ : St} {H : Hp} {Q : Bool → Hp → Prop} (h : t σ H fun x H' => ∃ k, x = .bl k ∧ Q k H') : tB t σ H Q := h
theorem rd_bl {b : Bool} {H : Hp} {Q : Bool → Hp → Prop} (h : Q b H) : ∃ k, V.bl b = .bl k ∧ Q k H := ⟨b, rfl, h⟩
theorem rd_ifS {c : TT} {t u : TS} {D : Ends} {σ : St} {H : Hp} (h : c σ H fun b H1 => if b = true then t D σ H1 else u D σ H1) : tIfS c t u D σ H := h
theorem rd_ifE {c : TT} {ta tb : TE} {σ : St} {H : Hp} {Q : VK} (h : c σ H fun b H1 => if b = true then ta σ H1 Q else tb σ H1 Q) : tIf c ta tb σ H Q := h
theorem rd_ret {te : TE} {D : Ends} {σ : St} {H : Hp} (h : te σ H D.rt) : tRet te D σ H := h
theorem rd_drop {te : TE} {D : Ends} {σ : St} {H : Hp} (h : te σ H fun _ H1 => D.nx σ H1) : tDrop te D σ H := h
theorem rd_next {D : Ends} {σ : St} {H : Hp} (h : D.nx σ H) : tNext D σ H := h
theorem rd_nil {σ : St} {H : Hp} {Q : List V → Hp → Prop} (h : Q [] H) : tNil σ H Q := h
theorem rd_cons {te : TE} {t : TA} {σ : St} {H : Hp} {Q : List V → Hp → Prop} (h : te σ H fun x H1 => t σ H1 fun xs H2 => Q (x :: xs) H2) : tCons te t σ H Q := h
theorem rd_cb {r : List V → Hp → VK → Prop} {t : TA} {σ : St} {H : Hp} {Q : VK} (h : t σ H fun vs H1 => r vs H1 Q) : tCB r t σ H Q := h
theorem rd_call {sp : Sp} {dvs : List V} {E : XK} {t : TA} {σ : St} {H : Hp} {Q : VK} (h : t σ H fun vs H1 => sp (vs ++ dvs) H1 Q E) : tCall sp dvs E t σ H Q := h
theorem rd_eq {x y : V} {H : Hp} {Q : VK} (s : scal x y = true) (h : Q (.bl (decide (x = y))) H) : rEq x y H Q := ⟨s, h⟩
theorem rd_ne {x y : V} {H : Hp} {Q : VK} (s : scal x y = true) (h : Q (.bl (!decide (x = y))) H) : rNe x y H Q := ⟨s, h⟩
theorem rd_ixL {p : Addr} {xs : List V} {i : Int} {v : V} {H : Hp} {Q : VK} (hs : SqL K H p xs) (hv : atI xs i = some v) (h : Q v H) : rIx K (.ref p) (.int i) H Q := .inl ⟨p, xs, i, v, rfl, rfl, hs, hv, h⟩
theorem rd_ixT {p : Addr} {xs : List V} {i : Int} {v : V} {H : Hp} {Q : VK} (hs : SqT K H p xs) (hv : atI xs i = some v) (h : Q v H) : rIx K (.ref p) (.int i) H Q := .inr (.inl ⟨p, xs, i, v, rfl, rfl, hs, hv, h⟩)
theorem rd_gSub {to ti : TE} {t : TSet} {v : V} {σ : St} {H : Hp} {Q : St → Hp → Prop} (h : to σ H fun o H1 => ti σ H1 fun i H2 => t o i v H2 fun H3 => Q σ H3) : gSub to ti t v σ H Q := h
theorem rd_setL {p : Addr} {xs : List V} {k : Int} {j : Nat} {v : V} {H : Hp} {Q : Hp → Prop} (hs : H p = some (.lst xs)) (hj : ixN xs.length k = some j) (h : Q (upd H p (.lst (xs.set j v)))) : rSetL (.ref p) (.int k) v H Q := ⟨p, xs, k, j, rfl, rfl, hs, hj, h⟩
theorem rd_lenL {p : Addr} {xs : List V} {H : Hp} {Q : VK} (hs : SqL K H p xs) (h : Q (.int xs.length) H) : (fun ys H Q => ∃ x n, ys = [x] ∧ LenV K x H n ∧ Q (.int n) H) [V.ref p] H Q := ⟨_, _, rfl, .inl ⟨xs, hs, rfl⟩, h⟩
theorem rd_lenT {p : Addr} {xs : List V} {H : Hp} {Q : VK} (hs : SqT K H p xs) (h : Q (.int xs.length) H) : (fun ys H Q => ∃ x n, ys = [x] ∧ LenV K x H n ∧ Q (.int n) H) [V.ref p] H Q := ⟨_, _, rfl, .inr ⟨xs, hs, rfl⟩, h⟩
end
theorem lenL {K : PySem.W.Frag} {p : Addr} {xs : List V} {H : Hp} (h : SqL K H p xs) : LenV K (.ref p) H xs.length := .inl ⟨xs, h, rfl⟩
theorem lenT {K : PySem.W.Frag} {p : Addr} {xs : List V} {H : Hp} (h : SqT K H p xs) : LenV K (.ref p) H xs.length := .inr ⟨xs, h, rfl⟩
theorem lenS {K : PySem.W.Frag} {z : Str} {H : Hp} (h : z.length ≤ sizeLine) : LenV K (.str z) H z.length := ⟨h, rfl⟩
theorem SqL.but {K : PySem.W.Frag} {H : Hp} {a p : Addr} {o : HO} {xs : List V} (h : SqL K H a xs) (n : a ≠ p) : SqL K (upd H p o) a xs := by
  rcases h with (h | ⟨u, h⟩) | h
  · exact .inl (.inl ((upd_ne n).trans h))
  · exact .inl (.inr ⟨u, (upd_ne n).trans h⟩)
  · exact .inr h
theorem SqT.but {K : PySem.W.Frag} {H : Hp} {a p : Addr} {o : HO} {xs : List V} (h : SqT K H a xs) (n : a ≠ p) : SqT K (upd H p o) a xs := by
  rcases h with (h | ⟨u, h⟩) | h
  · exact .inl (.inl ((upd_ne n).trans h))
  · exact .inl (.inr ⟨u, (upd_ne n).trans h⟩)
  · exact .inr h
theorem small_len {n : Nat} (h : n ≤ 1000) : n ≤ sizeLine := Nat.le_trans h (by decide)
theorem small_lt {n : Nat} (h : n ≤ 1000) : n < sizeLine := Nat.lt_of_le_of_lt h (by decide)
theorem rd_lst {t : TA} {σ : St} {H : Hp} {Q : VK} (h : t σ H fun xs H1 => xs.length ≤ sizeLine ∧ ∀ p, H1 p = none → Q (.ref p) (upd H1 p (.lst xs))) : tLst t σ H Q := h
theorem rd_tup {t : TA} {σ : St} {H : Hp} {Q : VK} (h : t σ H fun xs H1 => xs.length ≤ sizeLine ∧ ∀ p, H1 p = none → Q (.ref p) (upd H1 p (.tup xs))) : tTup t σ H Q := h
theorem rd_par {i j : Nat} {ta : TA} {D : Ends} {σ : St} {H : Hp} (h : ta σ H fun vs H1 => ∃ v w, vs = [v, w] ∧ D.nx ((σ.set i (some v)).set j (some w)) H1) : tPar i j ta D σ H := h
theorem rd_bm {K : PySem.W.Frag} {T : String} {r : V → List V → Hp → VK → Prop} {to : TE} {t : TA} {σ : St} {H : Hp} {Q : VK} (h : to σ H fun x H1 => tyV K T x H1 ∧ t σ H1 fun xs H2 => r x xs H2 Q) : tBM K T r to t σ H Q := h
theorem rd_bm0 {K : PySem.W.Frag} {T : String} {r : V → List V → Hp → VK → Prop} {to : TE} {σ : St} {H : Hp} {Q : VK} (h : to σ H fun x H1 => tyV K T x H1 ∧ r x [] H1 Q) : tBM0 K T r to σ H Q := h
theorem tyL {K : PySem.W.Frag} {p : Addr} {xs : List V} {H : Hp} (h : SqL K H p xs) : tyV K "list" (.ref p) H := .inl ⟨rfl, xs, h⟩
theorem tyD {K : PySem.W.Frag} {p : Addr} {xs : List (Key × V)} {H : Hp} (h : H p = some (.dK xs)) : tyV K "dict" (.ref p) H := .inr (.inr (.inl ⟨rfl, .inl ⟨xs, h⟩⟩))
theorem tyS {K : PySem.W.Frag} {z : Str} {H : Hp} : tyV K "str" (.str z) H := rfl
theorem rd_popAt {l : Addr} {xs : List V} {j : Nat} {y : V} {H : Hp} {Q : VK} (h : H l = some (.lst xs)) (hj : xs[j]? = some y) (hz : xs.length ≤ 1000) (q : Q y (upd H l (.lst (xs.eraseIdx j)))) : rPopAt (.ref l) [.int (j : Int)] H Q := by
  have hl := (List.getElem?_eq_some_iff.mp hj).1
  exact ⟨l, xs, j, j, y, rfl, rfl, h, by omega, by omega, by rw [seqIndex_of (by omega) (by omega)]; rfl, hj, q⟩
theorem rd_append {l : Addr} {xs : List V} {y : V} {H : Hp} {Q : VK} (h : H l = some (.lst xs)) (hz : xs.length ≤ 1000) (q : Q .non (upd H l (.lst (xs ++ [y])))) : rAppend (.ref l) [y] H Q := ⟨l, xs, y, rfl, rfl, h, small_lt hz, q⟩
theorem rd_sl {r : V → Option Int → Option Int → Hp → VK → Prop} {te : TE} {tl th : TO} {σ : St} {H : Hp} {Q : VK} (h : te σ H fun x H1 => tl σ H1 fun l H2 => th σ H2 fun u H3 => r x l u H3 Q) : tSl r te tl th σ H Q := h
theorem rd_noPart {σ : St} {H : Hp} {Q : Option Int → Hp → Prop} (h : Q none H) : tNoPart σ H Q := h
theorem rd_part {t : TE} {σ : St} {H : Hp} {Q : Option Int → Hp → Prop} (h : t σ H fun x H1 => ∃ i, x = .int i ∧ Q (some i) H1) : tPart t σ H Q := h
theorem rd_slL {K : PySem.W.Frag} {a : Addr} {xs : List V} {lo hi : Option Int} {H : Hp} {Q : VK} (s : SqL K H a xs) (h : ∀ p, H p = none → Q (.ref p) (upd H p (.lst (cutV xs lo hi)))) : rSlL K (.ref a) lo hi H Q := ⟨a, xs, rfl, s, h⟩
theorem rd_dnew {σ : St} {H : Hp} {Q : VK} (h : ∀ p, H p = none → Q (.ref p) (upd H p (.dK []))) : tDNewK σ H Q := h
theorem rd_lstRg {te : St → Hp → (Int → Int → Hp → Prop) → Prop} {σ : St} {H : Hp} {Q : VK} (h : te σ H fun a b H1 => RgOk a b ∧ ∀ q, H1 q = none → Q (.ref q) (upd H1 q (.lst (rgV a b)))) : tLstRg te σ H Q := h
theorem rd_rg1 {ta : TE} {σ : St} {H : Hp} {Q : Int → Int → Hp → Prop} (h : ta σ H fun x H1 => ∃ n, x = .int n ∧ Q 0 n H1) : tRg1 ta σ H Q := h
theorem rd_for {wi : TI} {g : TG} {tb : TS} {D : Ends} {σ : St} {H : Hp} (h : wi σ H fun J H1 => ∃ Wf : Nat → Nat → St → Hp → Prop, (∃ left, Wf 0 left σ H1) ∧ ∀ i left σ H, Wf i left σ H →
  (J.stop i H ∧ D.nx σ H) ∨ (J.go i H ∧ ∃ Go : St → Hp → Prop, (∀ σ' H', Go σ' H' → ∃ left', left' < left ∧ Wf (i + 1) left' σ' H') ∧ ∀ x H', J.yld i H x H' → g x σ H' fun σ2 H2 => tb { D with nx := Go, ct := Go, bk := D.nx } σ2 H2)) : tFor wi g tb D σ H := h
theorem rd_rng1 {ta : TA} {σ : St} {H : Hp} {R : It → Hp → Prop} (h : ta σ H fun vs H1 => ∃ j : Int, vs = [.int j] ∧ -(2 ^ 62) ≤ j ∧ j < 2 ^ 62 ∧ R (Itr 0 j.toNat) H1) : iRng1 ta σ H R := h
theorem rd_ilist {K : PySem.W.Frag} {tl : TE} {σ : St} {H : Hp} {R : It → Hp → Prop} (h : tl σ H fun x H1 => ∃ a, x = .ref a ∧ (∃ xs, SqL K H1 a xs) ∧ R (Itl K a) H1) : iList K tl σ H R := h
theorem rd_itup {K : PySem.W.Frag} {tl : TE} {σ : St} {H : Hp} {R : It → Hp → Prop} (h : tl σ H fun x H1 => ∃ a, x = .ref a ∧ (∃ xs, SqT K H1 a xs) ∧ R (Itt K a) H1) : iTup K tl σ H R := h
theorem rd_istr {te : TE} {σ : St} {H : Hp} {R : It → Hp → Prop} (h : te σ H fun v H1 => ∃ x, v = .str x ∧ R (Its x) H1) : iStr te σ H R := h
theorem rd_m1 {r : V → List V → Hp → VK → Prop} {to te : TE} {σ : St} {H : Hp} {Q : VK} (h : to σ H fun x H1 => (∃ a, x = .str a) ∧ te σ H1 fun y H2 => r x [y] H2 Q) : tM1 r to te σ H Q := h
theorem rd_dput {td ty tv : TE} {D : Ends} {σ : St} {H : Hp} (h : tv σ H fun v H1 => td σ H1 fun x H2 => ty σ H2 fun y H3 => ∃ a H4, x = .ref a ∧ DPut H3 a y v H4 ∧ D.nx σ H4) : sDPut td ty tv D σ H := h
theorem rd_lc {wi : TI} {g : TG} {tt : TT} {te : TE} {vs : List Nat} {σ : St} {H : Hp} {Q : VK} (h : wi σ H fun J H1 => ∀ D, H1 D = none → ∃ Wf : Nat → Nat → Hp → Prop, (∃ left, Wf 0 left (upd H1 D (.lst []))) ∧ ∀ i left H, Wf i left H →
  (J.stop i H ∧ Q (.ref D) H) ∨ (J.go i H ∧ ∃ Go : Hp → Prop, (∀ H', Go H' → ∃ left', left' < left ∧ Wf (i + 1) left' H') ∧ ∀ x H', J.yld i H x H' → g x (wipe σ vs) H' fun σ2 H2 => wipe σ2 vs = wipe σ vs ∧ tt σ2 H2 fun b H3 =>
    if b = true then te σ2 H3 fun y H4 => ∃ sofar, H4 D = some (.lst sofar) ∧ sofar.length < sizeLine ∧ Go (upd H4 D (.lst (sofar ++ [y]))) else Go H3)) : tLc wi g tt te vs σ H Q := h
theorem rd_yes {σ : St} {H : Hp} {Q : Bool → Hp → Prop} (h : Q true H) : tYes σ H Q := h
theorem rd_iteT {A B : Prop} (h : A) : if true = true then A else B := iteT h
theorem rd_strE {z : Str} : ∃ a, V.str z = .str a := ⟨z, rfl⟩
theorem for_it2 {J : It} {n : Nat} {G : Hp → Prop} {Y : Nat → Hp → V → Hp → Prop} (w : Walk J n G Y) {g : TG} {tb : TS} {nx : St → Hp → Prop} {rt : VK} {σ : St} {H : Hp} (Pv : Nat → St → Hp → Prop) (h0 : Pv 0 σ H) (hG : ∀ i σ H, i ≤ n → Pv i σ H → G H)
    (hs : ∀ i x σ H H', i < n → Pv i σ H → Y i H x H' → g x σ H' fun σ2 H2 => tb { nx := Pv (i + 1), rt := rt, bk := nx, ct := Pv (i + 1) } σ2 H2) (hd : ∀ σ H, Pv n σ H → nx σ H) :
    ∃ W : Nat → Nat → St → Hp → Prop, (∃ m, W 0 m σ H) ∧ ∀ i m σ H, W i m σ H → (J.stop i H ∧ nx σ H) ∨ (J.go i H ∧ ∃ N : St → Hp → Prop, (∀ σ' H', N σ' H' → ∃ m', m' < m ∧ W (i + 1) m' σ' H') ∧ ∀ x H', J.yld i H x H' → g x σ H' fun σ2 H2 => tb { nx := N, rt := rt, bk := nx, ct := N } σ2 H2) :=
  for_it (D := { nx := nx, rt := rt }) w Pv h0 hG hs hd
theorem rd_andV {ta tb : TE} {σ : St} {H : Hp} {Q : VK} (h : ta σ H fun x H1 => ∃ c, x = .bl c ∧ if c = true then tb σ H1 Q else Q (.bl false) H1) : tAndV ta tb σ H Q := h
theorem rd_orV {ta tb : TE} {σ : St} {H : Hp} {Q : VK} (h : ta σ H fun x H1 => ∃ c, x = .bl c ∧ if c = true then Q (.bl true) H1 else tb σ H1 Q) : tOrV ta tb σ H Q := h
theorem rd_notV {ta : TE} {σ : St} {H : Hp} {Q : VK} (h : ta σ H fun x H1 => ∃ c, x = .bl c ∧ Q (.bl (!c)) H1) : tNotV ta σ H Q := h
theorem rd_not {t : TT} {σ : St} {H : Hp} {Q : Bool → Hp → Prop} (h : t σ H fun c H1 => Q (!c) H1) : tNot t σ H Q := h
theorem rd_and {t u : TT} {σ : St} {H : Hp} {Q : Bool → Hp → Prop} (h : t σ H fun c H1 => if c = true then u σ H1 Q else Q false H1) : tAnd t u σ H Q := h
theorem rd_or {t u : TT} {σ : St} {H : Hp} {Q : Bool → Hp → Prop} (h : t σ H fun c H1 => if c = true then Q true H1 else u σ H1 Q) : tOr t u σ H Q := h
theorem rd_chain {r r' : R2} {ta tb tc : TE} {σ : St} {H : Hp} {Q : VK} (h : ta σ H fun x H1 => tb σ H1 fun y H2 => r x y H2 fun z H3 => ∃ k, z = .bl k ∧ (if k = true then tc σ H3 fun w' H4 => r' y w' H4 Q else Q (.bl false) H3)) : tChain r r' ta tb tc σ H Q := h
theorem rd_retN {D : Ends} {σ : St} {H : Hp} (h : D.rt .non H) : tRetN D σ H := h
theorem rd_isi {K : PySem.W.Frag} {x : V} {t T : String} {b : Bool} {H : Hp} {Q : VK} (h : TyX K H x (.type t)) (hk : kitB t T = some b) (q : Q (.bl b) H) : rIsi K [x, .ty T] H Q := ⟨x, .ty T, .type t, .type T, b, rfl, .ty T, h, kit_ty hk, q⟩
theorem kit_ss : kitB "str" "str" = some true := by decide +kernel
theorem kit_tt : kitB "tuple" "tuple" = some true := by decide +kernel
theorem kit_dd : kitB "dict" "dict" = some true := by decide +kernel
theorem kit_ii : kitB "int" "int" = some true := by decide +kernel
theorem kit_bi : kitB "bool" "int" = some true := by decide +kernel
theorem kit_bb : kitB "bool" "bool" = some true := by decide +kernel
theorem kit_ib : kitB "int" "bool" = some false := by decide +kernel
theorem kit_st : kitB "str" "tuple" = some false := by decide +kernel
theorem kit_ni : kitB "NoneType" "int" = some false := by decide +kernel
theorem kit_si : kitB "str" "int" = some false := by decide +kernel
theorem rd_iteF {A B : Prop} (h : B) : if false = true then A else B := iteF h
def rLen (K : PySem.W.Frag) : List V → Hp → VK → Prop := fun xs H Q => ∃ x n, xs = [x] ∧ LenV K x H n ∧ Q (.int (n : Nat)) H
theorem call_lenK {X : Cx} : CallR X (.builtin "len") (rLen X.K) := call_len
theorem rd_rlen {K : PySem.W.Frag} {x : V} {n : Nat} {H : Hp} {Q : VK} (h : LenV K x H n) (q : Q (.int (n : Nat)) H) : rLen K [x] H Q := ⟨x, n, rfl, h, q⟩
theorem rd_din {ty td : TE} {σ : St} {H : Hp} {Q : VK} (h : ty σ H fun y H1 => td σ H1 fun x H2 => ∃ a o, x = .ref a ∧ DGet H2 a y o ∧ Q (.bl o.isSome) H2) : tDIn ty td σ H Q := h
theorem rd_dgt {ty td : TE} {σ : St} {H : Hp} {Q : VK} (h : td σ H fun x H1 => ty σ H1 fun y H2 => ∃ a v, x = .ref a ∧ DGet H2 a y (some v) ∧ Q v H2) : tDGet td ty σ H Q := h
theorem rd_fldS {K : PySem.W.Frag} {ta tv : TE} {f : Str} {D : Ends} {σ : St} {H : Hp} (h : tv σ H fun y H1 => ta σ H1 fun x H2 => ∃ a C dx fs, x = .ref a ∧ H2 a = some (.ins C dx fs) ∧ Cls K C ∧ NoAttr K C f ∧ fs.length < 1000 ∧ D.nx σ (upd H2 a (.ins C dx (putF f y fs)))) : sFld K ta tv f D σ H := h
theorem rd_fld {K : PySem.W.Frag} {ta : TE} {f : Str} {σ : St} {H : Hp} {Q : VK} (h : ta σ H fun x H1 => ∃ a C dx fs v, x = .ref a ∧ H1 a = some (.ins C dx fs) ∧ Cls K C ∧ NoAttr K C f ∧ fs.lookup f = some v ∧ Q v H1) : tFld K ta f σ H Q := h
theorem rd_mko {C : Addr} {sp : Sp} {dvs : List V} {ta : TA} {σ : St} {H : Hp} {Q : XK} (h : ta σ H fun vs H1 => vs.length ≤ 1000 ∧ ∀ a, H1 a = none → sp (.ref a :: (vs ++ dvs)) (upd H1 a (exo a C none))
  (fun v H2 => v = .non ∧ ∃ (d : Addr) (fs : List (Str × V)), H2 a = some (exo a C (some d)) ∧ H2 d = some (exd d fs) ∧ H1 d = none ∧ Q (.ref C) (some d) (upd (del H2 a) d (.xd fs))) (fun _ _ _ => False)) : tMkO C sp dvs ta σ H Q := h
theorem rd_dc {wi : TI} {g : TG} {tt : TT} {tk tv : TE} {vs : List Nat} {σ : St} {H : Hp} {Q : VK} (h : wi σ H fun J H1 => ∀ D, H1 D = none → ∃ Wf : Nat → Nat → Hp → Prop, (∃ left, Wf 0 left (upd H1 D (.dK []))) ∧ ∀ i left H, Wf i left H →
  (J.stop i H ∧ Q (.ref D) H) ∨ (J.go i H ∧ ∃ Go : Hp → Prop, (∀ H', Go H' → ∃ left', left' < left ∧ Wf (i + 1) left' H') ∧ ∀ x H', J.yld i H x H' → g x (wipe σ vs) H' fun σ2 H2 => wipe σ2 vs = wipe σ vs ∧ tt σ2 H2 fun b H3 =>
    if b = true then tk σ2 H3 fun y H4 => tv σ2 H4 fun z H5 => ∃ pairs k, y = kV k ∧ H5 D = some (.dK pairs) ∧ pairs.length < sizeLine ∧ Go (upd H5 D (.dK (putK pairs k z))) else Go H3)) : tDc wi g tt tk tv vs σ H Q := h
/-- the script: a thing known, or of the written part -/
def Scr (K : PySem.W.Frag) (H : Hp) (a : Addr) (xs : List V) : Prop := (∃ o, H a = some (.frz o (.lst xs))) ∨
  ∃ (ob : Obj) (us : Array Value) (k : Nat), K.lookup a = some ob ∧ ob.cls = .type "list" ∧ ob.dict = none ∧ ob.data = .seq us k ∧ us.size ≤ sizeLine ∧ Vals xs us.toList
theorem Scr.sql {K : PySem.W.Frag} {H : Hp} {a : Addr} {xs : List V} (h : Scr K H a xs) : SqL K H a xs := by
  rcases h with ⟨o, h⟩ | h
  · exact .inl (.inr ⟨o, h⟩)
  · exact .inr h
theorem Scr.but {K : PySem.W.Frag} {H : Hp} {a l : Addr} {xs : List V} {o : HO} (h : Scr K H a xs) (n : ∀ u v, H l ≠ some (.frz u v)) : Scr K (upd H l o) a xs := by
  rcases h with ⟨u, h⟩ | h
  · refine .inl ⟨u, (upd_ne fun e => ?_).trans h⟩
    subst e
    exact n _ _ h
  · exact .inr h
theorem Scr.lst {K : PySem.W.Frag} {H : Hp} {a l : Addr} {xs ys : List V} {o : HO} (h : Scr K H a xs) (n : H l = some (.lst ys)) : Scr K (upd H l o) a xs := h.but fun u v e => by
  rw [n] at e
  cases e
theorem Scr.dct {K : PySem.W.Frag} {H : Hp} {a l : Addr} {xs : List V} {ys : List (Key × V)} {o : HO} (h : Scr K H a xs) (n : H l = some (.dK ys)) : Scr K (upd H l o) a xs := h.but fun u v e => by
  rw [n] at e
  cases e
theorem Scr.new {K : PySem.W.Frag} {H : Hp} {a l : Addr} {xs : List V} {o : HO} (h : Scr K H a xs) (n : H l = none) : Scr K (upd H l o) a xs := h.but fun u v e => by
  rw [n] at e
  cases e
theorem SqL.new {K : PySem.W.Frag} {H : Hp} {a l : Addr} {xs : List V} {o : HO} (h : SqL K H a xs) (n : H l = none) : SqL K (upd H l o) a xs := by
  rcases h with (h | ⟨u, h⟩) | h
  · exact .inl (.inl ((upd_ne (ne_of_none h n)).trans h))
  · exact .inl (.inr ⟨u, (upd_ne (ne_of_none h n)).trans h⟩)
  · exact .inr h
theorem SqT.new {K : PySem.W.Frag} {H : Hp} {a l : Addr} {xs : List V} {o : HO} (h : SqT K H a xs) (n : H l = none) : SqT K (upd H l o) a xs := by
  rcases h with (h | ⟨u, h⟩) | h
  · exact .inl (.inl ((upd_ne (ne_of_none h n)).trans h))
  · exact .inl (.inr ⟨u, (upd_ne (ne_of_none h n)).trans h⟩)
  · exact .inr h
/-- a tuple that is what it is, without a dict -/
def TupAt (H : Hp) (a : Addr) (xs : List V) : Prop := ∃ o, H a = some (.frz o (.tup xs)) ∧ o.dict = none
theorem SqT.fz {K : PySem.W.Frag} {H : Hp} {a : Addr} {o : Obj} {xs : List V} (h : H a = some (.frz o (.tup xs))) : SqT K H a xs := .inl (.inr ⟨o, h⟩)
theorem TupAt.sqt {K : PySem.W.Frag} {H : Hp} {a : Addr} {xs : List V} (h : TupAt H a xs) : SqT K H a xs := by
  obtain ⟨o, h, _⟩ := h
  exact SqT.fz h
theorem TupAt.same {H H' : Hp} {a : Addr} {xs : List V} (h : TupAt H a xs) (s : Same H H') : TupAt H' a xs := by
  obtain ⟨o, h, e⟩ := h
  exact ⟨o, s _ _ h, e⟩
theorem TupAt.there {H : Hp} {a : Addr} {xs : List V} (h : TupAt H a xs) : ∃ o, H a = some o := by
  obtain ⟨o, h, _⟩ := h
  exact ⟨_, h⟩
/-! readings -/
local macro_rules | `(tactic| wtm_at "Lhp") => `(tactic| with_reducible first
  | assumption
  | exact upd_same
  | (refine Eq.trans (upd_ne ?n) ?r; (case n => wtm_at "Lne"); (case r => wtm_at "Lhp")))
local macro_rules | `(tactic| wtm_at "Lne") => `(tactic| with_reducible first
  | assumption
  | exact ne_of_none (by assumption) (by assumption)
  | exact Ne.symm (ne_of_none (by assumption) (by assumption))
  | exact Ne.symm (by assumption))
local macro_rules | `(tactic| wtm_at "Lscr") => `(tactic| with_reducible first
  | assumption
  | (refine' Scr.lst ?h ?n; (case n => wtm_at "Lhp"); (case h => wtm_at "Lscr"))
  | (refine' Scr.new ?h ?n; (case n => assumption); (case h => wtm_at "Lscr")))
local macro_rules | `(tactic| wtm_at "Lsql") => `(tactic| with_reducible first
  | assumption
  | (refine' Scr.sql ?h; (case h => wtm_at "Lscr"))
  | (refine' SqL.new ?h ?n; (case n => assumption); (case h => wtm_at "Lsql"))
  | (refine' SqL.but ?h ?n; (case n => wtm_at "Lne"); (case h => wtm_at "Lsql"))
  | exact SqL.of (by wtm_at "Lhp"))
local macro_rules | `(tactic| wtm_at "Lsqt") => `(tactic| with_reducible first
  | assumption
  | (refine' SqT.new ?h ?n; (case n => assumption); (case h => wtm_at "Lsqt"))
  | (refine' SqT.but ?h ?n; (case n => wtm_at "Lne"); (case h => wtm_at "Lsqt"))
  | exact SqT.of (by wtm_at "Lhp")
  | exact SqT.fz (by wtm_at "Lhp"))
local macro_rules | `(tactic| wtm_at "Lar") => `(tactic| first
  | assumption | (show (0 : Int) < _; first | omega | decide) | (show CDiv _ _; exact ⟨by omega, by omega⟩) | (show CMul _ _; first | exact Or.inl ⟨by omega, by omega⟩ | exact Or.inr ⟨by omega, by omega⟩) | (show CPow _ _; exact ⟨by omega, by omega, by decide⟩))
local macro_rules | `(tactic| wtm_at "Lr1") => `(tactic| with_reducible first
  | refine rd_seq ?_ | refine rd_asg ?_ | refine rd_gName ?_ | refine rd_c ?_ | refine rd_op ?_ | refine rd_un ?_ | refine rd_I0 ?_ | refine rd_U ?_ | refine rd_test ?_ | refine rd_tB ?_ | refine rd_ifS ?_ | refine rd_ifE ?_ | refine rd_ret ?_ | refine rd_drop ?_ | refine rd_next ?_ | refine rd_nil ?_ | refine rd_cons ?_ | refine rd_cb ?_ | refine rd_call ?_ | refine rd_gSub ?_ | refine rd_lst ?_ | refine rd_tup ?_ | refine rd_par ?_ | refine rd_bm ?_ | refine rd_bm0 ?_ | refine rd_sl ?_ | refine rd_noPart ?_ | refine rd_part ?_ | refine rd_dnew ?_ | refine rd_lstRg ?_ | refine rd_rg1 ?_ | refine rd_for ?_ | refine rd_rng1 ?_ | refine rd_ilist ?_ | refine rd_itup ?_ | refine rd_istr ?_ | refine rd_m1 ?_ | refine rd_dput ?_ | refine rd_lc ?_ | refine rd_yes ?_ | refine rd_iteT ?_ | refine rd_iteF ?_ | refine And.intro rd_strE ?_ | refine rd_andV ?_ | refine rd_orV ?_ | refine rd_notV ?_ | refine rd_not ?_ | refine rd_and ?_ | refine rd_or ?_ | refine rd_chain ?_ | refine rd_retN ?_ | refine rd_din ?_ | refine rd_dgt ?_ | refine rd_fldS ?_ | refine rd_fld ?_ | refine rd_mko ?_ | refine rd_dc ?_
  | (refine' rd_var ?e ?_; (case e => with_unfolding_all rfl))
  | (refine' rd_eq ?e ?_; (case e => with_unfolding_all rfl)) | (refine' rd_ne ?e ?_; (case e => with_unfolding_all rfl))
  | (refine' rd_I ?c ?_; (case c => with_unfolding_all wtm_at "Lar"))
  | (refine' rd_ixL ?s ?v ?_; (case s => wtm_at "Lsql"); (case v => first | assumption | with_unfolding_all rfl))
  | (refine' rd_ixT ?s ?v ?_; (case s => wtm_at "Lsqt"); (case v => first | assumption | with_unfolding_all rfl))
  | (refine' rd_setL ?s ?v ?_; (case s => wtm_at "Lhp"); (case v => first | assumption | with_unfolding_all rfl))
  | (refine Exists.intro _ (And.intro (Eq.refl (V.bl _)) ?_))
  | (refine' rd_isi ?t ?k ?_; (case t => wtm_at "Ltyx"); (case k => first | exact kit_ss | exact kit_tt | exact kit_dd | exact kit_ii | exact kit_bi | exact kit_bb | exact kit_ib | exact kit_st | exact kit_ni | exact kit_si))
  | (refine' rd_rlen ?s ?_; (case s => wtm_at "Llen"))
  | (refine' rd_slL ?s ?_; (case s => wtm_at "Lsql"))
  | (refine Exists.intro _ (And.intro (Eq.refl (V.int _)) ?_)) | (refine Exists.intro _ (And.intro (Eq.refl (V.ref _)) ?_)) | (refine Exists.intro _ (And.intro (Eq.refl (V.str _)) ?_))
  | (refine Exists.intro _ (And.intro (Eq.refl [V.int _]) ?_))
  | (refine' And.intro (Exists.intro _ ?s) ?_; (case s => first | wtm_at "Lsql" | wtm_at "Lsqt"))
  | (refine Or.inl (Exists.intro _ (And.intro (Eq.refl [V.int _]) ?_)))
  | (refine' Exists.intro _ (Exists.intro _ (And.intro (Eq.refl [_]) (And.intro ?s ?_))); (case s => wtm_at "Llen"))
  | (refine And.intro (small_len (by with_unfolding_all simp)) ?_)
  | (refine' And.intro ?s ?_; (case s => wtm_at "Lty"))
  | (refine Exists.intro _ (Exists.intro _ (And.intro (Eq.refl [_, _]) ?_)))
  | dsimp only)
local macro_rules | `(tactic| wtm_at "Ltyx") => `(tactic| with_reducible first | exact .base (.str _) | exact .base (.int _) | exact .base (.bl _) | exact .base .non | exact .base (.tup (by wtm_at "Lhp")) | exact .base (.dK (by wtm_at "Lhp")) | exact .fTuple (by wtm_at "Lhp"))
local macro_rules | `(tactic| wtm_at "Lty") => `(tactic| with_reducible first | (refine' tyL ?h; (case h => wtm_at "Lsql")) | (refine' tyD ?h; (case h => wtm_at "Lhp")) | exact tyS)
local macro_rules | `(tactic| wtm_at "Llen") => `(tactic| with_reducible first | (refine' lenL ?h; (case h => wtm_at "Lsql")) | (refine' lenT ?h; (case h => wtm_at "Lsqt")) | (refine' lenS ?h; (case h => assumption)))
local macro_rules | `(tactic| wtm_at "Lrd") => `(tactic| repeat (wtm_at "Lr1"))
/-! ## the drawing -/
abbrev stTaken : Stmt := top 30
theorem scTaken : FnScope ["_law_row", "_law_many", "_law_found", "_law_cell"] ["_law_row", "_law_many"] (C8.fnScope stTaken) := ⟨rfl, rfl, rfl, by decide +kernel, rfl, by decide +kernel, by decide +kernel⟩
/-- the row of a law: the script, how many were taken, the seed, what is left of a great number -/
def rowO (a : Addr) (i s t : Int) : HO := .lst [.ref a, .int i, .int s, .int t]
/-- all but p stays -/
def Sb (p : Addr) (H H' : Hp) : Prop := ∀ b o, b ≠ p → H b = some o → H' b = some o
structure Row (K : PySem.W.Frag) (H : Hp) (p a : Addr) (ns : List Int) : Prop where
  sc : Scr K H a (ns.map V.int)
  small : ns.length ≤ 63
  at_ : ∃ i s t : Int, 0 ≤ i ∧ H p = some (rowO a i s t)
def spTaken (K : PySem.W.Frag) : Sp := fun vs H Q _ => ∃ (p a : Addr) (ns : List Int) (m : Int), vs = [.ref p, .int m] ∧ Row K H p a ns ∧ 0 < m ∧ m < 1000 ∧
  ∀ (r : Int) (H' : Hp), 0 ≤ r → r < m → Row K H' p a ns → Sb p H H' → Q (.int r) H'
section
variable {P : Program} {w : World} {K : PySem.W.Frag} {mg : Str → Option Value} {base : Heap}
theorem Sb.more {p : Addr} {H H1 : Hp} {o : HO} (h : Sb p H H1) : Sb p H (L2.upd H1 p o) := fun _ _ n e => (upd_ne n).trans (h _ _ n e)
theorem Sb.upd {p : Addr} {H : Hp} {o : HO} : Sb p H (upd H p o) := fun _ _ n h => (upd_ne n).trans h
theorem cal_taken {f : Addr} {fd : FuncData} (F : Def K mg "_law_taken" stTaken f fd) (b : Binds K fd ["_law_row", "_law_many"] []) (n_int : mg "int" = none) (n_len : mg "len" = none) : Cal P w K mg base 1 "_law_taken" (spTaken K) [] := by
  refine C8.cal0 F b .nil scTaken (fun vs H Q E h => ?_) (fun cdv A outer s H vs Q E hr h => ?_)
  · obtain ⟨p, a, ns, m, rfl, _⟩ := h
    rfl
  · obtain ⟨p, a, ns, m, rfl, R, m0, m1, k⟩ := h
    have nd := scTaken.nd
    refine ⟨_, (pss_cons (ps_if (pt_cmpR op_gt (pe_ix (r := rIx K) ix_seq (pv 0) pe_int (fun _ _ => rfl)) pe_int (nomark _)) (pss_cons (ps_set (i := 2) nd rfl (Or.inl rfl) (pe_op op_mod (pe_callTy call_int1 rfl n_int (by decide +kernel) (pa_cons (pe_ix (r := rIx K) ix_seq (pv 0) pe_int (fun _ _ => rfl)) pa_nil)) (pv 1)))
      (pss_cons (ps_asg (pe_op op_fdiv (pe_ix (r := rIx K) ix_seq (pv 0) pe_int (fun _ _ => rfl)) (pv 1)) (pg_sub (pv 0) pe_int set_list))
      (pss_cons (ps_ret (pv 2))
      pss_nil))) pss_nil)
      (pss_cons (ps_asg (pe_op op_add (pe_ix (r := rIx K) ix_seq (pv 0) pe_int (fun _ _ => rfl)) pe_int) (pg_sub (pv 0) pe_int set_list))
      (pss_cons (ps_if (pt_cmpR op_gt (pe_ix (r := rIx K) ix_seq (pv 0) pe_int (fun _ _ => rfl)) (pe_callB (r := rLen K) call_lenK rfl n_len (by decide +kernel) (pa_cons (pe_ix (r := rIx K) ix_seq (pv 0) pe_int (fun _ _ => rfl)) pa_nil)) (nomark _)) (pss_cons (ps_asg (pe_op op_mod (pe_callTy call_int1 rfl n_int (by decide +kernel) (pa_cons (pe_op op_add (pe_op op_mul (pe_ix (r := rIx K) ix_seq (pv 0) pe_int (fun _ _ => rfl)) pe_int) pe_int) pa_nil)) pe_int) (pg_sub (pv 0) pe_int set_list))
      (pss_cons (ps_ret (pe_op op_mod (pe_callTy call_int1 rfl n_int (by decide +kernel) (pa_cons (pe_op op_fdiv (pe_ix (r := rIx K) ix_seq (pv 0) pe_int (fun _ _ => rfl)) pe_int) pa_nil)) (pv 1)))
      pss_nil)) pss_nil)
      (pss_cons (ps_set (i := 3) nd rfl (Or.inl rfl) (pe_ix (r := rIx K) ix_seq (pe_ix (r := rIx K) ix_seq (pv 0) pe_int (fun _ _ => rfl)) (pe_op op_sub (pe_ix (r := rIx K) ix_seq (pv 0) pe_int (fun _ _ => rfl)) pe_int) (fun _ _ => rfl)))
      (pss_cons (ps_asg (pe_op op_mod (pe_callTy call_int1 rfl n_int (by decide +kernel) (pa_cons (pe_op op_add (pe_op op_add (pe_op op_mul (pe_ix (r := rIx K) ix_seq (pv 0) pe_int (fun _ _ => rfl)) pe_int) (pv 3)) pe_int) pa_nil)) pe_int) (pg_sub (pv 0) pe_int set_list))
      (pss_cons (ps_if (pt_cmpR op_ge (pv 3) (pe_op op_pow pe_int pe_int) (nomark _)) (pss_cons (ps_asg (pe_op op_fdiv (pv 3) (pv 1)) (pg_sub (pv 0) pe_int set_list))
      pss_nil) pss_nil)
      (pss_cons (ps_ret (pe_op op_mod (pe_callTy call_int1 rfl n_int (by decide +kernel) (pa_cons (pv 3) pa_nil)) (pv 1)))
      pss_nil))))))), ?_⟩
    obtain ⟨i, s0, t, i0, hp⟩ := id R.at_
    have hL : H p = some (.lst [.ref a, .int i, .int s0, .int t]) := hp
    have hS := R.sc
    try dsimp only [cxOf]
    wtm_at "Lrd"
    refine ite2 (fun c => ?_) (fun c => ?_)
    · wtm_at "Lrd"
      exact k _ _ (Int.emod_nonneg _ (by omega)) (Int.emod_lt_of_pos _ m0) ⟨Scr.lst hS hL, R.small, i, s0, t / m, i0, upd_same⟩ Sb.upd
    · wtm_at "Lrd"
      refine ite2 (fun c2 => ?_) (fun c2 => ?_)
      · wtm_at "Lrd"
        exact k _ _ (Int.emod_nonneg _ (by omega)) (Int.emod_lt_of_pos _ m0) ⟨by wtm_at "Lscr", R.small, i + 1, _, t, by omega, upd_same⟩ (Sb.more Sb.upd)
      · have c3 : ¬ ((List.map V.int ns).length : Int) < i + 1 := fun z => c2 (decide_eq_true z)
        rw [List.length_map] at c3
        obtain ⟨n, hn⟩ : ∃ n : Nat, i = (n : Int) := ⟨i.toNat, by omega⟩
        subst hn
        have hn : n < ns.length := by omega
        have hv : atI (ns.map V.int) ((n : Int) + 1 - 1) = some (.int ns[n]) := by
          rw [show (n : Int) + 1 - 1 = (n : Int) by omega]
          exact atI_nat (by rw [List.getElem?_map, List.getElem?_eq_getElem hn]; rfl)
        wtm_at "Lrd"
        refine ite2 (fun c4 => ?_) (fun c4 => ?_)
        · wtm_at "Lrd"
          exact k _ _ (Int.emod_nonneg _ (by omega)) (Int.emod_lt_of_pos _ m0) ⟨by wtm_at "Lscr", R.small, (n : Int) + 1, _, _, by omega, upd_same⟩ (by first | exact Sb.more (Sb.more Sb.upd) | exact Sb.more Sb.upd)
        · wtm_at "Lrd"
          exact k _ _ (Int.emod_nonneg _ (by omega)) (Int.emod_lt_of_pos _ m0) ⟨by wtm_at "Lscr", R.small, (n : Int) + 1, _, _, by omega, upd_same⟩ (by first | exact Sb.more (Sb.more Sb.upd) | exact Sb.more Sb.upd)
end
/-! ## picking and mixing -/
section
variable {P : Program} {w : World} {K : PySem.W.Frag} {mg : Str → Option Value} {base : Heap}
theorem Sb.refl {p : Addr} {H : Hp} : Sb p H H := fun _ _ _ h => h
theorem Sb.trans {p : Addr} {H H1 H2 : Hp} (a : Sb p H H1) (b : Sb p H1 H2) : Sb p H H2 := fun c o n h => b c o n (a c o n h)
theorem Sb.new {p l : Addr} {H H1 : Hp} {o : HO} (h : Sb p H H1) (n : H l = none) : Sb p H (L2.upd H1 l o) := fun b u q e => (upd_ne (ne_of_none e n)).trans (h b u q e)
theorem Sb.free {p l : Addr} {H H1 : Hp} (h : Sb p H H1) (np : l ≠ p) (n : H1 l = none) : H l = none := by
  cases q : H l with
  | none => rfl
  | some o =>
    have z := h l o np q
    rw [n] at z
    cases z
theorem Sb.sql {p a : Addr} {H H1 : Hp} {xs : List V} (h : Sb p H H1) (n : a ≠ p) (s : SqL K H a xs) : SqL K H1 a xs := by
  rcases s with (s | ⟨u, s⟩) | s
  · exact .inl (.inl (h _ _ n s))
  · exact .inl (.inr ⟨u, h _ _ n s⟩)
  · exact .inr s
theorem Sb.sqt {p a : Addr} {H H1 : Hp} {xs : List V} (h : Sb p H H1) (n : a ≠ p) (s : SqT K H a xs) : SqT K H1 a xs := by
  rcases s with (s | ⟨u, s⟩) | s
  · exact .inl (.inl (h _ _ n s))
  · exact .inl (.inr ⟨u, h _ _ n s⟩)
  · exact .inr s
theorem Row.there {H : Hp} {p a : Addr} {ns : List Int} (R : Row K H p a ns) {l : Addr} (n : H l = none) : l ≠ p := fun e => by
  obtain ⟨_, _, _, _, q⟩ := R.at_
  rw [e, q] at n
  cases n
theorem Row.new {H : Hp} {p a l : Addr} {ns : List Int} {o : HO} (R : Row K H p a ns) (n : H l = none) : Row K (L2.upd H l o) p a ns := by
  obtain ⟨i, s, t, i0, q⟩ := R.at_
  exact ⟨Scr.new R.sc n, R.small, i, s, t, i0, (upd_ne (R.there n).symm).trans q⟩
theorem Row.lst {H : Hp} {p a l : Addr} {ns : List Int} {xs : List V} {o : HO} (R : Row K H p a ns) (n : H l = some (.lst xs)) (np : l ≠ p) : Row K (L2.upd H l o) p a ns := by
  obtain ⟨i, s, t, i0, q⟩ := R.at_
  exact ⟨Scr.lst R.sc n, R.small, i, s, t, i0, (upd_ne np.symm).trans q⟩
theorem Row.dct {H : Hp} {p a l : Addr} {ns : List Int} {xs : List (Key × V)} {o : HO} (R : Row K H p a ns) (n : H l = some (.dK xs)) : Row K (L2.upd H l o) p a ns := by
  obtain ⟨i, s, t, i0, q⟩ := R.at_
  have np : l ≠ p := fun e => by
    rw [e, q] at n
    cases n
  exact ⟨Scr.dct R.sc n, R.small, i, s, t, i0, (upd_ne np.symm).trans q⟩
end

/-! ## lists -/
open PyProof.Rows (sortedS risingS)
open PySem.Spec (ltCps)
theorem cut_take (xs : List V) (n : Nat) : cutV xs none (some (n : Int)) = xs.take n := by
  unfold cutV
  rw [HT.sIx_none, HT.sIx_nat, List.drop_zero, Nat.sub_zero]
  by_cases h : n ≤ xs.length
  · rw [Nat.min_eq_left h]
  · rw [Nat.min_eq_right (Nat.le_of_not_le h), List.take_length, List.take_of_length_le (Nat.le_of_not_le h)]
def getS : V → Str
  | .str x => x
  | _ => ⟨#[]⟩
def getI : V → Int
  | .int i => i
  | _ => 0
theorem map_back {α : Type} {f : α → V} {g : V → α} (e : ∀ x, g (f x) = x) {ys : List V} {zs : List α} (h : ys.Perm (zs.map f)) : ∃ ws : List α, ys = ws.map f ∧ ws.Perm zs := by
  refine ⟨ys.map g, ?_, ?_⟩
  · rw [List.map_map]
    refine (List.map_id' ys).symm.trans (List.map_congr_left fun y hy => ?_)
    obtain ⟨x, _, rfl⟩ := List.mem_map.mp (h.subset hy)
    show f x = f (g (f x))
    rw [e]
  · have q := h.map g
    rw [List.map_map] at q
    have q2 : zs.map (g ∘ f) = zs := (List.map_congr_left fun x _ => e x).trans (List.map_id' zs)
    rw [q2] at q
    exact q
theorem rep_flat (x : V) : ∀ n : Nat, (List.replicate n [x]).flatten = List.replicate n x
  | 0 => rfl
  | n + 1 => by
    rw [List.replicate_succ, List.flatten_cons, rep_flat x n, List.replicate_succ]
    rfl
theorem rg_ints (n : Nat) : rgV 0 (n : Int) = (List.range n).map fun (i : Nat) => V.int (i : Int) := by
  unfold rgV
  rw [Int.sub_zero, Int.toNat_natCast]
  refine List.map_congr_left fun i _ => ?_
  rw [Int.zero_add]
theorem join_signs : ∀ cs : List Nat, Txt.join (Str.ofString "") (cs.map fun c => (⟨#[c]⟩ : Str)) = ⟨cs.toArray⟩ := by
  have key : ∀ cs : List Nat, Str.join ⟨#[]⟩ (cs.map fun c => (⟨#[c]⟩ : Str)) = ⟨cs.toArray⟩ := by
    intro cs
    induction cs with
    | nil => rfl
    | cons c r ih =>
      cases r with
      | nil => rfl
      | cons d r =>
        show (⟨#[c]⟩ : Str) ++ ⟨#[]⟩ ++ Str.join ⟨#[]⟩ ((d :: r).map fun c => (⟨#[c]⟩ : Str)) = _
        rw [ih]
        show (⟨#[c] ++ #[] ++ (d :: r).toArray⟩ : Str) = _
        simp
  intro cs
  rw [TL.join_eq]
  have e : Str.ofString "" = (⟨#[]⟩ : Str) := by decide +kernel
  rw [e]
  exact key cs
/-- names in their order, of the pool -/
def pool : List Str := ["al", "anna", "anne", "bo", "bob", "eve"]
def Asc (l : List Str) : Prop := ∀ (i : Nat) (x y : Str), l[i]? = some x → l[i + 1]? = some y → x.cps.toList < y.cps.toList
theorem pool_lt : ∀ x ∈ pool, ∀ y ∈ pool, ltCps y.cps.toList x.cps.toList = false → x ≠ y → x.cps.toList < y.cps.toList := by
  decide +kernel
theorem rising_asc : ∀ (l : List Str) (p : Str), risingS p l = true → (p :: l).Nodup → (∀ x ∈ p :: l, x ∈ pool) → Asc (p :: l)
  | [], p, _, _, _ => by
    intro i x y _ h
    cases h
  | q :: l, p, h, nd, hm => by
    have h' : (!ltCps q.cps.toList p.cps.toList && risingS q l) = true := h
    rw [Bool.and_eq_true, Bool.not_eq_true'] at h'
    intro i x y hx hy
    cases i with
    | zero =>
      cases hx
      cases hy
      refine pool_lt _ (hm _ List.mem_cons_self) _ (hm _ (List.mem_cons_of_mem _ List.mem_cons_self)) h'.1 fun e => ?_
      rw [e] at nd
      exact (List.nodup_cons.mp nd).1 List.mem_cons_self
    | succ i => exact rising_asc l q h'.2 (List.nodup_cons.mp nd).2 (fun x hx => hm x (List.mem_cons_of_mem _ hx)) i x y hx hy
theorem sorted_asc {l : List Str} (h : sortedS l = true) (nd : l.Nodup) (hm : ∀ x ∈ l, x ∈ pool) : Asc l := by
  cases l with
  | nil =>
    intro i x y hx
    cases hx
  | cons p l => exact rising_asc l p h nd hm
theorem paired_len {α β : Type} {F : α → β → Prop} : ∀ {xs : List α} {ys : List β}, Paired F xs ys → xs.length = ys.length
  | _, _, .nil => rfl
  | _, _, .cons _ t => congrArg (· + 1) (paired_len t)
theorem paired_snoc {α β : Type} {F : α → β → Prop} : ∀ {xs : List α} {ys : List β} {x : α} {y : β}, Paired F xs ys → F x y → Paired F (xs ++ [x]) (ys ++ [y])
  | _, _, _, _, .nil, h => .cons h .nil
  | _, _, _, _, .cons r t, h => .cons r (paired_snoc t h)
theorem valV_notin {κ : Type} [DecidableEq κ] {k : κ} : ∀ {kvs : List (κ × V)}, k ∉ kvs.map (·.1) → valV kvs k = none
  | [], _ => rfl
  | p :: r, h => by
    rw [List.map_cons, List.mem_cons, not_or] at h
    rw [valV_neg (fun e => h.1 e.symm)]
    exact valV_notin h.2

/-! ## what the package asks of words, patterns, boxes -/
section
variable {P : Program} {w : World} {K : PySem.W.Frag} {mg : Str → Option Value} {base : Heap}
def okSigns (sg z : Str) : Bool := decide (1 ≤ z.length) && (decide (z.length ≤ 8) && z.cps.toList.all fun c => decide (c ∈ sg.cps.toList))
theorem same_new {H H1 : Hp} {l : Addr} {o : HO} (h : Same H H1) (n : H l = none) : Same H (L2.upd H1 l o) := fun b u e => (upd_ne (ne_of_none e n)).trans (h b u e)
def spConsists : Sp := fun vs H Q _ => ∃ (z sg : Str), vs = [.str z, .str sg] ∧ z.length ≤ sizeLine ∧ ∀ H', Same H H' → Q (.bl (okSigns sg z)) H'
abbrev stCons : Stmt := top 8
theorem scCons : FnScope ["text", "signs", "sign"] ["text", "signs"] (C8.fnScope stCons) := ⟨rfl, rfl, rfl, by decide +kernel, rfl, by decide +kernel, by decide +kernel⟩

theorem cal_consists {f : Addr} {fd : FuncData} (F : Def K mg "consists_of" stCons f fd) (b : Binds K fd ["text", "signs"] []) (n_len : mg "len" = none) (n_isinstance : mg "isinstance" = none) (n_str : mg "str" = none) (n_all : mg "all" = none) (g_LONGEST_WORD : ∃ u, mg "LONGEST_WORD" = some u ∧ RelV (.int 8) u) : Cal P w K mg base 1 "consists_of" spConsists [] := by
  refine C8.cal0 F b .nil scCons (fun vs H Q E h => ?_) (fun cdv A outer s H vs Q E hr h => ?_)
  · obtain ⟨z, sg, rfl, _⟩ := h
    rfl
  · obtain ⟨z, sg, rfl, hz, k⟩ := h
    have nd := scCons.nd
    refine ⟨_, (pss_cons (ps_ret (pe_and (pe_callB (r := rIsi K) call_isi rfl n_isinstance (by decide +kernel) (pa_cons (pv 0) (pa_cons (pe_bltn (v := .ty "str") (u := .type "str") rfl n_str (by decide +kernel) rfl) pa_nil))) (pe_and (pe_chain op_le op_le pe_int (pe_callB (r := rLen K) call_lenK rfl n_len (by decide +kernel) (pa_cons (pv 0) pa_nil)) (C8.pe_gc rfl g_LONGEST_WORD)) (pe_one (pe_callB (r := rAll K) (cr_all rfl) rfl n_all (by decide +kernel) (pa_cons (pe_lc (own := [("sign", 2)]) (g := gName 2) (tt := tYes) rfl nd (pi_str (pv 0)) (blkOk_by (N := ["text", "signs", "sign"]) (sc := C8.fnScope stCons) (by decide +kernel)) (fun _ _ _ _ _ => pg_name (i := 2) nd rfl (Or.inl rfl)) (fun _ _ _ _ _ => pts_nil) (fun _ _ _ _ _ => (pe_cmpR op_in_str (pv 2) (pv 1) (by with_unfolding_all rfl)))) pa_nil))))))
      pss_nil), ?_⟩
    try dsimp only [cxOf]
    wtm_at "Lrd"
    refine ite2 (fun c => ?_) (fun c => ?_)
    · have c1 : 1 ≤ z.length := by have := of_decide_eq_true c; omega
      wtm_at "Lrd"
      refine ite2 (fun c => ?_) (fun c => ?_)
      · have c8 : z.length ≤ 8 := by have := of_decide_eq_true c; omega
        wtm_at "Lrd"
        intro D nD
        refine lc_it walk_str (fun j H' => H' D = some (.lst (((z.cps.toList.take j).map fun c => decide (c ∈ sg.cps.toList)).map V.bl)) ∧ Same H H') ⟨upd_same, same_new (Same.refl H) nD⟩ (fun _ _ _ _ => trivial) ?lt ?le
        case lt =>
          rintro j x H1 H1' hj ⟨hD, sm⟩ ⟨rfl, c0, hc0, rfl⟩
          refine rd_gName ?_
          refine ⟨rfl, ?_⟩
          wtm_at "Lrd"
          refine ⟨_, _, rfl, rfl, ?_⟩
          have e : (!(Builtin.Str.occurrences sg ⟨#[c0]⟩ 0 sg.length 1).isEmpty) = decide (c0 ∈ sg.cps.toList) := SX.in_one sg.cps.toList c0
          rw [e]
          have ht : z.cps.toList[j]? = some c0 := by rw [Array.getElem?_toList]; exact hc0
          refine ⟨_, hD, small_lt (by rw [List.length_map, List.length_map, List.length_take]; have : z.cps.toList.length = z.length := rfl; omega), ?_, same_new sm nD⟩
          rw [List.take_succ, ht, List.map_append, List.map_append]
          exact upd_same
        case le =>
          rintro H1 ⟨hD, sm⟩
          wtm_at "Lrd"
          refine ⟨D, _, rfl, SqL.of hD, ?_⟩
          have e : okSigns sg z = ((List.take z.cps.size z.cps.toList).map fun c => decide (c ∈ sg.cps.toList)).all id := by
            unfold okSigns
            rw [decide_eq_true c1, decide_eq_true c8, List.take_of_length_le (by rw [Array.length_toList]; exact Nat.le_refl _), List.all_map]
            rfl
          rw [← e]
          exact k _ sm
      · have c8 : ¬ z.length ≤ 8 := fun h => c (decide_eq_true (by omega))
        have e : okSigns sg z = false := by
          unfold okSigns
          rw [decide_eq_false c8, Bool.false_and, Bool.and_false]
        wtm_at "Lrd"
        exact e ▸ k _ (Same.refl H)
    · have c1 : ¬ 1 ≤ z.length := fun h => c (decide_eq_true (by omega))
      have e : okSigns sg z = false := by
        unfold okSigns
        rw [decide_eq_false c1, Bool.false_and]
      wtm_at "Lrd"
      exact e ▸ k _ (Same.refl H)
def lettersS : Str := Str.ofString "abcdefghijklmnopqrstuvwxyz"
def patternS : Str := Str.ofString "abcdefghijklmnopqrstuvwxyz."
def spText (sg : Str) : Sp := fun vs H Q _ => ∃ (z : Str), vs = [.str z] ∧ z.length ≤ sizeLine ∧ ∀ H', Same H H' → Q (.bl (okSigns sg z)) H'
abbrev stWord : Stmt := top 9
theorem scWord : FnScope ["text"] ["text"] (C8.fnScope stWord) := ⟨rfl, rfl, rfl, by decide +kernel, rfl, by decide +kernel, by decide +kernel⟩

theorem cal_word {f : Addr} {fd : FuncData} (F : Def K mg "is_word" stWord f fd) (b : Binds K fd ["text"] []) (g_LETTERS : ∃ u, mg "LETTERS" = some u ∧ RelV (.str lettersS) u) (c_consists_of : Cal P w K mg base 1 "consists_of" spConsists []) : Cal P w K mg base 2 "is_word" (spText lettersS) [] := by
  refine C8.cal0 F b .nil scWord (fun vs H Q E h => ?_) (fun cdv A outer s H vs Q E hr h => ?_)
  · obtain ⟨z, rfl, _⟩ := h
    rfl
  · obtain ⟨z, rfl, hz, k⟩ := h
    have nd := scWord.nd
    refine ⟨_, (pss_cons (ps_ret (pe_c c_consists_of hr (by decide) rfl (pa_cons (pv 0) (pa_cons (C8.pe_gc rfl g_LETTERS) pa_nil))))
      pss_nil), ?_⟩
    try dsimp only [cxOf]
    wtm_at "Lrd"
    exact ⟨z, _, rfl, hz, k⟩
abbrev stPat : Stmt := top 10
theorem scPat : FnScope ["text"] ["text"] (C8.fnScope stPat) := ⟨rfl, rfl, rfl, by decide +kernel, rfl, by decide +kernel, by decide +kernel⟩

theorem cal_pattern {f : Addr} {fd : FuncData} (F : Def K mg "is_pattern" stPat f fd) (b : Binds K fd ["text"] []) (g_PATTERN_SIGNS : ∃ u, mg "PATTERN_SIGNS" = some u ∧ RelV (.str patternS) u) (c_consists_of : Cal P w K mg base 1 "consists_of" spConsists []) : Cal P w K mg base 2 "is_pattern" (spText patternS) [] := by
  refine C8.cal0 F b .nil scPat (fun vs H Q E h => ?_) (fun cdv A outer s H vs Q E hr h => ?_)
  · obtain ⟨z, rfl, _⟩ := h
    rfl
  · obtain ⟨z, rfl, hz, k⟩ := h
    have nd := scPat.nd
    refine ⟨_, (pss_cons (ps_ret (pe_c c_consists_of hr (by decide) rfl (pa_cons (pv 0) (pa_cons (C8.pe_gc rfl g_PATTERN_SIGNS) pa_nil))))
      pss_nil), ?_⟩
    try dsimp only [cxOf]
    wtm_at "Lrd"
    exact ⟨z, _, rfl, hz, k⟩
/-- a value that may stand where a box is asked for: an int, a bool, None -/
def boxB (v : V) (n : Nat) : Bool := match v with
  | .int i => decide (0 ≤ i) && decide (i < (n : Int))
  | _ => false
/-- .. for a number within limits -/
def numB (v : V) (lo hi : Int) : Bool := match v with
  | .int i => decide (lo ≤ i) && decide (i ≤ hi)
  | _ => false
def spNumber : Sp := fun vs H Q _ => ∃ (v : V) (lo hi : Int), vs = [v, .int lo, .int hi] ∧ ((∃ i, v = .int i) ∨ (∃ b, v = .bl b) ∨ v = .non) ∧ Q (.bl (numB v lo hi)) H
abbrev stNumb : Stmt := top 11
theorem scNumb : FnScope ["number", "least", "most"] ["number", "least", "most"] (C8.fnScope stNumb) := ⟨rfl, rfl, rfl, by decide +kernel, rfl, by decide +kernel, by decide +kernel⟩

theorem cal_number {f : Addr} {fd : FuncData} (F : Def K mg "is_number" stNumb f fd) (b : Binds K fd ["number", "least", "most"] []) (n_isinstance : mg "isinstance" = none) (n_int : mg "int" = none) (n_bool : mg "bool" = none) : Cal P w K mg base 1 "is_number" spNumber [] := by
  refine C8.cal0 F b .nil scNumb (fun vs H Q E h => ?_) (fun cdv A outer s H vs Q E hr h => ?_)
  · obtain ⟨v, lo, hi, rfl, _⟩ := h
    rfl
  · obtain ⟨v, lo, hi, rfl, hv, k⟩ := h
    have nd := scNumb.nd
    refine ⟨_, (pss_cons (ps_ret (pe_and (pe_callB (r := rIsi K) call_isi rfl n_isinstance (by decide +kernel) (pa_cons (pv 0) (pa_cons (pe_bltn (v := .ty "int") (u := .type "int") rfl n_int (by decide +kernel) rfl) pa_nil))) (pe_and (pe_not (pe_callB (r := rIsi K) call_isi rfl n_isinstance (by decide +kernel) (pa_cons (pv 0) (pa_cons (pe_bltn (v := .ty "bool") (u := .type "bool") rfl n_bool (by decide +kernel) rfl) pa_nil)))) (pe_one (pe_chain op_le op_le (pv 1) (pv 0) (pv 2))))))
      pss_nil), ?_⟩
    try dsimp only [cxOf]
    rcases hv with ⟨i, rfl⟩ | ⟨c, rfl⟩ | rfl
    · wtm_at "Lrd"
      have e : numB (.int i) lo hi = (decide (lo ≤ i) && decide (i ≤ hi)) := rfl
      rw [e] at k
      refine iteT ?_
      wtm_at "Lrd"
      refine ite2 (fun c => ?_) (fun c => ?_)
      · wtm_at "Lrd"
        rw [c, Bool.true_and] at k
        exact k
      · rw [Bool.eq_false_iff.mpr c, Bool.false_and] at k
        exact k
    · wtm_at "Lrd"
      exact k
    · wtm_at "Lrd"
      exact k
def spBox : Sp := fun vs H Q _ => ∃ (v : V) (n : Nat), vs = [v, .int (n : Int)] ∧ ((∃ i, v = .int i) ∨ ∃ b, v = .bl b) ∧ Q (.bl (boxB v n)) H
abbrev stBox : Stmt := top 12
theorem scBox : FnScope ["box", "boxes"] ["box", "boxes"] (C8.fnScope stBox) := ⟨rfl, rfl, rfl, by decide +kernel, rfl, by decide +kernel, by decide +kernel⟩

theorem cal_box {f : Addr} {fd : FuncData} (F : Def K mg "is_box" stBox f fd) (b : Binds K fd ["box", "boxes"] []) (c_is_number : Cal P w K mg base 1 "is_number" spNumber []) : Cal P w K mg base 2 "is_box" spBox [] := by
  refine C8.cal0 F b .nil scBox (fun vs H Q E h => ?_) (fun cdv A outer s H vs Q E hr h => ?_)
  · obtain ⟨v, n, rfl, _⟩ := h
    rfl
  · obtain ⟨v, n, rfl, hv, k⟩ := h
    have nd := scBox.nd
    refine ⟨_, (pss_cons (ps_ret (pe_c c_is_number hr (by decide) rfl (pa_cons (pv 0) (pa_cons pe_int (pa_cons (pe_op op_sub (pv 1) pe_int) pa_nil)))))
      pss_nil), ?_⟩
    try dsimp only [cxOf]
    wtm_at "Lrd"
    refine ⟨v, 0, (n : Int) - 1, rfl, hv.elim .inl fun z => .inr (.inl z), ?_⟩
    have e : numB v 0 ((n : Int) - 1) = boxB v n := by
      rcases hv with ⟨i, rfl⟩ | ⟨c, rfl⟩
      · show (decide (0 ≤ i) && decide (i ≤ (n : Int) - 1)) = (decide (0 ≤ i) && decide (i < (n : Int)))
        rw [decide_eq_decide.mpr (show i ≤ (n : Int) - 1 ↔ i < (n : Int) by omega)]
      · rfl
    rw [e]
    exact k
end

/-! ## names and plates -/
section
variable {P : Program} {w : World} {K : PySem.W.Frag} {mg : Str → Option Value} {base : Heap}
def ltS (x y : Str) : Bool := decide (x.cps.toList < y.cps.toList)
def ascB (l : List Str) : Bool := (List.range (l.length - 1)).all fun i => ltS (l.getD i ⟨#[]⟩) (l.getD (i + 1) ⟨#[]⟩)
def namesB (l : List Str) : Bool := decide (1 ≤ l.length) && (decide (l.length ≤ 6) && (l.all (okSigns lettersS) && ascB l))
def spNames : Sp := fun vs H Q _ => ∃ (a : Addr) (l : List Str), vs = [.ref a] ∧ TupAt H a (l.map V.str) ∧ (∀ z ∈ l, z.length ≤ 1000) ∧ l.length ≤ 1000 ∧ ∀ H', Same H H' → Q (.bl (namesB l)) H'
abbrev stNames : Stmt := top 16
theorem scNames : FnScope ["names", "name", "at"] ["names"] (C8.fnScope stNames) := ⟨rfl, rfl, rfl, by decide +kernel, rfl, by decide +kernel, by decide +kernel⟩

theorem cal_names {f : Addr} {fd : FuncData} (F : Def K mg "are_names" stNames f fd) (b : Binds K fd ["names"] []) (n_len : mg "len" = none) (n_isinstance : mg "isinstance" = none) (n_tuple : mg "tuple" = none) (n_all : mg "all" = none) (n_range : mg "range" = none) (g_MOST_NAMES : ∃ u, mg "MOST_NAMES" = some u ∧ RelV (.int 6) u) (c_is_word : Cal P w K mg base 2 "is_word" (spText lettersS) []) : Cal P w K mg base 3 "are_names" spNames [] := by
  refine C8.cal0 F b .nil scNames (fun vs H Q E h => ?_) (fun cdv A outer s H vs Q E hr h => ?_)
  · obtain ⟨a, l, rfl, _⟩ := h
    rfl
  · obtain ⟨a, l, rfl, ⟨ob, ha, hod⟩, hz, hl, k⟩ := h
    have nd := scNames.nd
    refine ⟨_, (pss_cons (ps_ret (pe_and (pe_callB (r := rIsi K) call_isi rfl n_isinstance (by decide +kernel) (pa_cons (pv 0) (pa_cons (pe_bltn (v := .ty "tuple") (u := .type "tuple") rfl n_tuple (by decide +kernel) rfl) pa_nil))) (pe_and (pe_chain op_le op_le pe_int (pe_callB (r := rLen K) call_lenK rfl n_len (by decide +kernel) (pa_cons (pv 0) pa_nil)) (C8.pe_gc rfl g_MOST_NAMES)) (pe_and (pe_callB (r := rAll K) (cr_all rfl) rfl n_all (by decide +kernel) (pa_cons (pe_lc (own := [("name", 1)]) (g := gName 1) (tt := tYes) rfl nd (pi_tup (pv 0)) (blkOk_by (N := ["names", "name", "at"]) (sc := C8.fnScope stNames) (by decide +kernel)) (fun _ _ _ _ _ => pg_name (i := 1) nd rfl (Or.inl rfl)) (fun _ _ _ _ _ => pts_nil) (fun _ _ _ _ _ => (pe_c c_is_word hr (by decide) rfl (pa_cons (pv 1) pa_nil)))) pa_nil)) (pe_one (pe_callB (r := rAll K) (cr_all rfl) rfl n_all (by decide +kernel) (pa_cons (pe_lc (own := [("at", 2)]) (g := gName 2) (tt := tYes) rfl nd (pi_range1 rfl n_range (pa_cons (pe_op op_sub (pe_callB (r := rLen K) call_lenK rfl n_len (by decide +kernel) (pa_cons (pv 0) pa_nil)) pe_int) pa_nil)) (blkOk_by (N := ["names", "name", "at"]) (sc := C8.fnScope stNames) (by decide +kernel)) (fun _ _ _ _ _ => pg_name (i := 2) nd rfl (Or.inl rfl)) (fun _ _ _ _ _ => pts_nil) (fun _ _ _ _ _ => (pe_cmpR op_lt_str (pe_ix (r := rIx K) ix_seq (pv 0) (pv 2) (fun _ _ => rfl)) (pe_ix (r := rIx K) ix_seq (pv 0) (pe_op op_add (pv 2) pe_int) (fun _ _ => rfl)) (nomark _)))) pa_nil)))))))
      pss_nil), ?_⟩
    try dsimp only [cxOf]
    wtm_at "Lrd"
    rw [List.length_map]
    have k0 : namesB l = false → Q (.bl false) H := fun e => e ▸ k _ (Same.refl H)
    refine ite2 (fun c1 => ?_) (fun c1 => ?_)
    case _ =>
      have c1' : 1 ≤ l.length := by have := of_decide_eq_true c1; omega
      wtm_at "Lrd"
      refine ite2 (fun c8 => ?_) (fun c8 => ?_)
      case _ =>
        have c8' : l.length ≤ 6 := by have := of_decide_eq_true c8; omega
        wtm_at "Lrd"
        intro D nD
        refine lc_it (walk_tup (xs := l.map V.str)) (fun j H' => H' D = some (.lst (((l.take j).map (okSigns lettersS)).map V.bl)) ∧ Same H H') ⟨upd_same, same_new (Same.refl H) nD⟩ (fun _ _ _ ⟨_, sm⟩ => SqT.fz (sm _ _ ha)) ?lt ?le
        case lt =>
          rintro j x H1 H1' hj ⟨hD, sm⟩ ⟨rfl, hx⟩
          have hjl : j < l.length := by rw [List.length_map] at hj; exact hj
          obtain rfl : x = V.str l[j] := by
            rw [List.getElem?_map, List.getElem?_eq_getElem hjl] at hx
            exact (Option.some.inj hx).symm
          refine rd_gName ?_
          refine ⟨rfl, ?_⟩
          wtm_at "Lrd"
          refine ⟨l[j], rfl, small_len (hz _ (List.getElem_mem _)), fun H2 sm2 => ?_⟩
          refine ⟨_, sm2 _ _ hD, small_lt (by rw [List.length_map, List.length_map, List.length_take]; omega), ?_, same_new (sm.trans sm2) nD⟩
          rw [List.take_succ, List.getElem?_eq_getElem hjl, List.map_append, List.map_append]
          exact upd_same
        case le =>
          rintro H1 ⟨hD, sm⟩
          rw [List.length_map, List.take_length] at hD
          have ha1 := sm _ _ ha
          wtm_at "Lrd"
          refine ⟨D, _, rfl, SqL.of hD, ?_⟩
          rw [List.all_map]
          wtm_at "Lrd"
          refine ite2 (fun c2 => ?_) (fun c2 => ?_)
          case _ =>
            have c2' : l.all (okSigns lettersS) = true := c2
            wtm_at "Lrd"
            rw [List.length_map]
            refine ⟨by omega, by omega, fun D2 nD2 => ?_⟩
            have en : ((l.length : Int) - 1).toNat = l.length - 1 := by omega
            rw [en]
            refine lc_it walk_range (fun j H' => H' D2 = some (.lst (((List.range j).map fun i => ltS (l.getD i ⟨#[]⟩) (l.getD (i + 1) ⟨#[]⟩)).map V.bl)) ∧ Same H1 H') ⟨upd_same, same_new (Same.refl H1) nD2⟩ (fun _ _ _ _ => trivial) ?lt ?le
            case lt =>
              rintro j x H2 H2' hj ⟨hD2, sm2⟩ ⟨rfl, rfl⟩
              dsimp only
              rw [Int.zero_add]
              refine rd_gName ?_
              refine ⟨rfl, ?_⟩
              have h1 : j < l.length := by omega
              have h2 : j + 1 < l.length := by omega
              have ha2 := sm2 _ _ ha1
              have hv : atI (l.map V.str) (j : Int) = some (.str l[j]) := atI_nat (by rw [List.getElem?_map, List.getElem?_eq_getElem h1]; rfl)
              have hv2 : atI (l.map V.str) ((j : Int) + 1) = some (.str l[j + 1]) := by
                rw [show (j : Int) + 1 = ((j + 1 : Nat) : Int) by omega]
                exact atI_nat (by rw [List.getElem?_map, List.getElem?_eq_getElem h2]; rfl)
              wtm_at "Lrd"
              refine ⟨_, _, rfl, rfl, ?_⟩
              refine ⟨_, hD2, small_lt (by rw [List.length_map, List.length_map, List.length_range]; omega), ?_, same_new sm2 nD2⟩
              rw [List.range_succ, List.map_append, List.map_append]
              have e : ltS (l.getD j ⟨#[]⟩) (l.getD (j + 1) ⟨#[]⟩) = decide (l[j].cps.toList < l[j + 1].cps.toList) := by
                rw [List.getD_eq_getElem?_getD, List.getD_eq_getElem?_getD, List.getElem?_eq_getElem h1, List.getElem?_eq_getElem h2]
                rfl
              rw [← e]
              exact upd_same
            case le =>
              rintro H2 ⟨hD2, sm2⟩
              wtm_at "Lrd"
              refine ⟨D2, _, rfl, SqL.of hD2, ?_⟩
              have e : namesB l = ((List.range (l.length - 1)).map fun i => ltS (l.getD i ⟨#[]⟩) (l.getD (i + 1) ⟨#[]⟩)).all id := by
                unfold namesB ascB
                rw [decide_eq_true c1', decide_eq_true c8', c2', List.all_map]
                rfl
              rw [← e]
              exact k _ (sm.trans sm2)
          case _ =>
            have e : namesB l = false := by
              unfold namesB
              have c2' : l.all (okSigns lettersS) = false := Bool.eq_false_iff.mpr c2
              rw [c2', Bool.false_and, Bool.and_false, Bool.and_false]
            wtm_at "Lrd"
            exact e ▸ k _ sm
      case _ =>
        have c8' : ¬ l.length ≤ 6 := fun h => c8 (decide_eq_true (by omega))
        wtm_at "Lrd"
        exact k0 (by unfold namesB; rw [decide_eq_false c8', Bool.false_and, Bool.and_false])
    case _ =>
      have c1' : ¬ 1 ≤ l.length := fun h => c1 (decide_eq_true (by omega))
      wtm_at "Lrd"
      exact k0 (by unfold namesB; rw [decide_eq_false c1', Bool.false_and])
def plateB (z : Str) : Bool := decide (z = Str.ofString "") || okSigns patternS z
def platesB (l : List Str) (many : Nat) : Bool := decide (many ≤ l.length) && (decide (l.length ≤ 6) && l.all plateB)
def spPlates : Sp := fun vs H Q _ => ∃ (a : Addr) (l : List Str) (many : Nat), vs = [.ref a, .int (many : Int)] ∧ TupAt H a (l.map V.str) ∧ (∀ z ∈ l, z.length ≤ 1000) ∧ l.length ≤ 1000 ∧ ∀ H', Same H H' → Q (.bl (platesB l many)) H'
abbrev stPlates : Stmt := top 17
theorem scPlates : FnScope ["plates", "many", "plate"] ["plates", "many"] (C8.fnScope stPlates) := ⟨rfl, rfl, rfl, by decide +kernel, rfl, by decide +kernel, by decide +kernel⟩

theorem cal_plates {f : Addr} {fd : FuncData} (F : Def K mg "are_plates" stPlates f fd) (b : Binds K fd ["plates", "many"] []) (n_len : mg "len" = none) (n_isinstance : mg "isinstance" = none) (n_tuple : mg "tuple" = none) (n_all : mg "all" = none) (g_MOST_BOXES : ∃ u, mg "MOST_BOXES" = some u ∧ RelV (.int 6) u) (c_is_pattern : Cal P w K mg base 2 "is_pattern" (spText patternS) []) : Cal P w K mg base 3 "are_plates" spPlates [] := by
  refine C8.cal0 F b .nil scPlates (fun vs H Q E h => ?_) (fun cdv A outer s H vs Q E hr h => ?_)
  · obtain ⟨a, l, many, rfl, _⟩ := h
    rfl
  · obtain ⟨a, l, many, rfl, ⟨ob, ha, hod⟩, hz, hl, k⟩ := h
    have nd := scPlates.nd
    refine ⟨_, (pss_cons (ps_ret (pe_and (pe_callB (r := rIsi K) call_isi rfl n_isinstance (by decide +kernel) (pa_cons (pv 0) (pa_cons (pe_bltn (v := .ty "tuple") (u := .type "tuple") rfl n_tuple (by decide +kernel) rfl) pa_nil))) (pe_and (pe_chain op_le op_le (pv 1) (pe_callB (r := rLen K) call_lenK rfl n_len (by decide +kernel) (pa_cons (pv 0) pa_nil)) (C8.pe_gc rfl g_MOST_BOXES)) (pe_one (pe_callB (r := rAll K) (cr_all rfl) rfl n_all (by decide +kernel) (pa_cons (pe_lc (own := [("plate", 2)]) (g := gName 2) (tt := tYes) rfl nd (pi_tup (pv 0)) (blkOk_by (N := ["plates", "many", "plate"]) (sc := C8.fnScope stPlates) (by decide +kernel)) (fun _ _ _ _ _ => pg_name (i := 2) nd rfl (Or.inl rfl)) (fun _ _ _ _ _ => pts_nil) (fun _ _ _ _ _ => (pe_or (pe_cmpR op_eq (pv 2) pe_str (nomark _)) (pe_one (pe_c c_is_pattern hr (by decide) rfl (pa_cons (pv 2) pa_nil)))))) pa_nil))))))
      pss_nil), ?_⟩
    try dsimp only [cxOf]
    wtm_at "Lrd"
    rw [List.length_map]
    have k0 : platesB l many = false → Q (.bl false) H := fun e => e ▸ k _ (Same.refl H)
    refine ite2 (fun c1 => ?_) (fun c1 => ?_)
    case _ =>
      have c1' : many ≤ l.length := by have := of_decide_eq_true c1; omega
      wtm_at "Lrd"
      refine ite2 (fun c8 => ?_) (fun c8 => ?_)
      case _ =>
        have c8' : l.length ≤ 6 := by have := of_decide_eq_true c8; omega
        wtm_at "Lrd"
        intro D nD
        refine lc_it (walk_tup (xs := l.map V.str)) (fun j H' => H' D = some (.lst (((l.take j).map plateB).map V.bl)) ∧ Same H H') ⟨upd_same, same_new (Same.refl H) nD⟩ (fun _ _ _ ⟨_, sm⟩ => SqT.fz (sm _ _ ha)) ?lt ?le
        case lt =>
          rintro j x H1 H1' hj ⟨hD, sm⟩ ⟨rfl, hx⟩
          have hjl : j < l.length := by rw [List.length_map] at hj; exact hj
          obtain rfl : x = V.str l[j] := by
            rw [List.getElem?_map, List.getElem?_eq_getElem hjl] at hx
            exact (Option.some.inj hx).symm
          refine rd_gName ?_
          refine ⟨rfl, ?_⟩
          have fin : ∀ (H2 : Hp) (c : Bool), Same H1' H2 → plateB l[j] = c → ∃ acc, H2 D = some (.lst acc) ∧ acc.length < sizeLine ∧ (upd H2 D (.lst (acc ++ [V.bl c]))) D = some (.lst (((l.take (j + 1)).map plateB).map V.bl)) ∧ Same H (upd H2 D (.lst (acc ++ [V.bl c]))) := by
            intro H2 c sm2 ec
            refine ⟨_, sm2 _ _ hD, small_lt (by rw [List.length_map, List.length_map, List.length_take]; omega), ?_, same_new (sm.trans sm2) nD⟩
            rw [List.take_succ, List.getElem?_eq_getElem hjl, List.map_append, List.map_append, ← ec]
            exact upd_same
          wtm_at "Lrd"
          refine ite2 (fun c2 => ?_) (fun c2 => ?_)
          · wtm_at "Lrd"
            refine fin _ _ (Same.refl _) ?_
            have e : l[j] = Str.ofString "" := V.str.inj (of_decide_eq_true c2)
            unfold plateB
            rw [decide_eq_true e, Bool.true_or]
          · wtm_at "Lrd"
            refine ⟨l[j], rfl, small_len (hz _ (List.getElem_mem _)), fun H2 sm2 => ?_⟩
            refine fin _ _ sm2 ?_
            have e : ¬ l[j] = Str.ofString "" := fun h => c2 (decide_eq_true (congrArg V.str h))
            unfold plateB
            rw [decide_eq_false e, Bool.false_or]
        case le =>
          rintro H1 ⟨hD, sm⟩
          rw [List.length_map, List.take_length] at hD
          wtm_at "Lrd"
          refine ⟨D, _, rfl, SqL.of hD, ?_⟩
          have e : platesB l many = (l.map plateB).all id := by
            unfold platesB
            rw [decide_eq_true c1', decide_eq_true c8', List.all_map]
            rfl
          rw [← e]
          exact k _ sm
      case _ =>
        have c8' : ¬ l.length ≤ 6 := fun h => c8 (decide_eq_true (by omega))
        wtm_at "Lrd"
        exact k0 (by unfold platesB; rw [decide_eq_false c8', Bool.false_and, Bool.and_false])
    case _ =>
      have c1' : ¬ many ≤ l.length := fun h => c1 (decide_eq_true (by omega))
      wtm_at "Lrd"
      exact k0 (by unfold platesB; rw [decide_eq_false c1', Bool.false_and])
end

/-! ## manners -/
/-- what may stand for manners: a text, or a tuple of boxes and the like -/
inductive MD where
  | txt (z : Str) | tup (xs : List V)
def Itm (x : V) : Prop := x = .non ∨ (∃ i, x = .int i) ∨ ∃ b, x = .bl b
def MDAt (H : Hp) (v : V) : MD → Prop
  | .txt z => v = .str z
  | .tup xs => ∃ g, v = .ref g ∧ TupAt H g xs
def MD.fine : MD → Prop
  | .txt _ => True
  | .tup xs => xs.length ≤ 1000 ∧ ∀ x ∈ xs, Itm x
def itemB (boxes : Nat) (x : V) : Bool := decide (x = .non) || boxB x boxes
def mannerB (many boxes : Nat) : MD → Bool
  | .txt z => decide (z = Str.ofString "back") || decide (z = Str.ofString "keep")
  | .tup xs => decide (xs.length = many) && xs.all (itemB boxes)
theorem mannerB_txt {many boxes : Nat} {z : Str} : mannerB many boxes (.txt z) = (decide (z = Str.ofString "back") || decide (z = Str.ofString "keep")) := rfl
theorem mannerB_tup {many boxes : Nat} {xs : List V} : mannerB many boxes (.tup xs) = (decide (xs.length = many) && xs.all (itemB boxes)) := rfl
theorem MDAt.same {H H' : Hp} {v : V} {d : MD} (h : MDAt H v d) (s : Same H H') : MDAt H' v d := by
  cases d with
  | txt z => exact h
  | tup xs =>
    obtain ⟨g, e, h⟩ := h
    exact ⟨g, e, h.same s⟩
section
variable {P : Program} {w : World} {K : PySem.W.Frag} {mg : Str → Option Value} {base : Heap}
def spManner : Sp := fun vs H Q _ => ∃ (v : V) (d : MD) (many boxes : Nat), vs = [v, .int (many : Int), .int (boxes : Int)] ∧ MDAt H v d ∧ d.fine ∧ ∀ H', Same H H' → Q (.bl (mannerB many boxes d)) H'
abbrev stManner : Stmt := top 18
theorem scManner : FnScope ["manner", "many", "boxes", "box"] ["manner", "many", "boxes"] (C8.fnScope stManner) := ⟨rfl, rfl, rfl, by decide +kernel, rfl, by decide +kernel, by decide +kernel⟩

theorem cal_manner {f : Addr} {fd : FuncData} (F : Def K mg "is_manner" stManner f fd) (b : Binds K fd ["manner", "many", "boxes"] []) (n_len : mg "len" = none) (n_isinstance : mg "isinstance" = none) (n_tuple : mg "tuple" = none) (n_all : mg "all" = none) (c_is_box : Cal P w K mg base 2 "is_box" spBox []) : Cal P w K mg base 3 "is_manner" spManner [] := by
  refine C8.cal0 F b .nil scManner (fun vs H Q E h => ?_) (fun cdv A outer s H vs Q E hr h => ?_)
  · obtain ⟨v, d, many, boxes, rfl, _⟩ := h
    rfl
  · obtain ⟨v, d, many, boxes, rfl, hv, hf, k⟩ := h
    have nd := scManner.nd
    refine ⟨_, (pss_cons (ps_if (pt_val (pe_callB (r := rIsi K) call_isi rfl n_isinstance (by decide +kernel) (pa_cons (pv 0) (pa_cons (pe_bltn (v := .ty "tuple") (u := .type "tuple") rfl n_tuple (by decide +kernel) rfl) pa_nil)))) (pss_cons (ps_ret (pe_and (pe_cmpR op_eq (pe_callB (r := rLen K) call_lenK rfl n_len (by decide +kernel) (pa_cons (pv 0) pa_nil)) (pv 1) (nomark _)) (pe_one (pe_callB (r := rAll K) (cr_all rfl) rfl n_all (by decide +kernel) (pa_cons (pe_lc (own := [("box", 3)]) (g := gName 3) (tt := tYes) rfl nd (pi_tup (pv 0)) (blkOk_by (N := ["manner", "many", "boxes", "box"]) (sc := C8.fnScope stManner) (by decide +kernel)) (fun _ _ _ _ _ => pg_name (i := 3) nd rfl (Or.inl rfl)) (fun _ _ _ _ _ => pts_nil) (fun _ _ _ _ _ => (pe_or (pe_cmpR op_isN (pv 3) pe_non (nomark _)) (pe_one (pe_c c_is_box hr (by decide) rfl (pa_cons (pv 3) (pa_cons (pv 2) pa_nil))))))) pa_nil)))))
      pss_nil) pss_nil)
      (pss_cons (ps_ret (pe_or (pe_cmpR op_eq (pv 0) pe_str (nomark _)) (pe_one (pe_cmpR op_eq (pv 0) pe_str (nomark _)))))
      pss_nil)), ?_⟩
    try dsimp only [cxOf]
    cases d with
    | txt z =>
      obtain rfl : v = .str z := hv
      wtm_at "Lrd"
      refine ite2 (fun c => ?_) (fun c => ?_)
      · have e : mannerB many boxes (.txt z) = true := by
          rw [mannerB_txt, decide_eq_true (V.str.inj (of_decide_eq_true c)), Bool.true_or]
        exact e ▸ k _ (Same.refl H)
      · wtm_at "Lrd"
        have e : mannerB many boxes (.txt z) = decide (V.str z = V.str (Str.ofString "keep")) := by
          rw [mannerB_txt, decide_eq_false (fun h => c (decide_eq_true (congrArg V.str h))), Bool.false_or]
          exact decide_eq_decide.mpr ⟨fun h => congrArg V.str h, fun h => V.str.inj h⟩
        exact e ▸ k _ (Same.refl H)
    | tup xs =>
      obtain ⟨g, rfl, ob, hg, hod⟩ := hv
      obtain ⟨hl, hi⟩ := hf
      wtm_at "Lrd"
      refine ite2 (fun c => ?_) (fun c => ?_)
      · have c1 : xs.length = many := by
          have := V.int.inj (of_decide_eq_true c)
          omega
        wtm_at "Lrd"
        intro D nD
        refine lc_it (walk_tup (xs := xs)) (fun j H' => H' D = some (.lst (((xs.take j).map (itemB boxes)).map V.bl)) ∧ Same H H') ⟨upd_same, same_new (Same.refl H) nD⟩ (fun _ _ _ ⟨_, sm⟩ => SqT.fz (sm _ _ hg)) ?lt ?le
        case lt =>
          rintro j x H1 H1' hj ⟨hD, sm⟩ ⟨rfl, hx⟩
          have fin : ∀ c : Bool, itemB boxes x = c → ∃ acc, H1' D = some (.lst acc) ∧ acc.length < sizeLine ∧ (upd H1' D (.lst (acc ++ [V.bl c]))) D = some (.lst (((xs.take (j + 1)).map (itemB boxes)).map V.bl)) ∧ Same H (upd H1' D (.lst (acc ++ [V.bl c]))) := by
            intro c ec
            refine ⟨_, hD, small_lt (by rw [List.length_map, List.length_map, List.length_take]; omega), ?_, same_new sm nD⟩
            rw [List.take_succ, hx, List.map_append, List.map_append, ← ec]
            exact upd_same
          refine rd_gName ?_
          refine ⟨rfl, ?_⟩
          wtm_at "Lrd"
          refine ⟨rfl, ?_⟩
          wtm_at "Lrd"
          refine ite2 (fun c2 => ?_) (fun c2 => ?_)
          · wtm_at "Lrd"
            refine fin _ ?_
            unfold itemB
            rw [c2, Bool.true_or]
          · wtm_at "Lrd"
            have c3 : decide (x = V.non) = false := Bool.eq_false_iff.mpr c2
            refine ⟨x, boxes, rfl, ?_, ?_⟩
            · rcases hi x (List.mem_of_getElem? hx) with e | e
              · exact absurd e (of_decide_eq_false c3)
              · exact e
            · refine fin _ ?_
              unfold itemB
              rw [c3, Bool.false_or]
        case le =>
          rintro H1 ⟨hD, sm⟩
          rw [List.take_length] at hD
          wtm_at "Lrd"
          refine ⟨D, _, rfl, SqL.of hD, ?_⟩
          wtm_at "Lrd"
          have e : mannerB many boxes (.tup xs) = (xs.map (itemB boxes)).all id := by
            rw [mannerB_tup, decide_eq_true c1, List.all_map]
            rfl
          rw [← e]
          exact k _ sm
      · have c1 : ¬ xs.length = many := fun h => c (decide_eq_true (by rw [h]))
        wtm_at "Lrd"
        have e : mannerB many boxes (.tup xs) = false := by
          rw [mannerB_tup, decide_eq_false c1, Bool.false_and]
        exact e ▸ k _ (Same.refl H)
end

/-! ## a dict of manners -/

structure DictAt (H : Hp) (d : Addr) (kd : List (Str × MD)) : Prop where
  ex : ∃ kvs : List (Key × V), H d = some (.dK kvs) ∧ Paired (fun (p : Key × V) (q : Str × MD) => p.1 = Sum.inr q.1 ∧ MDAt H p.2 q.2) kvs kd
theorem dict_look {H : Hp} {n : Str} : ∀ {kvs : List (Key × V)} {kd : List (Str × MD)}, Paired (fun (p : Key × V) (q : Str × MD) => p.1 = Sum.inr q.1 ∧ MDAt H p.2 q.2) kvs kd →
    (kd.lookup n = none ∧ valV kvs (Sum.inr n) = none) ∨ ∃ d v, kd.lookup n = some d ∧ valV kvs (Sum.inr n) = some v ∧ MDAt H v d
  | _, _, .nil => .inl ⟨rfl, rfl⟩
  | p :: kvs, q :: kd, .cons r t => by
    obtain ⟨n', d⟩ := q
    by_cases e : n = n'
    · subst e
      refine .inr ⟨d, p.2, ?_, valV_pos r.1, r.2⟩
      rw [List.lookup_cons, beq_self_eq_true]
    · have e' : (n == n') = false := beq_eq_false_iff_ne.mpr e
      rw [List.lookup_cons, e']
      have e2 : ¬ p.1 = Sum.inr n := fun h => e (Sum.inr.inj (h.symm.trans r.1))
      rw [valV_neg e2]
      exact dict_look t
theorem lookup_mem {n : Str} {d : MD} : ∀ {kd : List (Str × MD)}, kd.lookup n = some d → ∃ q ∈ kd, q.2 = d
  | (m, e) :: kd, h => by
    rw [List.lookup_cons] at h
    split at h
    · exact ⟨_, List.mem_cons_self, Option.some.inj h⟩
    · obtain ⟨q, hq, eq⟩ := lookup_mem h
      exact ⟨q, List.mem_cons_of_mem _ hq, eq⟩
def mannersB (kd : List (Str × MD)) (names : List Str) (boxes : Nat) : Bool :=
  decide (kd.length = names.length) && ((names.all fun n => (kd.lookup n).isSome) && names.all fun n => match kd.lookup n with | some d => mannerB names.length boxes d | none => false)
section
variable {P : Program} {w : World} {K : PySem.W.Frag} {mg : Str → Option Value} {base : Heap}
theorem DictAt.same {H H' : Hp} {d : Addr} {kd : List (Str × MD)} (h : DictAt H d kd) (s : Same H H') : DictAt H' d kd := by
  obtain ⟨kvs, h1, h2⟩ := h.ex
  exact ⟨kvs, s _ _ h1, L2.Paired.mapP h2 fun _ _ q => ⟨q.1, q.2.same s⟩⟩
def spManners : Sp := fun vs H Q _ => ∃ (d a : Addr) (kd : List (Str × MD)) (l : List Str) (boxes : Nat), vs = [.ref d, .ref a, .int (boxes : Int)] ∧ DictAt H d kd ∧ TupAt H a (l.map V.str) ∧ (∀ q ∈ kd, q.2.fine) ∧ l.length ≤ 1000 ∧ ∀ H', Same H H' → Q (.bl (mannersB kd l boxes)) H'
abbrev stManners : Stmt := top 19
theorem scManners : FnScope ["manners", "names", "boxes", "name"] ["manners", "names", "boxes"] (C8.fnScope stManners) := ⟨rfl, rfl, rfl, by decide +kernel, rfl, by decide +kernel, by decide +kernel⟩

theorem cal_manners {f : Addr} {fd : FuncData} (F : Def K mg "are_manners" stManners f fd) (b : Binds K fd ["manners", "names", "boxes"] []) (n_len : mg "len" = none) (n_isinstance : mg "isinstance" = none) (n_dict : mg "dict" = none) (n_all : mg "all" = none) (c_is_manner : Cal P w K mg base 3 "is_manner" spManner []) : Cal P w K mg base 4 "are_manners" spManners [] := by
  refine C8.cal0 F b .nil scManners (fun vs H Q E h => ?_) (fun cdv A outer s H vs Q E hr h => ?_)
  · obtain ⟨d, a, kd, l, boxes, rfl, _⟩ := h
    rfl
  · obtain ⟨d, a, kd, l, boxes, rfl, hd, ⟨ob, ha, hod⟩, hf, hl, k⟩ := h
    have nd := scManners.nd
    have hu := hu_of hr
    refine ⟨_, (pss_cons (ps_ret (pe_and (pe_callB (r := rIsi K) call_isi rfl n_isinstance (by decide +kernel) (pa_cons (pv 0) (pa_cons (pe_bltn (v := .ty "dict") (u := .type "dict") rfl n_dict (by decide +kernel) rfl) pa_nil))) (pe_and (pe_cmpR op_eq (pe_callB call_lenD rfl n_len (by decide +kernel) (pa_cons (pv 0) pa_nil)) (pe_callB (r := rLen K) call_lenK rfl n_len (by decide +kernel) (pa_cons (pv 1) pa_nil)) (nomark _)) (pe_and (pe_callB (r := rAll K) (cr_all rfl) rfl n_all (by decide +kernel) (pa_cons (pe_lc (own := [("name", 3)]) (g := gName 3) (tt := tYes) rfl nd (pi_tup (pv 1)) (blkOk_by (N := ["manners", "names", "boxes", "name"]) (sc := C8.fnScope stManners) (by decide +kernel)) (fun _ _ _ _ _ => pg_name (i := 3) nd rfl (Or.inl rfl)) (fun _ _ _ _ _ => pts_nil) (fun _ _ _ _ _ => (pe_cmp (pc_din hu (pv 3) (pv 0))))) pa_nil)) (pe_one (pe_callB (r := rAll K) (cr_all rfl) rfl n_all (by decide +kernel) (pa_cons (pe_lc (own := [("name", 3)]) (g := gName 3) (tt := tYes) rfl nd (pi_tup (pv 1)) (blkOk_by (N := ["manners", "names", "boxes", "name"]) (sc := C8.fnScope stManners) (by decide +kernel)) (fun _ _ _ _ _ => pg_name (i := 3) nd rfl (Or.inl rfl)) (fun _ _ _ _ _ => pts_nil) (fun _ _ _ _ _ => (pe_c c_is_manner hr (by decide) rfl (pa_cons (pe_dget hu (pv 0) (pv 3) (fun _ _ => rfl)) (pa_cons (pe_callB (r := rLen K) call_lenK rfl n_len (by decide +kernel) (pa_cons (pv 1) pa_nil)) (pa_cons (pv 2) pa_nil)))))) pa_nil)))))))
      pss_nil), ?_⟩
    try dsimp only [cxOf]
    obtain ⟨kvs, hk, hp⟩ := id hd.ex
    have hkl : kvs.length = kd.length := paired_len hp
    wtm_at "Lrd"
    refine ⟨d, kvs, rfl, hk, ?_⟩
    wtm_at "Lrd"
    rw [List.length_map, hkl]
    have k0 : ∀ H', Same H H' → mannersB kd l boxes = false → Q (.bl false) H' := fun H' s e => e ▸ k H' s
    refine ite2 (fun c1 => ?_) (fun c1 => ?_)
    case _ =>
      have c1' : kd.length = l.length := by
        have := V.int.inj (of_decide_eq_true c1)
        omega
      wtm_at "Lrd"
      intro D nD
      refine lc_it (walk_tup (xs := l.map V.str)) (fun j H' => H' D = some (.lst (((l.take j).map fun n => (kd.lookup n).isSome).map V.bl)) ∧ Same H H') ⟨upd_same, same_new (Same.refl H) nD⟩ (fun _ _ _ ⟨_, sm⟩ => SqT.fz (sm _ _ ha)) ?lt ?le
      case lt =>
        rintro j x H1 H1' hj ⟨hD, sm⟩ ⟨rfl, hx⟩
        have hjl : j < l.length := by rw [List.length_map] at hj; exact hj
        obtain rfl : x = V.str l[j] := by
          rw [List.getElem?_map, List.getElem?_eq_getElem hjl] at hx
          exact (Option.some.inj hx).symm
        refine rd_gName ?_
        refine ⟨rfl, ?_⟩
        wtm_at "Lrd"
        have fin : ∀ o : Option V, o = valV kvs (Sum.inr l[j]) → ∃ acc, H1' D = some (.lst acc) ∧ acc.length < sizeLine ∧ (upd H1' D (.lst (acc ++ [V.bl o.isSome]))) D = some (.lst (((l.take (j + 1)).map fun n => (kd.lookup n).isSome).map V.bl)) ∧ Same H (upd H1' D (.lst (acc ++ [V.bl o.isSome]))) := by
          rintro o rfl
          refine ⟨_, hD, small_lt (by rw [List.length_map, List.length_map, List.length_take]; omega), ?_, same_new sm nD⟩
          rw [List.take_succ, List.getElem?_eq_getElem hjl, List.map_append, List.map_append]
          have e : (valV kvs (Sum.inr l[j])).isSome = (kd.lookup l[j]).isSome := by
            rcases dict_look (n := l[j]) hp with ⟨e1, e2⟩ | ⟨d, v, e1, e2, _⟩
            · rw [e1, e2]; rfl
            · rw [e1, e2]; rfl
          rw [e]
          exact upd_same
        exact ⟨d, _, rfl, DGet.k (k := Sum.inr l[j]) (sm _ _ hk), fin _ rfl⟩
      case le =>
        rintro H1 ⟨hD, sm⟩
        rw [List.length_map, List.take_length] at hD
        wtm_at "Lrd"
        refine ⟨D, _, rfl, SqL.of hD, ?_⟩
        rw [List.all_map]
        wtm_at "Lrd"
        refine ite2 (fun c2 => ?_) (fun c2 => ?_)
        case _ =>
          have c2' : (l.all fun n => (kd.lookup n).isSome) = true := c2
          have ha1 := sm _ _ ha
          have hd1 := hd.same sm
          wtm_at "Lrd"
          intro D2 nD2
          refine lc_it (walk_tup (xs := l.map V.str)) (fun j H' => H' D2 = some (.lst (((l.take j).map fun n => match kd.lookup n with | some d => mannerB l.length boxes d | none => false).map V.bl)) ∧ Same H1 H') ⟨upd_same, same_new (Same.refl H1) nD2⟩ (fun _ _ _ ⟨_, sm⟩ => SqT.fz (sm _ _ ha1)) ?lt ?le
          case lt =>
            rintro j x H2 H2' hj ⟨hD2, sm2⟩ ⟨rfl, hx⟩
            have hjl : j < l.length := by rw [List.length_map] at hj; exact hj
            obtain rfl : x = V.str l[j] := by
              rw [List.getElem?_map, List.getElem?_eq_getElem hjl] at hx
              exact (Option.some.inj hx).symm
            refine rd_gName ?_
            refine ⟨rfl, ?_⟩
            have ha2 := sm2 _ _ ha1
            obtain ⟨kvs2, hk2, hp2⟩ := (hd1.same sm2).ex
            have some_ : (kd.lookup l[j]).isSome = true := List.all_eq_true.mp c2' _ (List.getElem_mem _)
            rcases dict_look (n := l[j]) hp2 with ⟨e1, e2⟩ | ⟨d0, v, e1, e2, hv⟩
            · rw [e1] at some_
              cases some_
            · wtm_at "Lrd"
              refine ⟨d, v, rfl, e2 ▸ DGet.k (k := Sum.inr l[j]) hk2, ?_⟩
              wtm_at "Lrd"
              rw [List.length_map]
              refine ⟨v, d0, l.length, boxes, rfl, hv, ?_, fun H3 sm3 => ?_⟩
              · obtain ⟨q, hq, eq⟩ := lookup_mem e1
                rw [← eq]
                exact hf q hq
              · refine ⟨_, sm3 _ _ hD2, small_lt (by rw [List.length_map, List.length_map, List.length_take]; omega), ?_, same_new (sm2.trans sm3) nD2⟩
                rw [List.take_succ, List.getElem?_eq_getElem hjl, List.map_append, List.map_append]
                show (upd H3 D2 (.lst (_ ++ [V.bl (mannerB l.length boxes d0)]))) D2 = some (.lst (_ ++ [V.bl (match kd.lookup l[j] with | some d => mannerB l.length boxes d | none => false)]))
                rw [e1]
                exact upd_same
          case le =>
            rintro H2 ⟨hD2, sm2⟩
            rw [List.length_map, List.take_length] at hD2
            wtm_at "Lrd"
            refine ⟨D2, _, rfl, SqL.of hD2, ?_⟩
            have e : mannersB kd l boxes = (l.map fun n => match kd.lookup n with | some d => mannerB l.length boxes d | none => false).all id := by
              unfold mannersB
              rw [decide_eq_true c1', c2', List.all_map]
              rfl
            rw [← e]
            exact k _ (sm.trans sm2)
        case _ =>
          have c2' : (l.all fun n => (kd.lookup n).isSome) = false := Bool.eq_false_iff.mpr c2
          wtm_at "Lrd"
          exact k0 _ sm (by unfold mannersB; rw [c2', Bool.false_and, Bool.and_false])
    case _ =>
      have c1' : ¬ kd.length = l.length := fun h => c1 (decide_eq_true (by rw [h]))
      wtm_at "Lrd"
      exact k0 _ (Same.refl H) (by unfold mannersB; rw [decide_eq_false c1', Bool.false_and])
end

/-! ## an own error whose __init__ says super().__init__(text) and keeps one field -/
section
open PySem.W PyProof.Rows PySem.Calls
/-- the bound ValueError.__init__, called -/
theorem call_bwV {prog : Program} {w : World} {A : Around} {E : Value → Shared → Prop} {hp : Heap} {gs : Array GenState} {dr : Drawn} {tk : Nat} {oz : OsState}
    {nm q : Str} {C N : Addr} {bs bm : List Value} {hdct : Bool} {sn : List Str} {sub : List Value} {ab : Bool} {col : Option Bool} {dd : Option Addr} {k0 k1 k2 k3 k5 : Option Value} {bnd ex t0 : Addr} {args : List Value} {Q : Value → Shared → Prop}
    (cl : hp.get? C = some (excClassObj nm q C N bs bm hdct sn sub ab col dd k0 k1 k2 k3 k5 "ValueError.__new__")) (inst : hp.get? ex = some (HandSPX.excO C t0)) (bound : hp.get? bnd = some (kxs_mw "ValueError.__init__" ex)) (few : args.length ≤ sizeLine)
    (cont : ∀ h2 t1, (∀ b ob, b ≠ ex → hp.get? b = some ob → h2.get? b = some ob) → h2.get? ex = some (HandSPX.excO C t1) → Q .none ⟨h2, gs, dr, tk, oz⟩) :
    wpAny (model prog w) A (call (.ref bnd) args) Q E ⟨hp, gs, dr, tk, oz⟩ := by
  have mw : (Value.type "method-wrapper" == Value.type "method" || Value.type "method-wrapper" == Value.type "builtin_function_or_method" || Value.type "method-wrapper" == Value.type "method-wrapper") = true := by decide
  apply wpAny_call; apply codeAny_of_tree
  show wpAny _ A.in1 (callAny (.ref bnd) ⟨args, []⟩) _ _ _
  simp only [callAny]
  refine wpAny_bind (wpAny_load bound ?_)
  simp only [kxs_mw, mw, if_true]
  apply KFB.if_so (by decide)
  refine wpAny_bind (ESX.check_bound F.excBase_ValueError cl inst rfl ?_)
  refine wpAny_bind (wpAny_pure ?_); refine wpAny_pure ?_
  refine And.intro (Code.quiet_builtin _ (by decide +kernel)) ?_
  refine codeAny_builtin F.excBase_ValueError.initEntry ?_
  rw [Around.under_plainId F.excBase_ValueError.init.plain _]
  wp_walk
  refine cont _ hp.objs.size (fun b ob nb there => ?_) ?_
  · exact (Heap.get?_update_other _ _ (Ne.symm nb)).trans (Heap.get?_push_of_some _ there)
  · exact Heap.get?_update_self _ (Heap.get?_push_of_some _ inst) rfl
/-- what the written part says of such a class at C and its __init__ at f -/
structure SupC (P : Program) (K : PySem.W.Frag) (mg : Str → Option Value) (C f : Addr) (fd : FuncData) (qual : Str) (st : Stmt) (field : Str) : Prop where
  fn : ∃ (oc : Value) (od : Option Addr) (osl : Array (Option Value)) (kV doc pm ct : Value) (an : Option Addr) (cda cc : Addr), fd = ksFn "__init__" qual (defArgs st) (defBody st) (defScope st) .none kV doc pm an (.ref cda) ct cc ∧
    K.lookup f = some ⟨oc, od, .func fd, osl⟩ ∧ codeIn K (.ref cda) qual = true ∧
    (∃ (ccl : Value) (cdd : Option Addr) (vs : Array Value) (ccs : Array (Option Value)) (file : Str) (tf : Tok), K.lookup cda = some ⟨ccl, cdd, .fields vs, ccs⟩ ∧ vs[2]? = some (.str file tf) ∧ ((P.main.file : Str) == file) = true) ∧
    ∃ (cl : Value) (cld : Option Addr) (csl : Array (Option Value)), K.lookup cc = some ⟨cl, cld, .cell (some (.ref C)), csl⟩
  cls : ∃ cd, clsIn K C = some cd
  sup : ks_superIn K C C "__init__" = some (some (.builtin "ValueError.__init__"))
  isV : subIn K (.ref C) (.type "ValueError") = some true
  isC : mroIn K C (.ref C) = some true
  thr : nsIn K cStatics "thirdparty.any" = some none
  sn : mg "super" = none
  top : (P.main.scope.names.lookup ("super" : Str)).isSome = false
  ex : OexC K C
  no : findIn K (.ref C) field = some none
/-- the context of its body -/
def cxS (P : Program) (w : World) (K : PySem.W.Frag) (mg : Str → Option Value) (base : Heap) (N : List Str) (qual : Str) (scope : Scope) (f : Addr) (cd : Value) (cc : Addr) (A : Around) (outer : List Env) (s : Shared) (H : Hp) : Cx where
  prog := P
  w := w
  K := K
  mg := mg
  base := base
  A := A.deeper (ksEnv qual scope s.heap.objs.size f cd cc)
  N := N
  s_0 := s
  H_0 := H
  env := ksEnv qual scope s.heap.objs.size f cd cc
  outer := outer
  stack := ksEnv qual scope s.heap.objs.size f cd cc :: outer
  ex := []
  calm := true
  fn := fun _ => false
  pn := []
  xe := fun _ _ => False
theorem inv_startS {P : Program} {w : World} {K : PySem.W.Frag} {mg : Str → Option Value} {base : Heap} {qual : Str} {scope : Scope} {f cc : Addr} {cd : Value} {A : Around} {outer : List Env} {s : Shared} {H : Hp} {u1 u2 : Value} {v1 v2 : V} {p2 : Str} {h₀ : Heap} {tk : Nat} {cv : Option Value}
    (hk : scope.kind = .function) (hs : ∀ y, scope.names.lookup y = some .cell ∨ scope.names.lookup y = some .free → y = "__class__") (hs1 : scope.names.lookup ("self" : Str) = some .local) (hs2 : scope.names.lookup p2 = some .local) (np : ("self" : Str) ≠ p2) (hd : A.handled = none) (e0 : Env0 P w K mg base A outer s H) (r1 : RelV v1 u1) (r2 : RelV v2 u2)
    (hcc : base.IsCell cc cv) (hns : h₀.Ns s.heap.objs.size (fun x => ([("self", u1), (p2, u2)] : List (Str × Value)).reverse.lookup x)) (kp : ∀ b o, s.heap.get? b = some o → h₀.get? b = some o) :
    Inv (cxS P w K mg base ["self", p2] qual scope f cd cc A outer s H) [] [some v1, some v2] H { s with heap := h₀, toks := tk } := by
  have noA : ∀ b : Addr, b ∉ (cxS P w K mg base ["self", p2] qual scope f cd cc A outer s H).ex := fun b z => absurd (show b ∈ ([] : List Addr) from z) (by simp)
  have one : ∀ {y c}, (cxS P w K mg base ["self", p2] qual scope f cd cc A outer s H).env.cells.lookup y = some c → y = ("__class__" : Str) ∧ c = cc := fun {y c} e => by
    have e : List.lookup y [(("__class__" : Str), cc)] = some c := e
    rw [List.lookup_cons] at e
    split at e
    · rename_i hb
      exact ⟨beq_iff_eq.mp hb, (Option.some.inj e).symm⟩
    · cases e
  obtain ⟨oc, hoc, hdc⟩ := id hcc
  refine ⟨⟨e0.mod, hk, rfl, rfl, Nat.le_refl _, fun y z c h1 h2 => (one h1).1.trans (one h2).1.symm, fun y hy => ?_, fun y c h _ => ?_, fun _ => hd, Around.frames_deeper e0.frames, .inr ⟨rfl, rfl⟩, fun b z => absurd z (noA b), e0.bs, e0.bsz, fun b _ _ => noA b, fun b z => absurd z (noA b), e0.funs, e0.frf⟩,
    rfl, e0.bare, Un.kept kp, ⟨_, hns, fun i y v h1 h2 h3 => ?_⟩, fun y c h => ⟨cv, oc, ?_, hdc⟩, e0.hok.fresh (Nat.le_refl _), fun y c h => ?_, fun p hp => absurd (show p ∈ ([] : List (Addr × Obj)) from hp) (by simp), e0.hok.kept kp, rfl⟩
  · have e := hs y hy
    subst e
    exact ⟨cc, by show List.lookup _ [(("__class__" : Str), cc)] = _; rw [List.lookup_cons, beq_self_eq_true]⟩
  · have h : false = true := h
    cases h
  · have np' : (p2 == ("self" : Str)) = false := beq_eq_false_iff_ne.mpr np.symm
    have np2 : (("self" : Str) == p2) = false := beq_eq_false_iff_ne.mpr np
    match i, h1, h2 with
    | 0, h1, h2 =>
      cases h1
      cases h2
      refine ⟨u1, r1, .inl ⟨hs1, ?_⟩⟩
      show List.lookup ("self" : Str) [(p2, u2), (("self" : Str), u1)] = some u1
      rw [List.lookup_cons, np2, List.lookup_cons, beq_self_eq_true]
    | 1, h1, h2 =>
      cases h1
      cases h2
      refine ⟨u2, r2, .inl ⟨hs2, ?_⟩⟩
      show List.lookup p2 [(p2, u2), (("self" : Str), u1)] = some u2
      rw [List.lookup_cons, beq_self_eq_true]
  · rw [(one h).2]
    exact kp _ _ (e0.bs _ _ hoc).1
  · rw [(one h).2]
    exact (e0.bs _ _ hoc).2
end

section
open PySem.W PyProof.Rows PySem.Calls
/-- the promise of such an __init__: the field is kept -/
def spSup (C : Addr) (field : Str) : Sp := fun vs H Q _ => ∃ (x : Addr) (z : Str), vs = [.ref x, .str z] ∧ z.length ≤ 900 ∧ H x = some (exo x C none) ∧ ∀ dx, H dx = none → dx ≠ x → Q .non (upd (upd H dx (exd dx [(field, .str z)])) x (exo x C (some dx)))
abbrev stInvH : Stmt := inClass (top 2) 0
theorem str_len_app (a b : Str) : (a ++ b).length = a.length + b.length := Array.size_append
theorem inv_unpin {X : Cx} {pins : List (Addr × Obj)} {σ : L2.St} {H : Hp} {s : Shared} (I : Inv X pins σ H s) : Inv X [] σ H s := I.pins_of fun _ h => nomatch h
theorem look_class : ∀ y, (defScope stInvH).names.lookup y = some .cell ∨ (defScope stInvH).names.lookup y = some .free → y = "__class__" := by
  intro y h
  rcases h with h | h
  · have q := PySem.mem_of_lookup h
    exact absurd q ((by decide +kernel : ∀ p ∈ (defScope stInvH).names, p.2 ≠ .cell) _ · rfl)
  · have q := PySem.mem_of_lookup h
    exact (by decide +kernel : ∀ p ∈ (defScope stInvH).names, p.2 = .free → p.1 = "__class__") _ q rfl
theorem fn_invH {P : Program} {w : World} {K : PySem.W.Frag} {mg : Str → Option Value} {base : Heap} {CX : CXT} {C f : Addr} {fd : FuncData} (T : SupC P K mg C f fd "InvalidHouse.__init__" stInvH "part") : FnOk P w K mg base CX 1 f fd ["self", "part"] (spSup C "part") := by
  refine ⟨fun vs H Q E h => ?_, fun A outer s H args us vs Q E hr e0 hb r hsp => ?_⟩
  · obtain ⟨x, z, rfl, _⟩ := h
    rfl
  · obtain ⟨x, z, rfl, hz, hx, hq⟩ := hsp
    obtain ⟨u1, u2, rfl, r1, r2⟩ := vals2 r
    obtain ⟨oc, od, osl, kV, doc, pm, ct, an, cda, cc, rfl, lk, hcd, ⟨ccl, cdd, vs', ccs, file, tf, hcode, hvs, hfile⟩, cl, cld, csl, hcell⟩ := T.fn
    have up : ∀ b o, base.get? b = some o → s.heap.get? b = some o := fun b o e => (e0.bs b o e).1
    have KX : K.In s.heap := e0.mod.kin.keeps up
    have lim : s.heap.NoLimit := e0.mod.nolimit.keeps up
    obtain rfl : u1 = Value.ref x := r1
    obtain ⟨hp, g, d, tk, os⟩ := s
    refine ks_codeAny_call_defAt (fd := ksFn "__init__" "InvalidHouse.__init__" (defArgs stInvH) (defBody stInvH) (defScope stInvH) .none kV doc pm an (.ref cda) ct cc) (body := defBody stInvH) (binds := [("self", .ref x), ("part", u2)]) hr.depth (KX _ _ lk) rfl lim (codeRec_of KX hcd) rfl hb (show ∀ x ∈ (defScope stInvH).names, x.2 ≠ .cell by decide +kernel) (fun y hy => ?_) (fun h₀ hns hkp => ?_) rfl rfl rfl
    · rcases List.mem_cons.mp hy with e | hy
      · rw [e]; rfl
      · rcases List.mem_cons.mp hy with e | hy
        · rw [e]; rfl
        · cases hy
    have I : Inv (cxS P w K mg base ["self", "part"] "InvalidHouse.__init__" (defScope stInvH) f (.ref cda) cc A outer ⟨hp, g, d, tk, os⟩ H) [] [some (.ref x), some (.str z)] H ⟨h₀, g, d, tk + 2, os⟩ :=
      inv_startS (cv := some (.ref C)) rfl look_class rfl rfl (by decide +kernel) hr.hd e0 rfl r2 ⟨_, e0.mod.kin _ _ hcell, rfl⟩ hns hkp
    show _root_.PySem.wpAt (model P w) (cxS P w K mg base ["self", "part"] "InvalidHouse.__init__" (defScope stInvH) f (.ref cda) cc A outer ⟨hp, g, d, tk, os⟩ H).A (.func (defBody stInvH) (cxS P w K mg base ["self", "part"] "InvalidHouse.__init__" (defScope stInvH) f (.ref cda) cc A outer ⟨hp, g, d, tk, os⟩ H).env) (execs (defBody stInvH) (cxS P w K mg base ["self", "part"] "InvalidHouse.__init__" (defScope stInvH) f (.ref cda) cc A outer ⟨hp, g, d, tk, os⟩ H).env) _ _ ⟨h₀, g, d, tk + 2, os⟩
    refine ks_wpAt_execs_cons (ks_wpAt_Expr_any (ks_wpAt_MethodCall ?_))
    have kb : ∀ b o, base.get? b = some o → h₀.get? b = some o := fun b o e => hkp b o (up b o e)
    obtain ⟨cdC, hclC⟩ := T.cls
    obtain ⟨oD, hD1, hD2⟩ : ∃ oD, base.get? C = some oD ∧ oD.data = .cls cdC := by
      have hclC' := hclC
      unfold clsIn at hclC'
      split at hclC'
      · rename_i c d cd' sl ho
        cases hclC'
        exact ⟨_, e0.mod.kin _ _ ho, rfl⟩
      · cases hclC'
    refine ks_wpAt_super_base (env := (cxS P w K mg base ["self", "part"] "InvalidHouse.__init__" (defScope stInvH) f (.ref cda) cc A outer ⟨hp, g, d, tk, os⟩ H).env) rfl rfl (by decide +kernel) rfl (kb _ _ (e0.mod.kin _ _ lk)) rfl rfl rfl (kb _ _ (e0.mod.kin _ _ hcode)) rfl hvs hfile T.top ?_
    obtain ⟨mb, hb1, hb2⟩ := e0.mod.blt
    refine ks_loadName_global rfl rfl (loadGlobal_builtin (e0.mod.glob.keeps kb) T.sn (hb1.keeps kb) ((hb2 "super" (by decide)).trans (by decide +kernel : bootBuiltins "super" = some (.type "super"))) ⟨rfl, ?_⟩)
    refine wpAny_loadName_free rfl rfl rfl ⟨_, kb _ _ (e0.mod.kin _ _ hcell), rfl⟩ ?_
    refine wpAny_loadName_local rfl rfl hns rfl ?_
    refine ks_wpAny_isType_cls (kb _ _ hD1) hD2 ⟨rfl, ?_⟩
    obtain ⟨t1, hx0⟩ := exo_at I.hok hx
    refine ks_wpAny_call_super (kb _ _ hD1) hD2 hx0 rfl (fun c e => by cases e) (looks_mroIn (e0.mod.kin.keeps kb) T.isC) (fun h1 hso k1 => ?_)
    have I1 := I.kept (h' := h1) (t' := tk + 2) k1
    have X1 : K.In h1 := I1.kIn
    obtain ⟨t2, hx1⟩ := exo_at I1.hok hx
    have IA : InstAt h1 x _ C none := ⟨hx1, rfl, rfl, trivial⟩
    have hsup := T.sup
    unfold ks_superIn at hsup
    rw [hclC] at hsup
    refine kxs_getMethod kxs_ValueError hso (looks_opaque X1 T.thr) (l₀ := cdC.mro) (fun A Q E s k q => wpAny_bind ((looks_clsIn X1 hclC) A _ E s k (wpAny_pure q))) rfl X1 hsup (IA.type.andThen (looks_subIn X1 T.isV)) (ks_ne X1 IA hclC) (by decide) ?_
    have k2 : ∀ b o, h1.get? b = some o → (h1.push (kxs_mw "ValueError.__init__" x)).get? b = some o := fun b o e => Heap.get?_push_of_some _ e
    have I2 := I1.kept (h' := h1.push (kxs_mw "ValueError.__init__" x)) (t' := tk + 2 + 1) k2
    have hu : (h1.push (kxs_mw "ValueError.__init__" x)).get? h1.objs.size = some (kxs_mw "ValueError.__init__" x) := Heap.get?_push_at rfl rfl
    have nL : h1.objs.size ≠ hp.objs.size := fun e => by
      have q := Heap.lt_size (k1 _ _ (hkp _ _ (up _ _ hD1)))
      have q2 := I1.lt
      have q2 : hp.objs.size < h1.objs.size := q2
      omega
    have I3 : Inv (cxS P w K mg base ["self", "part"] "InvalidHouse.__init__" (defScope stInvH) f (.ref cda) cc A outer ⟨hp, g, d, tk, os⟩ H) [(h1.objs.size, kxs_mw "ValueError.__init__" x)] [some (.ref x), some (.str z)] H ⟨h1.push (kxs_mw "ValueError.__init__" x), g, d, tk + 2 + 1, os⟩ :=
      I2.pins_of fun p hp' => by
        obtain rfl := List.mem_singleton.mp hp'
        exact ⟨hu, I1.hok.fresh (Nat.le_refl _), nL, I1.nofs (Nat.le_refl _), fun v e => by cases e⟩
    refine kxs_callWith (i := "ValueError.__init__") (x := x) rfl (evalArgs_plain ?_)
    have pa := pa_cons (X := cxS P w K mg base ["self", "part"] "InvalidHouse.__init__" (defScope stInvH) f (.ref cda) cc A outer ⟨hp, g, d, tk, os⟩ H) (pe_joined (pos := ⟨7, 25, 7, 64⟩) (.cons (pe_str (x := "the ") (j := 0) (pos := ⟨7, 27, 7, 31⟩)) (.cons (pe_fmt (pos := ⟨7, 31, 7, 37⟩) (pv 1 (x := "part") (pos := ⟨7, 32, 7, 36⟩))) (.cons (pe_str (x := " of a house cannot be such") (j := 0) (pos := ⟨7, 37, 7, 63⟩)) .nil)))) pa_nil
    have l0 : (Str.empty ++ ("the " : Str)).length = 4 := by decide +kernel
    have l2 : (" of a house cannot be such" : Str).length = 26 := by decide +kernel
    refine wpAny_mono (pa.run ⟨7, 8, 7, 65⟩ _ _ _ _ (fun vs H1 => H1 = H ∧ ∃ y, vs = [.str y]) I3 ?_) (fun us s2 hh => ?_) fun _ _ z => z.elim
    · refine ⟨_, rfl, by rw [l0]; decide, _, rfl, .inl ⟨z, rfl, small_len (by omega), z, rfl, ?_, _, rfl, ?_, rfl, _, rfl⟩⟩
      · rw [str_len_app, l0]; exact small_len (by omega)
      · rw [str_len_app, str_len_app, l0, l2]; exact Nat.le_trans (by omega : 4 + z.length + 26 ≤ 2000) (by decide)
    · obtain ⟨vs, H1, J, rv, rfl, y, rfl⟩ := hh
      obtain ⟨uy, rfl, ry⟩ := vals1 rv
      obtain ⟨hp2, g2, d2, tk2, os2⟩ := s2
      have hu2 : hp2.get? h1.objs.size = some (kxs_mw "ValueError.__init__" x) := (J.pin _ (List.mem_append_right _ List.mem_cons_self)).1
      refine ⟨hu2, ?_⟩
      obtain ⟨nm, q, N, bs, bm, sn, sub, ab, col, dd, k0, k1', k2', k3, k5, hC, hbm⟩ := T.ex.cls
      obtain ⟨t3, hx3⟩ := exo_at J.hok hx
      refine call_bwV (J.kIn _ _ hC) hx3 hu2 (by show 1 ≤ sizeLine; decide) fun h' t4 kk hx4 => ?_
      have J2 := (inv_unpin J).write (t' := tk2) (x := x) (e := x) (o := exo x C none) (by rw [hx]; exact True.intro) (.inl rfl) kk ⟨_, hx4⟩ (exo_ok hx4)
      have eu : upd H1 x (exo x C none) = H1 := by
        funext b
        by_cases hb : b = x
        · rw [hb, upd_same, hx]
        · rw [upd_ne hb]
      rw [eu] at J2
      refine wpAt_of_wpAny ?_
      refine wpAny_mono ((pss_one (X := cxS P w K mg base ["self", "part"] "InvalidHouse.__init__" (defScope stInvH) f (.ref cda) cc A outer ⟨hp, g, d, tk, os⟩ H1) (ps_ost (pv 0) (pv 1))).run [] _ _ _ { nx := fun _ H' => Q .non H', rt := Q } J2 ?_) (fun fl s3 hs => ?_) fun _ _ z => z.elim
      · exact ⟨_, rfl, _, rfl, x, C, rfl, T.ex, T.no, .inl ⟨hx, fun dx hdx nd => hq dx hdx nd⟩⟩
      · cases fl with
        | next =>
          obtain ⟨σ', H', J3, q3⟩ := hs
          exact ⟨.non, H', J3.os, J3.bare, J3.base, J3.hok, rfl, q3⟩
        | ret u =>
          obtain ⟨v, σ', H', J3, rv, q3⟩ := hs
          exact ⟨v, H', J3.os, J3.bare, J3.base, J3.hok, rv, q3⟩
        | brk =>
          obtain ⟨_, _, _, q⟩ := hs
          exact q.elim
        | cont =>
          obtain ⟨_, _, _, q⟩ := hs
          exact q.elim
end


/-! ## houses -/
def housePart (names signs : List Str) (kd : List (Str × MD)) : Option Str :=
  if namesB names = true then if platesB signs names.length = true then if mannersB kd names signs.length = true then none else some (Str.ofString "manners") else some (Str.ofString "plates") else some (Str.ofString "names")
/-- the fields of a house -/
def hF (nm sg dm : Addr) : List (Str × V) := putF "_manners" (.ref dm) (putF "_plates" (.ref sg) (putF "_names" (.ref nm) []))
theorem hF_names (nm sg dm : Addr) : (hF nm sg dm).lookup ("_names" : Str) = some (.ref nm) := by
  unfold hF
  rw [lookup_putF, if_neg (by decide +kernel), lookup_putF, if_neg (by decide +kernel), lookup_putF, if_pos rfl]
theorem hF_plates (nm sg dm : Addr) : (hF nm sg dm).lookup ("_plates" : Str) = some (.ref sg) := by
  unfold hF
  rw [lookup_putF, if_neg (by decide +kernel), lookup_putF, if_pos rfl]
theorem hF_manners (nm sg dm : Addr) : (hF nm sg dm).lookup ("_manners" : Str) = some (.ref dm) := by
  unfold hF
  rw [lookup_putF, if_pos rfl]
/-- a house at h -/
structure HouseAt (C : Addr) (H : Hp) (h : Addr) (names signs : List Str) (kd : List (Str × MD)) : Prop where
  ex : ∃ dx nm sg dm, H h = some (.ins C dx (hF nm sg dm)) ∧ TupAt H nm (names.map V.str) ∧ TupAt H sg (signs.map V.str) ∧ DictAt H dm kd
theorem HouseAt.same {C : Addr} {H H' : Hp} {h : Addr} {names signs : List Str} {kd : List (Str × MD)} (x : HouseAt C H h names signs kd) (s : Same H H') : HouseAt C H' h names signs kd := by
  obtain ⟨dx, nm, sg, dm, h1, h2, h3, h4⟩ := x.ex
  exact ⟨dx, nm, sg, dm, s _ _ h1, h2.same s, h3.same s, h4.same s⟩
structure HouC (K : PySem.W.Frag) (C : Addr) : Prop where
  cl : Cls K C
  n1 : NoAttr K C "_names"
  n2 : NoAttr K C "_plates"
  n3 : NoAttr K C "_manners"
theorem MDAt.off {H : Hp} {l : Addr} {o u : HO} {v : V} {d : MD} (h : MDAt H v d) (e : H l = some u) (n : ∀ ob xs, u ≠ .frz ob (.tup xs) := by intro ob xs q; cases q) : MDAt (upd H l o) v d := by
  cases d with
  | txt z => exact h
  | tup xs =>
    obtain ⟨g, ev, ob, h, od⟩ := h
    refine ⟨g, ev, ob, (upd_ne fun q => ?_).trans h, od⟩
    rw [q, e] at h
    exact n _ _ (Option.some.inj h)
theorem lookup_nd : ∀ {kd : List (Str × MD)} {j : Nat} (h : j < kd.length), (kd.map (·.1)).Nodup → kd.lookup kd[j].1 = some kd[j].2
  | (n, d) :: kd, 0, _, _ => by
    show List.lookup n ((n, d) :: kd) = some d
    rw [List.lookup_cons, beq_self_eq_true]
  | (n, d) :: kd, j + 1, h, nd => by
    have hj : j < kd.length := Nat.lt_of_succ_lt_succ h
    have nd' := List.nodup_cons.mp nd
    show List.lookup kd[j].1 ((n, d) :: kd) = some kd[j].2
    have e : (kd[j].1 == n) = false := beq_eq_false_iff_ne.mpr fun q => nd'.1 (by
      rw [← q]
      exact List.mem_map.mpr ⟨kd[j], List.getElem_mem hj, rfl⟩)
    rw [List.lookup_cons, e]
    exact lookup_nd hj nd'.2
/-- .. whose dict was not there in H0; what the dict holds lies in B -/
structure HouseNew (C : Addr) (B : Hp) (nm sg : Addr) (H0 H : Hp) (h : Addr) (kd : List (Str × MD)) : Prop where
  ex : ∃ dx dm kvs, H h = some (.ins C dx (hF nm sg dm)) ∧ H dm = some (.dK kvs) ∧ Paired (fun (p : Key × V) (q : Str × MD) => p.1 = Sum.inr q.1 ∧ MDAt B p.2 q.2) kvs kd ∧ H0 dm = none
/-- all but h stays -/
def Ob (h : Addr) (H H' : Hp) : Prop := ∀ b o, b ≠ h → H b = some o → H' b = some o
/-- the promise of House's __init__ -/
def spHInit (C CI : Addr) : Sp := fun vs H Q E => ∃ (h nm sg d dx : Addr) (B : Hp) (names signs : List Str) (kd : List (Str × MD)) (kvs0 : List (Key × V)), vs = [.ref h, .ref nm, .ref sg, .ref d] ∧ H h = some (.ins C dx []) ∧ Same B H ∧
  TupAt B nm (names.map V.str) ∧ TupAt B sg (signs.map V.str) ∧ H d = some (.dK kvs0) ∧ Paired (fun (p : Key × V) (q : Str × MD) => p.1 = Sum.inr q.1 ∧ MDAt B p.2 q.2) kvs0 kd ∧ (∀ z ∈ names, z.length ≤ 1000) ∧ names.length ≤ 1000 ∧ (∀ z ∈ signs, z.length ≤ 1000) ∧ signs.length ≤ 1000 ∧ (∀ q ∈ kd, q.2.fine) ∧
  (housePart names signs kd = none → kd.map (·.1) = names ∧ names.Nodup ∧ ∀ H', Ob h H H' → HouseNew C B nm sg H H' h kd → Q .non H') ∧
  (∀ part, housePart names signs kd = some part → ∀ H' dd, Same H H' → H dd = none → H' dd = some (.xd [("part", .str part)]) → E (.ref CI) (some dd) H')
section
variable {P : Program} {w : World} {K : PySem.W.Frag} {mg : Str → Option Value} {base : Heap}
abbrev stHI : Stmt := inClass (top 20) 0
theorem scHI : FnScope ["self", "names", "plates", "manners", "name"] ["self", "names", "plates", "manners"] (defScope stHI) := ⟨rfl, rfl, rfl, by decide +kernel, rfl, by decide +kernel, by decide +kernel⟩

theorem ok_hinit {f C CI fI : Addr} {fd fdI : FuncData} (F : L2.Fun K "__init__" "House.__init__" stHI f fd) (T : HouC K C) (TI : SupC P K mg CI fI fdI "InvalidHouse.__init__" stInvH "part") (iI : PySem.W.findIn K (.ref CI) "__init__" = some (some (.ref fI))) (tI : PySem.W.typeIn K (.ref fI) = some (.type "function")) (bI : Binds K fdI ["self", "part"] []) (gI : mg "InvalidHouse" = some (.ref CI)) (n_len : mg "len" = none)
    (c_are_names : Cal P w K mg base 3 "are_names" spNames []) (c_are_plates : Cal P w K mg base 3 "are_plates" spPlates []) (c_are_manners : Cal P w K mg base 4 "are_manners" spManners []) : FnOk P w K mg base (L2.CX P w) 5 f fd ["self", "names", "plates", "manners"] (spHInit C CI) := by
  refine L2.Fun.okX F scHI (fun vs H Q E h => ?_) (fun cdv A outer s H vs Q E hr h => ?_)
  · obtain ⟨h, nm, sg, d, dx, B, names, signs, kd, kvs0, rfl, _⟩ := h
    rfl
  · obtain ⟨h, nm, sg, d, dx, B, names, signs, kd, kvs0, rfl, hh, sbB, tnm, tsg, hd0, hp0, z1, z2, z3, z4, hf, kG, kB⟩ := h
    obtain ⟨obn, hnm, odn⟩ := tnm.same sbB
    obtain ⟨obs, hsg, ods⟩ := tsg.same sbB
    have hd : DictAt H d kd := ⟨kvs0, hd0, L2.Paired.mapP hp0 fun _ _ q => ⟨q.1, q.2.same sbB⟩⟩
    have nd := scHI.nd
    have hu := hu_of hr
    have hr1 : Room (1 + 1) _ := hr.mono (by decide)
    have FI : FnOk P w K mg base C8.CX0 1 fI fdI ["self", "part"] (spSup CI "part") := fn_invH TI
    refine ⟨_, (pss_cons (ps_if (pt_not (pt_val (pe_c c_are_names hr (by decide) rfl (pa_cons (pv 1) pa_nil)))) (pss_cons (ps_raise rfl (takes_of rfl rfl rfl rfl) (pmk_oex TI.ex iI tI FI hr1 bI .nil C8.pass0 rfl gI (pa_cons pe_str pa_nil)))
      pss_nil) pss_nil)
      (pss_cons (ps_if (pt_not (pt_val (pe_c c_are_plates hr (by decide) rfl (pa_cons (pv 2) (pa_cons (pe_callB (r := rLen K) call_lenK rfl n_len (by decide +kernel) (pa_cons (pv 1) pa_nil)) pa_nil))))) (pss_cons (ps_raise rfl (takes_of rfl rfl rfl rfl) (pmk_oex TI.ex iI tI FI hr1 bI .nil C8.pass0 rfl gI (pa_cons pe_str pa_nil)))
      pss_nil) pss_nil)
      (pss_cons (ps_if (pt_not (pt_val (pe_c c_are_manners hr (by decide) rfl (pa_cons (pv 3) (pa_cons (pv 1) (pa_cons (pe_callB (r := rLen K) call_lenK rfl n_len (by decide +kernel) (pa_cons (pv 2) pa_nil)) pa_nil)))))) (pss_cons (ps_raise rfl (takes_of rfl rfl rfl rfl) (pmk_oex TI.ex iI tI FI hr1 bI .nil C8.pass0 rfl gI (pa_cons pe_str pa_nil)))
      pss_nil) pss_nil)
      (pss_cons (ps_fld (pv 0) (pv 1) rfl)
      (pss_cons (ps_fld (pv 0) (pv 2) rfl)
      (pss_cons (ps_fld (pv 0) (pe_dc (own := [("name", 4)]) (g := gName 4) (tt := tYes) rfl nd (pi_tup (pv 1)) (blkOk_by (N := ["self", "names", "plates", "manners", "name"]) (sc := defScope stHI) (by decide +kernel)) (fun _ _ _ _ _ => pg_name (i := 4) nd rfl (Or.inl rfl)) (fun _ _ _ _ _ => pts_nil) (fun _ _ _ _ _ => (pv 4)) (fun _ _ _ _ _ => (pe_dget hu (pv 3) (pv 4) (fun _ _ => rfl)))) rfl)
      pss_nil)))))), ?_⟩
    try dsimp only [cxOf]
    wtm_at "Lrd"
    have raise : ∀ (part : Str) (H1 : Hp), part.length ≤ 900 → Same H H1 → housePart names signs kd = some part → ∀ a, H1 a = none → spSup CI (Str.ofString "part") [V.ref a, V.str part] (upd H1 a (exo a CI none))
        (fun v H2 => v = .non ∧ ∃ (d : Addr) (fs : List (Str × V)), H2 a = some (exo a CI (some d)) ∧ H2 d = some (exd d fs) ∧ H1 d = none ∧ E (.ref CI) (some d) (upd (del H2 a) d (.xd fs))) (fun _ _ _ => False) := by
      intro part H1 hl sm hp a na
      refine ⟨a, part, rfl, hl, upd_same, fun dx0 hdx nd => ?_⟩
      have n1 : H1 dx0 = none := by
        rw [upd_ne nd] at hdx
        exact hdx
      refine ⟨rfl, dx0, [("part", .str part)], upd_same, (upd_ne nd).trans upd_same, n1, ?_⟩
      refine kB part hp _ _ (fun b o e => ?_) (sm.free n1) upd_same
      have e1 := sm _ _ e
      have nb1 : b ≠ dx0 := ne_of_none e1 n1
      have nb2 : b ≠ a := ne_of_none e1 na
      rw [upd_ne nb1, del_ne nb2, upd_ne nb2, upd_ne nb1, upd_ne nb2]
      exact e1
    refine ⟨nm, names, rfl, ⟨obn, hnm, odn⟩, z1, z2, fun H1 sm1 => ?_⟩
    wtm_at "Lrd"
    refine ite2 (fun c => ?_) (fun c => ?_)
    case _ =>
      have c' : namesB names = false := by
        cases e : namesB names with
        | false => rfl
        | true => rw [e] at c; cases c
      have hp : housePart names signs kd = some (Str.ofString "names") := by
        unfold housePart
        rw [if_neg (by rw [c']; decide)]
      wtm_at "Lrd"
      exact ⟨by decide, raise _ H1 (by decide +kernel) sm1 hp⟩
    case _ =>
      have c1 : namesB names = true := by
        cases e : namesB names with
        | true => rfl
        | false => rw [e] at c; exact absurd rfl c
      have hnm1 := sm1 _ _ hnm
      have hsg1 := sm1 _ _ hsg
      wtm_at "Lrd"
      rw [List.length_map]
      refine ⟨sg, signs, names.length, rfl, ⟨obs, hsg1, ods⟩, z3, z4, fun H2 sm2 => ?_⟩
      have sm12 := sm1.trans sm2
      wtm_at "Lrd"
      refine ite2 (fun c => ?_) (fun c => ?_)
      case _ =>
        have c' : platesB signs names.length = false := by
          cases e : platesB signs names.length with
          | false => rfl
          | true => rw [e] at c; cases c
        have hp : housePart names signs kd = some (Str.ofString "plates") := by
          unfold housePart
          rw [if_pos c1, if_neg (by rw [c']; decide)]
        wtm_at "Lrd"
        exact ⟨by decide, raise _ H2 (by decide +kernel) sm12 hp⟩
      case _ =>
        have c2 : platesB signs names.length = true := by
          cases e : platesB signs names.length with
          | true => rfl
          | false => rw [e] at c; exact absurd rfl c
        have hnm2 := sm12 _ _ hnm
        have hsg2 := sm12 _ _ hsg
        have hd2 := hd.same sm12
        wtm_at "Lrd"
        rw [List.length_map]
        refine ⟨d, nm, kd, names, signs.length, rfl, hd2, ⟨obn, hnm2, odn⟩, hf, z2, fun H3 sm3 => ?_⟩
        have sm13 := sm12.trans sm3
        wtm_at "Lrd"
        refine ite2 (fun c => ?_) (fun c => ?_)
        case _ =>
          have c' : mannersB kd names signs.length = false := by
            cases e : mannersB kd names signs.length with
            | false => rfl
            | true => rw [e] at c; cases c
          have hp : housePart names signs kd = some (Str.ofString "manners") := by
            unfold housePart
            rw [if_pos c1, if_pos c2, if_neg (by rw [c']; decide)]
          wtm_at "Lrd"
          exact ⟨by decide, raise _ H3 (by decide +kernel) sm13 hp⟩
        case _ =>
          have c3 : mannersB kd names signs.length = true := by
            cases e : mannersB kd names signs.length with
            | true => rfl
            | false => rw [e] at c; exact absurd rfl c
          have hp : housePart names signs kd = none := by
            unfold housePart
            rw [if_pos c1, if_pos c2, if_pos c3]
          obtain ⟨hk, hnd, kk⟩ := kG hp
          have hh3 := sm13 _ _ hh
          have hnm3 := sm13 _ _ hnm
          have hsg3 := sm13 _ _ hsg
          have hd3 := hd.same sm13
          have nmh : nm ≠ h := ne_of hnm hh (by intro q; cases q)
          have sgh : sg ≠ h := ne_of hsg hh (by intro q; cases q)
          wtm_at "Lrd"
          refine ⟨h, C, dx, [], rfl, hh3, T.cl, T.n1, by decide, ?_⟩
          wtm_at "Lrd"
          refine ⟨h, C, dx, _, rfl, upd_same, T.cl, T.n2, Nat.lt_of_le_of_lt (length_putF _ _ _) (by decide), ?_⟩
          rw [upd_upd]
          have hd3k := sm13 _ _ hd0
          have hd4 : (upd H3 h (.ins C dx (putF "_plates" (.ref sg) (putF "_names" (.ref nm) [])))) d = some (.dK kvs0) := (upd_ne (ne_of hd3k hh3 (by intro q; cases q))).trans hd3k
          have hnm4 : (upd H3 h (.ins C dx (putF "_plates" (.ref sg) (putF "_names" (.ref nm) [])))) nm = some (.frz obn (.tup (names.map V.str))) := (upd_ne nmh).trans hnm3
          have hsg4 : (upd H3 h (.ins C dx (putF "_plates" (.ref sg) (putF "_names" (.ref nm) [])))) sg = some (.frz obs (.tup (signs.map V.str))) := (upd_ne sgh).trans hsg3
          have hh4 : (upd H3 h (.ins C dx (putF "_plates" (.ref sg) (putF "_names" (.ref nm) [])))) h = some (.ins C dx (putF "_plates" (.ref sg) (putF "_names" (.ref nm) []))) := upd_same
          have ob4 : Ob h H (upd H3 h (.ins C dx (putF "_plates" (.ref sg) (putF "_names" (.ref nm) [])))) := fun b o nb e => (upd_ne nb).trans (sm13 _ _ e)
          generalize upd H3 h (.ins C dx (putF "_plates" (.ref sg) (putF "_names" (.ref nm) []))) = H4 at hd4 hnm4 hsg4 hh4 ob4 ⊢
          wtm_at "Lrd"
          intro D nD
          have nD0 : H D = none := by
            cases e : H D with
            | none => rfl
            | some o =>
              by_cases q : D = h
              · rw [q, hh4] at nD
                cases nD
              · rw [ob4 D o q e] at nD
                cases nD
          have hkl : kd.length = names.length := by rw [← hk, List.length_map]
          refine dc_tup (xs := names.map V.str) (fun j H' => ∃ kvs' : List (Key × V), H' D = some (.dK kvs') ∧ kvs'.map (·.1) = (names.take j).map Sum.inr ∧ Paired (fun (p : Key × V) (q : Str × MD) => p.1 = Sum.inr q.1 ∧ MDAt B p.2 q.2) kvs' (kd.take j) ∧ Same H4 H')
            ⟨[], upd_same, rfl, .nil, same_new (Same.refl H4) nD⟩ (fun _ _ _ ⟨_, _, _, _, sm⟩ => SqT.fz (sm _ _ hnm4)) ?lt ?le
          case lt =>
            rintro j x H5 hx ⟨kvs', hD, hks, hps, sm⟩
            have hjl : j < names.length := by
              have := (List.getElem?_eq_some_iff.mp hx).1
              rw [List.length_map] at this
              exact this
            obtain rfl : x = V.str names[j] := by
              rw [List.getElem?_map, List.getElem?_eq_getElem hjl] at hx
              exact (Option.some.inj hx).symm
            have hjk : j < kd.length := by omega
            have ek : kd[j].1 = names[j] := by
              have q : (kd.map (·.1))[j]? = names[j]? := by rw [hk]
              rw [List.getElem?_map, List.getElem?_eq_getElem hjk, List.getElem?_eq_getElem hjl] at q
              exact Option.some.inj q
            refine rd_gName ?_
            refine ⟨rfl, ?_⟩
            have hk5 := sm _ _ hd4
            have lk : kd.lookup names[j] = some kd[j].2 := by
              rw [← ek]
              exact lookup_nd hjk (by rw [hk]; exact hnd)
            wtm_at "Lrd"
            rcases dict_look (n := names[j]) hp0 with ⟨e1, e2⟩ | ⟨d0, v, e1, e2, hv⟩
            · rw [lk] at e1
              cases e1
            · rw [lk] at e1
              cases e1
              refine ⟨d, v, rfl, e2 ▸ DGet.k (k := Sum.inr names[j]) hk5, ?_⟩
              have hl' : kvs'.length ≤ 1000 := by
                have q := congrArg List.length hks
                rw [List.length_map, List.length_map, List.length_take] at q
                omega
              have nin : (Sum.inr names[j] : Key) ∉ kvs'.map (·.1) := by
                rw [hks]
                intro z
                obtain ⟨y, hy, ey⟩ := List.mem_map.mp z
                cases ey
                obtain ⟨q, hq, eq⟩ := List.getElem_of_mem hy
                rw [List.length_take] at hq
                rw [List.getElem_take] at eq
                have := (List.getElem_inj hnd).mp eq
                omega
              refine ⟨kvs', Sum.inr names[j], rfl, hD, small_lt hl', kvs' ++ [(Sum.inr names[j], v)], by rw [putK_new v (valV_notin nin)]; exact upd_same, ?_, ?_, same_new sm nD⟩
              · rw [List.map_append, hks, List.take_succ, List.getElem?_eq_getElem hjl, List.map_append]
                rfl
              · rw [List.take_succ, List.getElem?_eq_getElem hjk]
                refine paired_snoc hps ⟨?_, hv⟩
                show (Sum.inr names[j] : Key) = Sum.inr kd[j].1
                rw [ek]
          case le =>
            rintro H5 ⟨kvs', hD, hks, hps, sm⟩
            rw [List.length_map, ← hkl, List.take_length] at hps
            wtm_at "Lrd"
            have hh5 := sm _ _ hh4
            refine ⟨h, C, dx, _, rfl, hh5, T.cl, T.n3, Nat.lt_of_le_of_lt (length_putF _ _ _) (Nat.lt_of_le_of_lt (Nat.succ_le_succ (length_putF _ _ _)) (by decide)), ?_⟩
            wtm_at "Lrd"
            have Dh : D ≠ h := ne_of hD hh5 (by intro q; cases q)
            refine kk _ (fun b o nb e => (upd_ne nb).trans (sm _ _ (ob4 b o nb e))) ⟨dx, D, kvs', upd_same, (upd_ne Dh).trans hD, hps, nD0⟩
end

/-! ## own objects: len, ==, != by the methods -/
section
variable {X : Cx} {CX : CXT} {n : Nat} {C f : Addr} {fd : FuncData} {ps : List Str} {sp : Sp} {E : XK}
open PySem.W PyProof.Rows PySem.Calls
/-- a def called from inside a builtin's turn -/
theorem fn_inner {A : Around} {pins : List (Addr × Obj)} {s : Shared} {σ : L2.St} {H : Hp} {vs : List V} {us : List Value} {Q : VK} (F : FnOk X.prog X.w X.K X.mg X.base CX n f fd ps sp) (hb : Binds X.K fd ps []) (hx : Passes CX X E)
    (sb : L2.Sub X n A) (I : Inv X pins σ H s) (r : Vals vs us) (h : sp vs H Q E) : wpAny (model X.prog X.w) A (call (.ref f) us) (EP X pins σ Q) X.xe s := by
  have e := I.env0
  have ez : Env0 X.prog X.w X.K X.mg X.base A X.stack s H := ⟨sb.fr ▸ e.frames, e.mod, e.bs, e.bsz, e.funs, e.frf, e.hok, e.bare⟩
  have hl : us.length = ps.length := r.length.symm.trans (F.len _ _ _ _ h)
  have hbd := hb s us I.kIn (by rw [List.append_nil]; exact hl)
  rw [List.append_nil] at hbd
  refine wpAny_call (codeAny_mono (F.run A X.stack s H ⟨us, []⟩ us vs Q E sb.room ez hbd r h) fun o t hq => ?_)
  cases o with
  | error er => exact hx pins σ H s er t I hq
  | ok fl =>
    cases fl with
    | ret u =>
      obtain ⟨v, H', J, rv, q⟩ := I.after hq
      exact ⟨v, H', J, rv, q⟩
    | next => exact False.elim hq
    | brk => exact False.elim hq
    | cont => exact False.elim hq
/-- len(x) by the text's __len__ -/
def rLenI (C : Addr) (sp : Sp) (E : XK) : List V → Hp → VK → Prop := fun xs H Q => ∃ a dx fs, xs = [.ref a] ∧ H a = some (.ins C dx fs) ∧ sp [.ref a] H (fun v H' => ∃ k : Nat, v = .int (k : Nat) ∧ k < 2 ^ 62 ∧ Q (.int (k : Nat)) H') E
theorem call_lenI (F : FnOk X.prog X.w X.K X.mg X.base CX n f fd ps sp) (hr : Room (n + 1) X.A) (hs : findIn X.K (.ref C) "__len__" = some (some (.ref f))) (hf : isFn X.K (.ref f) = true) (hb : Binds X.K fd ps []) (hx : Passes CX X E) : CallR X (.builtin "len") (rLenI C sp E) := by
  intro pins s σ H xs us Q I r h
  obtain ⟨a, dx, fs, rfl, ha, q⟩ := h
  obtain ⟨u, rfl, ru⟩ := vals1 r
  cases ru
  obtain ⟨mA, J, _⟩ := ins_get I.hok ha
  obtain ⟨od, J, _⟩ := J.look
  obtain ⟨m, hF⟩ := I.fr
  refine PySem.W.len_K hF I.ok.mod.kin J hs hf (wpAny_mono (fn_inner (A := X.A.in1) F hb hx ⟨hr.in1, rfl⟩ I (vs := [.ref a]) (.cons rfl .nil) q) (fun v t hv => ?_) fun _ _ z => z)
  obtain ⟨y, H', I', ry, k, rfl, hk, q'⟩ := hv
  obtain ⟨tk, rfl⟩ : ∃ t, v = Value.int (k : Nat) t := ry
  refine ⟨⟨by omega, by omega⟩, .int (k : Nat), H', I'.tok _, ⟨_, rfl⟩, q'⟩
/-- x == y by the text's __eq__ -/
def rEqI (C : Addr) (sp : Sp) (E : XK) (neg : Bool) : R2 := fun x y H Q => ∃ a b dx dy fs gs, x = .ref a ∧ y = .ref b ∧ H a = some (.ins C dx fs) ∧ H b = some (.ins C dy gs) ∧ sp [.ref a, .ref b] H (fun v H' => ∃ k, v = .bl k ∧ Q (.bl (neg ^^ k)) H') E
theorem op_eqI (F : FnOk X.prog X.w X.K X.mg X.base CX n f fd ps sp) (hr : Room n X.A) (hs : findIn X.K (.ref C) "__eq__" = some (some (.ref f))) (hf : isFn X.K (.ref f) = true) (hb : Binds X.K fd ps []) (hx : Passes CX X E) : OpR X (compareOp .Eq) (rEqI C sp E false) := by
  intro pins s σ H x y v u Q I rx ry h
  obtain ⟨a, b, dx, dy, fs, gs, rfl, rfl, ha, hb', q⟩ := h
  cases rx
  cases ry
  obtain ⟨mA, J, _⟩ := ins_get I.hok ha
  obtain ⟨mB, J', _⟩ := ins_get I.hok hb'
  obtain ⟨od, J, _⟩ := J.look
  obtain ⟨od', J', _⟩ := J'.look
  obtain ⟨m, hF⟩ := I.fr
  refine PySem.W.cmp_K (tb := .ref C) (op := .Eq) hr.units0 hF I.ok.mod.kin J J'.type (by simp [PySem.W.notFirst]) hs hf (wpAny_mono (fn_inner (A := X.A) F hb hx ⟨hr, rfl⟩ I (vs := [.ref a, .ref b]) (.cons rfl (.cons rfl .nil)) q) (fun v t hv => ?_) fun _ _ z => z)
  obtain ⟨z, H', I', rz, k, rfl, q'⟩ := hv
  cases rz
  rw [Bool.false_xor] at q'
  exact ⟨.bl k, H', I', rfl, q'⟩
/-- the slot of every object -/
theorem ne_slot : Slot "object" "__ne__" "object.__ne__" := PySem.F.cmp_object.ne
theorem op_neI (F : FnOk X.prog X.w X.K X.mg X.base CX n f fd ps sp) (hr : Room (n + 1) X.A) (hs : findIn X.K (.ref C) "__eq__" = some (some (.ref f))) (hn : findIn X.K (.ref C) "__ne__" = some (some (.builtin "object.__ne__"))) (hob : subIn X.K (.ref C) (.type "object") = some true) (hf : isFn X.K (.ref f) = true) (hb : Binds X.K fd ps []) (hx : Passes CX X E) : OpR X (compareOp .NotEq) (rEqI C sp E true) := by
  intro pins s σ H x y v u Q I rx ry h
  obtain ⟨a, b, dx, dy, fs, gs, rfl, rfl, ha, hb', q⟩ := h
  cases rx
  cases ry
  obtain ⟨mA, J, _⟩ := ins_get I.hok ha
  obtain ⟨mB, J', _⟩ := ins_get I.hok hb'
  obtain ⟨od, J, _⟩ := J.look
  obtain ⟨od', J', _⟩ := J'.look
  have inner : wpAny (model X.prog X.w) X.A (call (.builtin "object.__ne__") [.ref a, .ref b]) (fun r t => r ≠ .notImplemented ∧ EP X pins σ Q r t) X.xe s := by
    refine wpAny_call (codeAny_call_builtin ne_slot.plain PySem.F.cmpEntry_ne (check_slot PySem.F.cmpKind_ne PySem.F.cmpSplit_ne (J.type.andThen (looks_subIn I.kIn hob)) (PySem.F.cmpArgs_ne _ _) ?_))
    unfold Builtin.«object.__ne__»
    refine wpAny_bind (wpAny_pure ?_)
    refine wpAny_bind (wpAny_cRoomFor hr.in1.units0 ?_)
    refine wpAny_bind (ifBound_K I.kIn J hs hf (wpAny_mono (fn_inner (A := X.A.in1) F hb hx ⟨hr.in1, rfl⟩ I (vs := [.ref a, .ref b]) (.cons rfl (.cons rfl .nil)) q) (fun v t hv => ?_) fun _ _ z => z))
    obtain ⟨z, H', I', rz, k, rfl, q'⟩ := hv
    cases rz
    refine wpAny_bind (wpAny_truthy_bool ?_)
    refine wpAny_pure ⟨fun z => (nomatch z), .bl (!k), H', I', rfl, ?_⟩
    rw [Bool.true_xor] at q'
    exact q'
  have tried : wpAny (model X.prog X.w) X.A (tryCompare (.ref a) "__ne__" (.ref b)) (fun r t => ∃ v, r = some v ∧ EP X pins σ Q v t) X.xe s := by
    unfold tryCompare
    refine wpAny_bind ?_
    simp only [callSpecialIfBound?, bindSpecialIfBound?]
    refine wpAny_holding (wpAny_bind (wpAny_bind (wpAny_bind (J.type.here ((looks_findIn I.kIn hn).here ?_)))))
    simp only [ne_slot.bind]
    refine wpAny_bind (wpAny_askSetting (wpAny_ite ?_))
    have fin : ∀ (r : Value) (t : Shared), (r ≠ .notImplemented ∧ EP X pins σ Q r t) → wpAny (model X.prog X.w) X.A (match (some r : Option Value) with | some .notImplemented => pure none | none => pure none | some u => pure (some u)) (fun r t => ∃ v, r = some v ∧ EP X pins σ Q v t) X.xe t := fun r t hv => by
      obtain ⟨nv, hv⟩ := hv
      cases r <;> first | exact absurd rfl nv | exact wpAny_pure ⟨_, rfl, hv⟩
    split
    · exact wpAny_bind (wpAny_pure (wpAny_pure (wpAny_bind (wpAny_mono inner (fun r t hv => wpAny_pure (fin r t hv)) fun _ _ z => z))))
    · exact wpAny_tryCatch (wpAny_bind (wpAny_pure (wpAny_pure (wpAny_bind (wpAny_mono inner (fun r t hv => wpAny_pure (fin r t hv)) fun _ _ z => z)))))
  show wpAny _ _ (richCompare .NotEq _ _) _ _ _
  unfold richCompare
  simp only [oneThing_ref]
  refine wpAny_holding (wpAny_bind (wpAny_cRoomFor (hr.mono (Nat.le_succ _)).units0 ?_))
  refine wpAny_bind (J.type.here (wpAny_bind (J'.type.here ?_)))
  rw [cmpInfo_NotEq]
  dsimp only
  rw [show (Value.ref C != Value.ref C) = false from by simp]
  simp only [Bool.false_eq_true, if_false]
  refine wpAny_bind (wpAny_pure ?_)
  simp only [Bool.false_eq_true, if_false]
  refine wpAny_bind (wpAny_mono tried (fun r t z => ?_) fun _ _ z => z)
  obtain ⟨v, rfl, q⟩ := z
  exact wpAny_pure q
end

/-! ## == of what houses hold -/
section
open PySem.W PyProof.Rows PySem.Calls PySem.SeqAt
/-- a leaf's data -/
def dW : V → PyData
  | .bl b => .bool b
  | .int i => .int i
  | .str z => .str z
  | _ => .none
def Leaf (x : V) : Prop := x = .non ∨ (∃ i, x = .int i) ∨ (∃ b, x = .bl b) ∨ ∃ z, x = .str z
theorem Itm.leaf {x : V} (h : Itm x) : Leaf x := by
  rcases h with h | h | h
  · exact .inl h
  · exact .inr (.inl h)
  · exact .inr (.inr (.inl h))
theorem dw_one (x : V) : (dW x).plain = true ∧ (dW x).depth = 0 := by
  cases x <;> exact ⟨rfl, rfl⟩
theorem dw_plain : ∀ xs : List V, PyData.plainAll (xs.map dW) = true ∧ PyData.depthAll (xs.map dW) = 0
  | [] => ⟨rfl, rfl⟩
  | x :: xs => by
    obtain ⟨h1, h2⟩ := dw_plain xs
    obtain ⟨k1, k2⟩ := dw_one x
    rw [List.map_cons]
    unfold PyData.plainAll PyData.depthAll
    rw [h1, h2, k1, k2]
    exact ⟨rfl, rfl⟩
theorem dw_dp {K : PySem.W.Frag} {H : Hp} : ∀ {xs : List V}, (∀ x ∈ xs, Leaf x) → DpAll K H xs (xs.map dW)
  | [], _ => .nil
  | x :: xs, h => by
    refine .cons ?_ (dw_dp fun y hy => h y (List.mem_cons_of_mem _ hy))
    rcases h x List.mem_cons_self with rfl | ⟨i, rfl⟩ | ⟨b, rfl⟩ | ⟨z, rfl⟩
    · exact .non
    · exact .int i
    · exact .bl b
    · exact .str z
def MD.dat : MD → PyData
  | .txt z => .str z
  | .tup xs => .tuple (xs.map dW)
theorem MD.plain : ∀ d : MD, d.dat.plain = true ∧ d.dat.depth ≤ 1
  | .txt z => ⟨rfl, by show (0 : Nat) ≤ 1; decide⟩
  | .tup xs => by
    obtain ⟨h1, h2⟩ := dw_plain xs
    refine ⟨h1, ?_⟩
    show PyData.depth (.tuple (xs.map dW)) ≤ 1
    unfold PyData.depth
    rw [h2]
    decide
theorem MDAt.dp {K : PySem.W.Frag} {H : Hp} {v : V} {d : MD} (h : MDAt H v d) (hf : d.fine) : Dp K H v d.dat := by
  cases d with
  | txt z =>
    obtain rfl : v = .str z := h
    exact .str z
  | tup xs =>
    obtain ⟨g, rfl, hg⟩ := h
    exact .tup hg.sqt (dw_dp fun x hx => (hf.2 x hx).leaf)
def mdEq (d e : MD) : Bool := PyData.eqv d.dat e.dat
def kdEq (kd ke : List (Str × MD)) : Bool := kd.length == ke.length && kd.all fun q => match ke.lookup q.1 with | some e => mdEq q.2 e | none => false
theorem mdEq_refl (d : MD) : mdEq d d = true := eqv_refl_plain _ (MD.plain d).1
theorem kdEq_refl {kd : List (Str × MD)} (h : (kd.map (·.1)).Nodup) : kdEq kd kd = true := by
  unfold kdEq
  rw [beq_self_eq_true, Bool.true_and, List.all_eq_true]
  intro q hq
  obtain ⟨j, hj, rfl⟩ := List.getElem_of_mem hq
  rw [lookup_nd hj h]
  exact mdEq_refl _
section
variable {X : Cx} {pins : List (Addr × Obj)} {σ : L2.St} {H : Hp} {s : Shared}
theorem hits_md (I : Inv X pins σ H s) {A : Around} (hu : A.units + 64 < cLine) {ke : List (Str × MD)} {ls : List (Key × V)} {vb : List (Key × Value)} (rb : KV ls vb) (pe : Paired (fun (p : Key × V) (q : Str × MD) => p.1 = Sum.inr q.1 ∧ MDAt H p.2 q.2) ls ke) (fe : ∀ q ∈ ke, q.2.fine) :
    ∀ {kd : List (Str × MD)} {ks : List (Key × V)} {va : List (Key × Value)}, KV ks va → Paired (fun (p : Key × V) (q : Str × MD) => p.1 = Sum.inr q.1 ∧ MDAt H p.2 q.2) ks kd → (∀ q ∈ kd, q.2.fine) →
      KeqHitsP X.prog X.w A s vb va (kd.all fun q => match ke.lookup q.1 with | some e => mdEq q.2 e | none => false)
  | [], [], va, ra, _, _ => by
    cases ra
    exact .nil
  | q :: kd, p :: ks, va, ra, hp, fd => by
    cases hp with
    | cons r t =>
      cases ra with
      | @cons _ pv _ pvs h1 h2 =>
        obtain ⟨k, v⟩ := pv
        obtain ⟨e1, rv⟩ := h1
        have ek : k = Sum.inr q.1 := e1.symm.trans r.1
        subst ek
        have ih := hits_md I hu rb pe fe (A := A) h2 t fun z hz => fd z (List.mem_cons_of_mem _ hz)
        rw [List.all_cons]
        have vv := rb.val (Sum.inr q.1)
        rcases dict_look (n := q.1) pe with ⟨l1, l2⟩ | ⟨d, u, l1, l2, hu'⟩
        · rw [l1]
          rw [l2] at vv
          show KeqHitsP _ _ _ _ _ _ (false && _)
          rw [Bool.false_and]
          refine .miss ?_
          cases e : valueAt vb (Sum.inr q.1) with
          | none => rfl
          | some z => rw [e] at vv; exact (show False from vv).elim
        · rw [l1]
          rw [l2] at vv
          obtain ⟨y, ey, ry⟩ := vv.some_of
          obtain ⟨q', hq', eq'⟩ := lookup_mem l1
          have fd1 := fd q List.mem_cons_self
          have fd2 : d.fine := eq' ▸ fe q' hq'
          obtain ⟨as, r1⟩ := Dp.reads I _ _ _ (r.2.dp fd1) rv
          obtain ⟨bs, r2⟩ := Dp.reads I _ _ _ (hu'.dp fd2) ry
          obtain ⟨p1, d1⟩ := MD.plain q.2
          obtain ⟨p2, d2⟩ := MD.plain d
          exact .hit ey (eqAt_plain _ _ A s _ _ _ _ r1 r2 p1 p2 (by omega)).eqP ih
  | [], _ :: _, _, _, hp, _ => nomatch hp
  | _ :: _, [], _, _, hp, _ => nomatch hp
theorem rc_dictM (I : Inv X pins σ H s) {A : Around} (hu : A.units + 66 < cLine) {a b : Addr} {kd ke : List (Str × MD)} (ha : DictAt H a kd) (hb : DictAt H b ke) (fd : ∀ q ∈ kd, q.2.fine) (fe : ∀ q ∈ ke, q.2.fine) (E Q : Value → Shared → Prop) (q : Q (.bool (kdEq kd ke)) s) :
    wpAny (model X.prog X.w) A (richCompare .Eq (.ref a) (.ref b)) Q E s := by
  obtain ⟨ks, hk, pk⟩ := ha.ex
  obtain ⟨ls, hl, pl⟩ := hb.ex
  obtain ⟨_, ya, va, ra, da⟩ := (show ObjOk X.prog X.w H s.heap a (.dK ks) from I.hok a _ hk)
  obtain ⟨_, yb, vb, rb, db⟩ := (show ObjOk X.prog X.w H s.heap b (.dK ls) from I.hok b _ hl)
  have e1 : va.length = kd.length := (ra.length).symm.trans (paired_len pk)
  have e2 : vb.length = ke.length := (rb.length).symm.trans (paired_len pl)
  refine rcP_dicts (knd := mixKind X.prog X.w) ya yb da db (by omega) (fun _ => hits_md I (A := A.in1) (by show A.units + 1 + 64 < cLine; omega) rb pl fe ra pk fd) E Q ?_
  rw [e1, e2]
  exact q
end
section
variable {X : Cx}
def rEqTW (K : PySem.W.Frag) : R2 := fun x y H Q => ∃ a b xs ys, x = .ref a ∧ y = .ref b ∧ SqT K H a xs ∧ SqT K H b ys ∧ (∀ x ∈ xs, Leaf x) ∧ (∀ x ∈ ys, Leaf x) ∧ Q (.bl (PyData.eqvAll (xs.map dW) (ys.map dW))) H
theorem op_eqTW (hu : X.A.units + 66 < cLine) : OpR X (compareOp .Eq) (rEqTW X.K) := by
  intro pins s σ H x y v u Q I rx ry h
  obtain ⟨a, b, xs, ys, rfl, rfl, ha, hb, fx, fy, q⟩ := h
  obtain ⟨as, r1⟩ := Dp.reads I _ _ v (.tup ha (dw_dp fx)) rx
  obtain ⟨bs, r2⟩ := Dp.reads I _ _ u (.tup hb (dw_dp fy)) ry
  obtain ⟨p1, d1⟩ := dw_plain xs
  obtain ⟨p2, d2⟩ := dw_plain ys
  refine eq_plain r1 r2 p1 p2 ?_ ⟨.bl _, H, I, rfl, q⟩
  unfold PyData.depth
  rw [d1, d2]
  omega
def rEqDM : R2 := fun x y H Q => ∃ a b kd ke, x = .ref a ∧ y = .ref b ∧ DictAt H a kd ∧ DictAt H b ke ∧ (∀ q ∈ kd, q.2.fine) ∧ (∀ q ∈ ke, q.2.fine) ∧ Q (.bl (kdEq kd ke)) H
theorem op_eqDM (hu : X.A.units + 66 < cLine) : OpR X (compareOp .Eq) rEqDM := by
  intro pins s σ H x y v u Q I rx ry h
  obtain ⟨a, b, kd, ke, rfl, rfl, ha, hb, fd, fe, q⟩ := h
  cases rx
  cases ry
  exact rc_dictM I hu ha hb fd fe _ _ ⟨.bl _, H, I, rfl, q⟩
theorem eqv_strs : ∀ xs ys : List Str, PyData.eqvAll ((xs.map V.str).map dW) ((ys.map V.str).map dW) = decide (xs = ys)
  | [], [] => rfl
  | [], _ :: _ => rfl
  | _ :: _, [] => rfl
  | x :: xs, y :: ys => by
    have ih := eqv_strs xs ys
    show (PyData.eqv (.str x) (.str y) && PyData.eqvAll ((xs.map V.str).map dW) ((ys.map V.str).map dW)) = _
    rw [ih]
    unfold PyData.eqv
    by_cases e : x = y
    · subst e
      by_cases e2 : xs = ys
      · subst e2
        simp
      · simp [e2]
    · simp [e]
theorem leaf_strs {zs : List Str} : ∀ x ∈ zs.map V.str, Leaf x := fun x hx => by
  obtain ⟨z, _, rfl⟩ := List.mem_map.mp hx
  exact .inr (.inr (.inr ⟨z, rfl⟩))
end
/-! != of tuples whose items are equal, a dict among them -/
section
variable {prog : Program} {w : World} {A : Around} {R : Result → Shared → Prop} {s : Shared}
theorem tup_ne_same {l b : Addr} {us vs : Array Value} {n n2 : Nat} {dd dd2 : Option Addr} {sl sl2 : Array (Option Value)} (hsz : us.size = vs.size)
    (turn : ∀ i (h1 : i < us.size) (h2 : i < vs.size), EqP prog w A.in1 s us[i] vs[i] true) (ol : s.heap.get? l = some { cls := .type "tuple", dict := dd, data := .seq us n, slots := sl }) (ob : s.heap.get? b = some { cls := .type "tuple", dict := dd2, data := .seq vs n2, slots := sl2 })
    (q : R (.ok (.ret (.bool false))) s) : wpAny (model prog w) A.in1 (Builtin.«tuple.__ne__» ⟨[.ref l, .ref b], []⟩) (GQ.FinOf prog w A R) (fun e s' => R (.error e) s') s := by
  have sub := AutoSeq1.sub_tuple_tuple
  have zl : (us.toList.zip vs.toList).length = us.size := by simp [hsz]
  obtain ⟨hp, g, d, tk, os⟩ := s
  wp_walk using AutoSeq1.wpAny_loadPart' ol, AutoSeq1.wpAny_loadPart' ob, wpAny_forIn_list _ (fun rest z s' => z.1 = none ∧ s' = ⟨hp, g, d, tk, os⟩ ∧ ∃ i, rest = (us.toList.zip vs.toList).drop i ∧ i ≤ us.size) _
  case turn =>
    rintro ⟨y, x⟩ rest z s' ⟨hz, rfl, i, hr, hi⟩
    have lt : i < (us.toList.zip vs.toList).length := by
      rcases Nat.lt_or_ge i (us.toList.zip vs.toList).length with k | k
      · exact k
      · rw [List.drop_of_length_le k] at hr
        cases hr
    have h1 : i < us.size := zl ▸ lt
    have h2 : i < vs.size := hsz ▸ h1
    rw [List.drop_eq_getElem_cons lt] at hr
    injection hr with hyx ht
    have hy : y = us[i] := by have := congrArg Prod.fst hyx; simpa using this
    have hx : x = vs[i] := by have := congrArg Prod.snd hyx; simpa using this
    subst hy hx
    refine wpAny_bind (turn i h1 h2 _ _ ?_)
    wp_walk
    exact ⟨rfl, rfl, i + 1, ht, h1⟩
  case fin =>
    rintro ⟨b1, b2⟩ s' ⟨hz, rfl, i, hr, hi⟩
    simp only at hz
    subst hz
    wp_walk
    simpa [Builtin.Tuple.tupleCompareSizes, hsz] using q
  case h =>
    exact ⟨rfl, rfl, 0, rfl, Nat.zero_le _⟩
theorem rc_tup_ne {E : Value → Shared → Prop} {l b : Addr} {us vs : Array Value} {Q : Value → Shared → Prop} (hsz : us.size = vs.size) (hu : A.units < cLine) (hl : s.heap.IsTuple l us) (hb : s.heap.IsTuple b vs)
    (turn : ∀ i (h1 : i < us.size) (h2 : i < vs.size), EqP prog w A.in1 s us[i] vs[i] true) (q : Q (.bool false) s) : wpAny (model prog w) A (richCompare .NotEq (.ref l) (.ref b)) Q E s := by
  obtain ⟨⟨c1, dd, t1, sl⟩, ho, hc, n, hd⟩ := id hl
  obtain ⟨⟨c2, dd2, t2, sl2⟩, ho2, hc2, n2, hd2⟩ := id hb
  simp only at hc hd hc2 hd2
  subst hc hd hc2 hd2
  refine wpAny_richCompare_same_room (op := .NotEq) ⟨_, ho, rfl⟩ ⟨_, ho2, rfl⟩ F.slot_tuple_ne (GQ.call_here F.slot_tuple_ne ⟨_, ho, rfl⟩ F.entry_tuple_ne (F.args_tuple_ne_2 _ _) (tup_ne_same (R := wants (fun v s' => v ≠ .notImplemented ∧ Q v s') E) hsz turn ho ho2 ⟨(fun x => nomatch x), q⟩)) hu
end
section
variable {X : Cx}
/-- two items seen to be equal -/
def EqIt (K : PySem.W.Frag) (H : Hp) (x y : V) : Prop :=
  (x = y ∧ Leaf x) ∨ (∃ a b xs, x = .ref a ∧ y = .ref b ∧ SqT K H a xs ∧ SqT K H b xs ∧ ∀ x ∈ xs, Leaf x) ∨ ∃ a b kd ke, x = .ref a ∧ y = .ref b ∧ DictAt H a kd ∧ DictAt H b ke ∧ (∀ q ∈ kd, q.2.fine) ∧ (∀ q ∈ ke, q.2.fine) ∧ kdEq kd ke = true
theorem EqIt.run {pins : List (Addr × Obj)} {σ : L2.St} {H : Hp} {s : Shared} (I : Inv X pins σ H s) {A : Around} (hu : A.units + 66 < cLine) {x y : V} {v u : Value} (h : EqIt X.K H x y) (rx : RelV x v) (ry : RelV y u) : EqP X.prog X.w A s v u true := by
  rcases h with ⟨rfl, f⟩ | ⟨a, b, xs, rfl, rfl, ha, hb, fx⟩ | ⟨a, b, kd, ke, rfl, rfl, ha, hb, fd, fe, e⟩
  · have hd := dw_dp (K := X.K) (H := H) (xs := [x]) fun z hz => List.mem_singleton.mp hz ▸ f
    cases hd with
    | cons h1 _ =>
      obtain ⟨as, r1⟩ := Dp.reads I _ _ v h1 rx
      obtain ⟨bs, r2⟩ := Dp.reads I _ _ u h1 ry
      obtain ⟨p1, d1⟩ := dw_one x
      have q := eqAt_plain _ _ A s _ _ _ _ r1 r2 p1 p1 (by omega)
      rw [eqv_refl_plain _ p1] at q
      exact q.eqP
  · obtain ⟨as, r1⟩ := Dp.reads I _ _ v (.tup ha (dw_dp fx)) rx
    obtain ⟨bs, r2⟩ := Dp.reads I _ _ u (.tup hb (dw_dp fx)) ry
    obtain ⟨p1, d1⟩ := dw_plain xs
    have q := eqAt_plain (.tuple (xs.map dW)) (.tuple (xs.map dW)) A s _ _ _ _ r1 r2 p1 p1 (by unfold PyData.depth; rw [d1]; omega)
    rw [eqv_refl_plain (.tuple (xs.map dW)) p1] at q
    exact q.eqP
  · cases rx
    cases ry
    by_cases hab : a = b
    · subst hab
      exact (EqAt.same _).eqP
    · exact eqP_refs hab fun E Q q => rc_dictM I hu ha hb fd fe E Q (e ▸ q)
def rNeT (K : PySem.W.Frag) : R2 := fun x y H Q => ∃ a b xs ys, x = .ref a ∧ y = .ref b ∧ SqT K H a xs ∧ SqT K H b ys ∧ Paired (EqIt K H) xs ys ∧ Q (.bl false) H
theorem op_neT (hu : X.A.units + 67 < cLine) : OpR X (compareOp .NotEq) (rNeT X.K) := by
  intro pins s σ H x y v u Q I rx ry h
  obtain ⟨a, b, xs, ys, rfl, rfl, ha, hb, hp, q⟩ := h
  cases rx
  cases ry
  obtain ⟨us, r1, p1, _⟩ := I.tuple ha
  obtain ⟨vs, r2, p2, _⟩ := I.tuple hb
  have hl := paired_len hp
  refine rc_tup_ne (Q := EP X pins σ Q) (by rw [List.size_toArray, List.size_toArray, ← r1.length, ← r2.length]; exact hl) (by omega) p1 p2 (fun j h1 h2 => ?_) ⟨.bl false, H, I, rfl, q⟩
  have k := items_run (F := EqIt X.K H) (A := X.A.in1) (fun x y v u h rx ry => EqIt.run I (by show X.A.units + 1 + 66 < cLine; omega) h rx ry) hp r1 r2 j (by simpa using h1) (by simpa using h2)
  simpa using k
end
end

/-! ## what a house tells -/
theorem hu66_of {k : Nat} {A : Around} (r : Room k A) : A.units + 66 < cLine := by have := r.un; omega
theorem hu67_of {k : Nat} {A : Around} (r : Room k A) : A.units + 67 < cLine := by have := r.un; omega
section
variable {P : Program} {w : World} {K : PySem.W.Frag} {mg : Str → Option Value} {base : Heap}
/-- names, plates -/
def spTell (C : Addr) (f : Str) : Sp := getSp C f
abbrev stHNm : Stmt := inClass (top 20) 1
theorem scHNm : FnScope ["self"] ["self"] (defScope stHNm) := ⟨rfl, rfl, rfl, by decide +kernel, rfl, by decide +kernel, by decide +kernel⟩

abbrev stHPl : Stmt := inClass (top 20) 2
theorem scHPl : FnScope ["self"] ["self"] (defScope stHPl) := ⟨rfl, rfl, rfl, by decide +kernel, rfl, by decide +kernel, by decide +kernel⟩

abbrev stHMn : Stmt := inClass (top 20) 3
theorem scHMn : FnScope ["self"] ["self"] (defScope stHMn) := ⟨rfl, rfl, rfl, by decide +kernel, rfl, by decide +kernel, by decide +kernel⟩

abbrev stHLn : Stmt := inClass (top 20) 4
theorem scHLn : FnScope ["self"] ["self"] (defScope stHLn) := ⟨rfl, rfl, rfl, by decide +kernel, rfl, by decide +kernel, by decide +kernel⟩

abbrev stHEq : Stmt := inClass (top 20) 5
theorem scHEq : FnScope ["self", "other"] ["self", "other"] (defScope stHEq) := ⟨rfl, rfl, rfl, by decide +kernel, rfl, by decide +kernel, by decide +kernel⟩

theorem ok_names {C f : Addr} {fd : FuncData} (F : L2.Fun K "names" "House.names" stHNm f fd) (T : HouC K C) : FnOk P w K mg base C8.CX0 1 f fd ["self"] (getSp C "_names") := by
  refine L2.Fun.ok F scHNm (fun vs H Q E h => ?_) (fun cdv A outer s H vs Q E hr h => ?_)
  · obtain ⟨a, dx, fs, v, rfl, _⟩ := h
    rfl
  · obtain ⟨a, dx, fs, v, rfl, ea, l, q⟩ := h
    have nd := scHNm.nd
    refine ⟨_, (pss_cons (ps_ret (pe_fld (pv 0) rfl))
      pss_nil), ?_⟩
    try dsimp only [cxOf]
    wtm_at "Lrd"
    exact ⟨a, C, dx, fs, v, rfl, ea, T.cl, T.n1, l, q⟩
theorem ok_plates {C f : Addr} {fd : FuncData} (F : L2.Fun K "plates" "House.plates" stHPl f fd) (T : HouC K C) : FnOk P w K mg base C8.CX0 1 f fd ["self"] (getSp C "_plates") := by
  refine L2.Fun.ok F scHPl (fun vs H Q E h => ?_) (fun cdv A outer s H vs Q E hr h => ?_)
  · obtain ⟨a, dx, fs, v, rfl, _⟩ := h
    rfl
  · obtain ⟨a, dx, fs, v, rfl, ea, l, q⟩ := h
    have nd := scHPl.nd
    refine ⟨_, (pss_cons (ps_ret (pe_fld (pv 0) rfl))
      pss_nil), ?_⟩
    try dsimp only [cxOf]
    wtm_at "Lrd"
    exact ⟨a, C, dx, fs, v, rfl, ea, T.cl, T.n2, l, q⟩
def spMnrs (C : Addr) : Sp := fun vs H Q _ => ∃ (a : Addr) (B : Hp) (names signs : List Str) (kd : List (Str × MD)), vs = [.ref a] ∧ HouseAt C B a names signs kd ∧ Same B H ∧ ∀ d kvs, H d = none → Paired (fun (p : Key × V) (q : Str × MD) => p.1 = Sum.inr q.1 ∧ MDAt B p.2 q.2) kvs kd → Q (.ref d) (upd H d (.dK kvs))
theorem ok_mnrs {C f : Addr} {fd : FuncData} (F : L2.Fun K "manners" "House.manners" stHMn f fd) (T : HouC K C) (n_dict : mg "dict" = none) : FnOk P w K mg base C8.CX0 1 f fd ["self"] (spMnrs C) := by
  refine L2.Fun.ok F scHMn (fun vs H Q E h => ?_) (fun cdv A outer s H vs Q E hr h => ?_)
  · obtain ⟨a, _, _, _, _, rfl, _⟩ := h
    rfl
  · obtain ⟨a, B, names, signs, kd, rfl, hh, sb, q⟩ := h
    obtain ⟨dx, nm, sg, dm, h1, h2, h3, h4⟩ := hh.ex
    obtain ⟨kvs, hk, hp⟩ := h4.ex
    have nd := scHMn.nd
    refine ⟨_, (pss_cons (ps_ret (pe_callTy call_dictD rfl n_dict (by decide +kernel) (pa_cons (pe_fld (pv 0) rfl) pa_nil)))
      pss_nil), ?_⟩
    try dsimp only [cxOf]
    wtm_at "Lrd"
    refine ⟨a, C, dx, _, _, rfl, sb _ _ h1, T.cl, T.n3, hF_manners _ _ _, ?_⟩
    wtm_at "Lrd"
    exact ⟨dm, kvs, rfl, .inl (sb _ _ hk), fun p np => q p kvs np hp⟩
def spHLen (C : Addr) : Sp := fun vs H Q _ => ∃ (a : Addr) (names signs : List Str) (kd : List (Str × MD)), vs = [.ref a] ∧ HouseAt C H a names signs kd ∧ Q (.int (signs.length : Nat)) H
theorem ok_hlen {C f : Addr} {fd : FuncData} (F : L2.Fun K "__len__" "House.__len__" stHLn f fd) (T : HouC K C) (n_len : mg "len" = none) : FnOk P w K mg base C8.CX0 1 f fd ["self"] (spHLen C) := by
  refine L2.Fun.ok F scHLn (fun vs H Q E h => ?_) (fun cdv A outer s H vs Q E hr h => ?_)
  · obtain ⟨a, _, _, _, rfl, _⟩ := h
    rfl
  · obtain ⟨a, names, signs, kd, rfl, hh, q⟩ := h
    obtain ⟨dx, nm, sg, dm, h1, h2, ⟨obs, h3, _⟩, h4⟩ := hh.ex
    have nd := scHLn.nd
    refine ⟨_, (pss_cons (ps_ret (pe_callB (r := rLen K) call_lenK rfl n_len (by decide +kernel) (pa_cons (pe_fld (pv 0) rfl) pa_nil)))
      pss_nil), ?_⟩
    try dsimp only [cxOf]
    wtm_at "Lrd"
    refine ⟨a, C, dx, _, _, rfl, h1, T.cl, T.n2, hF_plates _ _ _, ?_⟩
    wtm_at "Lrd"
    rw [List.length_map]
    exact q
def houEq (names names' signs signs' : List Str) (kd kd' : List (Str × MD)) : Bool := decide (names = names') && (decide (signs = signs') && kdEq kd kd')
def spHEq (C : Addr) : Sp := fun vs H Q _ => ∃ (a b : Addr) (names names' signs signs' : List Str) (kd kd' : List (Str × MD)), vs = [.ref a, .ref b] ∧ HouseAt C H a names signs kd ∧ HouseAt C H b names' signs' kd' ∧ (∀ q ∈ kd, q.2.fine) ∧ (∀ q ∈ kd', q.2.fine) ∧ Q (.bl (houEq names names' signs signs' kd kd')) H
theorem ok_heq {C f : Addr} {fd : FuncData} (F : L2.Fun K "__eq__" "House.__eq__" stHEq f fd) (T : HouC K C) (iC : C8.InsC K C) (n_isinstance : mg "isinstance" = none) (g_House : ∃ u, mg "House" = some u ∧ RelV (.ref C) u) : FnOk P w K mg base C8.CX0 6 f fd ["self", "other"] (spHEq C) := by
  refine L2.Fun.ok F scHEq (fun vs H Q E h => ?_) (fun cdv A outer s H vs Q E hr h => ?_)
  · obtain ⟨a, b, _, _, _, _, _, _, rfl, _⟩ := h
    rfl
  · obtain ⟨a, b, names, names', signs, signs', kd, kd', rfl, ha, hb, fd, fe, q⟩ := h
    obtain ⟨dx, nm, sg, dm, h1, h2, h3, h4⟩ := ha.ex
    obtain ⟨dy, nm', sg', dm', k1, k2, k3, k4⟩ := hb.ex
    have nd := scHEq.nd
    have hu66 := hu66_of hr
    refine ⟨_, (pss_cons (ps_ret (pe_and (pe_callB (C8.call_isC iC) rfl n_isinstance (by decide +kernel) (pa_cons (pv 1) (pa_cons (C8.pe_gc rfl g_House) pa_nil))) (pe_and (pe_cmpR (op_eqTW hu66) (pe_fld (pv 0) rfl) (pe_fld (pv 1) rfl) (nomark _)) (pe_and (pe_cmpR (op_eqTW hu66) (pe_fld (pv 0) rfl) (pe_fld (pv 1) rfl) (nomark _)) (pe_one (pe_cmpR (op_eqDM hu66) (pe_fld (pv 0) rfl) (pe_fld (pv 1) rfl) (nomark _)))))))
      pss_nil), ?_⟩
    try dsimp only [cxOf]
    wtm_at "Lrd"
    refine ⟨b, dy, _, rfl, k1, ?_⟩
    wtm_at "Lrd"
    refine ⟨a, C, dx, _, _, rfl, h1, T.cl, T.n1, hF_names _ _ _, ?_⟩
    wtm_at "Lrd"
    refine ⟨b, C, dy, _, _, rfl, k1, T.cl, T.n1, hF_names _ _ _, ?_⟩
    wtm_at "Lrd"
    refine ⟨nm, nm', _, _, rfl, rfl, h2.sqt, k2.sqt, leaf_strs, leaf_strs, ?_⟩
    rw [eqv_strs]
    wtm_at "Lrd"
    refine ite2 (fun c1 => ?_) (fun c1 => ?_)
    case _ =>
      wtm_at "Lrd"
      refine ⟨a, C, dx, _, _, rfl, h1, T.cl, T.n2, hF_plates _ _ _, ?_⟩
      wtm_at "Lrd"
      refine ⟨b, C, dy, _, _, rfl, k1, T.cl, T.n2, hF_plates _ _ _, ?_⟩
      wtm_at "Lrd"
      refine ⟨sg, sg', _, _, rfl, rfl, h3.sqt, k3.sqt, leaf_strs, leaf_strs, ?_⟩
      rw [eqv_strs]
      wtm_at "Lrd"
      refine ite2 (fun c2 => ?_) (fun c2 => ?_)
      case _ =>
        wtm_at "Lrd"
        refine ⟨a, C, dx, _, _, rfl, h1, T.cl, T.n3, hF_manners _ _ _, ?_⟩
        wtm_at "Lrd"
        refine ⟨b, C, dy, _, _, rfl, k1, T.cl, T.n3, hF_manners _ _ _, ?_⟩
        wtm_at "Lrd"
        refine ⟨dm, dm', kd, kd', rfl, rfl, h4, k4, fd, fe, ?_⟩
        have e : houEq names names' signs signs' kd kd' = kdEq kd kd' := by
          unfold houEq
          rw [c1, c2, Bool.true_and, Bool.true_and]
        exact e ▸ q
      case _ =>
        have e : houEq names names' signs signs' kd kd' = false := by
          unfold houEq
          rw [Bool.eq_false_iff.mpr c2, Bool.false_and, Bool.and_false]
        exact e ▸ q
    case _ =>
      have e : houEq names names' signs signs' kd kd' = false := by
        unfold houEq
        rw [Bool.eq_false_iff.mpr c1, Bool.false_and]
      exact e ▸ q
end

/-! ## tuples that are known to be without a dict -/
section
open PySem.W PyProof.Rows PySem.Calls PySem.MeetsSeq
variable {X : Cx}
/-- a new one -/
def NewT (H : Hp) (xs : List V) (Q : VK) : Prop := ∀ p o, H p = none → o.dict = none → Q (.ref p) (upd H p (.frz o (.tup xs)))
theorem tup_pushed {P : Program} {w : World} {H : Hp} {h : Heap} {xs : List V} {its : List Value} (z : xs.length ≤ sizeLine) (r : Vals xs its) :
    ObjOk P w H (h.push { cls := .type "tuple", data := .seq its.toArray }) h.objs.size (.frz { cls := .type "tuple", data := .seq its.toArray } (.tup xs)) :=
  ⟨Heap.get?_push_size _ rfl, z, its, r, ⟨_, Heap.get?_push_size _ rfl, rfl, _, rfl⟩⟩
theorem tup_done {pins : List (Addr × Obj)} {σ : L2.St} {H : Hp} {s : Shared} {Q : VK} {xs : List V} {its : List Value} (I : Inv X pins σ H s) (z : xs.length ≤ sizeLine) (r : Vals xs its) (q : NewT H xs Q) :
    EP X pins σ Q (.ref s.heap.objs.size) { s with heap := s.heap.push { cls := .type "tuple", data := .seq its.toArray } } :=
  ⟨.ref s.heap.objs.size, _, I.laid (t' := s.toks) (fun b u e => Heap.get?_push_of_some _ e) (Nat.le_refl _) (tup_pushed z r), rfl, q _ _ (I.hok.fresh (Nat.le_refl _)) rfl⟩
def tTupF (t : TA) : TE := fun σ H Q => t σ H fun xs H1 => xs.length ≤ sizeLine ∧ NewT H1 xs Q
theorem pe_tupF {es : List Expr} {pos : Pos} {t : TA} {x1} (h : PA X es t) : PE X (.Tuple es x1 pos) (tTupF t) := by
  refine ⟨fun pins s σ H Q I hq => ?_⟩
  refine wpAny_Tuple_spliced (thn (h.run pos pins s σ H _ I hq) fun us s1 ⟨xs, H1, I1, r, z, q⟩ => ⟨by rw [← r.length]; exact z, ?_⟩)
  exact tup_done I1 z r q
theorem call_tuple_ofF : CallR X (.type "tuple") (fun xs H Q => ∃ p ys, xs = [.ref p] ∧ ((SqL X.K H p ys ∧ NewT H ys Q) ∨ (SqT X.K H p ys ∧ Q (.ref p) H))) := by
  intro pins s σ H xs us Q I r h
  obtain ⟨p, ys, rfl, h⟩ := h
  obtain ⟨u, rfl, rx⟩ := vals1 r
  cases rx
  rcases h with ⟨hq, q⟩ | ⟨hq, q⟩
  · obtain ⟨its, r', pl, hz⟩ := I.list hq
    have hlen := r'.length
    refine call_tuple_list pl.isList (fun h' kp => ?_) (by simp only [List.size_toArray] <;> omega)
    have I1 : Inv X pins σ H { s with heap := h' } := I.kept (t' := s.toks) kp
    exact tup_done I1 hz r' q
  · obtain ⟨its, r', pl, hz⟩ := I.tuple hq
    exact call_tuple_same pl ⟨.ref p, H, I, rfl, q⟩
def rCatF (K : PySem.W.Frag) : R2 := fun x y H Q => ∃ a b xs ys, x = .ref a ∧ y = .ref b ∧ SqT K H a xs ∧ SqT K H b ys ∧ xs.length + ys.length ≤ sizeLine ∧
  (xs = [] → Q (.ref b) H) ∧ (xs ≠ [] → ys = [] → Q (.ref a) H) ∧ (xs ≠ [] → ys ≠ [] → NewT H (xs ++ ys) Q)
theorem op_catF : OpR X (binaryOp .Add) (rCatF X.K) := by
  intro pins s σ H x y v u Q I rx ry h
  obtain ⟨a, b, xs, ys, rfl, rfl, ha, hb, hz, q0, q1, q2⟩ := h
  by_cases hx : xs = []
  · subst hx
    exact op_catA pins s σ H _ _ v u Q I rx ry ⟨a, b, [], ys, rfl, rfl, ha, hb, hz, q0, fun z => absurd rfl z, fun z => absurd rfl z⟩
  · cases rx
    cases ry
    obtain ⟨its, r1, p1, _⟩ := I.tuple ha
    obtain ⟨its2, r2, p2, _⟩ := I.tuple hb
    refine HT.cat_tup p1 p2 (fun z => hx (r1.nil_iff.mp z)) (fun z => ⟨.ref a, H, I, rfl, q1 hx (r2.nil_iff.mp z)⟩) (fun z => ?_) (by rw [← r1.length, ← r2.length]; exact hz)
    exact tup_done I (by rw [List.length_append]; exact hz) (r1.append r2) (q2 hx fun w => z (r2.nil_iff.mpr w))
def rSlF (K : PySem.W.Frag) : V → Option Int → Option Int → Hp → VK → Prop := fun x lo hi H Q => ∃ a xs, x = .ref a ∧ SqT K H a xs ∧
  (HT.sIx xs.length 0 lo = 0 ∧ HT.sIx xs.length xs.length hi = xs.length → Q (.ref a) H) ∧ (¬ (HT.sIx xs.length 0 lo = 0 ∧ HT.sIx xs.length xs.length hi = xs.length) → NewT H (cutV xs lo hi) Q)
theorem sl_tupF : SlR X (rSlF X.K) := by
  intro pins s σ H x v vl vu lo hi sl Q I rx hs pl pu h
  obtain ⟨a, xs, rfl, hx, q1, q2⟩ := h
  cases rx
  obtain ⟨its, r, ht, hz⟩ := I.tuple hx
  have hlen : its.toArray.size = xs.length := by rw [List.size_toArray]; exact r.length.symm
  refine ⟨"tuple", _, PyProof.Rows.slot_tuple_getitem.lookup, ht.typeIs, ?_⟩
  by_cases hw : HT.sIx xs.length 0 lo = 0 ∧ HT.sIx xs.length xs.length hi = xs.length
  · exact getItem_tuple_whole ht hs pl pu (by rw [hlen]; exact hw) ⟨.ref a, H, I, rfl, q1 hw⟩
  · refine HT.getItem_tuple_cut ht hs pl pu (by rw [hlen]; exact hw) ?_ (by rw [hlen]; exact hz)
    rw [hlen]
    exact tup_done I (Nat.le_trans (cutV_length xs lo hi) hz) ((r.drop (HT.sIx xs.length 0 lo)).take (HT.sIx xs.length xs.length hi - HT.sIx xs.length 0 lo)) (q2 hw)
/-- a method of such a tuple -/
def tTM (r : V → List V → Hp → VK → Prop) (to : TE) (t : TA) : TE := fun σ H Q => to σ H fun x H1 => (∃ a ys, x = .ref a ∧ TupAt H1 a ys) ∧ t σ H1 fun xs H2 => r x xs H2 Q
theorem pe_tm {o e : Expr} {es : List Expr} {to : TE} {t : TA} {name : Str} {apos cpos : Pos} {id : String} {r : V → List V → Hp → VK → Prop} (pa : PlainAttrs "tuple") (slot : Slot "tuple" name id) (hty : typeOf (.builtin id) = pure (.type "method_descriptor")) (hm : MtR X id r) (ho : PE X o to) (ha : PA X (e :: es) t)
    (hbase : attributeBase o name X.env (eval o X.env) = eval o X.env := by rfl)
    (hfew : ((backTo cpos (starEach (e :: es) X.env)).all (fun x => !x.1) && (backToKw cpos (keywordEach [] X.env)).all (fun x => x.1.isSome)
      && decide ((e :: es).length + ([] : List Keyword).length + (if ([] : List Keyword).isEmpty then 0 else 1) < 30)) = true := by rfl)
    (hline : (apos.endLine == cpos.line) = true := by rfl) (hs : starEach (e :: es) X.env = (false, eval e X.env) :: starEach es X.env := by rfl) (hplain : (backTo cpos (starEach es X.env)).any (·.1) = false := by rfl) :
    PE X (.Call (.Attribute o name apos) (e :: es) [] cpos) (tTM r to t) := by
  refine ⟨fun pins s σ H Q I h => ?_⟩
  refine wpAny_Call_method_late hbase hfew hline rfl (thn (ho.run pins s σ H _ I h) fun v s1 ⟨x, H1, I1, r1, ty, q1⟩ => ?_)
  obtain ⟨a, ys, rfl, ob, hob, hdn⟩ := ty
  cases r1
  obtain ⟨hg, _, its, _, ⟨ob', hg', hc, _⟩⟩ := (show ObjOk X.prog X.w H1 s1.heap a (.frz ob (.tup ys)) from I1.hok a _ hob)
  rw [hg] at hg'
  cases hg'
  refine ⟨"tuple", id, pa, slot, hty, ⟨_, hg, hc⟩, fun b e => by cases e; exact ⟨_, hg, hdn⟩, ?_⟩
  have hA := ha.run cpos pins s1 σ H1 _ I1 q1
  rw [hs] at hA ⊢
  refine Calls.callWith_builtin (by show (false || (backTo cpos (starEach es X.env)).any (·.1)) = false; rw [hplain] <;> rfl) (Calls.evalArgs_plain ?_)
  exact thn hA fun us s2 ⟨vs, H2, I2, r2, q2⟩ => hm pins s2 σ H2 (.ref a) vs (.ref a) us Q I2 rfl r2 q2
theorem mt_tup_ix : MtR X "tuple.index" (fun x xs H Q => ∃ (p : Addr) (ys : List V) (y : V) (j : Nat) (z : V), x = .ref p ∧ xs = [y] ∧ SqT X.K H p ys ∧ flatV y = true ∧ ys.all flatV = true ∧ ys[j]? = some z ∧ eqV z y = true ∧ (∀ (m : Nat) (z' : V), m < j → ys[m]? = some z' → eqV z' y = false) ∧ Q (.int (j : Nat)) H) := by
  intro pins s σ H x xs v us Q I rx rs h
  obtain ⟨p, ys, y, j, z, rfl, rfl, hq, fy, fys, hy, hzy, hno, q⟩ := h
  cases rx
  obtain ⟨u, rfl, ru⟩ := vals1 rs
  obtain ⟨its, r, pl, hz⟩ := I.tuple hq
  obtain ⟨⟨cls, dd, dt, sl⟩, ho, hc, n, hd⟩ := pl
  simp only at hc hd
  subst hc
  subst hd
  have hl : its.toArray.size = ys.length := by rw [List.size_toArray, ← r.length]
  have hj : j < its.toArray.size := by rw [hl]; exact (List.getElem?_eq_some_iff.mp hy).1
  have at' : ∀ (m : Nat) (hm : m < its.toArray.size), ∃ z', ys[m]? = some z' ∧ eqU y its.toArray[m] = eqV z' y := fun m hm => by
    have hm' : m < ys.length := by rw [← hl]; exact hm
    obtain ⟨w, hw, hr⟩ := r.get (i := m) (x := ys[m]) (by simp [hm'])
    refine ⟨ys[m], List.getElem?_eq_getElem hm', ?_⟩
    have e := (List.getElem?_eq_some_iff.mp hw).2
    have e2 : its.toArray[m] = w := by rw [← e]; simp
    rw [e2]
    exact eqU_of hr (flat_at fys (List.getElem?_eq_getElem hm'))
  refine call_meets PySem.F.slot_tuple_index ⟨_, ho, rfl⟩ PySem.F.entry_tuple_index (PySem.F.args_tuple_index_2 _ _) (_root_.TI.tuple_indexAt p its.toArray n dd sl u (eqU y) j hj ?_ ?_)
    ⟨ho, fun w hw => mem_eqAt ru fy r fys w (by simpa using hw), ⟨.int (j : Nat), H, I.tok _, ⟨_, rfl⟩, q⟩⟩
  · obtain ⟨z', h1, h2⟩ := at' j hj
    rw [hy] at h1
    cases h1
    rw [h2]
    exact hzy
  · intro m hm hmj
    obtain ⟨z', h1, h2⟩ := at' m hm
    rw [h2]
    exact hno m z' hmj h1
end

/-! ## values apart from the heap: what stands, what is done to it -/
inductive PV where
  | non | bl (b : Bool) | int (i : Int) | str (x : Str) | orc
  | tup (xs : List PV) | lst (xs : List PV) | dct (ks : List Key) (xs : List PV) | tupw (xs : List PV)
  | hs (names signs : List Str) (kd : List (Str × MD))
  | rg (lo hi : Int) | dcn (ks : List PV) (xs : List PV)
/-- what a def's run goes by: the class of houses, the errors' classes, the row -/
structure Zn where
  C : Addr
  ex : String → Addr
  row : Option (Addr × Addr × List Int)
  w : World
  tabs : List (Addr × Str)
/-- the class of houses, and the world -/
structure ZC (Z : Zn) (C : Addr) (w : World) : Prop where
  c : Z.C = C
  w : Z.w = w
def isRow (Z : Zn) (b : Addr) : Prop := ∃ a ns, Z.row = some (b, a, ns)
/-- what may change at any time: the row, the tables of code objects -/
def isEx (Z : Zn) (b : Addr) : Prop := isRow Z b ∨ ∃ q, (b, q) ∈ Z.tabs
/-- a house that stands -/
structure HsOk (names signs : List Str) (kd : List (Str × MD)) : Prop where
  part : housePart names signs kd = none
  fine : ∀ q ∈ kd, q.2.fine
  keys : kd.map (·.1) = names
  nd : names.Nodup
  sm : ∀ z ∈ names, z.length ≤ 1000
  sg : ∀ z ∈ signs, z.length ≤ 1000
/-! dicts whose keys are tuples of data, nested -/
mutual
def nkP : PV → NestedKey
  | .bl b => .num (if b = true then 1 else 0)
  | .int i => .num i
  | .str x => .text x
  | .tup xs => .tup (nkPs xs)
  | _ => .none
def nkPs : List PV → List NestedKey
  | [] => []
  | x :: xs => nkP x :: nkPs xs
end
mutual
def isK : PV → Bool
  | .non => true
  | .bl _ => true
  | .int _ => true
  | .str _ => true
  | .tup xs => isKs xs
  | _ => false
def isKs : List PV → Bool
  | [] => true
  | x :: xs => isK x && isKs xs
end
abbrev NEn := NestedKey × Addr × Value
def nEntry (w : World) (x : NEn) : DictEntry := ⟨x.1.hash w, .ref x.2.1, x.2.2⟩
/-- what stands at a: a dict with these entries -/
def ndO (w : World) (a : Addr) (es : List NEn) : HO := .ext fun h => es.length ≤ sizeLine ∧ (a == sysModules) = false ∧ (es.map (·.1)).Nodup ∧ ∃ o en ep, h.get? a = some o ∧ o.ExactDict ∧ o.data = .dict en ep ∧ en.toList = es.map (nEntry w)
mutual
def Den (Z : Zn) (B : Hp) : PV → V → Prop
  | .non, v => v = .non
  | .bl b, v => v = .bl b
  | .int i, v => v = .int i
  | .str x, v => v = .str x
  | .orc, v => ∃ p, v = .ref p ∧ isRow Z p
  | .tup xs, v => ∃ a ys, v = .ref a ∧ TupAt B a ys ∧ DenL Z B xs ys
  | .tupw xs, v => ∃ a ys, v = .ref a ∧ B a = some (.tup ys) ∧ DenL Z B xs ys
  | .lst xs, v => ∃ a ys, v = .ref a ∧ B a = some (.lst ys) ∧ DenL Z B xs ys
  | .dct ks xs, v => ∃ a kvs, v = .ref a ∧ B a = some (.dK kvs) ∧ kvs.map (·.1) = ks ∧ DenL Z B xs (kvs.map (·.2))
  | .hs ns ss kd, v => ∃ a, v = .ref a ∧ HouseAt Z.C B a ns ss kd ∧ HsOk ns ss kd
  | .rg lo hi, v => ∃ a, v = .ref a ∧ B a = some (.rng lo hi)
  | .dcn ks xs, v => ∃ a es vs, v = .ref a ∧ B a = some (ndO Z.w a es) ∧ es.map (·.1) = nkPs ks ∧ isKs ks = true ∧ (∀ k ∈ ks, (∃ ys, k = .tup ys) ∧ (nkP k).depth ≤ 8) ∧ DenL Z B ks (es.map fun e => .ref e.2.1) ∧ Paired RelV vs (es.map (·.2.2)) ∧ DenL Z B xs vs
def DenL (Z : Zn) (B : Hp) : List PV → List V → Prop
  | [], ys => ys = []
  | x :: xs, ys => ∃ y r, ys = y :: r ∧ Den Z B x y ∧ DenL Z B xs r
end
section
variable {Z : Zn} {B B' : Hp}
mutual
theorem Den.mono (s : Same B B') : ∀ {p : PV} {v : V}, Den Z B p v → Den Z B' p v
  | .non, _, h => h
  | .bl _, _, h => h
  | .int _, _, h => h
  | .str _, _, h => h
  | .orc, _, h => h
  | .tup xs, _, h => by
    obtain ⟨a, ys, e, h1, h2⟩ := h
    exact ⟨a, ys, e, h1.same s, DenL.mono s h2⟩
  | .tupw xs, _, h => by
    obtain ⟨a, ys, e, h1, h2⟩ := h
    exact ⟨a, ys, e, s _ _ h1, DenL.mono s h2⟩
  | .lst xs, _, h => by
    obtain ⟨a, ys, e, h1, h2⟩ := h
    exact ⟨a, ys, e, s _ _ h1, DenL.mono s h2⟩
  | .dct ks xs, _, h => by
    obtain ⟨a, ys, e, h1, h2, h3⟩ := h
    exact ⟨a, ys, e, s _ _ h1, h2, DenL.mono s h3⟩
  | .hs ns ss kd, _, h => by
    obtain ⟨a, e, h1, h2⟩ := h
    exact ⟨a, e, h1.same s, h2⟩
  | .rg lo hi, _, h => by
    obtain ⟨a, e, h1⟩ := h
    exact ⟨a, e, s _ _ h1⟩
  | .dcn ks xs, _, h => by
    obtain ⟨a, es, vs, e, h1, h2, h3, h4, h5, h6, h7⟩ := h
    exact ⟨a, es, vs, e, s _ _ h1, h2, h3, h4, DenL.mono s h5, h6, DenL.mono s h7⟩
theorem DenL.mono (s : Same B B') : ∀ {xs : List PV} {ys : List V}, DenL Z B xs ys → DenL Z B' xs ys
  | [], _, h => h
  | x :: xs, _, h => by
    obtain ⟨y, r, e, h1, h2⟩ := h
    exact ⟨y, r, e, Den.mono s h1, DenL.mono s h2⟩
end
theorem DenL.pair : ∀ {xs : List PV} {ys : List V}, DenL Z B xs ys → Paired (Den Z B) xs ys
  | [], _, h => by
    obtain rfl : _ = [] := h
    exact .nil
  | x :: xs, _, h => by
    obtain ⟨y, r, rfl, h1, h2⟩ := h
    exact .cons h1 (DenL.pair h2)
theorem DenL.of : ∀ {xs : List PV} {ys : List V}, Paired (Den Z B) xs ys → DenL Z B xs ys
  | _, _, .nil => rfl
  | _, _, .cons h t => ⟨_, _, rfl, h, DenL.of t⟩
theorem DenL.len {xs : List PV} {ys : List V} (h : DenL Z B xs ys) : xs.length = ys.length := paired_len h.pair
theorem DenL.app {xs xs' : List PV} {ys ys' : List V} (h : DenL Z B xs ys) (h' : DenL Z B xs' ys') : DenL Z B (xs ++ xs') (ys ++ ys') := by
  induction xs generalizing ys with
  | nil =>
    obtain rfl : ys = [] := h
    exact h'
  | cons x xs ih =>
    obtain ⟨y, r, rfl, h1, h2⟩ := h
    exact ⟨y, r ++ ys', rfl, h1, ih h2⟩
theorem DenL.get : ∀ {xs : List PV} {ys : List V} {i : Nat} {p : PV}, DenL Z B xs ys → xs[i]? = some p → ∃ v, ys[i]? = some v ∧ Den Z B p v
  | [], _, _, _, _, e => by cases e
  | x :: xs, _, 0, p, h, e => by
    obtain ⟨y, r, rfl, h1, h2⟩ := h
    cases e
    exact ⟨y, rfl, h1⟩
  | x :: xs, _, i + 1, p, h, e => by
    obtain ⟨y, r, rfl, h1, h2⟩ := h
    exact DenL.get (i := i) h2 e
theorem DenL.get' {xs : List PV} {ys : List V} {i : Nat} {v : V} (h : DenL Z B xs ys) (e : ys[i]? = some v) : ∃ p, xs[i]? = some p ∧ Den Z B p v := by
  have hi := (List.getElem?_eq_some_iff.mp e).1
  have hi' : i < xs.length := by rw [h.len]; exact hi
  obtain ⟨w, ew, hw⟩ := h.get (List.getElem?_eq_getElem hi')
  rw [e] at ew
  cases ew
  exact ⟨_, List.getElem?_eq_getElem hi', hw⟩
theorem DenL.cut {xs : List PV} {ys : List V} (h : DenL Z B xs ys) (m n : Nat) : DenL Z B ((xs.drop m).take n) ((ys.drop m).take n) := by
  have ht : ∀ {xs : List PV} {ys : List V} (n : Nat), DenL Z B xs ys → DenL Z B (xs.take n) (ys.take n) := by
    intro xs
    induction xs with
    | nil =>
      intro ys n h
      obtain rfl : ys = [] := h
      rw [List.take_nil, List.take_nil]
      exact rfl
    | cons x xs ih =>
      intro ys n h
      obtain ⟨y, r, rfl, h1, h2⟩ := h
      cases n with
      | zero => exact rfl
      | succ n => exact ⟨y, _, rfl, h1, ih n h2⟩
  have hd : ∀ {xs : List PV} {ys : List V} (n : Nat), DenL Z B xs ys → DenL Z B (xs.drop n) (ys.drop n) := by
    intro xs
    induction xs with
    | nil =>
      intro ys n h
      obtain rfl : ys = [] := h
      rw [List.drop_nil, List.drop_nil]
      exact rfl
    | cons x xs ih =>
      intro ys n h
      obtain ⟨y, r, rfl, h1, h2⟩ := h
      cases n with
      | zero => exact ⟨y, r, rfl, h1, h2⟩
      | succ n => exact ih n h2
  exact ht n (hd m h)
theorem DenL.set {xs : List PV} {ys : List V} (h : DenL Z B xs ys) (i : Nat) {p : PV} {v : V} (hp : Den Z B p v) : DenL Z B (xs.set i p) (ys.set i v) := by
  induction xs generalizing ys i with
  | nil =>
    obtain rfl : ys = [] := h
    exact rfl
  | cons x xs ih =>
    obtain ⟨y, r, rfl, h1, h2⟩ := h
    cases i with
    | zero => exact ⟨v, r, rfl, hp, h2⟩
    | succ i => exact ⟨y, r.set i v, rfl, h1, ih h2 i⟩
theorem DenL.erase {xs : List PV} {ys : List V} (h : DenL Z B xs ys) (i : Nat) : DenL Z B (xs.eraseIdx i) (ys.eraseIdx i) := by
  induction xs generalizing ys i with
  | nil =>
    obtain rfl : ys = [] := h
    exact rfl
  | cons x xs ih =>
    obtain ⟨y, r, rfl, h1, h2⟩ := h
    cases i with
    | zero => exact h2
    | succ i => exact ⟨y, r.eraseIdx i, rfl, h1, ih h2 i⟩
end
/-! ### runs: what is wished behind them -/
structure Ex where
  c : String
  fs : List (Str × V)
structure M (α : Type) where
  run : (α → Prop) → (Ex → Prop) → Prop
  mono : ∀ {Q Q' : α → Prop} {E E' : Ex → Prop}, (∀ a, Q a → Q' a) → (∀ e, E e → E' e) → run Q E → run Q' E'
instance : Monad M where
  pure a := ⟨fun Q _ => Q a, fun h _ q => h _ q⟩
  bind x f := ⟨fun Q E => x.run (fun a => (f a).run Q E) E, fun h1 h2 q => x.mono (fun a qa => (f a).mono h1 h2 qa) h2 q⟩
instance : LawfulMonad M := LawfulMonad.mk' M (fun _ => rfl) (fun _ _ => rfl) (fun _ _ _ => rfl)
def M.fail {α : Type} : M α := ⟨fun _ _ => False, fun _ _ q => q⟩
def M.ask (p : Prop) : M Unit := ⟨fun Q _ => p ∧ Q (), fun h _ q => ⟨q.1, h _ q.2⟩⟩
def M.any {α : Type} (S : α → Prop) : M α := ⟨fun Q _ => ∀ a, S a → Q a, fun h _ q a s => h _ (q a s)⟩
def M.throw {α : Type} (x : Ex) : M α := ⟨fun _ E => E x, fun _ h q => h _ q⟩
theorem M.ext {α : Type} {x y : M α} (h : ∀ Q E, x.run Q E ↔ y.run Q E) : x = y := by
  obtain ⟨f, _⟩ := x
  obtain ⟨g, _⟩ := y
  have : f = g := funext fun Q => funext fun E => propext (h Q E)
  subst this
  rfl
theorem run_bind {α β : Type} (x : M α) (f : α → M β) (Q : β → Prop) (E : Ex → Prop) : (x >>= f).run Q E = x.run (fun a => (f a).run Q E) E := rfl
theorem run_pure {α : Type} (a : α) (Q : α → Prop) (E : Ex → Prop) : (pure a : M α).run Q E = Q a := rfl
theorem run_ask (p : Prop) (Q : Unit → Prop) (E : Ex → Prop) : (M.ask p).run Q E = (p ∧ Q ()) := rfl
theorem run_any {α : Type} (S : α → Prop) (Q : α → Prop) (E : Ex → Prop) : (M.any S).run Q E = ∀ a, S a → Q a := rfl
theorem run_throw {α : Type} (x : Ex) (Q : α → Prop) (E : Ex → Prop) : (M.throw x : M α).run Q E = E x := rfl
theorem run_fail {α : Type} (Q : α → Prop) (E : Ex → Prop) : (M.fail : M α).run Q E = False := rfl
theorem ask_true {p : Prop} (h : p) : M.ask p = pure () := M.ext fun Q E => ⟨fun q => q.2, fun q => ⟨h, q⟩⟩
theorem fail_bind {α β : Type} (f : α → M β) : (M.fail >>= f) = M.fail := M.ext fun Q E => Iff.rfl
theorem throw_bind {α β : Type} (x : Ex) (f : α → M β) : (M.throw x >>= f) = M.throw x := M.ext fun Q E => Iff.rfl

/-! ### slots, results, steps of the heap -/
inductive Sl where
  | un | val (p : PV) | own (p : PV)
abbrev En := List Sl
inductive Rs where
  | val (p : PV) | own (p : PV) | bor (p : PV)
def Rs.pv : Rs → PV
  | .val p => p
  | .own p => p
  | .bor p => p
def OwnAt (Z : Zn) (B H : Hp) (a : Addr) : PV → Prop
  | .lst xs => ∃ ys, H a = some (.lst ys) ∧ DenL Z B xs ys
  | .dct ks xs => ∃ kvs, H a = some (.dK kvs) ∧ kvs.map (·.1) = ks ∧ DenL Z B xs (kvs.map (·.2))
  | .dcn ks xs => ∃ es vs, H a = some (ndO Z.w a es) ∧ es.map (·.1) = nkPs ks ∧ isKs ks = true ∧ (∀ k ∈ ks, (∃ ys, k = .tup ys) ∧ (nkP k).depth ≤ 8) ∧ DenL Z B ks (es.map fun e => .ref e.2.1) ∧ Paired RelV vs (es.map (·.2.2)) ∧ DenL Z B xs vs
  | _ => False
def SlAt (Z : Zn) (B H : Hp) : Sl → Option V → Prop
  | .un, _ => True
  | .val p, o => ∃ v, o = some v ∧ Den Z B p v
  | .own p, o => ∃ a, o = some (.ref a) ∧ B a = none ∧ ¬ isEx Z a ∧ OwnAt Z B H a p
def RsAt (Z : Zn) (B H0 H : Hp) : Rs → V → Prop
  | .val p, v => Den Z B p v
  | .own p, v => ∃ a, v = .ref a ∧ H0 a = none ∧ B a = none ∧ ¬ isEx Z a ∧ OwnAt Z B H a p
  | .bor p, v => ∃ a, v = .ref a ∧ B a = none ∧ ¬ isEx Z a ∧ OwnAt Z B H a p
structure RowOk (Z : Zn) (K : PySem.W.Frag) (B H : Hp) : Prop where
  row : ∀ p a ns, Z.row = some (p, a, ns) → Row K H p a ns ∧ B p = none
  tab : ∀ p ∈ Z.tabs, LamX.TabS H p.1 p.2 ∧ B p.1 = none
structure Step (Z : Zn) (K : PySem.W.Frag) (B H B' H' : Hp) : Prop where
  b : Same B B'
  n : ∀ a o, B' a = some o → B a = some o ∨ H a = none
  h : ∀ a o, H a = some o → ¬ isEx Z a → H' a = some o
  s : Same B' H'
  r : RowOk Z K B' H'
structure Rp (Z : Zn) (K : PySem.W.Frag) (B : Hp) (e : En) (σ : L2.St) (H : Hp) : Prop where
  sub : Same B H
  sl : Paired (SlAt Z B H) e σ
  ap : ∀ (i j : Nat) (p q : PV) (a : Addr), i ≠ j → e[i]? = some (.own p) → e[j]? = some (.own q) → σ[i]? = some (some (.ref a)) → σ[j]? ≠ some (some (.ref a))
  row : RowOk Z K B H
section
variable {Z : Zn} {K : PySem.W.Frag} {B H B' H' B2 H2 : Hp} {e : En} {σ : L2.St}
theorem RowOk.ne (r : RowOk Z K B H) {a : Addr} (h : H a = none) : ¬ isEx Z a := fun z => by
  rcases z with ⟨s, ns, q⟩ | ⟨q, z⟩
  · obtain ⟨R, _⟩ := r.row _ _ _ q
    exact R.there h rfl
  · obtain ⟨⟨ps, h1, _⟩, _⟩ := r.tab _ z
    rw [h] at h1
    cases h1
theorem Step.refl (s : Same B H) (r : RowOk Z K B H) : Step Z K B H B H := ⟨Same.refl B, fun _ _ q => .inl q, fun _ _ q _ => q, s, r⟩
theorem Step.nil_ (s : Step Z K B H B' H') (r : RowOk Z K B H) {a : Addr} (n : H' a = none) : H a = none := by
  cases q : H a with
  | none => rfl
  | some o =>
    have : H' a = some o := s.h a o q fun z => s.r.ne n z
    rw [n] at this
    cases this
theorem Step.noneB (s : Step Z K B H B' H') {a : Addr} {o : HO} (q : H a = some o) (n : B a = none) : B' a = none := by
  cases z : B' a with
  | none => rfl
  | some u =>
    rcases s.n a u z with h | h
    · rw [n] at h
      cases h
    · rw [q] at h
      cases h
theorem Step.trans (s : Step Z K B H B' H') (r : RowOk Z K B H) (t : Step Z K B' H' B2 H2) : Step Z K B H B2 H2 :=
  ⟨s.b.trans t.b, fun a o q => (t.n a o q).elim (fun q => s.n a o q) fun q => .inr (s.nil_ r q), fun a o q n => t.h a o (s.h a o q n) n, t.s, t.r⟩
theorem Step.own {p : Addr} {o : HO} (s : Same B H) (r : RowOk Z K B H) (n : H p = .none) : Step Z K B H B (upd H p o) :=
  ⟨Same.refl B, fun _ _ q => .inl q, fun a u q _ => (upd_ne (ne_of_none q n)).trans q, fun a u q => (upd_ne (ne_of_none (s _ _ q) n)).trans (s _ _ q), ⟨fun a b ns e => ⟨(r.row a b ns e).1.new n, (r.row a b ns e).2⟩, fun q hq => ⟨(r.tab q hq).1.ext fun b o z => (upd_ne (ne_of_none z n)).trans z, (r.tab q hq).2⟩⟩⟩
theorem tab_upd {H : Hp} {P a : Addr} {o : HO} {q : Str} (t : LamX.TabS H P q) (h : (∃ xs, H a = .some (.lst xs)) ∨ ∃ xs, H a = .some (.dK xs)) : LamX.TabS (upd H a o) P q := by
  obtain ⟨ps, h1, h2, h3⟩ := t
  have np : P ≠ a := fun z => by
    rw [z] at h1
    rcases h with ⟨xs, h⟩ | ⟨xs, h⟩ <;> rw [h] at h1 <;> cases h1
  refine ⟨ps, (upd_ne np).trans h1, h2, fun pos cv hc => ?_⟩
  obtain ⟨c, e, h4⟩ := h3 pos cv hc
  have nc : c ≠ a := fun z => by
    rw [z] at h4
    rcases h with ⟨xs, h⟩ | ⟨xs, h⟩ <;> rw [h] at h4 <;> cases h4
  exact ⟨c, e, (upd_ne nc).trans h4⟩
theorem none_sub (s : Same B H) {p : Addr} (n : H p = none) : B p = none := s.free n
theorem Step.put {p : Addr} {o : HO} (s : Same B H) (r : RowOk Z K B H) (n : H p = .none) : Step Z K B H (upd B p o) (upd H p o) := by
  have nb := none_sub s n
  refine ⟨fun a u q => (upd_ne (ne_of_none q nb)).trans q, fun a u q => ?_, fun a u q _ => (upd_ne (ne_of_none q n)).trans q, fun a u q => ?_, ⟨fun a b ns e => ⟨(r.row a b ns e).1.new n, ?_⟩, fun q hq => ⟨(r.tab q hq).1.ext fun b o z => (upd_ne (ne_of_none z n)).trans z, ?_⟩⟩⟩
  · by_cases z : a = p
    · exact .inr (z ▸ n)
    · rw [upd_ne z] at q
      exact .inl q
  · by_cases z : a = p
    · rw [z, upd_same] at q
      rw [z, upd_same, q]
    · rw [upd_ne z] at q
      rw [upd_ne z]
      exact s _ _ q
  · have z : a ≠ p := fun z => (r.row a b ns e).1.there n z.symm
    rw [upd_ne z]
    exact (r.row a b ns e).2
  · have z : q.1 ≠ p := fun z => by
      obtain ⟨⟨ps, h1, _⟩, _⟩ := r.tab q hq
      rw [z, n] at h1
      cases h1
    rw [upd_ne z]
    exact (r.tab q hq).2
theorem OwnAt.there {a : Addr} {p : PV} (h : OwnAt Z B H a p) : ∃ o, H a = some o := by
  cases p with
  | lst xs => exact ⟨_, h.choose_spec.1⟩
  | dct ks xs => exact ⟨_, h.choose_spec.1⟩
  | dcn ks xs =>
    obtain ⟨es, vs, q, _⟩ := h
    exact ⟨_, q⟩
  | _ => exact h.elim
theorem OwnAt.mono {a : Addr} {p : PV} (h : OwnAt Z B H a p) (s : Same B B') (k : ∀ o, H a = .some o → H' a = .some o) : OwnAt Z B' H' a p := by
  cases p with
  | lst xs =>
    obtain ⟨ys, h1, h2⟩ := h
    exact ⟨ys, k _ h1, h2.mono s⟩
  | dct ks xs =>
    obtain ⟨ys, h1, h2, h3⟩ := h
    exact ⟨ys, k _ h1, h2, h3.mono s⟩
  | dcn ks xs =>
    obtain ⟨es, vs, h1, h2, h3, h4, h5, h6, h7⟩ := h
    exact ⟨es, vs, k _ h1, h2, h3, h4, h5.mono s, h6, h7.mono s⟩
  | _ => exact h.elim
theorem OwnAt.step {a : Addr} {p : PV} (h : OwnAt Z B H a p) (n : ¬ isEx Z a) (s : Step Z K B H B' H') : OwnAt Z B' H' a p := h.mono s.b fun o q => s.h a o q n
theorem SlAt.step {x : Sl} {o : Option V} (h : SlAt Z B H x o) (s : Step Z K B H B' H') : SlAt Z B' H' x o := by
  cases x with
  | un => trivial
  | val p =>
    obtain ⟨v, e, h⟩ := h
    exact ⟨v, e, h.mono s.b⟩
  | own p =>
    obtain ⟨a, e, n, nr, h⟩ := h
    obtain ⟨o, q⟩ := h.there
    exact ⟨a, e, s.noneB q n, nr, h.step nr s⟩
theorem Rp.step (R : Rp Z K B e σ H) (s : Step Z K B H B' H') : Rp Z K B' e σ H' := ⟨s.s, L2.Paired.mapP R.sl fun _ _ q => q.step s, R.ap, s.r⟩
theorem RsAt.step {H0 : Hp} {x : Rs} {v : V} (h : RsAt Z B H0 H x v) (s : Step Z K B H B' H') : RsAt Z B' H0 H' x v := by
  cases x with
  | val p => exact Den.mono s.b h
  | own p =>
    obtain ⟨a, e, n0, n, nr, h⟩ := h
    obtain ⟨o, q⟩ := h.there
    exact ⟨a, e, n0, s.noneB q n, nr, h.step nr s⟩
  | bor p =>
    obtain ⟨a, e, n, nr, h⟩ := h
    obtain ⟨o, q⟩ := h.there
    exact ⟨a, e, s.noneB q n, nr, h.step nr s⟩
theorem RsAt.back {H0 H1 : Hp} {x : Rs} {v : V} (h : RsAt Z B H1 H x v) (k : ∀ a, H1 a = none → H0 a = none) : RsAt Z B H0 H x v := by
  cases x with
  | val p => exact h
  | own p =>
    obtain ⟨a, e, n0, n, nr, h⟩ := h
    exact ⟨a, e, k a n0, n, nr, h⟩
  | bor p => exact h
/-- nothing is asked of its age -/
abbrev HasAt (Z : Zn) (B H : Hp) (x : Rs) (v : V) : Prop := RsAt Z B (fun _ => none) H x v
theorem RsAt.has {H0 : Hp} {x : Rs} {v : V} (h : RsAt Z B H0 H x v) : HasAt Z B H x v := h.back fun _ _ => rfl
theorem HasAt.lst {x : Rs} {v : V} {xs : List PV} (s : Same B H) (h : HasAt Z B H x v) (e : x.pv = .lst xs) : ∃ a ys, v = .ref a ∧ H a = some (.lst ys) ∧ DenL Z B xs ys := by
  cases x with
  | val p =>
    obtain rfl : p = .lst xs := e
    obtain ⟨a, ys, e, h1, h2⟩ := h
    exact ⟨a, ys, e, s _ _ h1, h2⟩
  | own p =>
    obtain rfl : p = .lst xs := e
    obtain ⟨a, e, _, _, _, ys, h1, h2⟩ := h
    exact ⟨a, ys, e, h1, h2⟩
  | bor p =>
    obtain rfl : p = .lst xs := e
    obtain ⟨a, e, _, _, ys, h1, h2⟩ := h
    exact ⟨a, ys, e, h1, h2⟩
theorem HasAt.dct {x : Rs} {v : V} {ks : List Key} {xs : List PV} (s : Same B H) (h : HasAt Z B H x v) (e : x.pv = .dct ks xs) : ∃ a kvs, v = .ref a ∧ H a = some (.dK kvs) ∧ kvs.map (·.1) = ks ∧ DenL Z B xs (kvs.map (·.2)) := by
  cases x with
  | val p =>
    obtain rfl : p = .dct ks xs := e
    obtain ⟨a, ys, e, h1, h2⟩ := h
    exact ⟨a, ys, e, s _ _ h1, h2⟩
  | own p =>
    obtain rfl : p = .dct ks xs := e
    obtain ⟨a, e, _, _, _, ys, h1, h2⟩ := h
    exact ⟨a, ys, e, h1, h2⟩
  | bor p =>
    obtain rfl : p = .dct ks xs := e
    obtain ⟨a, e, _, _, ys, h1, h2⟩ := h
    exact ⟨a, ys, e, h1, h2⟩
/-- all but lists and dicts of one's own lie in what stays -/
def PV.mut : PV → Bool
  | .lst _ => true
  | .dct _ _ => true
  | .dcn _ _ => true
  | _ => false
theorem HasAt.den {x : Rs} {v : V} (h : HasAt Z B H x v) (n : x.pv.mut = false) : Den Z B x.pv v := by
  cases x with
  | val p => exact h
  | own p =>
    obtain ⟨a, e, _, _, _, h⟩ := h
    cases p with
    | lst xs => cases n
    | dct ks xs => cases n
    | dcn ks xs => cases n
    | _ => exact h.elim
  | bor p =>
    obtain ⟨a, e, _, _, h⟩ := h
    cases p with
    | lst xs => cases n
    | dct ks xs => cases n
    | dcn ks xs => cases n
    | _ => exact h.elim
/-- an own object is kept for good -/
theorem OwnAt.freeze {a : Addr} {p : PV} (s : Same B H) (r : RowOk Z K B H) (nb : B a = none) (nr : ¬ isEx Z a) (h : OwnAt Z B H a p) : ∃ o, H a = .some o ∧ Same B (upd B a o) ∧ Same (upd B a o) H ∧ RowOk Z K (upd B a o) H ∧ Den Z (upd B a o) p (.ref a) := by
  obtain ⟨o, q⟩ := h.there
  have s1 : Same B (upd B a o) := fun b u z => (upd_ne (ne_of_none z nb)).trans z
  refine ⟨o, q, s1, fun b u z => ?_, ⟨fun p' b ns e => ⟨(r.row p' b ns e).1, ?_⟩, fun q' hq => ⟨(r.tab q' hq).1, ?_⟩⟩, ?_⟩
  · by_cases z2 : b = a
    · rw [z2, upd_same] at z
      rw [z2, q, z]
    · rw [upd_ne z2] at z
      exact s _ _ z
  · have z : p' ≠ a := fun z => nr (.inl ⟨b, ns, z ▸ e⟩)
    rw [upd_ne z]
    exact (r.row p' b ns e).2
  · have z : q'.1 ≠ a := fun z => nr (.inr ⟨q'.2, z ▸ hq⟩)
    rw [upd_ne z]
    exact (r.tab q' hq).2
  · cases p with
    | lst xs =>
      obtain ⟨ys, h1, h2⟩ := h
      rw [q] at h1
      cases h1
      exact ⟨a, ys, rfl, upd_same, h2.mono s1⟩
    | dct ks xs =>
      obtain ⟨ys, h1, h2, h3⟩ := h
      rw [q] at h1
      cases h1
      exact ⟨a, ys, rfl, upd_same, h2, h3.mono s1⟩
    | dcn ks xs =>
      obtain ⟨es, vs, h1, h2, h3, h4, h5, h6, h7⟩ := h
      rw [q] at h1
      have h1 := Option.some.inj h1
      subst h1
      exact ⟨a, es, vs, rfl, upd_same, h2, h3, h4, h5.mono s1, h6, h7.mono s1⟩
    | _ => exact h.elim
theorem Step.freeze {p : PV} {v : V} (st : Step Z K B H B' H') (h : RsAt Z B' H H' (.own p) v) : ∃ B2, Step Z K B H B2 H' ∧ Same B' B2 ∧ Den Z B2 p v := by
  obtain ⟨a, rfl, n0, n, nr, h⟩ := h
  obtain ⟨o, q, s1, s2, r2, d⟩ := OwnAt.freeze st.s st.r n nr h
  refine ⟨upd B' a o, ⟨st.b.trans s1, fun b u z => ?_, st.h, s2, r2⟩, s1, d⟩
  by_cases z2 : b = a
  · exact .inr (z2 ▸ n0)
  · rw [upd_ne z2] at z
    exact st.n _ _ z
end

/-! ## expressions over values -/
abbrev ME := En → M Rs
def ExAt (Z : Zn) (x : Ex) (cls : Value) (d : Option Addr) (H : Hp) : Prop :=
  cls = .ref (Z.ex x.c) ∧ ((x.fs = [] ∧ d = none) ∨ (x.fs ≠ [] ∧ ∃ a, d = some a ∧ H a = some (.xd x.fs)))
def ErOk (Z : Zn) (K : PySem.W.Frag) (B H : Hp) (E : Option XK) : Ex → Prop := fun x => match E with
  | none => False
  | some E => ∀ B' cls d H', Step Z K B H B' H' → ExAt Z x cls d H' → E cls d H'
def Post (Z : Zn) (K : PySem.W.Frag) (B H : Hp) (Q : VK) : Rs → Prop := fun r => ∀ B' v H', Step Z K B H B' H' → RsAt Z B' H H' r v → Q v H'
def up (Z : Zn) (K : PySem.W.Frag) (E : Option XK) (m : ME) : TE := fun σ H Q => ∃ B e, Rp Z K B e σ H ∧ (m e).run (Post Z K B H Q) (ErOk Z K B H E)
def upT (Z : Zn) (K : PySem.W.Frag) (E : Option XK) (m : En → M Bool) : TT := fun σ H Q => ∃ B e, Rp Z K B e σ H ∧ (m e).run (fun b => ∀ B' H', Step Z K B H B' H' → Q b H') (ErOk Z K B H E)
/-- arguments, kept for good -/
def upA (Z : Zn) (K : PySem.W.Frag) (E : Option XK) (m : En → M (List PV)) : TA := fun σ H Q => ∃ B e, Rp Z K B e σ H ∧ (m e).run (fun ps => ∀ B' vs H', Step Z K B H B' H' → DenL Z B' ps vs → Q vs H') (ErOk Z K B H E)
def HasL (Z : Zn) (B H : Hp) : List Rs → List V → Prop := Paired (HasAt Z B H)
/-- arguments, looked at alone -/
def upP (Z : Zn) (K : PySem.W.Frag) (E : Option XK) (m : En → M (List Rs)) : TA := fun σ H Q => ∃ B e, Rp Z K B e σ H ∧ (m e).run (fun rs => ∀ B' vs H', Step Z K B H B' H' → HasL Z B' H' rs vs → Q vs H') (ErOk Z K B H E)
section
variable {Z : Zn} {K : PySem.W.Frag} {E : Option XK} {B H B' H' : Hp} {e : En} {σ : L2.St}
theorem ErOk.step (r : RowOk Z K B H) (s : Step Z K B H B' H') {x : Ex} (h : ErOk Z K B H E x) : ErOk Z K B' H' E x := by
  cases E with
  | none => exact h
  | some E => exact fun B2 cls d H2 t q => h B2 cls d H2 (s.trans r t) q
theorem Post.step {Q : VK} (r : RowOk Z K B H) (s : Step Z K B H B' H') {x : Rs} (h : Post Z K B H Q x) : Post Z K B' H' Q x :=
  fun B2 v H2 t q => h B2 v H2 (s.trans r t) (q.back fun _ n => s.nil_ r n)
theorem up_mono {m : ME} {Q Q' : VK} (h : up Z K E m σ H Q) (k : ∀ v H, Q v H → Q' v H) : up Z K E m σ H Q' := by
  obtain ⟨B, e, R, q⟩ := h
  exact ⟨B, e, R, (m e).mono (fun x p B' v H' s a => k _ _ (p B' v H' s a)) (fun _ z => z) q⟩
theorem HasL.step {B2 H2 : Hp} {rs : List Rs} {vs : List V} (h : HasL Z B H rs vs) (s : Step Z K B H B2 H2) : HasL Z B2 H2 rs vs := L2.Paired.mapP h fun _ _ q => q.step s
theorem SlAt.get {xs : En} {ys : L2.St} (h : Paired (SlAt Z B H) xs ys) {i : Nat} {x : Sl} (hx : xs[i]? = some x) : ∃ y, ys[i]? = some y ∧ SlAt Z B H x y := by
  induction h generalizing i with
  | nil => cases hx
  | cons r t ih =>
    cases i with
    | zero =>
      cases hx
      exact ⟨_, rfl, r⟩
    | succ i => exact ih hx
/-! a name -/
def mVar (i : Nat) : ME := fun e => match e[i]? with
  | some (.val p) => pure (.val p)
  | some (.own p) => pure (.bor p)
  | _ => M.fail
theorem r_var {i : Nat} {Q : VK} (h : up Z K E (mVar i) σ H Q) : tVar i σ H Q := by
  obtain ⟨B, e, R, q⟩ := h
  unfold mVar at q
  split at q
  · rename_i p hp
    obtain ⟨o, ho, v, rfl, d⟩ := SlAt.get R.sl hp
    exact ⟨v, ho, q B v H (.refl R.sub R.row) d⟩
  · rename_i p hp
    obtain ⟨o, ho, a, rfl, n, nr, d⟩ := SlAt.get R.sl hp
    exact ⟨_, ho, q B _ H (.refl R.sub R.row) ⟨a, rfl, n, nr, d⟩⟩
  · exact q.elim
/-! constants -/
def mC (p : PV) : ME := fun _ => pure (.val p)
theorem r_c {p : PV} {v : V} {Q : VK} (d : ∀ B, Den Z B p v) (h : up Z K E (mC p) σ H Q) : tC v σ H Q := by
  obtain ⟨B, e, R, q⟩ := h
  exact q B v H (.refl R.sub R.row) (d B)
/-! kept for good -/
def mFz (m : ME) : ME := fun e => do
  match ← m e with
  | .val p => pure (.val p)
  | .own p => pure (.val p)
  | .bor _ => M.fail
theorem r_fz {m : ME} {Q : VK} (h : up Z K E (mFz m) σ H Q) : up Z K E m σ H Q := by
  obtain ⟨B, e, R, q⟩ := h
  refine ⟨B, e, R, (m e).mono (fun x p => ?_) (fun _ z => z) q⟩
  cases x with
  | val p' => exact p
  | own p' =>
    intro B' v H' s a
    obtain ⟨B2, s2, _, d⟩ := s.freeze a
    exact p B2 v H' s2 d
  | bor p' => exact False.elim p
/-! two at once -/
def mBin (op : PV → PV → M Rs) (ma mb : ME) : ME := fun e => do
  let a ← ma e
  let b ← mb e
  op a.pv b.pv
/-- what is asked of an operation -/
def OpOk (Z : Zn) (K : PySem.W.Frag) (E : Option XK) (r : R2) (op : PV → PV → M Rs) : Prop := ∀ (B H : Hp) (a b : Rs) (x y : V) (Q : VK), Same B H → RowOk Z K B H → HasAt Z B H a x → HasAt Z B H b y →
  (op a.pv b.pv).run (Post Z K B H Q) (ErOk Z K B H E) → r x y H Q
theorem r_bin {r : R2} {op : PV → PV → M Rs} {ma mb : ME} {Q : VK} (ho : OpOk Z K E r op) (h : up Z K E (mBin op ma mb) σ H Q) : tOp r (up Z K E ma) (up Z K E mb) σ H Q := by
  obtain ⟨B, e, R, q⟩ := h
  refine ⟨B, e, R, (ma e).mono (fun a p B1 x H1 s1 ha => ?_) (fun _ z => z) q⟩
  refine ⟨B1, e, R.step s1, (mb e).mono (fun b p B2 y H2 s2 hb => ?_) (fun _ z => z.step R.row s1) p⟩
  exact ho B2 H2 a b x y Q s2.s s2.r (ha.has.step s2) hb.has ((op a.pv b.pv).mono (fun _ z => z.step R.row (s1.trans R.row s2)) (fun _ z => z.step R.row (s1.trans R.row s2)) p)
/-! one alone -/
def mUn (op : PV → M Rs) (ma : ME) : ME := fun e => do
  let a ← ma e
  op a.pv
def UnOk (Z : Zn) (K : PySem.W.Frag) (E : Option XK) (r : V → Hp → VK → Prop) (op : PV → M Rs) : Prop := ∀ (B H : Hp) (a : Rs) (x : V) (Q : VK), Same B H → RowOk Z K B H → HasAt Z B H a x →
  (op a.pv).run (Post Z K B H Q) (ErOk Z K B H E) → r x H Q
theorem r_un {r : V → Hp → VK → Prop} {op : PV → M Rs} {ma : ME} {Q : VK} (ho : UnOk Z K E r op) (h : up Z K E (mUn op ma) σ H Q) : up Z K E ma σ H (fun x H1 => r x H1 Q) := by
  obtain ⟨B, e, R, q⟩ := h
  refine ⟨B, e, R, (ma e).mono (fun a p B1 x H1 s1 ha => ?_) (fun _ z => z) q⟩
  exact ho B1 H1 a x Q s1.s s1.r ha.has ((op a.pv).mono (fun _ z => z.step R.row s1) (fun _ z => z.step R.row s1) p)
/-! arguments -/
def mNil : En → M (List PV) := fun _ => pure []
def mCons (m : ME) (r : En → M (List PV)) : En → M (List PV) := fun e => do
  match ← m e with
  | .bor _ => M.fail
  | .val p => do
    let ps ← r e
    pure (p :: ps)
  | .own p => do
    let ps ← r e
    pure (p :: ps)
theorem a_nil {Q : List V → Hp → Prop} (h : upA Z K E mNil σ H Q) : tNil σ H Q := by
  obtain ⟨B, e, R, q⟩ := h
  exact q B [] H (.refl R.sub R.row) rfl
theorem a_cons {m : ME} {r : En → M (List PV)} {Q : List V → Hp → Prop} (h : upA Z K E (mCons m r) σ H Q) : tCons (up Z K E m) (upA Z K E r) σ H Q := by
  obtain ⟨B, e, R, q⟩ := h
  refine ⟨B, e, R, (m e).mono (fun a p B1 x H1 s1 ha => ?_) (fun _ z => z) q⟩
  have fin : ∀ (p : PV) (B2 : Hp), Step Z K B H B2 H1 → Den Z B2 p x → ((do let ps ← r e; pure (p :: ps)) : M (List PV)).run (fun ps => ∀ B' vs H', Step Z K B H B' H' → DenL Z B' ps vs → Q vs H') (ErOk Z K B H E) → upA Z K E r σ H1 (fun xs H2 => Q (x :: xs) H2) := by
    intro p B2 s2 d z
    exact ⟨B2, e, R.step s2, (r e).mono (fun ps k B' vs H' s hv => k B' (x :: vs) H' (s2.trans R.row s) ⟨x, vs, rfl, d.mono s.b, hv⟩) (fun _ z => z.step R.row s2) z⟩
  cases a with
  | val p' => exact fin p' B1 s1 ha p
  | own p' =>
    obtain ⟨B2, s2, _, d⟩ := s1.freeze ha
    exact fin p' B2 s2 d p
  | bor p' => exact False.elim p
def pNil : En → M (List Rs) := fun _ => pure []
def pCons (m : ME) (r : En → M (List Rs)) : En → M (List Rs) := fun e => do
  let x ← m e
  let xs ← r e
  pure (x :: xs)
theorem p_nil {Q : List V → Hp → Prop} (h : upP Z K E pNil σ H Q) : tNil σ H Q := by
  obtain ⟨B, e, R, q⟩ := h
  exact q B [] H (.refl R.sub R.row) .nil
theorem p_cons {m : ME} {r : En → M (List Rs)} {Q : List V → Hp → Prop} (h : upP Z K E (pCons m r) σ H Q) : tCons (up Z K E m) (upP Z K E r) σ H Q := by
  obtain ⟨B, e, R, q⟩ := h
  refine ⟨B, e, R, (m e).mono (fun a p B1 x H1 s1 ha => ?_) (fun _ z => z) q⟩
  exact ⟨B1, e, R.step s1, (r e).mono (fun ps k B' vs H' s hv => k B' (x :: vs) H' (s1.trans R.row s) (.cons (ha.has.step s) hv)) (fun _ z => z.step R.row s1) p⟩
/-- a built-in, by values -/
def mCall (f : List PV → M Rs) (ms : En → M (List Rs)) : ME := fun e => do
  let rs ← ms e
  f (rs.map Rs.pv)
def CaOk (Z : Zn) (K : PySem.W.Frag) (E : Option XK) (r : List V → Hp → VK → Prop) (f : List PV → M Rs) : Prop := ∀ (B H : Hp) (rs : List Rs) (vs : List V) (Q : VK), Same B H → RowOk Z K B H → HasL Z B H rs vs →
  (f (rs.map Rs.pv)).run (Post Z K B H Q) (ErOk Z K B H E) → r vs H Q
theorem r_call {r : List V → Hp → VK → Prop} {f : List PV → M Rs} {ms : En → M (List Rs)} {Q : VK} (ho : CaOk Z K E r f) (h : up Z K E (mCall f ms) σ H Q) : upP Z K E ms σ H (fun vs H1 => r vs H1 Q) := by
  obtain ⟨B, e, R, q⟩ := h
  refine ⟨B, e, R, (ms e).mono (fun rs p B1 vs H1 s1 ha => ?_) (fun _ z => z) q⟩
  exact ho B1 H1 rs vs Q s1.s s1.r ha ((f _).mono (fun _ z => z.step R.row s1) (fun _ z => z.step R.row s1) p)
/-! tuples, lists -/
def mTup (ms : En → M (List PV)) : ME := fun e => do
  let ps ← ms e
  M.ask (ps.length ≤ 1000)
  pure (.val (.tup ps))
theorem r_tup {ms : En → M (List PV)} {Q : VK} (h : up Z K E (mTup ms) σ H Q) : tTupF (upA Z K E ms) σ H Q := by
  obtain ⟨B, e, R, q⟩ := h
  refine ⟨B, e, R, (ms e).mono (fun ps k B1 vs H1 s1 hv => ?_) (fun _ z => z) q⟩
  obtain ⟨k1, k2⟩ := k
  refine ⟨by rw [← hv.len]; exact small_len k1, fun p o n od => ?_⟩
  have s2 := Step.put (o := .frz o (.tup vs)) s1.s s1.r n
  exact k2 _ _ _ (s1.trans R.row s2) ⟨p, vs, rfl, ⟨o, upd_same, od⟩, hv.mono s2.b⟩
def mLst (ms : En → M (List PV)) : ME := fun e => do
  let ps ← ms e
  M.ask (ps.length ≤ 1000)
  pure (.own (.lst ps))
theorem r_lst {ms : En → M (List PV)} {Q : VK} (h : up Z K E (mLst ms) σ H Q) : tLst (upA Z K E ms) σ H Q := by
  obtain ⟨B, e, R, q⟩ := h
  refine ⟨B, e, R, (ms e).mono (fun ps k B1 vs H1 s1 hv => ?_) (fun _ z => z) q⟩
  obtain ⟨k1, k2⟩ := k
  refine ⟨by rw [← hv.len]; exact small_len k1, fun p n => ?_⟩
  have s2 := Step.own (o := .lst vs) s1.s s1.r n
  exact k2 _ _ _ (s1.trans R.row s2) ⟨p, rfl, s1.nil_ R.row n, none_sub s1.s n, s1.r.ne n, vs, upd_same, hv⟩
/-! tests -/
def asB : Rs → M Bool
  | .val (.bl b) => pure b
  | _ => M.fail
def mTst (m : ME) : En → M Bool := fun e => do
  let r ← m e
  asB r
theorem r_tst {m : ME} {Q : Bool → Hp → Prop} (h : upT Z K E (mTst m) σ H Q) : up Z K E m σ H (fun x H' => ∃ k, x = .bl k ∧ Q k H') := by
  obtain ⟨B, e, R, q⟩ := h
  refine ⟨B, e, R, (m e).mono (fun x p B' v H' s a => ?_) (fun _ z => z) q⟩
  cases x with
  | val p' =>
    cases p' with
    | bl b => exact ⟨b, a, p B' H' s⟩
    | _ => exact False.elim p
  | own p' => exact False.elim p
  | bor p' => exact False.elim p
def mNot (c : En → M Bool) : En → M Bool := fun e => do
  let b ← c e
  pure (!b)
def mAnd (c d : En → M Bool) : En → M Bool := fun e => do
  let b ← c e
  if b then d e else pure false
def mOr (c d : En → M Bool) : En → M Bool := fun e => do
  let b ← c e
  if b then pure true else d e
theorem t_not {c : En → M Bool} {Q : Bool → Hp → Prop} (h : upT Z K E (mNot c) σ H Q) : tNot (upT Z K E c) σ H Q := by
  obtain ⟨B, e, R, q⟩ := h
  exact ⟨B, e, R, q⟩
theorem t_and {c d : En → M Bool} {Q : Bool → Hp → Prop} (h : upT Z K E (mAnd c d) σ H Q) : tAnd (upT Z K E c) (upT Z K E d) σ H Q := by
  obtain ⟨B, e, R, q⟩ := h
  refine ⟨B, e, R, (c e).mono (fun b p B1 H1 s1 => ?_) (fun _ z => z) q⟩
  cases b with
  | true => exact ⟨B1, e, R.step s1, (d e).mono (fun b p B2 H2 s2 => p B2 H2 (s1.trans R.row s2)) (fun _ z => z.step R.row s1) p⟩
  | false => exact p B1 H1 s1
theorem t_or {c d : En → M Bool} {Q : Bool → Hp → Prop} (h : upT Z K E (mOr c d) σ H Q) : tOr (upT Z K E c) (upT Z K E d) σ H Q := by
  obtain ⟨B, e, R, q⟩ := h
  refine ⟨B, e, R, (c e).mono (fun b p B1 H1 s1 => ?_) (fun _ z => z) q⟩
  cases b with
  | false => exact ⟨B1, e, R.step s1, (d e).mono (fun b p B2 H2 s2 => p B2 H2 (s1.trans R.row s2)) (fun _ z => z.step R.row s1) p⟩
  | true => exact p B1 H1 s1
/-- .. as values -/
def mAndV (m n : ME) : ME := fun e => do
  let r ← m e
  let b ← asB r
  if b then n e else pure (.val (.bl false))
def mOrV (m n : ME) : ME := fun e => do
  let r ← m e
  let b ← asB r
  if b then pure (.val (.bl true)) else n e
def mNotV (m : ME) : ME := fun e => do
  let r ← m e
  let b ← asB r
  pure (.val (.bl (!b)))
theorem r_next {n : ME} {Q : VK} (R : Rp Z K B e σ H) (s : Step Z K B H B' H') (p : (n e).run (Post Z K B H Q) (ErOk Z K B H E)) : up Z K E n σ H' Q :=
  ⟨B', e, R.step s, (n e).mono (fun _ z => z.step R.row s) (fun _ z => z.step R.row s) p⟩
theorem asB_run {x : Rs} {Q : Bool → Prop} {F : Ex → Prop} (h : (asB x).run Q F) : ∃ b, x = .val (.bl b) ∧ Q b := by
  cases x with
  | val p' =>
    cases p' with
    | bl b => exact ⟨b, rfl, h⟩
    | _ => exact False.elim h
  | own p' => exact False.elim h
  | bor p' => exact False.elim h
theorem r_andV {m n : ME} {Q : VK} (h : up Z K E (mAndV m n) σ H Q) : tAndV (up Z K E m) (up Z K E n) σ H Q := by
  obtain ⟨B, e, R, q⟩ := h
  refine ⟨B, e, R, (m e).mono (fun x p B1 v H1 s1 ha => ?_) (fun _ z => z) q⟩
  obtain ⟨b, rfl, p⟩ := asB_run p
  refine ⟨b, ha, ?_⟩
  cases b with
  | true => exact r_next R s1 p
  | false => exact p B1 _ H1 s1 rfl
theorem r_orV {m n : ME} {Q : VK} (h : up Z K E (mOrV m n) σ H Q) : tOrV (up Z K E m) (up Z K E n) σ H Q := by
  obtain ⟨B, e, R, q⟩ := h
  refine ⟨B, e, R, (m e).mono (fun x p B1 v H1 s1 ha => ?_) (fun _ z => z) q⟩
  obtain ⟨b, rfl, p⟩ := asB_run p
  refine ⟨b, ha, ?_⟩
  cases b with
  | false => exact r_next R s1 p
  | true => exact p B1 _ H1 s1 rfl
theorem r_notV {m : ME} {Q : VK} (h : up Z K E (mNotV m) σ H Q) : tNotV (up Z K E m) σ H Q := by
  obtain ⟨B, e, R, q⟩ := h
  refine ⟨B, e, R, (m e).mono (fun x p B1 v H1 s1 ha => ?_) (fun _ z => z) q⟩
  obtain ⟨b, rfl, p⟩ := asB_run p
  exact ⟨b, ha, p B1 _ H1 s1 rfl⟩
/-! a if c else b -/
def mIf (c : En → M Bool) (m n : ME) : ME := fun e => do
  let b ← c e
  if b then m e else n e
theorem r_if {c : En → M Bool} {m n : ME} {Q : VK} (h : up Z K E (mIf c m n) σ H Q) : tIf (upT Z K E c) (up Z K E m) (up Z K E n) σ H Q := by
  obtain ⟨B, e, R, q⟩ := h
  refine ⟨B, e, R, (c e).mono (fun b p B1 H1 s1 => ?_) (fun _ z => z) q⟩
  cases b with
  | true => exact r_next R s1 p
  | false => exact r_next R s1 p
end
/-! ## the same for the text -/
section
variable {X : Cx} {Z : Zn} {E : Option XK} {a b c : Expr} {pos : Pos}
theorem pe_weak {t t' : TE} (h : PE X a t) (w : ∀ σ H Q, t' σ H Q → t σ H Q) : PE X a t' := ⟨fun pins s σ H Q I q => h.run pins s σ H Q I (w _ _ _ q)⟩
theorem pt_weak {t t' : TT} (h : PT X a t) (w : ∀ σ H Q, t' σ H Q → t σ H Q) : PT X a t' := ⟨fun pins s σ H Q I q => h.run pins s σ H Q I (w _ _ _ q)⟩
theorem pa_weak {es : List Expr} {t t' : TA} (h : PA X es t) (w : ∀ σ H Q, t' σ H Q → t σ H Q) : PA X es t' := ⟨fun pos pins s σ H Q I q => h.run pos pins s σ H Q I (w _ _ _ q)⟩
theorem pw_weak {t t' : TT} (h : PW X a t) (w : ∀ σ H Q, t' σ H Q → t σ H Q) : PW X a t' := ⟨fun wh pins s σ H Q I q => h.run wh pins s σ H Q I (w _ _ _ q)⟩
abbrev VE (X : Cx) (Z : Zn) (E : Option XK) (a : Expr) (m : ME) : Prop := PE X a (up Z X.K E m)
abbrev VT (X : Cx) (Z : Zn) (E : Option XK) (a : Expr) (m : En → M Bool) : Prop := PT X a (upT Z X.K E m)
abbrev VW (X : Cx) (Z : Zn) (E : Option XK) (a : Expr) (m : En → M Bool) : Prop := PW X a (upT Z X.K E m)
abbrev VA (X : Cx) (Z : Zn) (E : Option XK) (es : List Expr) (m : En → M (List PV)) : Prop := PA X es (upA Z X.K E m)
abbrev VP (X : Cx) (Z : Zn) (E : Option XK) (es : List Expr) (m : En → M (List Rs)) : Prop := PA X es (upP Z X.K E m)
theorem v_var {i : Nat} (h : PE X a (tVar i)) : VE X Z E a (mVar i) := pe_weak h fun _ _ _ => r_var
theorem v_int {i j pos} : VE X Z E (.Constant (.int i) j pos) (mC (.int i)) := pe_weak pe_int fun _ _ _ => r_c fun _ => rfl
theorem v_bl {i j pos} : VE X Z E (.Constant (.bool i) j pos) (mC (.bl i)) := pe_weak pe_bl fun _ _ _ => r_c fun _ => rfl
theorem v_non {j pos} : VE X Z E (.Constant .none j pos) (mC .non) := pe_weak pe_non fun _ _ _ => r_c fun _ => rfl
theorem v_str {i j pos} : VE X Z E (.Constant (.str i) j pos) (mC (.str i)) := pe_weak pe_str fun _ _ _ => r_c fun _ => rfl
theorem v_gI {i : Int} (h : PE X a (tC (.int i))) : VE X Z E a (mC (.int i)) := pe_weak h fun _ _ _ => r_c fun _ => rfl
theorem v_fz {m : ME} (h : VE X Z E a m) : VE X Z E a (mFz m) := pe_weak h fun _ _ _ => r_fz
theorem v_op {o : Operator} {r : R2} {op : PV → PV → M Rs} {ma mb : ME} (hr : OpR X (binaryOp o) r) (ho : OpOk Z X.K E r op) (ha : VE X Z E a ma) (hb : VE X Z E b mb) : VE X Z E (.BinOp a o b pos) (mBin op ma mb) :=
  pe_weak (pe_op hr ha hb) fun _ _ _ => r_bin ho
theorem v_cmp {o : CmpOp} {r : R2} {op : PV → PV → M Rs} {ma mb : ME} (hr : OpR X (compareOp o) r) (ho : OpOk Z X.K E r op) (ha : VE X Z E a ma) (hb : VE X Z E b mb) (hm : behindInMarks o b = false) : VE X Z E (.Compare a [o] [b] pos) (mBin op ma mb) :=
  pe_weak (pe_cmpR hr ha hb hm) fun _ _ _ => r_bin ho
theorem vt_cmp {o : CmpOp} {r : R2} {op : PV → PV → M Rs} {ma mb : ME} (hr : OpR X (compareOp o) r) (ho : OpOk Z X.K E r op) (ha : VE X Z E a ma) (hb : VE X Z E b mb) (hm : behindInMarks o b = false) : VT X Z E (.Compare a [o] [b] pos) (mTst (mBin op ma mb)) :=
  pt_weak (pt_cmpR hr ha hb hm) fun _ _ _ h => r_bin ho (r_tst h)
theorem vt_val {m : ME} (h : VE X Z E a m) (he : ∀ whole, isTrue a X.env whole = (do let v ← whole; standAt a.pos; holding [v] (truthy v)) := by intro _; rfl) : VT X Z E a (mTst m) := pt_weak (pt_val h he) fun _ _ _ => r_tst
theorem vt_not {m : En → M Bool} (h : VT X Z E a m) : VT X Z E (.UnaryOp .Not a pos) (mNot m) := pt_weak (pt_not h) fun _ _ _ => t_not
theorem vw_and1 {m : En → M Bool} (h : VT X Z E a m) : VW X Z E (.BoolOp .And [a] pos) m := pw_and1 h
theorem vw_or1 {m : En → M Bool} (h : VT X Z E a m) : VW X Z E (.BoolOp .Or [a] pos) m := pw_or1 h
theorem vw_and {m n : En → M Bool} {rest : List Expr} (h : VT X Z E a m) (h2 : VW X Z E (.BoolOp .And (b :: rest) pos) n) : VW X Z E (.BoolOp .And (a :: b :: rest) pos) (mAnd m n) := pw_weak (pw_and h h2) fun _ _ _ => t_and
theorem vw_or {m n : En → M Bool} {rest : List Expr} (h : VT X Z E a m) (h2 : VW X Z E (.BoolOp .Or (b :: rest) pos) n) : VW X Z E (.BoolOp .Or (a :: b :: rest) pos) (mOr m n) := pw_weak (pw_or h h2) fun _ _ _ => t_or
theorem v_one {o} {m : ME} (h : VE X Z E a m) : VE X Z E (.BoolOp o [a] pos) m := pe_one h
theorem v_and {m n : ME} {rest : List Expr} (h : VE X Z E a m) (h2 : VE X Z E (.BoolOp .And (b :: rest) pos) n) : VE X Z E (.BoolOp .And (a :: b :: rest) pos) (mAndV m n) := pe_weak (pe_and h h2) fun _ _ _ => r_andV
theorem v_or {m n : ME} {rest : List Expr} (h : VE X Z E a m) (h2 : VE X Z E (.BoolOp .Or (b :: rest) pos) n) : VE X Z E (.BoolOp .Or (a :: b :: rest) pos) (mOrV m n) := pe_weak (pe_or h h2) fun _ _ _ => r_orV
theorem v_not {m : ME} (h : VE X Z E a m) : VE X Z E (.UnaryOp .Not a pos) (mNotV m) := pe_weak (pe_not h) fun _ _ _ => r_notV
theorem v_ife {m : En → M Bool} {n n' : ME} (hc : VT X Z E c m) (ha : VE X Z E a n) (hb : VE X Z E b n') : VE X Z E (.IfExp c a b pos) (mIf m n n') := pe_weak (pe_ifExp hc ha hb) fun _ _ _ => r_if
theorem va_nil : VA X Z E [] mNil := pa_weak pa_nil fun _ _ _ => a_nil
theorem va_cons {es : List Expr} {m : ME} {ms : En → M (List PV)} (ha : VE X Z E a m) (hr : VA X Z E es ms) (hs : starEach (a :: es) X.env = (false, eval a X.env) :: starEach es X.env := by rfl) : VA X Z E (a :: es) (mCons m ms) := pa_weak (pa_cons ha hr hs) fun _ _ _ => a_cons
theorem vp_nil : VP X Z E [] pNil := pa_weak pa_nil fun _ _ _ => p_nil
theorem vp_cons {es : List Expr} {m : ME} {ms : En → M (List Rs)} (ha : VE X Z E a m) (hr : VP X Z E es ms) (hs : starEach (a :: es) X.env = (false, eval a X.env) :: starEach es X.env := by rfl) : VP X Z E (a :: es) (pCons m ms) := pa_weak (pa_cons ha hr hs) fun _ _ _ => p_cons
theorem v_tup {x1} {es : List Expr} {ms : En → M (List PV)} (h : VA X Z E es ms) : VE X Z E (.Tuple es x1 pos) (mTup ms) := pe_weak (pe_tupF h) fun _ _ _ => r_tup
theorem v_lst {es : List Expr} {ms : En → M (List PV)} (h : VA X Z E es ms) : VE X Z E (.List es pos) (mLst ms) := pe_weak (pe_lst h) fun _ _ _ => r_lst
theorem v_callB {x : Str} {id : String} {p : Pos} {e : Expr} {es : List Expr} {r : List V → Hp → VK → Prop} {f : List PV → M Rs} {ms : En → M (List Rs)} (hc : CallR X (.builtin id) r) (ho : CaOk Z X.K E r f) (hg : Gl X x) (hm : X.mg x = none) (hv : bootBuiltins x = some (.builtin id)) (ha : VP X Z E (e :: es) ms) (hn : x ≠ "__name__" := by decide) (hdb : (x == ("__debug__" : Str)) = false := by decide)
    (he : starEach (e :: es) X.env = (false, eval e X.env) :: starEach es X.env := by rfl) (hpl : (backTo pos (starEach es X.env)).any (·.1) = false := by rfl) : VE X Z E (.Call (.Name x p) (e :: es) [] pos) (mCall f ms) :=
  pe_weak (pe_callB hc hg hm hv ha hn hdb he hpl) fun _ _ _ => r_call ho
theorem v_callTy {x : Str} {T : String} {p : Pos} {e : Expr} {es : List Expr} {r : List V → Hp → VK → Prop} {f : List PV → M Rs} {ms : En → M (List Rs)} (hc : CallR X (.type T) r) (ho : CaOk Z X.K E r f) (hg : Gl X x) (hm : X.mg x = none) (hv : bootBuiltins x = some (.type T)) (ha : VP X Z E (e :: es) ms) (hn : x ≠ "__name__" := by decide) (hdb : (x == ("__debug__" : Str)) = false := by decide)
    (he : starEach (e :: es) X.env = (false, eval e X.env) :: starEach es X.env := by rfl) (hpl : (backTo pos (starEach es X.env)).any (·.1) = false := by rfl) : VE X Z E (.Call (.Name x p) (e :: es) [] pos) (mCall f ms) :=
  pe_weak (pe_callTy hc hg hm hv ha hn hdb he hpl) fun _ _ _ => r_call ho
end

/-! ## statements over values -/
inductive Fl where
  | nx (e : En) | rt (r : Rs) | bk (e : En) | ct (e : En)
abbrev MS := En → M Fl
structure R0 (Z : Zn) (K : PySem.W.Frag) (B0 H0 B : Hp) (e : En) (σ : L2.St) (H : Hp) : Prop where
  rp : Rp Z K B e σ H
  st : Step Z K B0 H0 B H
  r0 : RowOk Z K B0 H0
  fr : ∀ (i : Nat) (p : PV) (a : Addr), e[i]? = some (.own p) → σ[i]? = some (some (.ref a)) → H0 a = none
def FlOk (Z : Zn) (K : PySem.W.Frag) (B0 H0 : Hp) (D : Ends) : Fl → Prop
  | .nx e => ∀ B σ H, R0 Z K B0 H0 B e σ H → D.nx σ H
  | .bk e => ∀ B σ H, R0 Z K B0 H0 B e σ H → D.bk σ H
  | .ct e => ∀ B σ H, R0 Z K B0 H0 B e σ H → D.ct σ H
  | .rt r => ∀ B v H, Step Z K B0 H0 B H → RsAt Z B H0 H r v → D.rt v H
def upS (Z : Zn) (K : PySem.W.Frag) (E : Option XK) (m : MS) : TS := fun D σ H => ∃ B0 H0 B e, R0 Z K B0 H0 B e σ H ∧ (m e).run (FlOk Z K B0 H0 D) (ErOk Z K B0 H0 E)
section
variable {Z : Zn} {K : PySem.W.Frag} {E : Option XK} {B0 H0 B H B' H' : Hp} {e : En} {σ : L2.St}
theorem R0.step (R : R0 Z K B0 H0 B e σ H) (s : Step Z K B H B' H') : R0 Z K B0 H0 B' e σ H' := ⟨R.rp.step s, R.st.trans R.r0 s, R.r0, R.fr⟩
theorem R0.back (R : R0 Z K B0 H0 B e σ H) {a : Addr} (n : H a = none) : H0 a = none := R.st.nil_ R.r0 n
def mNext : MS := fun e => pure (.nx e)
def mSeq (s t : MS) : MS := fun e => do
  match ← s e with
  | .nx e' => t e'
  | f => pure f
theorem s_next {D : Ends} (h : upS Z K E mNext D σ H) : tNext D σ H := by
  obtain ⟨B0, H0, B, e, R, q⟩ := h
  exact q B σ H R
theorem s_seq {s t : MS} {D : Ends} (h : upS Z K E (mSeq s t) D σ H) : tSeq (upS Z K E s) (upS Z K E t) D σ H := by
  obtain ⟨B0, H0, B, e, R, q⟩ := h
  refine ⟨B0, H0, B, e, R, (s e).mono (fun f p => ?_) (fun _ z => z) q⟩
  cases f with
  | nx e' => exact fun B σ H R' => ⟨B0, H0, B, e', R', p⟩
  | rt r => exact p
  | bk e' => exact p
  | ct e' => exact p
/-- what is handed back is one's own, or kept for good -/
def mRet (m : ME) : MS := fun e => do
  match ← m e with
  | .bor _ => M.fail
  | r => pure (.rt r)
def mRetV (i : Nat) : MS := fun e => match e[i]? with
  | some (.val p) => pure (.rt (.val p))
  | some (.own p) => pure (.rt (.own p))
  | _ => M.fail
def mRetN : MS := fun _ => pure (.rt (.val .non))
theorem s_ret {m : ME} {D : Ends} (h : upS Z K E (mRet m) D σ H) : tRet (up Z K E m) D σ H := by
  obtain ⟨B0, H0, B, e, R, q⟩ := h
  refine ⟨B, e, R.rp, (m e).mono (fun x p B1 v H1 s1 a => ?_) (fun _ z => z.step R.r0 R.st) q⟩
  cases x with
  | val p' => exact p B1 v H1 (R.st.trans R.r0 s1) a
  | own p' => exact p B1 v H1 (R.st.trans R.r0 s1) (RsAt.back a fun _ => R.back)
  | bor p' => exact False.elim p
theorem s_retV {i : Nat} {D : Ends} (h : upS Z K E (mRetV i) D σ H) : tRet (tVar i) D σ H := by
  obtain ⟨B0, H0, B, e, R, q⟩ := h
  unfold mRetV at q
  split at q
  · rename_i p hp
    obtain ⟨o, ho, v, rfl, d⟩ := SlAt.get R.rp.sl hp
    exact ⟨v, ho, q B v H R.st d⟩
  · rename_i p hp
    obtain ⟨o, ho, a, rfl, n, nr, d⟩ := SlAt.get R.rp.sl hp
    exact ⟨_, ho, q B _ H R.st ⟨a, rfl, R.fr i p a hp ho, n, nr, d⟩⟩
  · exact q.elim
theorem s_retN {D : Ends} (h : upS Z K E mRetN D σ H) : tRetN D σ H := by
  obtain ⟨B0, H0, B, e, R, q⟩ := h
  exact q B _ H R.st rfl
theorem pair_set {i : Nat} {x : Sl} {y : Option V} {xs : En} {ys : L2.St} (h : Paired (SlAt Z B H) xs ys) (hx : SlAt Z B H x y) : Paired (SlAt Z B H) (xs.set i x) (ys.set i y) := by
  induction h generalizing i with
  | nil => exact .nil
  | cons r t ih =>
    cases i with
    | zero => exact .cons hx t
    | succ i => exact .cons r ih
theorem set_ne {e : En} {i j : Nat} {x : Sl} {q : PV} (h : (e.set i x)[j]? = some (.own q)) (n : x ≠ .own q) : j ≠ i := fun z => by
  subst z
  rcases Nat.lt_or_ge j e.length with hl | hl
  · rw [List.getElem?_set_self hl] at h
    exact n (Option.some.inj h)
  · rw [List.getElem?_eq_none (by rw [List.length_set]; exact hl)] at h
    cases h
theorem Rp.setV (R : Rp Z K B e σ H) {p : PV} {v : V} (i : Nat) (d : Den Z B p v) : Rp Z K B (e.set i (.val p)) (σ.set i (some v)) H := by
  refine ⟨R.sub, pair_set R.sl ⟨v, rfl, d⟩, fun j k q1 q2 a ne h1 h2 h3 => ?_, R.row⟩
  have hj : j ≠ i := set_ne h1 (by intro z; cases z)
  have hk : k ≠ i := set_ne h2 (by intro z; cases z)
  rw [List.getElem?_set_ne (Ne.symm hj)] at h1 h3
  rw [List.getElem?_set_ne (Ne.symm hk)] at h2
  rw [List.getElem?_set_ne (Ne.symm hk)]
  exact R.ap j k q1 q2 a ne h1 h2 h3
theorem Rp.setN (R : Rp Z K B e σ H) (i : Nat) (o : Option V) : Rp Z K B (e.set i .un) (σ.set i o) H := by
  refine ⟨R.sub, pair_set R.sl trivial, fun j k q1 q2 a ne h1 h2 h3 => ?_, R.row⟩
  have hj : j ≠ i := set_ne h1 (by intro z; cases z)
  have hk : k ≠ i := set_ne h2 (by intro z; cases z)
  rw [List.getElem?_set_ne (Ne.symm hj)] at h1 h3
  rw [List.getElem?_set_ne (Ne.symm hk)] at h2
  rw [List.getElem?_set_ne (Ne.symm hk)]
  exact R.ap j k q1 q2 a ne h1 h2 h3
theorem own_of {i : Nat} {e : En} {x : Sl} {p : PV} {j : Nat} (h : (e.set i x)[j]? = some (.own p)) (hj : j ≠ i) : e[j]? = some (.own p) := by
  rwa [List.getElem?_set_ne (Ne.symm hj)] at h
theorem Rp.setO (R : Rp Z K B e σ H) {p : PV} {a : Addr} (i : Nat) (n : B a = none) (nr : ¬ isEx Z a) (d : OwnAt Z B H a p) (hn : ∀ (j : Nat) (q : PV), j ≠ i → e[j]? = some (.own q) → σ[j]? ≠ some (some (.ref a))) :
    Rp Z K B (e.set i (.own p)) (σ.set i (some (.ref a))) H := by
  refine ⟨R.sub, pair_set R.sl ⟨a, rfl, n, nr, d⟩, fun j k q1 q2 b ne h1 h2 h3 => ?_, R.row⟩
  by_cases hj : j = i
  · subst hj
    have hk : k ≠ j := Ne.symm ne
    have hjl : j < σ.length := by
      rcases Nat.lt_or_ge j σ.length with z | z
      · exact z
      · rw [List.getElem?_eq_none (by rw [List.length_set]; exact z)] at h3
        cases h3
    rw [List.getElem?_set_self hjl] at h3
    cases h3
    rw [List.getElem?_set_ne (Ne.symm hk)]
    exact hn k q2 hk (own_of h2 hk)
  · rw [List.getElem?_set_ne (Ne.symm hj)] at h3
    by_cases hk : k = i
    · subst hk
      intro z
      have hkl : k < σ.length := by
        rcases Nat.lt_or_ge k σ.length with z2 | z2
        · exact z2
        · rw [List.getElem?_eq_none (by rw [List.length_set]; exact z2)] at z
          cases z
      rw [List.getElem?_set_self hkl] at z
      cases z
      exact hn j q1 hj (own_of h1 hj) h3
    · rw [List.getElem?_set_ne (Ne.symm hk)]
      exact R.ap j k q1 q2 b ne (own_of h1 hj) (own_of h2 hk) h3
/-- a result comes into a slot -/
theorem R0.put (R : R0 Z K B0 H0 B e σ H) (s : Step Z K B H B' H') {x : Rs} {v : V} (h : RsAt Z B' H H' x v) (i : Nat) : (∀ p, x ≠ .bor p) →
    R0 Z K B0 H0 B' (e.set i (match x with | .val p => .val p | .own p => .own p | .bor p => .un)) (σ.set i (some v)) H' := by
  intro nb
  have R' := R.step s
  cases x with
  | val p =>
    refine ⟨R'.rp.setV i h, R'.st, R.r0, fun j q a h1 h2 => ?_⟩
    have hj : j ≠ i := set_ne h1 (by intro z; cases z)
    rw [List.getElem?_set_ne (Ne.symm hj)] at h2
    exact R.fr j q a (own_of h1 hj) h2
  | own p =>
    obtain ⟨a, rfl, n0, n, nr, d⟩ := h
    refine ⟨R'.rp.setO i n nr d fun j q hj h1 h2 => ?_, R'.st, R.r0, fun j q b h1 h2 => ?_⟩
    · obtain ⟨o, ho, c, rfl, _, _, d2⟩ := SlAt.get R.rp.sl h1
      rw [h2] at ho
      cases ho
      obtain ⟨u, hu⟩ := d2.there
      rw [n0] at hu
      cases hu
    · by_cases hj : j = i
      · subst hj
        have hjl : j < σ.length := by
          rcases Nat.lt_or_ge j σ.length with z | z
          · exact z
          · rw [List.getElem?_eq_none (by rw [List.length_set]; exact z)] at h2
            cases h2
        rw [List.getElem?_set_self hjl] at h2
        cases h2
        exact R.back n0
      · rw [List.getElem?_set_ne (Ne.symm hj)] at h2
        exact R.fr j q b (own_of h1 hj) h2
  | bor p => exact absurd rfl (nb p)
def mSet (i : Nat) (m : ME) : MS := fun e => do
  match ← m e with
  | .val p => pure (.nx (e.set i (.val p)))
  | .own p => pure (.nx (e.set i (.own p)))
  | .bor _ => M.fail
theorem s_set {i : Nat} {m : ME} {D : Ends} (h : upS Z K E (mSet i m) D σ H) : tAsg (up Z K E m) (gName i) D σ H := by
  obtain ⟨B0, H0, B, e, R, q⟩ := h
  refine ⟨B, e, R.rp, (m e).mono (fun x p B1 v H1 s1 a => ?_) (fun _ z => z.step R.r0 R.st) q⟩
  cases x with
  | val p' => exact p _ _ _ (R.put s1 a i fun _ => Rs.noConfusion)
  | own p' => exact p _ _ _ (R.put s1 a i fun _ => Rs.noConfusion)
  | bor p' => exact False.elim p
def mDo (m : ME) : MS := fun e => do
  let _ ← m e
  pure (.nx e)
theorem s_do {m : ME} {D : Ends} (h : upS Z K E (mDo m) D σ H) : tDrop (up Z K E m) D σ H := by
  obtain ⟨B0, H0, B, e, R, q⟩ := h
  exact ⟨B, e, R.rp, (m e).mono (fun x p B1 v H1 s1 a => p _ _ _ (R.step s1)) (fun _ z => z.step R.r0 R.st) q⟩
def mIfS (c : En → M Bool) (s t : MS) : MS := fun e => do
  let b ← c e
  if b then s e else t e
theorem s_if {c : En → M Bool} {s t : MS} {D : Ends} (h : upS Z K E (mIfS c s t) D σ H) : tIfS (upT Z K E c) (upS Z K E s) (upS Z K E t) D σ H := by
  obtain ⟨B0, H0, B, e, R, q⟩ := h
  refine ⟨B, e, R.rp, (c e).mono (fun b p B1 H1 s1 => ?_) (fun _ z => z.step R.r0 R.st) q⟩
  cases b with
  | true => exact ⟨B0, H0, B1, e, R.step s1, p⟩
  | false => exact ⟨B0, H0, B1, e, R.step s1, p⟩
/-- a slot is kept for good from here on -/
def mKeep (i : Nat) (m : MS) : MS := fun e => match e[i]? with
  | some (.own p) => m (e.set i (.val p))
  | some (.val _) => m e
  | _ => M.fail
theorem s_keep {i : Nat} {m : MS} {D : Ends} (h : upS Z K E (mKeep i m) D σ H) : upS Z K E m D σ H := by
  obtain ⟨B0, H0, B, e, R, q⟩ := h
  unfold mKeep at q
  split at q
  · rename_i p hp
    obtain ⟨o, ho, a, rfl, n, nr, d⟩ := SlAt.get R.rp.sl hp
    have n0 := R.fr i p a hp ho
    obtain ⟨u, hu, s1, s2, r2, d2⟩ := OwnAt.freeze R.rp.sub R.rp.row n nr d
    have st : Step Z K B0 H0 (upd B a u) H := ⟨R.st.b.trans s1, fun b w z => by
      by_cases z2 : b = a
      · exact .inr (z2 ▸ n0)
      · rw [upd_ne z2] at z
        exact R.st.n _ _ z, R.st.h, s2, r2⟩
    have hset : σ.set i (some (.ref a)) = σ := by
      have hi := (List.getElem?_eq_some_iff.mp ho).1
      apply List.ext_getElem?
      intro k
      by_cases hk : i = k
      · subst hk
        rw [List.getElem?_set_self hi, ho]
      · rw [List.getElem?_set_ne hk]
    have sl : Paired (SlAt Z (upd B a u) H) (e.set i (.val p)) σ := by
      have key : ∀ (xs : En) (ys : L2.St) (i : Nat), Paired (SlAt Z B H) xs ys → ys[i]? = some (some (.ref a)) → (∀ (j : Nat) (q : PV), j ≠ i → xs[j]? = some (.own q) → ys[j]? ≠ some (some (.ref a))) → Paired (SlAt Z (upd B a u) H) (xs.set i (.val p)) ys := by
        intro xs ys i h
        induction h generalizing i with
        | nil => intro z; cases z
        | @cons x y xs ys r t ih =>
          intro hy hn
          have one : ∀ (z : Sl) (w : Option V), SlAt Z B H z w → (∀ q, z = .own q → w ≠ some (.ref a)) → SlAt Z (upd B a u) H z w := by
            intro z w hz nz
            cases z with
            | un => trivial
            | val q =>
              obtain ⟨v, e, h⟩ := hz
              exact ⟨v, e, h.mono s1⟩
            | own q =>
              obtain ⟨b, e, n', nr', h⟩ := hz
              have nb : b ≠ a := fun z => nz q rfl (z ▸ e)
              exact ⟨b, e, (upd_ne nb).trans n', nr', h.mono s1 fun _ z => z⟩
          cases i with
          | zero =>
            cases hy
            refine .cons ⟨_, rfl, d2⟩ ?_
            clear ih
            have rest : ∀ (xs : En) (ys : L2.St), Paired (SlAt Z B H) xs ys → (∀ (j : Nat) (q : PV), xs[j]? = some (.own q) → ys[j]? ≠ some (some (.ref a))) → Paired (SlAt Z (upd B a u) H) xs ys := by
              intro xs ys h
              induction h with
              | nil => intro _; exact .nil
              | cons r t ih => exact fun hn => .cons (one _ _ r fun q e z => hn 0 q (by rw [e]; rfl) (by rw [z]; rfl)) (ih fun j q h => hn (j + 1) q h)
            exact rest _ _ t fun j q h => hn (j + 1) q (by omega) h
          | succ i =>
            exact .cons (one _ _ r fun q e z => hn 0 q (by omega) (by rw [e]; rfl) (by rw [z]; rfl)) (ih i hy fun j q hj h => hn (j + 1) q (by omega) h)
      exact key e σ i R.rp.sl ho fun j q hj h => (fun z => R.rp.ap i j p q a (Ne.symm hj) hp h ho z)
    refine ⟨B0, H0, upd B a u, _, ⟨⟨s2, sl, fun j k q1 q2 b ne h1 h2 h3 => ?_, r2⟩, st, R.r0, fun j q b h1 h2 => ?_⟩, q⟩
    · have hj : j ≠ i := set_ne h1 (by intro z; cases z)
      have hk : k ≠ i := set_ne h2 (by intro z; cases z)
      exact R.rp.ap j k q1 q2 b ne (own_of h1 hj) (own_of h2 hk) h3
    · have hj : j ≠ i := set_ne h1 (by intro z; cases z)
      exact R.fr j q b (own_of h1 hj) h2
  · exact ⟨B0, H0, B, e, R, q⟩
  · exact q.elim
/-! a slot's own list or dict is changed in place -/
theorem R0.upd {i : Nat} {p p' : PV} {a : Addr} {o : HO} (R : R0 Z K B0 H0 B e σ H) (hp : e[i]? = some (.own p)) (ho : σ[i]? = some (some (.ref a))) (n : B a = none) (nr : ¬ isEx Z a) (lst : (∃ xs, H a = some (.lst xs)) ∨ ∃ xs, H a = some (.dK xs)) (d : OwnAt Z B (upd H a o) a p') : R0 Z K B0 H0 B (e.set i (.own p')) σ (upd H a o) := by
  have sub : Same B (L2.upd H a o) := fun b u z => (upd_ne (ne_of_none z n)).trans (R.rp.sub _ _ z)
  have row : RowOk Z K B (L2.upd H a o) := ⟨fun p' b ns ez => by
    have np : a ≠ p' := fun z => nr (.inl ⟨b, ns, z ▸ ez⟩)
    refine ⟨?_, (R.rp.row.row p' b ns ez).2⟩
    rcases lst with ⟨xs, h⟩ | ⟨xs, h⟩
    · exact (R.rp.row.row p' b ns ez).1.lst h np
    · exact (R.rp.row.row p' b ns ez).1.dct h, fun q hq => ⟨tab_upd (R.rp.row.tab q hq).1 lst, (R.rp.row.tab q hq).2⟩⟩
  have n0 := R.fr i p a hp ho
  have hset : σ.set i (some (.ref a)) = σ := by
    have hi := (List.getElem?_eq_some_iff.mp ho).1
    apply List.ext_getElem?
    intro k
    by_cases hk : i = k
    · subst hk
      rw [List.getElem?_set_self hi, ho]
    · rw [List.getElem?_set_ne hk]
  have sl : Paired (SlAt Z B (L2.upd H a o)) (e.set i (.own p')) σ := by
    have key : ∀ (xs : En) (ys : L2.St) (i : Nat), Paired (SlAt Z B H) xs ys → ys[i]? = some (some (.ref a)) → (∀ (j : Nat) (q : PV), j ≠ i → xs[j]? = some (.own q) → ys[j]? ≠ some (some (.ref a))) → Paired (SlAt Z B (L2.upd H a o)) (xs.set i (.own p')) ys := by
      intro xs ys i h
      induction h generalizing i with
      | nil => intro z; cases z
      | @cons x y xs ys r t ih =>
        intro hy hn
        have one : ∀ (z : Sl) (w : Option V), SlAt Z B H z w → (∀ q, z = .own q → w ≠ some (.ref a)) → SlAt Z B (L2.upd H a o) z w := by
          intro z w hz nz
          cases z with
          | un => trivial
          | val q => exact hz
          | own q =>
            obtain ⟨b, e, n', nr', h⟩ := hz
            have nb : b ≠ a := fun z => nz q rfl (z ▸ e)
            exact ⟨b, e, n', nr', h.mono (Same.refl B) fun _ z => (upd_ne nb).trans z⟩
        cases i with
        | zero =>
          cases hy
          refine .cons ⟨a, rfl, n, nr, d⟩ ?_
          clear ih
          have rest : ∀ (xs : En) (ys : L2.St), Paired (SlAt Z B H) xs ys → (∀ (j : Nat) (q : PV), xs[j]? = some (.own q) → ys[j]? ≠ some (some (.ref a))) → Paired (SlAt Z B (L2.upd H a o)) xs ys := by
            intro xs ys h
            induction h with
            | nil => intro _; exact .nil
            | cons r t ih => exact fun hn => .cons (one _ _ r fun q e z => hn 0 q (by rw [e]; rfl) (by rw [z]; rfl)) (ih fun j q h => hn (j + 1) q h)
          exact rest _ _ t fun j q h => hn (j + 1) q (by omega) h
        | succ i =>
          exact .cons (one _ _ r fun q e z => hn 0 q (by omega) (by rw [e]; rfl) (by rw [z]; rfl)) (ih i hy fun j q hj h => hn (j + 1) q (by omega) h)
    exact key e σ i R.rp.sl ho fun j q hj h => (fun z => R.rp.ap i j p q a (Ne.symm hj) hp h ho z)
  have own1 : ∀ (j : Nat) (q : PV), (e.set i (.own p'))[j]? = some (.own q) → ∃ q', e[j]? = some (.own q') := fun j q h => by
    by_cases hj : j = i
    · exact ⟨p, hj ▸ hp⟩
    · exact ⟨q, own_of h hj⟩
  refine ⟨⟨sub, sl, fun j k q1 q2 b ne h1 h2 h3 => ?_, row⟩, ⟨R.st.b, R.st.n, fun b u z nb => ?_, sub, row⟩, R.r0, fun j q b h1 h2 => ?_⟩
  · obtain ⟨q1', h1'⟩ := own1 j q1 h1
    obtain ⟨q2', h2'⟩ := own1 k q2 h2
    exact R.rp.ap j k q1' q2' b ne h1' h2' h3
  · exact (upd_ne (ne_of_none z n0)).trans (R.st.h b u z nb)
  · obtain ⟨q', h1'⟩ := own1 j q h1
    exact R.fr j q' b h1' h2
end
section
variable {X : Cx} {Z : Zn} {E : Option XK} {a b c : Expr} {pos : Pos} {st : Stmt} {l l' : List Stmt}
theorem ps_weak {t t' : TS} (h : PS X st t) (w : ∀ D σ H, t' D σ H → t D σ H) : PS X st t' := ⟨fun pins s σ H D I q => h.run pins s σ H D I (w _ _ _ q)⟩
theorem pss_weak {t t' : TS} (h : PSs X l t) (w : ∀ D σ H, t' D σ H → t D σ H) : PSs X l t' := ⟨fun pins s σ H D I q => h.run pins s σ H D I (w _ _ _ q)⟩
abbrev VS (X : Cx) (Z : Zn) (E : Option XK) (st : Stmt) (m : MS) : Prop := PS X st (upS Z X.K E m)
abbrev VSs (X : Cx) (Z : Zn) (E : Option XK) (l : List Stmt) (m : MS) : Prop := PSs X l (upS Z X.K E m)
theorem vs_nil : VSs X Z E [] mNext := pss_weak pss_nil fun _ _ _ => s_next
theorem vs_cons {m n : MS} (h : VS X Z E st m) (t : VSs X Z E l n) : VSs X Z E (st :: l) (mSeq m n) := pss_weak (pss_cons h t) fun _ _ _ => s_seq
theorem vs_any : VS X Z E st (fun _ => M.fail) := ⟨fun pins s σ H D I ⟨_, _, _, _, _, q⟩ => q.elim⟩
theorem vs_ret {m : ME} (h : VE X Z E a m) : VS X Z E (.Return (some a) pos) (mRet m) := ps_weak (ps_ret h) fun _ _ _ => s_ret
theorem vs_retV {i : Nat} (h : PE X a (tVar i)) : VS X Z E (.Return (some a) pos) (mRetV i) := ps_weak (ps_ret h) fun _ _ _ => s_retV
theorem vs_retN : VS X Z E (.Return none pos) mRetN := ps_weak ps_retN fun _ _ _ => s_retN
theorem vs_set {i : Nat} {tg : Expr} {m : ME} (he : VE X Z E a m) (hg : PG X tg (gName i)) (hs : swapsWithSole [tg] a pos.line X.env = pure false := by rfl) (hw : swappedStores [tg] a X.env = pure none := by rfl)
    (h1 : (assignEach [tg] X.env).map (·.2) = [assign tg X.env] := by rfl) : VS X Z E (.Assign [tg] a pos) (mSet i m) := ps_weak (ps_asg he hg hs hw h1) fun _ _ _ => s_set
theorem vs_do {m : ME} (he : VE X Z E a m) (hs : swapsWith a none pos.line X.env = pure false := by rfl) : VS X Z E (.Expr a pos) (mDo m) := ps_weak (ps_expr he hs) fun _ _ _ => s_do
theorem vs_if {m : En → M Bool} {n n' : MS} (hc : VT X Z E c m) (ha : VSs X Z E l n) (hb : VSs X Z E l' n') : VS X Z E (.If c l l' pos) (mIfS m n n') := ps_weak (ps_if hc ha hb) fun _ _ _ => s_if
theorem vs_keep {m : MS} (i : Nat) (h : VS X Z E st m) : VS X Z E st (mKeep i m) := ps_weak h fun _ _ _ => s_keep
theorem vss_keep {m : MS} (i : Nat) (h : VSs X Z E l m) : VSs X Z E l (mKeep i m) := pss_weak h fun _ _ _ => s_keep
end

/-! ## walks -/
/-- names that are stored: one, or those of a tuple -/
inductive Tg where
  | nm (i : Nat) | tp (is : List Nat)
def Tg.slots : Tg → List Nat
  | .nm i => [i]
  | .tp is => is
def setAll : List Nat → List PV → En → En
  | i :: is, x :: xs, e => setAll is xs (e.set i (.val x))
  | _, _, e => e
def tgSet (t : Tg) (p : PV) (e : En) : M En := match t with
  | .nm i => pure (e.set i (.val p))
  | .tp is => match p with
    | .tup xs => if xs.length = is.length then pure (setAll is xs e) else M.fail
    | .tupw xs => if xs.length = is.length then pure (setAll is xs e) else M.fail
    | _ => M.fail
structure TgRel (Z : Zn) (K : PySem.W.Frag) (B : Hp) (ss : List Nat) (e : En) (σ : L2.St) (e' : En) (σ' : L2.St) (H : Hp) : Prop where
  rp : Rp Z K B e' σ' H
  out : ∀ j, j ∉ ss → e'[j]? = e[j]? ∧ σ'[j]? = σ[j]?
  own : ∀ j q, e'[j]? = some (.own q) → j ∉ ss
  len : σ'.length = σ.length
def TgOk (K : PySem.W.Frag) (t : Tg) (g : TG) : Prop := ∀ (Z : Zn) (B : Hp) (e : En) (σ : L2.St) (H : Hp) (p : PV) (v : V) (Q : L2.St → Hp → Prop) (F : Ex → Prop), Rp Z K B e σ H → Den Z B p v →
  (tgSet t p e).run (fun e' => ∀ σ', TgRel Z K B t.slots e σ e' σ' H → Q σ' H) F → (∀ x, ¬ F x) → g v σ H Q
section
variable {Z : Zn} {K : PySem.W.Frag} {E : Option XK} {B0 H0 B H B' H' : Hp} {e : En} {σ : L2.St}
theorem Step.anch {B3 H3 : Hp} (s : Step Z K B0 H0 B3 H3) (t : Step Z K B3 H0 B H) : Step Z K B0 H0 B H := ⟨s.b.trans t.b, fun a o q => (t.n a o q).elim (s.n a o) .inr, t.h, t.s, t.r⟩
theorem ErOk.anch {B3 H3 : Hp} (s : Step Z K B0 H0 B3 H3) {x : Ex} (h : ErOk Z K B0 H0 E x) : ErOk Z K B3 H0 E x := by
  cases E with
  | none => exact h
  | some E => exact fun B2 cls d H2 t q => h B2 cls d H2 (s.anch t) q
theorem R0.anch (R : R0 Z K B0 H0 B e σ H) : R0 Z K B H0 B e σ H := ⟨R.rp, ⟨Same.refl B, fun _ _ q => .inl q, R.st.h, R.st.s, R.st.r⟩, ⟨fun p a ns z => ⟨(R.r0.row p a ns z).1, (R.rp.row.row p a ns z).2⟩, fun q hq => ⟨(R.r0.tab q hq).1, (R.rp.row.tab q hq).2⟩⟩, R.fr⟩
theorem R0.unanch {B3 H3 : Hp} (R : R0 Z K B3 H0 B e σ H) (s : Step Z K B0 H0 B3 H3) (r : RowOk Z K B0 H0) : R0 Z K B0 H0 B e σ H := ⟨R.rp, s.anch R.st, r, R.fr⟩
theorem tg_nm {i : Nat} : TgOk K (.nm i) (gName i) := fun Z B e σ H p v Q F R d q _ => by
  refine q _ ⟨R.setV i d, fun j hj => ?_, fun j q h hj => ?_, List.length_set⟩
  · have hj : i ≠ j := fun z => hj (by rw [z]; exact List.mem_singleton.mpr rfl)
    exact ⟨List.getElem?_set_ne hj, List.getElem?_set_ne hj⟩
  · have : j = i := List.mem_singleton.mp hj
    exact set_ne h (by intro z; cases z) this
def gNames : List Nat → TGs
  | [] => gNil
  | i :: is => gCons (gName i) (gNames is)
theorem tg_names : ∀ (is : List Nat) (xs : List PV) (vs : List V) (Z : Zn) (B : Hp) (e : En) (σ : L2.St) (H : Hp) (Q : L2.St → Hp → Prop), Rp Z K B e σ H → DenL Z B xs vs → xs.length = is.length →
    (∀ σ', TgRel Z K B is e σ (setAll is xs e) σ' H → Q σ' H) → gNames is vs σ H Q
  | [], xs, vs, Z, B, e, σ, H, Q, R, d, hl, q => by
    obtain rfl : xs = [] := List.length_eq_zero_iff.mp hl
    obtain rfl : vs = [] := d
    exact ⟨rfl, q σ ⟨R, fun _ _ => ⟨rfl, rfl⟩, fun _ _ _ => List.not_mem_nil, rfl⟩⟩
  | i :: is, [], _, _, _, _, _, _, _, _, _, hl, _ => by cases hl
  | i :: is, x :: xs, vs, Z, B, e, σ, H, Q, R, d, hl, q => by
    obtain ⟨y, r, rfl, d1, d2⟩ := d
    refine ⟨y, r, rfl, tg_names is xs r Z B _ _ H Q (R.setV i d1) d2 (Nat.succ.inj hl) fun σ' T => q σ' ⟨T.rp, fun j hj => ?_, fun j p h hj => ?_, T.len.trans List.length_set⟩⟩
    · have h1 : i ≠ j := fun z => hj (by rw [z]; exact List.mem_cons_self)
      have h2 : j ∉ is := fun z => hj (List.mem_cons_of_mem _ z)
      exact ⟨(T.out j h2).1.trans (List.getElem?_set_ne h1), (T.out j h2).2.trans (List.getElem?_set_ne h1)⟩
    · have h2 := T.own j p h
      rcases List.mem_cons.mp hj with z | z
      · subst z
        have h3 := (T.out j h2).1.symm.trans h
        exact set_ne h3 (by intro z; cases z) rfl
      · exact h2 z
theorem tg_tp {is : List Nat} : TgOk K (.tp is) (gTup K is.length (gNames is)) := fun Z B e σ H p v Q F R d q nF => by
  have key : ∀ (xs : List PV) (a : Addr) (ys : List V), SqT K H a ys → DenL Z B xs ys → ((if xs.length = is.length then pure (setAll is xs e) else M.fail : M En).run (fun e' => ∀ σ', TgRel Z K B is e σ e' σ' H → Q σ' H) F) → gTup K is.length (gNames is) (.ref a) σ H Q := by
    intro xs a ys h1 h2 q
    by_cases hl : xs.length = is.length
    · rw [if_pos hl] at q
      exact ⟨a, ys, rfl, h1, h2.len.symm.trans hl, tg_names is xs ys Z B e σ H Q R h2 hl q⟩
    · rw [if_neg hl] at q
      exact False.elim q
  cases p with
  | tup xs =>
    obtain ⟨a, ys, rfl, h1, h2⟩ := d
    exact key xs a ys (h1.same R.sub).sqt h2 q
  | tupw xs =>
    obtain ⟨a, ys, rfl, h1, h2⟩ := d
    exact key xs a ys (SqT.of (R.sub _ _ h1)) h2 q
  | _ => exact False.elim q
theorem tgSet_exc {t : Tg} {p : PV} {e : En} {Q : En → Prop} {F F' : Ex → Prop} (h : (tgSet t p e).run Q F) : (tgSet t p e).run Q F' := by
  have key : ∀ (xs : List PV) (is : List Nat), ((if xs.length = is.length then pure (setAll is xs e) else M.fail : M En).run Q F) → ((if xs.length = is.length then pure (setAll is xs e) else M.fail : M En).run Q F') := by
    intro xs is h
    by_cases hl : xs.length = is.length
    · rw [if_pos hl] at h ⊢
      exact h
    · rw [if_neg hl] at h
      exact False.elim h
  cases t with
  | nm i => exact h
  | tp is =>
    cases p with
    | tup xs => exact key xs is h
    | tupw xs => exact key xs is h
    | _ => exact False.elim h
theorem TgRel.r0 {ss : List Nat} {e' : En} {σ' : L2.St} (T : TgRel Z K B ss e σ e' σ' H) (R : R0 Z K B0 H0 B e σ H) : R0 Z K B0 H0 B e' σ' H :=
  ⟨T.rp, R.st, R.r0, fun j q a h1 h2 => by
    have hj := T.own j q h1
    rw [(T.out j hj).1] at h1
    rw [(T.out j hj).2] at h2
    exact R.fr j q a h1 h2⟩
/-- what is walked gives these values, one after another -/
structure Wk (Z : Zn) (K : PySem.W.Frag) (J : It) (xs : List PV) (B : Hp) : Prop where
  go : ∀ (i : Nat) (B1 H1 : Hp), Same B B1 → Same B1 H1 → i < xs.length → J.go i H1
  stop : ∀ (B1 H1 : Hp), Same B B1 → Same B1 H1 → J.stop xs.length H1
  yld : ∀ (i : Nat) (p : PV) (B1 H1 : Hp) (v : V) (H2 : Hp), xs[i]? = some p → Same B B1 → Same B1 H1 → RowOk Z K B1 H1 → J.yld i H1 v H2 → ∃ B2, Step Z K B1 H1 B2 H2 ∧ Den Z B2 p v
def upI (Z : Zn) (K : PySem.W.Frag) (E : Option XK) (m : En → M (List PV)) : TI := fun σ H R => ∃ B e, Rp Z K B e σ H ∧ (m e).run (fun xs => ∀ B' H' J, Step Z K B H B' H' → Wk Z K J xs B' → R J H') (ErOk Z K B H E)
def forL (t : Tg) (body : MS) : List PV → MS
  | [], e => pure (.nx e)
  | x :: r, e => do
    let e1 ← tgSet t x e
    match ← body e1 with
    | .nx e2 => forL t body r e2
    | .ct e2 => forL t body r e2
    | .bk e2 => pure (.nx e2)
    | .rt v => pure (.rt v)
def mFor (mi : En → M (List PV)) (t : Tg) (body : MS) : MS := fun e => do
  let xs ← mi e
  forL t body xs e
theorem s_for {mi : En → M (List PV)} {t : Tg} {g : TG} {body : MS} {D : Ends} (hg : TgOk K t g) (h : upS Z K E (mFor mi t body) D σ H) : tFor (upI Z K E mi) g (upS Z K E body) D σ H := by
  obtain ⟨B0, H0, B, e, R, q⟩ := h
  refine ⟨B, e, R.rp, (mi e).mono (fun xs p B1 H1 J s1 w => ?_) (fun _ z => z.step R.r0 R.st) q⟩
  refine ⟨fun i m σ H => m = xs.length - i ∧ i ≤ xs.length ∧ ∃ B2 e2, R0 Z K B0 H0 B2 e2 σ H ∧ Same B1 B2 ∧ (forL t body (xs.drop i) e2).run (FlOk Z K B0 H0 D) (ErOk Z K B0 H0 E), ⟨xs.length, by simp, Nat.zero_le _, B1, e, R.step s1, Same.refl B1, p⟩, ?_⟩
  rintro i m σ2 H2 ⟨rfl, hi, B2, e2, R2, sb, q2⟩
  by_cases hlt : i < xs.length
  · refine .inr ⟨w.go i B2 H2 sb R2.rp.sub hlt, _, fun σ' H' p' => ⟨xs.length - (i + 1), by omega, p'⟩, fun x H' y => ?_⟩
    obtain ⟨B3, s3, d3⟩ := w.yld i _ B2 H2 x H' (List.getElem?_eq_getElem hlt) sb R2.rp.sub R2.rp.row y
    have R3 := R2.step s3
    rw [List.drop_eq_getElem_cons hlt] at q2
    have q3 : (tgSet t xs[i] e2).run (fun e' => _) (ErOk Z K B0 H0 E) := q2
    refine hg Z B3 e2 σ2 H' _ x _ (fun _ => False) R3.rp d3 (tgSet_exc ((tgSet t xs[i] e2).mono (fun e' z σ' T => ?_) (fun _ z => z) q3)) (fun _ z => z)
    refine ⟨B3, H0, B3, e', (T.r0 R3).anch, (body e').mono (fun f z => ?_) (fun x z => ErOk.anch R3.st z) z⟩
    have s03 := R3.st
    cases f with
    | nx e4 => exact fun B4 σ4 H4 R4 => ⟨rfl, hlt, B4, e4, R4.unanch s03 R.r0, (sb.trans s3.b).trans R4.st.b, z⟩
    | ct e4 => exact fun B4 σ4 H4 R4 => ⟨rfl, hlt, B4, e4, R4.unanch s03 R.r0, (sb.trans s3.b).trans R4.st.b, z⟩
    | bk e4 => exact fun B4 σ4 H4 R4 => z B4 σ4 H4 (R4.unanch s03 R.r0)
    | rt r => exact fun B4 v H4 t a => z B4 v H4 (s03.anch t) a
  · have ei : i = xs.length := by omega
    subst ei
    rw [List.drop_length] at q2
    exact .inl ⟨w.stop B2 H2 sb R2.rp.sub, q2 B2 σ2 H2 R2⟩
/-! while -/
def whileN (c : En → M Bool) (body : MS) : Nat → MS
  | 0, _ => M.fail
  | n + 1, e => do
    let b ← c e
    if b then
      match ← body e with
      | .nx e2 => whileN c body n e2
      | .ct e2 => whileN c body n e2
      | .bk e2 => pure (.nx e2)
      | .rt v => pure (.rt v)
    else pure (.nx e)
def mWhile (c : En → M Bool) (body : MS) : MS := fun e => ⟨fun Q F => ∃ n, (whileN c body n e).run Q F, fun h1 h2 ⟨n, q⟩ => ⟨n, (whileN c body n e).mono h1 h2 q⟩⟩
theorem s_while {c : En → M Bool} {body : MS} {D : Ends} (h : upS Z K E (mWhile c body) D σ H) : tWhile (upT Z K E c) (upS Z K E body) D σ H := by
  obtain ⟨B0, H0, B, e, R, n, q⟩ := h
  refine ⟨fun m σ H => ∃ B e, R0 Z K B0 H0 B e σ H ∧ (whileN c body m e).run (FlOk Z K B0 H0 D) (ErOk Z K B0 H0 E), ⟨n, B, e, R, q⟩, ?_⟩
  rintro m σ2 H2 ⟨B2, e2, R2, q2⟩
  cases m with
  | zero => exact False.elim q2
  | succ m =>
    refine ⟨B2, e2, R2.rp, (c e2).mono (fun b p B3 H3 s3 => ?_) (fun _ z => z.step R2.r0 R2.st) q2⟩
    cases b with
    | true =>
      refine ⟨fun σ' H' => ∃ B e, R0 Z K B0 H0 B e σ' H' ∧ (whileN c body m e).run (FlOk Z K B0 H0 D) (ErOk Z K B0 H0 E), fun σ' H' w => ⟨m, Nat.lt_succ_self m, w⟩, B0, H0, B3, e2, R2.step s3, (body e2).mono (fun f z => ?_) (fun _ z => z) p⟩
      cases f with
      | nx e4 => exact fun B4 σ4 H4 R4 => ⟨B4, e4, R4, z⟩
      | ct e4 => exact fun B4 σ4 H4 R4 => ⟨B4, e4, R4, z⟩
      | bk e4 => exact z
      | rt r => exact z
    | false => exact p B3 σ2 H3 (R2.step s3)
/-! comprehensions -/
def wipeE (e : En) : List Nat → En
  | [] => e
  | v :: vs => (wipeE e vs).set v .un
theorem Rp.wipe (R : Rp Z K B e σ H) : ∀ vs : List Nat, Rp Z K B (wipeE e vs) (L2.wipe σ vs) H
  | [] => R
  | v :: vs => (Rp.wipe R vs).setN v none
theorem wipe_get {σ : L2.St} {j : Nat} : ∀ {vs : List Nat}, j ∈ vs → (L2.wipe σ vs)[j]? = if j < σ.length then some none else none
  | v :: vs, h => by
    unfold L2.wipe
    by_cases hv : v = j
    · subst hv
      by_cases hl : v < σ.length
      · rw [if_pos hl, List.getElem?_set_self (by rw [wipe_length]; exact hl)]
      · rw [if_neg hl, List.getElem?_eq_none (by rw [List.length_set, wipe_length]; omega)]
    · rw [List.getElem?_set_ne hv]
      exact wipe_get ((List.mem_cons.mp h).resolve_left fun z => hv z.symm)
theorem wipe_out' {σ : L2.St} {j : Nat} : ∀ {vs : List Nat}, j ∉ vs → (L2.wipe σ vs)[j]? = σ[j]?
  | [], _ => rfl
  | v :: vs, h => by
    unfold L2.wipe
    rw [List.getElem?_set_ne fun z => h (by rw [z]; exact List.mem_cons_self)]
    exact wipe_out' fun z => h (List.mem_cons_of_mem _ z)
theorem TgRel.wiped {ss vs : List Nat} {e' : En} {σ' : L2.St} (T : TgRel Z K B ss (wipeE e vs) (L2.wipe σ vs) e' σ' H) (sub : ∀ i ∈ ss, i ∈ vs) : L2.wipe σ' vs = L2.wipe σ vs := by
  have hl : σ'.length = σ.length := T.len.trans (wipe_length σ vs)
  apply List.ext_getElem?
  intro j
  by_cases hj : j ∈ vs
  · rw [wipe_get hj, wipe_get hj, hl]
  · rw [wipe_out' hj, wipe_out' hj, (T.out j fun z => hj (sub j z)).2, wipe_out' hj]
def lcL (vs : List Nat) (t : Tg) (tt : En → M Bool) (el : ME) (e : En) : List PV → List PV → M (List PV)
  | [], acc => pure acc
  | x :: r, acc => do
    let e1 ← tgSet t x (wipeE e vs)
    let b ← tt e1
    if b then do
      let y ← mFz el e1
      lcL vs t tt el e r (acc ++ [y.pv])
    else lcL vs t tt el e r acc
def mLc (mi : En → M (List PV)) (vs : List Nat) (t : Tg) (tt : En → M Bool) (el : ME) : ME := fun e => do
  let xs ← mi e
  M.ask (xs.length ≤ 100000)
  let ys ← lcL vs t tt el e xs []
  pure (.own (.lst ys))
def mYes : En → M Bool := fun _ => pure true
theorem t_yes {Q : Bool → Hp → Prop} (h : upT Z K E mYes σ H Q) : tYes σ H Q := by
  obtain ⟨B, e, R, q⟩ := h
  exact q B H (.refl R.sub R.row)
/-- a list that is being made at D is changed -/
theorem Step.made {D : Addr} {o : HO} {ys : List V} (r : RowOk Z K B H) (s : Step Z K B H B' H') (n0 : H D = none) (n : B' D = none) (nr : ¬ isEx Z D) (h : H' D = some (.lst ys)) : Step Z K B H B' (upd H' D o) := by
  refine ⟨s.b, s.n, fun a u q nq => (upd_ne (ne_of_none q n0)).trans (s.h a u q nq), fun a u q => (upd_ne (ne_of_none q n)).trans (s.s a u q), ⟨fun a b ns ez => ⟨(s.r.row a b ns ez).1.lst h fun z => nr (.inl ⟨b, ns, z ▸ ez⟩), (s.r.row a b ns ez).2⟩, fun q hq => ⟨tab_upd (s.r.tab q hq).1 (.inl ⟨_, h⟩), (s.r.tab q hq).2⟩⟩⟩
theorem mFz_val {m : ME} {e : En} {Q : Rs → Prop} {F : Ex → Prop} (h : (mFz m e).run Q F) : (mFz m e).run (fun r => (∃ p, r = .val p) ∧ Q r) F := by
  refine (m e).mono (fun x p => ?_) (fun _ z => z) h
  cases x with
  | val p' => exact ⟨⟨_, rfl⟩, p⟩
  | own p' => exact ⟨⟨_, rfl⟩, p⟩
  | bor p' => exact p
theorem r_lc {mi : En → M (List PV)} {vs : List Nat} {t : Tg} {g : TG} {tt : En → M Bool} {el : ME} {Q : VK} (hg : TgOk K t g) (sub : ∀ i ∈ t.slots, i ∈ vs) (h : up Z K E (mLc mi vs t tt el) σ H Q) :
    tLc (upI Z K E mi) g (upT Z K E tt) (up Z K E el) vs σ H Q := by
  obtain ⟨B, e, R, q⟩ := h
  refine ⟨B, e, R, (mi e).mono (fun xs p B1 H1 J s1 w => ?_) (fun _ z => z) q⟩
  obtain ⟨hlen, p⟩ := p
  intro D nD
  have R1 := R.step s1
  have nD0 := s1.nil_ R.row nD
  have nrD := s1.r.ne nD
  refine ⟨fun i m H' => m = xs.length - i ∧ i ≤ xs.length ∧ ∃ B2 acc ys, Step Z K B1 H1 B2 H' ∧ B2 D = none ∧ H' D = some (.lst ys) ∧ DenL Z B2 acc ys ∧ acc.length ≤ i ∧ (lcL vs t tt el e (xs.drop i) acc).run (fun ys => Post Z K B H Q (.own (.lst ys))) (ErOk Z K B H E),
    ⟨xs.length, by simp, Nat.zero_le _, B1, [], [], Step.own s1.s s1.r nD, none_sub s1.s nD, upd_same, rfl, Nat.le_refl _, p⟩, ?_⟩
  rintro i m H2 ⟨rfl, hi, B2, acc, ys, s2, nB2, hD, hd, hac, q2⟩
  by_cases hlt : i < xs.length
  · refine .inr ⟨w.go i B2 H2 s2.b s2.s hlt, _, fun H' p' => ⟨xs.length - (i + 1), by omega, p'⟩, fun x H3 y => ?_⟩
    obtain ⟨B3, s3, d3⟩ := w.yld i _ B2 H2 x H3 (List.getElem?_eq_getElem hlt) s2.b s2.s s2.r y
    have s13 := s2.trans s1.r s3
    have R3 := R1.step s13
    have nB3 := s3.noneB hD nB2
    have hD3 := s3.h _ _ hD nrD
    have q3 : (lcL vs t tt el e (xs[i] :: xs.drop (i + 1)) acc).run (fun ys => Post Z K B H Q (.own (.lst ys))) (ErOk Z K B H E) := by
      rw [← List.drop_eq_getElem_cons hlt]
      exact q2
    have q4 : (tgSet t xs[i] (wipeE e vs)).run (fun e' => _) (ErOk Z K B H E) := q3
    refine hg Z B3 _ _ H3 _ x _ (fun _ => False) (R3.wipe vs) d3 (tgSet_exc ((tgSet t xs[i] (wipeE e vs)).mono (fun e' z σ' T => ?_) (fun _ z => z) q4)) (fun _ z => z)
    refine ⟨T.wiped sub, B3, e', T.rp, (tt e').mono (fun b z B4 H4 s4 => ?_) (fun _ z => ErOk.step R.row (s1.trans R.row s13) z) z⟩
    have s14 := s13.trans s1.r s4
    have nB4 := s4.noneB hD3 nB3
    have hD4 := s4.h _ _ hD3 nrD
    cases b with
    | false => exact ⟨rfl, hlt, B4, acc, ys, s14, nB4, hD4, hd.mono (s3.b.trans s4.b), by omega, z⟩
    | true =>
      have z' : (mFz el e').run (fun r => (∃ p, r = .val p) ∧ (lcL vs t tt el e (xs.drop (i + 1)) (acc ++ [r.pv])).run (fun ys => Post Z K B H Q (.own (.lst ys))) (ErOk Z K B H E)) (ErOk Z K B H E) := mFz_val z
      refine r_fz (Q := fun y H4 => ∃ sofar, H4 D = some (.lst sofar) ∧ sofar.length < sizeLine ∧ _) ⟨B4, e', T.rp.step s4, (mFz el e').mono (fun r z B5 v H5 s5 a => ?_) (fun _ z => ErOk.step R.row ((s1.trans R.row s14)) z) z'⟩
      obtain ⟨⟨p', rfl⟩, z⟩ := z
      have s15 := s14.trans s1.r s5
      have nB5 := s5.noneB hD4 nB4
      have hD5 := s5.h _ _ hD4 nrD
      have sall := s3.b.trans (s4.b.trans s5.b)
      refine ⟨ys, hD5, by rw [← hd.len, sizeLine_eq]; omega, rfl, hlt, B5, acc ++ [p'], ys ++ [v], s15.made s1.r nD nB5 nrD hD5, nB5, upd_same, (hd.mono sall).app ⟨v, [], rfl, a, rfl⟩, by rw [List.length_append, List.length_singleton]; omega, z⟩
  · have ei : i = xs.length := by omega
    subst ei
    rw [List.drop_length] at q2
    exact .inl ⟨w.stop B2 H2 s2.b s2.s, q2 B2 (.ref D) H2 (s1.trans R.row s2) ⟨D, rfl, nD0, nB2, nrD, ys, hD, hd⟩⟩
/-! what is walked: lists and tuples -/
def itSeq (m : ME) : En → M (List PV) := fun e => do
  match (← mFz m e).pv with
  | .lst xs => pure xs
  | .tup xs => pure xs
  | _ => M.fail
def iSeq (K : PySem.W.Frag) (tl : TE) : TI := fun σ H R => tl σ H fun x H1 => ∃ a, x = .ref a ∧ (((∃ xs, SqL K H1 a xs) ∧ R (Itl K a) H1) ∨ ((∃ xs, SqT K H1 a xs) ∧ R (Itt K a) H1))
theorem wk_list {a : Addr} {xs : List PV} {ys : List V} (h : B a = some (.lst ys)) (d : DenL Z B xs ys) : Wk Z K (Itl K a) xs B := by
  have w := walk_list (K := K) (a := a) (xs := ys)
  refine ⟨fun i B1 H1 s1 s2 hi => w.goes i H1 (by rw [← d.len]; exact hi) (SqL.of (s2 _ _ (s1 _ _ h))), fun B1 H1 s1 s2 => by rw [d.len]; exact w.stops H1 (SqL.of (s2 _ _ (s1 _ _ h))), fun i p B1 H1 v H2 hp s1 s2 ro y => ?_⟩
  obtain ⟨rfl, hv⟩ := w.yields i H1 v H2 (by rw [← d.len]; exact (List.getElem?_eq_some_iff.mp hp).1) (SqL.of (s2 _ _ (s1 _ _ h))) y
  obtain ⟨v', hv', d'⟩ := d.get hp
  rw [hv] at hv'
  cases hv'
  exact ⟨B1, .refl s2 ro, d'.mono s1⟩
theorem wk_tup {a : Addr} {xs : List PV} {ys : List V} (h : TupAt B a ys) (d : DenL Z B xs ys) : Wk Z K (Itt K a) xs B := by
  have w := walk_tup (K := K) (a := a) (xs := ys)
  refine ⟨fun i B1 H1 s1 s2 hi => w.goes i H1 (by rw [← d.len]; exact hi) ((h.same s1).same s2).sqt, fun B1 H1 s1 s2 => by rw [d.len]; exact w.stops H1 ((h.same s1).same s2).sqt, fun i p B1 H1 v H2 hp s1 s2 ro y => ?_⟩
  obtain ⟨rfl, hv⟩ := w.yields i H1 v H2 (by rw [← d.len]; exact (List.getElem?_eq_some_iff.mp hp).1) ((h.same s1).same s2).sqt y
  obtain ⟨v', hv', d'⟩ := d.get hp
  rw [hv] at hv'
  cases hv'
  exact ⟨B1, .refl s2 ro, d'.mono s1⟩
theorem i_seq {m : ME} {R : It → Hp → Prop} (h : upI Z K E (itSeq m) σ H R) : iSeq K (up Z K E m) σ H R := by
  obtain ⟨B, e, Rr, q⟩ := h
  refine r_fz (m := m) (Q := fun x H1 => ∃ a, x = .ref a ∧ _) ⟨B, e, Rr, (mFz m e).mono (fun r z B1 v H1 s1 a => ?_) (fun _ z => z) (mFz_val q)⟩
  obtain ⟨⟨p, rfl⟩, z⟩ := z
  cases p with
  | lst xs =>
    obtain ⟨c, ys, rfl, h1, h2⟩ := a
    exact ⟨c, rfl, .inl ⟨⟨ys, SqL.of (s1.s _ _ h1)⟩, z B1 H1 _ s1 (wk_list h1 h2)⟩⟩
  | tup xs =>
    obtain ⟨c, ys, rfl, h1, h2⟩ := a
    exact ⟨c, rfl, .inr ⟨⟨ys, (h1.same s1.s).sqt⟩, z B1 H1 _ s1 (wk_tup h1 h2)⟩⟩
  | _ => exact False.elim z
/-- by the values of what is called -/
def itCall (f : List PV → M (List PV)) (ms : En → M (List Rs)) : En → M (List PV) := fun e => do
  let rs ← ms e
  f (rs.map Rs.pv)
def one {α : Type} (f : PV → M α) : List PV → M α
  | [x] => f x
  | _ => M.fail
def two {α : Type} (f : PV → PV → M α) : List PV → M α
  | [x, y] => f x y
  | _ => M.fail
theorem one_run {α : Type} {f : PV → M α} {rs : List Rs} {vs : List V} {Q : α → Prop} {F : Ex → Prop} (h : HasL Z B H rs vs) (q : (one f (rs.map Rs.pv)).run Q F) : ∃ r v, vs = [v] ∧ HasAt Z B H r v ∧ (f r.pv).run Q F := by
  cases h with
  | nil => exact False.elim q
  | cons hr ht =>
    cases ht with
    | nil => exact ⟨_, _, rfl, hr, q⟩
    | cons _ _ => exact False.elim q
theorem two_run {α : Type} {f : PV → PV → M α} {rs : List Rs} {vs : List V} {Q : α → Prop} {F : Ex → Prop} (h : HasL Z B H rs vs) (q : (two f (rs.map Rs.pv)).run Q F) : ∃ r v r' v', vs = [v, v'] ∧ HasAt Z B H r v ∧ HasAt Z B H r' v' ∧ (f r.pv r'.pv).run Q F := by
  cases h with
  | nil => exact False.elim q
  | cons hr ht =>
    cases ht with
    | nil => exact False.elim q
    | cons hs hu =>
      cases hu with
      | nil => exact ⟨_, _, _, _, rfl, hr, hs, q⟩
      | cons _ _ => exact False.elim q
def rangeP : PV → M (List PV)
  | .int n => do
    M.ask (-1000000 ≤ n ∧ n ≤ 1000000)
    pure ((List.range n.toNat).map fun (i : Nat) => .int (i : Int))
  | _ => M.fail
theorem HasAt.int {x : Rs} {v : V} {i : Int} (h : HasAt Z B H x v) (e : x.pv = .int i) : v = .int i := by
  have d := h.den (by rw [e]; rfl)
  rw [e] at d
  exact d
theorem HasAt.str {x : Rs} {v : V} {i : Str} (h : HasAt Z B H x v) (e : x.pv = .str i) : v = .str i := by
  have d := h.den (by rw [e]; rfl)
  rw [e] at d
  exact d
theorem HasAt.tup {x : Rs} {v : V} {xs : List PV} (h : HasAt Z B H x v) (e : x.pv = .tup xs) : ∃ a ys, v = .ref a ∧ TupAt B a ys ∧ DenL Z B xs ys := by
  have d := h.den (by rw [e]; rfl)
  rw [e] at d
  exact d
theorem wk_range {n : Nat} : Wk Z K (Itr 0 n) ((List.range n).map fun (i : Nat) => PV.int (i : Int)) B := by
  have w := walk_range (lo := 0) (n := n)
  refine ⟨fun i B1 H1 s1 s2 hi => ?_, fun B1 H1 s1 s2 => ?_, fun i p B1 H1 v H2 hp s1 s2 ro y => ?_⟩
  · rw [List.length_map, List.length_range] at hi
    exact w.goes i H1 hi trivial
  · rw [List.length_map, List.length_range]
    exact w.stops H1 trivial
  · have hi := (List.getElem?_eq_some_iff.mp hp).1
    rw [List.length_map, List.length_range] at hi
    obtain ⟨rfl, rfl⟩ := w.yields i H1 v H2 hi trivial y
    rw [List.getElem?_map, List.getElem?_range hi] at hp
    cases hp
    refine ⟨B1, .refl s2 ro, ?_⟩
    show V.int (0 + (i : Int)) = V.int (i : Int)
    rw [Int.zero_add]
theorem i_range {ms : En → M (List Rs)} {R : It → Hp → Prop} (h : upI Z K E (itCall (one rangeP) ms) σ H R) : iRng1 (upP Z K E ms) σ H R := by
  obtain ⟨B, e, Rr, q⟩ := h
  refine ⟨B, e, Rr, (ms e).mono (fun rs z B1 vs H1 s1 ha => ?_) (fun _ z => z) q⟩
  obtain ⟨r, v, rfl, hr, z⟩ := one_run ha z
  cases hp : r.pv with
  | int n =>
    rw [hp] at z
    obtain ⟨⟨z1, z2⟩, z3⟩ := z
    obtain rfl := hr.int hp
    exact ⟨n, rfl, by omega, by omega, z3 B1 H1 _ s1 wk_range⟩
  | _ =>
    rw [hp] at z
    exact False.elim z
end
section
variable {X : Cx} {Z : Zn} {E : Option XK} {a b c : Expr} {pos : Pos} {st : Stmt} {l l' : List Stmt}
abbrev VI (X : Cx) (Z : Zn) (E : Option XK) (tg a : Expr) (m : En → M (List PV)) : Prop := PI X tg a (upI Z X.K E m)
theorem pi_weak {tg : Expr} {t t' : TI} (h : PI X tg a t) (w : ∀ σ H R, t' σ H R → t σ H R) : PI X tg a t' := ⟨fun pins s σ H R I q => h.run pins s σ H R I (w _ _ _ q)⟩
theorem pts_weak {es : List Expr} {t t' : TT} (h : PTs X es t) (w : ∀ σ H Q, t' σ H Q → t σ H Q) : PTs X es t' := ⟨fun pins s σ H Q I q => h.run pins s σ H Q I (w _ _ _ q)⟩
theorem vts_nil : PTs X [] (upT Z X.K E mYes) := pts_weak pts_nil fun _ _ _ => t_yes
theorem vts_one {m : En → M Bool} (h : VT X Z E c m) : PTs X [c] (upT Z X.K E m) := pts_one h
theorem pi_seq {tg l : Expr} {tl : TE} (hl : PE X l tl) : PI X tg l (iSeq X.K tl) := by
  refine ⟨fun pins s σ H R I h => ?_⟩
  refine thn (hl.run pins s σ H _ I h) fun v s1 ⟨x, H1, I1, r1, q1⟩ => ?_
  obtain ⟨a, e, ⟨⟨xs, hq⟩, q⟩ | ⟨⟨xs, hq⟩, q⟩⟩ := q1
  · subst e
    cases r1
    obtain ⟨its, rv, p, hz⟩ := I1.list hq
    refine wpAny_pyIter_list p.isList ?_
    refine ⟨s1.heap.objs.size, [s1.heap.objs.size], _, _, H1, rfl, I1.kept (t' := s1.toks) fun b o e => Heap.get?_push_of_some _ e, turn_list a _, ⟨_, Heap.get?_push_size _ rfl, rfl, rfl⟩, fun b hb => ?_, q⟩
    have e : b = s1.heap.objs.size := by simpa using hb
    subst e
    exact I1.fpOk (Nat.le_refl _) (I1.hok.fresh (Nat.le_refl _))
  · subst e
    cases r1
    obtain ⟨its, rv, p, hz⟩ := I1.tuple hq
    refine wpAny_pyIter_tuple (show s1.heap.IsTuple a its.toArray from p) ?_
    refine ⟨s1.heap.objs.size, [s1.heap.objs.size], _, _, H1, rfl, I1.kept (t' := s1.toks) fun b o e => Heap.get?_push_of_some _ e, turn_tuple a _, ⟨_, Heap.get?_push_size _ rfl, rfl, rfl⟩, fun b hb => ?_, q⟩
    have e : b = s1.heap.objs.size := by simpa using hb
    subst e
    exact I1.fpOk (Nat.le_refl _) (I1.hok.fresh (Nat.le_refl _))
theorem vi_seq {tg : Expr} {m : ME} (h : VE X Z E a m) : VI X Z E tg a (itSeq m) := pi_weak (pi_seq h) fun _ _ _ => i_seq
theorem vi_range {tg : Expr} {ms : En → M (List Rs)} {p : Pos} (hg : Gl X "range") (hm : X.mg "range" = none) (ha : VP X Z E [a] ms) (hs : starEach [a] X.env = [(false, eval a X.env)] := by rfl) : VI X Z E tg (.Call (.Name "range" p) [a] [] pos) (itCall (one rangeP) ms) := pi_weak (pi_range1 hg hm ha hs) fun _ _ _ => i_range
theorem vs_for {tg iter : Expr} {t : Tg} {g : TG} {mi : En → M (List PV)} {body : MS} (hp : PassesOwn (model X.prog X.w) X.A X.env X.xe) (hc : X.calm = true) (hi : VI X Z E tg iter mi) (hg : PG X tg g) (ht : TgOk X.K t g) (hb : VSs X Z E l body)
    (hs : ∀ x, foldedSetIterable iter X.env x = pure x := by intro _; rfl) : VS X Z E (.For tg iter l [] pos) (mFor mi t body) := ps_weak (ps_for hp hc hi hg hb hs) fun _ _ _ => s_for ht
theorem vs_while {m : En → M Bool} {body : MS} (hp : PassesOwn (model X.prog X.w) X.A X.env X.xe) (hc : VT X Z E c m) (hb : VSs X Z E l body) : VS X Z E (.While c l [] pos) (mWhile m body) := ps_weak (ps_while hp hc hb) fun _ _ _ => s_while
end

/-! ## operations -/
section
open PySem.W PyProof.Rows PySem.Calls PySem.SeqAt
def PV.flat : PV → Bool
  | .non => true
  | .bl _ => true
  | .int _ => true
  | .str _ => true
  | _ => false
def eqF : PV → PV → Bool
  | .non, .non => true
  | .bl a, .bl b => a == b
  | .bl a, .int b => (if a then 1 else 0) == b
  | .int a, .bl b => a == (if b then 1 else 0)
  | .int a, .int b => a == b
  | .str a, .str b => a == b
  | _, _ => false
mutual
def toD : PV → PyData
  | .bl b => .bool b
  | .int i => .int i
  | .str x => .str x
  | .tup xs => .tuple (toDs xs)
  | .lst xs => .list (toDs xs)
  | _ => .none
def toDs : List PV → List PyData
  | [] => []
  | x :: xs => toD x :: toDs xs
end
mutual
def isD : PV → Bool
  | .non => true
  | .bl _ => true
  | .int _ => true
  | .str _ => true
  | .tup xs => isDs xs
  | .lst xs => isDs xs
  | _ => false
def isDs : List PV → Bool
  | [] => true
  | x :: xs => isD x && isDs xs
end
mutual
def dpt : PV → Nat
  | .tup xs => dpts xs + 1
  | .lst xs => dpts xs + 1
  | _ => 0
def dpts : List PV → Nat
  | [] => 0
  | x :: xs => max (dpt x) (dpts xs)
end
section
variable {Z : Zn} {K : PySem.W.Frag} {E : Option XK} {B H : Hp}
theorem den_flat {p : PV} {v : V} (f : p.flat = true) (d : Den Z B p v) : flatV v = true := by
  cases p with
  | non => rw [show v = .non from d]; rfl
  | bl b => rw [show v = .bl b from d]; rfl
  | int b => rw [show v = .int b from d]; rfl
  | str b => rw [show v = .str b from d]; rfl
  | _ => cases f
theorem den_eqF {p q : PV} {v w : V} (fp : p.flat = true) (fq : q.flat = true) (d : Den Z B p v) (d' : Den Z B q w) : eqV v w = eqF p q := by
  cases p with
  | non =>
    rw [show v = .non from d]
    cases q with
    | non => rw [show w = .non from d']; rfl
    | bl b => rw [show w = .bl b from d']; rfl
    | int b => rw [show w = .int b from d']; rfl
    | str b => rw [show w = .str b from d']; rfl
    | _ => cases fq
  | bl a =>
    rw [show v = .bl a from d]
    cases q with
    | non => rw [show w = .non from d']; rfl
    | bl b => rw [show w = .bl b from d']; rfl
    | int b => rw [show w = .int b from d']; rfl
    | str b => rw [show w = .str b from d']; rfl
    | _ => cases fq
  | int a =>
    rw [show v = .int a from d]
    cases q with
    | non => rw [show w = .non from d']; rfl
    | bl b => rw [show w = .bl b from d']; rfl
    | int b => rw [show w = .int b from d']; rfl
    | str b => rw [show w = .str b from d']; rfl
    | _ => cases fq
  | str a =>
    rw [show v = .str a from d]
    cases q with
    | non => rw [show w = .non from d']; rfl
    | bl b => rw [show w = .bl b from d']; rfl
    | int b => rw [show w = .int b from d']; rfl
    | str b => rw [show w = .str b from d']; rfl
    | _ => cases fq
  | _ => cases fp
theorem denL_flat : ∀ {xs : List PV} {ys : List V}, xs.all PV.flat = true → DenL Z B xs ys → ys.all flatV = true
  | [], _, _, d => by
    obtain rfl : _ = [] := d
    rfl
  | x :: xs, _, f, d => by
    obtain ⟨y, r, rfl, d1, d2⟩ := d
    rw [List.all_cons, Bool.and_eq_true] at f ⊢
    exact ⟨den_flat f.1 d1, denL_flat f.2 d2⟩
theorem denL_in {p : PV} {v : V} (fp : p.flat = true) (d : Den Z B p v) : ∀ {xs : List PV} {ys : List V}, xs.all PV.flat = true → DenL Z B xs ys → inV v ys = xs.any fun x => eqF x p
  | [], _, _, h => by
    obtain rfl : _ = [] := h
    rfl
  | x :: xs, _, f, h => by
    obtain ⟨y, r, rfl, d1, d2⟩ := h
    rw [List.all_cons, Bool.and_eq_true] at f
    show (eqV y v || inV v r) = (eqF x p || xs.any fun x => eqF x p)
    rw [den_eqF f.1 fp d1 d, denL_in fp d f.2 d2]
/-! data of any depth -/
mutual
theorem toD_dp (s : Same B H) : ∀ {p : PV} {v : V}, isD p = true → Den Z B p v → Dp K H v (toD p)
  | .non, v, _, d => by rw [show v = .non from d]; exact .non
  | .bl b, v, _, d => by rw [show v = .bl b from d]; exact .bl b
  | .int b, v, _, d => by rw [show v = .int b from d]; exact .int b
  | .str b, v, _, d => by rw [show v = .str b from d]; exact .str b
  | .tup xs, v, h, d => by
    obtain ⟨a, ys, rfl, h1, h2⟩ := d
    exact .tup (h1.same s).sqt (toDs_dp s h h2)
  | .lst xs, v, h, d => by
    obtain ⟨a, ys, rfl, h1, h2⟩ := d
    exact .lst (SqL.of (s _ _ h1)) (toDs_dp s h h2)
  | .orc, _, h, _ => by cases h
  | .dct _ _, _, h, _ => by cases h
  | .tupw _, _, h, _ => by cases h
  | .hs _ _ _, _, h, _ => by cases h
  | .rg _ _, _, h, _ => by cases h
  | .dcn _ _, _, h, _ => by cases h
theorem toDs_dp (s : Same B H) : ∀ {xs : List PV} {ys : List V}, isDs xs = true → DenL Z B xs ys → DpAll K H ys (toDs xs)
  | [], ys, _, d => by
    obtain rfl : ys = [] := d
    exact .nil
  | x :: xs, ys, h, d => by
    obtain ⟨y, r, rfl, d1, d2⟩ := d
    have h' : isD x = true ∧ isDs xs = true := by
      have : (isD x && isDs xs) = true := h
      rwa [Bool.and_eq_true] at this
    exact .cons (toD_dp s h'.1 d1) (toDs_dp s h'.2 d2)
end
theorem has_dp {x : Rs} {v : V} (s : Same B H) (h : HasAt Z B H x v) (i : isD x.pv = true) : Dp K H v (toD x.pv) := by
  cases e : x.pv with
  | lst xs =>
    rw [e] at i
    obtain ⟨a, ys, rfl, h1, h2⟩ := h.lst s e
    exact .lst (SqL.of h1) (toDs_dp s i h2)
  | dct ks xs =>
    rw [e] at i
    cases i
  | dcn ks xs =>
    rw [e] at i
    cases i
  | _ =>
    rw [← e]
    exact toD_dp s i (h.den (by rw [e]; rfl))
mutual
theorem toD_plain : ∀ p : PV, (toD p).plain = true
  | .tup xs => toDs_plain xs
  | .lst xs => toDs_plain xs
  | .non => rfl
  | .bl _ => rfl
  | .int _ => rfl
  | .str _ => rfl
  | .orc => rfl
  | .dct _ _ => rfl
  | .tupw _ => rfl
  | .hs _ _ _ => rfl
  | .rg _ _ => rfl
  | .dcn _ _ => rfl
theorem toDs_plain : ∀ xs : List PV, PyData.plainAll (toDs xs) = true
  | [] => rfl
  | x :: xs => by
    show (PyData.plain (toD x) && PyData.plainAll (toDs xs)) = true
    rw [toD_plain x, toDs_plain xs]
    rfl
end
mutual
theorem toD_depth : ∀ p : PV, (toD p).depth = dpt p
  | .tup xs => by
    show PyData.depth (.tuple (toDs xs)) = dpts xs + 1
    unfold PyData.depth
    rw [toDs_depth xs]
  | .lst xs => by
    show PyData.depth (.list (toDs xs)) = dpts xs + 1
    unfold PyData.depth
    rw [toDs_depth xs]
  | .non => rfl
  | .bl _ => rfl
  | .int _ => rfl
  | .str _ => rfl
  | .orc => rfl
  | .dct _ _ => rfl
  | .tupw _ => rfl
  | .hs _ _ _ => rfl
  | .rg _ _ => rfl
  | .dcn _ _ => rfl
theorem toDs_depth : ∀ xs : List PV, PyData.depthAll (toDs xs) = dpts xs
  | [] => rfl
  | x :: xs => by
    show PyData.depthAll (toD x :: toDs xs) = max (dpt x) (dpts xs)
    unfold PyData.depthAll
    rw [toD_depth x, toDs_depth xs]
end
end
def eqB (p q : PV) : Bool := PyData.eqv (toD p) (toD q)
section
variable {X : Cx}
def rEqPl (K : PySem.W.Frag) (neg : Bool) : R2 := fun x y H Q => ∃ d e, Dp K H x d ∧ Dp K H y e ∧ d.plain = true ∧ e.plain = true ∧ min d.depth e.depth ≤ 60 ∧ Q (.bl (neg ^^ PyData.eqv d e)) H
theorem op_eqPv (hu : X.A.units + 66 < cLine) : OpR X (compareOp .Eq) (rEqPl X.K false) := by
  intro pins s σ H x y v u Q I rx ry h
  obtain ⟨d, e, hd, he, pd, pe, dl, q⟩ := h
  obtain ⟨as, r1⟩ := Dp.reads I _ _ v hd rx
  obtain ⟨bs, r2⟩ := Dp.reads I _ _ u he ry
  refine eq_plain r1 r2 pd pe (by omega) ⟨.bl _, H, I, rfl, ?_⟩
  rw [Bool.false_xor] at q
  exact q
theorem op_nePv (hu : X.A.units + 66 < cLine) : OpR X (compareOp .NotEq) (rEqPl X.K true) := by
  intro pins s σ H x y v u Q I rx ry h
  obtain ⟨d, e, hd, he, pd, pe, dl, q⟩ := h
  obtain ⟨as, r1⟩ := Dp.reads I _ _ v hd rx
  obtain ⟨bs, r2⟩ := Dp.reads I _ _ u he ry
  refine ne_plain r1 r2 pd pe (by omega) ⟨.bl _, H, I, rfl, ?_⟩
  rw [Bool.true_xor] at q
  exact q
theorem ix_dict (hu : X.A.units + 1 < cLine) : IxR X (fun x y H Q => ∃ a v, x = .ref a ∧ DGet H a y (some v) ∧ Q v H) := by
  intro value slice pins s σ H x y v u Q I rx ry h hs
  obtain ⟨a, w, rfl, g, q⟩ := h
  cases rx
  exact PyProof.Rows.tail_any (dict_typeIs I g) PySem.F.slot_dict_getitem.lookup (d_getItem hu I g ry fun w' s3 I3 rw' => ⟨w, H, I3, rw', q⟩) hs
theorem op_inK (hu : X.A.units + 1 < cLine) : OpR X (compareOp .In) (fun y x H Q => ∃ a o, x = .ref a ∧ DGet H a y o ∧ Q (.bl o.isSome) H) := by
  intro pins s σ H x y v u Q I rx ry h
  obtain ⟨a, o, rfl, g, q⟩ := h
  cases ry
  exact d_in hu I g rx fun s3 I3 => ⟨.bl o.isSome, H, I3, rfl, q⟩
theorem op_notInK (hu : X.A.units + 1 < cLine) : OpR X (compareOp .NotIn) (fun y x H Q => ∃ a o, x = .ref a ∧ DGet H a y o ∧ Q (.bl (!o.isSome)) H) := by
  intro pins s σ H x y v u Q I rx ry h
  obtain ⟨a, o, rfl, g, q⟩ := h
  cases ry
  exact d_notIn hu I g rx fun s3 I3 => ⟨.bl (!o.isSome), H, I3, rfl, q⟩
end
section
variable {Z : Zn} {K : PySem.W.Frag} {E : Option XK} {B H : Hp}
/-- the values of a built operation: what stays as it was -/
theorem post_val {Q : VK} {p : PV} {v : V} (s : Same B H) (r : RowOk Z K B H) (h : Post Z K B H Q (.val p)) (d : Den Z B p v) : Q v H := h B v H (.refl s r) d
theorem post_own {Q : VK} {p : PV} {a : Addr} {o : HO} (s : Same B H) (r : RowOk Z K B H) (h : Post Z K B H Q (.own p)) (n : H a = none) (d : OwnAt Z B (upd H a o) a p) : Q (.ref a) (upd H a o) :=
  h B _ _ (Step.own s r n) ⟨a, rfl, n, none_sub s n, r.ne n, d⟩
theorem post_tup {Q : VK} {ps : List PV} {ys : List V} (s : Same B H) (r : RowOk Z K B H) (h : Post Z K B H Q (.val (.tup ps))) (d : DenL Z B ps ys) : NewT H ys Q := fun a o n od => by
  have s2 := Step.put (o := .frz o (.tup ys)) s r n
  exact h _ _ _ s2 ⟨a, ys, rfl, ⟨o, upd_same, od⟩, d.mono s2.b⟩
/-! + -/
def addP : PV → PV → M Rs
  | .int i, .int j => pure (.val (.int (i + j)))
  | .tup xs, .tup ys => do
    M.ask (xs.length + ys.length ≤ 100000)
    pure (.val (.tup (xs ++ ys)))
  | .lst xs, .lst ys => do
    M.ask (xs.length + ys.length ≤ 100000)
    pure (.own (.lst (xs ++ ys)))
  | _, _ => M.fail
def rAdd (K : PySem.W.Frag) : R2 := fun x y H Q => rI0 (fun i j => .int (i + j)) x y H Q ∨ rCatF K x y H Q ∨ rCat x y H Q
theorem op_addV {X : Cx} : OpR X (binaryOp .Add) (rAdd X.K) := op_add.or (op_catF.or op_cat)
theorem mid_len {n : Nat} (h : n ≤ 100000) : n ≤ sizeLine := by rw [sizeLine_eq]; omega
theorem ok_add : OpOk Z K E (rAdd K) addP := by
  intro B H a b x y Q s r ha hb q
  cases ea : a.pv with
  | int i =>
    cases eb : b.pv with
    | int j =>
      rw [ea, eb] at q
      exact .inl ⟨i, j, ha.int ea, hb.int eb, post_val s r q rfl⟩
    | _ =>
      rw [ea, eb] at q
      exact False.elim q
  | tup xs =>
    cases eb : b.pv with
    | tup ys =>
      rw [ea, eb] at q
      obtain ⟨hl, q⟩ := q
      obtain ⟨p1, z1, rfl, t1, d1⟩ := ha.tup ea
      obtain ⟨p2, z2, rfl, t2, d2⟩ := hb.tup eb
      have e1 := d1.len
      have e2 := d2.len
      refine .inr (.inl ⟨p1, p2, z1, z2, rfl, rfl, (t1.same s).sqt, (t2.same s).sqt, mid_len (by omega), fun z => ?_, fun _ z => ?_, fun _ _ => post_tup s r q (d1.app d2)⟩)
      · subst z
        obtain rfl : xs = [] := List.length_eq_zero_iff.mp (by rw [e1]; rfl)
        exact post_val s r q ⟨p2, z2, rfl, t2, d2⟩
      · subst z
        obtain rfl : ys = [] := List.length_eq_zero_iff.mp (by rw [e2]; rfl)
        rw [List.append_nil] at q
        exact post_val s r q ⟨p1, z1, rfl, t1, d1⟩
    | _ =>
      rw [ea, eb] at q
      exact False.elim q
  | lst xs =>
    cases eb : b.pv with
    | lst ys =>
      rw [ea, eb] at q
      obtain ⟨hl, q⟩ := q
      obtain ⟨p1, z1, rfl, t1, d1⟩ := ha.lst s ea
      obtain ⟨p2, z2, rfl, t2, d2⟩ := hb.lst s eb
      have e1 := d1.len
      have e2 := d2.len
      exact .inr (.inr ⟨p1, p2, z1, z2, rfl, rfl, t1, t2, mid_len (by omega), fun p n => post_own s r q n ⟨_, upd_same, d1.app d2⟩⟩)
    | _ =>
      rw [ea, eb] at q
      exact False.elim q
  | _ =>
    rw [ea] at q
    exact False.elim q
/-! ints -/
def intP (f : Int → Int → PV) : PV → PV → M Rs
  | .int i, .int j => pure (.val (f i j))
  | _, _ => M.fail
theorem ok_int {f : Int → Int → PV} {g : Int → Int → V} (e : ∀ B i j, Den Z B (f i j) (g i j)) : OpOk Z K E (rI0 g) (intP f) := by
  intro B H a b x y Q s r ha hb q
  cases ea : a.pv with
  | int i =>
    cases eb : b.pv with
    | int j =>
      rw [ea, eb] at q
      exact ⟨i, j, ha.int ea, hb.int eb, post_val s r q (e B i j)⟩
    | _ =>
      rw [ea, eb] at q
      exact False.elim q
  | _ =>
    rw [ea] at q
    exact False.elim q
abbrev subP := intP fun i j => .int (i - j)
abbrev ltP := intP fun i j => .bl (decide (i < j))
abbrev leP := intP fun i j => .bl (decide (i ≤ j))
abbrev gtP := intP fun i j => .bl (decide (j < i))
abbrev geP := intP fun i j => .bl (decide (j ≤ i))
/-! ==, !=, is -/
def eqP (neg : Bool) (p q : PV) : M Rs := do
  M.ask (isD p = true ∧ isD q = true ∧ min (dpt p) (dpt q) ≤ 60)
  pure (.val (.bl (neg ^^ eqB p q)))
theorem ok_eq {neg : Bool} : OpOk Z K E (rEqPl K neg) (eqP neg) := by
  intro B H a b x y Q s r ha hb q
  obtain ⟨⟨i1, i2, dl⟩, q⟩ := q
  refine ⟨_, _, has_dp s ha i1, has_dp s hb i2, toD_plain _, toD_plain _, by rw [toD_depth, toD_depth]; exact dl, post_val s r q rfl⟩
def PV.isNon : PV → Bool
  | .non => true
  | _ => false
def isNP (neg : Bool) (p q : PV) : M Rs := match q with
  | .non => pure (.val (.bl (neg ^^ p.isNon)))
  | _ => M.fail
theorem den_non {p : PV} {v : V} (d : Den Z B p v) : decide (v = .non) = p.isNon := by
  cases p with
  | non => rw [show v = .non from d]; rfl
  | bl b => rw [show v = .bl b from d]; rfl
  | int b => rw [show v = .int b from d]; rfl
  | str b => rw [show v = .str b from d]; rfl
  | orc =>
    obtain ⟨a, rfl, _⟩ := d
    rfl
  | tup _ =>
    obtain ⟨a, _, rfl, _⟩ := d
    rfl
  | tupw _ =>
    obtain ⟨a, _, rfl, _⟩ := d
    rfl
  | lst _ =>
    obtain ⟨a, _, rfl, _⟩ := d
    rfl
  | dct _ _ =>
    obtain ⟨a, _, rfl, _⟩ := d
    rfl
  | hs _ _ _ =>
    obtain ⟨a, rfl, _⟩ := d
    rfl
  | rg _ _ =>
    obtain ⟨a, rfl, _⟩ := d
    rfl
  | dcn _ _ =>
    obtain ⟨a, _, _, rfl, _⟩ := d
    rfl
theorem has_non {x : Rs} {v : V} (h : HasAt Z B H x v) : decide (v = .non) = x.pv.isNon := by
  cases x with
  | val p => exact den_non h
  | own p =>
    obtain ⟨a, rfl, _, _, _, h⟩ := h
    cases p with
    | lst _ => rfl
    | dct _ _ => rfl
    | dcn _ _ => rfl
    | _ => exact h.elim
  | bor p =>
    obtain ⟨a, rfl, _, _, h⟩ := h
    cases p with
    | lst _ => rfl
    | dct _ _ => rfl
    | dcn _ _ => rfl
    | _ => exact h.elim
theorem ok_isN {g : V → Bool} {neg : Bool} (hg : ∀ v, g v = (neg ^^ decide (v = .non))) : OpOk Z K E (fun x y H Q => y = .non ∧ Q (.bl (g x)) H) (isNP neg) := by
  intro B H a b x y Q s r ha hb q
  cases eb : b.pv with
  | non =>
    rw [eb] at q
    have d := hb.den (by rw [eb]; rfl)
    rw [eb] at d
    refine ⟨d, ?_⟩
    rw [hg, has_non ha]
    exact post_val s r q rfl
  | _ =>
    rw [eb] at q
    exact False.elim q
/-! in, not in -/
def keyP : PV → Option Key
  | .int i => some (.inl i)
  | .str x => some (.inr x)
  | _ => none
def look : List Key → List PV → Key → Option PV
  | k :: ks, x :: xs, k' => if k = k' then some x else look ks xs k'
  | _, _, _ => none
theorem den_key {p : PV} {v : V} {k : Key} (h : keyP p = some k) (d : Den Z B p v) : v = kV k := by
  cases p with
  | int i =>
    cases h
    exact d
  | str i =>
    cases h
    exact d
  | _ => cases h
theorem look_val {k' : Key} : ∀ {kvs : List (Key × V)} {xs : List PV}, DenL Z B xs (kvs.map (·.2)) → (∀ x, look (kvs.map (·.1)) xs k' = some x → ∃ v, valV kvs k' = some v ∧ Den Z B x v) ∧ (look (kvs.map (·.1)) xs k' = none → valV kvs k' = none)
  | [], xs, d => by
    refine ⟨fun x h => ?_, fun _ => rfl⟩
    cases xs <;> cases h
  | kv :: kvs, [], d => by cases d
  | kv :: kvs, x :: xs, d => by
    obtain ⟨y, r, e, d1, d2⟩ := d
    cases e
    obtain ⟨i1, i2⟩ := look_val (k' := k') d2
    by_cases h : kv.1 = k'
    · have e1 : look ((kv :: kvs).map (·.1)) (x :: xs) k' = some x := if_pos h
      rw [e1]
      exact ⟨fun z hz => by cases hz; exact ⟨_, valV_pos h, d1⟩, fun z => by cases z⟩
    · have e1 : look ((kv :: kvs).map (·.1)) (x :: xs) k' = look (kvs.map (·.1)) xs k' := if_neg h
      rw [e1, valV_neg h]
      exact ⟨i1, i2⟩
def inP (neg : Bool) (p c : PV) : M Rs := match c with
  | .lst xs => do
    M.ask (p.flat = true ∧ xs.all PV.flat = true)
    pure (.val (.bl (neg ^^ xs.any fun x => eqF x p)))
  | .tup xs => do
    M.ask (p.flat = true ∧ xs.all PV.flat = true)
    pure (.val (.bl (neg ^^ xs.any fun x => eqF x p)))
  | .dct ks xs => match keyP p with
    | some k => pure (.val (.bl (neg ^^ (look ks xs k).isSome)))
    | none => M.fail
  | .str z => match p with
    | .str c => do
      M.ask (c.cps.size = 1)
      pure (.val (.bl (neg ^^ decide (c.cps.toList.headD 0 ∈ z.cps.toList))))
    | _ => M.fail
  | _ => M.fail
def rInV (K : PySem.W.Frag) (neg : Bool) : R2 := fun x y H Q => rIn K neg x y H Q ∨ (∃ a o, y = .ref a ∧ DGet H a x o ∧ Q (.bl (neg ^^ o.isSome)) H) ∨ ∃ c z, x = .str c ∧ y = .str z ∧ c.cps.size = 1 ∧ Q (.bl (neg ^^ decide (c.cps.toList.headD 0 ∈ z.cps.toList))) H
theorem one_sign {c : Str} (h : c.cps.size = 1) : c = ⟨#[c.cps.toList.headD 0]⟩ := by
  obtain ⟨a⟩ := c
  obtain ⟨l⟩ := a
  cases l with
  | nil => cases h
  | cons x r =>
    cases r with
    | nil => rfl
    | cons y r => cases h
theorem op_inV {X : Cx} (hu : X.A.units + 66 < cLine) : OpR X (compareOp .In) (rInV X.K false) := by
  intro pins s σ H x y v u Q I rx ry h
  rcases h with h | ⟨a, o, rfl, g, q⟩ | ⟨c, z, rfl, rfl, hc, q⟩
  · exact op_in_seq pins s σ H x y v u Q I rx ry h
  · rw [Bool.false_xor] at q
    exact op_inK (by omega) pins s σ H x (.ref a) v u Q I rx ry ⟨a, o, rfl, g, q⟩
  · refine op_in_str pins s σ H _ _ v u Q I rx ry ⟨c, z, rfl, rfl, ?_⟩
    have e : (!(Builtin.Str.occurrences z c 0 z.length 1).isEmpty) = decide (c.cps.toList.headD 0 ∈ z.cps.toList) := by
      have q := SX.in_one z.cps.toList (c.cps.toList.headD 0)
      have e2 : (SX.S [c.cps.toList.headD 0] : Str) = c := (one_sign hc).symm
      rw [e2] at q
      exact q
    rw [e]
    rw [Bool.false_xor] at q
    exact q
theorem op_notInV {X : Cx} (hu : X.A.units + 66 < cLine) : OpR X (compareOp .NotIn) (rInV X.K true) := by
  intro pins s σ H x y v u Q I rx ry h
  rcases h with h | ⟨a, o, rfl, g, q⟩ | ⟨c, z, rfl, rfl, hc, q⟩
  · exact op_notIn_seq pins s σ H x y v u Q I rx ry h
  · rw [Bool.true_xor] at q
    exact op_notInK (by omega) pins s σ H x (.ref a) v u Q I rx ry ⟨a, o, rfl, g, q⟩
  · refine op_notIn_str pins s σ H _ _ v u Q I rx ry ⟨c, z, rfl, rfl, ?_⟩
    have e : (!(Builtin.Str.occurrences z c 0 z.length 1).isEmpty) = decide (c.cps.toList.headD 0 ∈ z.cps.toList) := by
      have q := SX.in_one z.cps.toList (c.cps.toList.headD 0)
      have e2 : (SX.S [c.cps.toList.headD 0] : Str) = c := (one_sign hc).symm
      rw [e2] at q
      exact q
    rw [e]
    rw [Bool.true_xor] at q
    exact q
theorem ok_in {neg : Bool} : OpOk Z K E (rInV K neg) (inP neg) := by
  intro B H a b x y Q s r ha hb q
  have eq : ∀ c : Bool, (if neg then !c else c) = (neg ^^ c) := by
    cases neg <;> intro c <;> cases c <;> rfl
  cases eb : b.pv with
  | lst xs =>
    rw [eb] at q
    obtain ⟨⟨f1, f2⟩, q⟩ := q
    obtain ⟨p1, z1, rfl, t1, d1⟩ := hb.lst s eb
    have d := ha.den (by cases e : a.pv <;> rw [e] at f1 <;> first | rfl | cases f1)
    refine .inl ⟨p1, z1, rfl, .inl (SqL.of t1), den_flat f1 d, denL_flat f2 d1, ?_⟩
    have e2 := denL_in f1 d f2 d1
    have e3 := eq (inV x z1)
    rw [e2] at e3
    have q' := post_val s r q (v := .bl (neg ^^ xs.any fun x => eqF x a.pv)) rfl
    cases neg
    · show Q (.bl (inV x z1)) H
      rw [e2]
      rw [Bool.false_xor] at q'
      exact q'
    · show Q (.bl (!inV x z1)) H
      rw [e2]
      rw [Bool.true_xor] at q'
      exact q'
  | tup xs =>
    rw [eb] at q
    obtain ⟨⟨f1, f2⟩, q⟩ := q
    obtain ⟨p1, z1, rfl, t1, d1⟩ := hb.tup eb
    have d := ha.den (by cases e : a.pv <;> rw [e] at f1 <;> first | rfl | cases f1)
    refine .inl ⟨p1, z1, rfl, .inr (t1.same s).sqt, den_flat f1 d, denL_flat f2 d1, ?_⟩
    have e2 := denL_in f1 d f2 d1
    have q' := post_val s r q (v := .bl (neg ^^ xs.any fun x => eqF x a.pv)) rfl
    cases neg
    · show Q (.bl (inV x z1)) H
      rw [e2]
      rw [Bool.false_xor] at q'
      exact q'
    · show Q (.bl (!inV x z1)) H
      rw [e2]
      rw [Bool.true_xor] at q'
      exact q'
  | dct ks xs =>
    rw [eb] at q
    have q : (match keyP a.pv with | some k => pure (.val (.bl (neg ^^ (look ks xs k).isSome))) | none => M.fail : M Rs).run (Post Z K B H Q) (ErOk Z K B H E) := q
    cases hk : keyP a.pv with
    | none =>
      rw [hk] at q
      exact False.elim q
    | some k =>
      rw [hk] at q
      obtain ⟨p1, kvs, rfl, t1, rfl, d1⟩ := hb.dct s eb
      have d := ha.den (by cases e : a.pv <;> rw [e] at hk <;> first | rfl | cases hk)
      obtain rfl := den_key hk d
      refine .inr (.inl ⟨p1, valV kvs k, rfl, DGet.k t1, ?_⟩)
      obtain ⟨i1, i2⟩ := look_val (k' := k) d1
      have e : (valV kvs k).isSome = (look (kvs.map (·.1)) xs k).isSome := by
        cases z : look (kvs.map (·.1)) xs k with
        | none =>
          rw [i2 z]
          rfl
        | some x =>
          obtain ⟨v, hv, _⟩ := i1 x z
          rw [hv]
          rfl
      rw [e]
      exact post_val s r q rfl
  | str z =>
    rw [eb] at q
    cases ea : a.pv with
    | str c =>
      rw [ea] at q
      obtain ⟨f1, q⟩ := q
      exact .inr (.inr ⟨c, z, ha.str ea, hb.str eb, f1, post_val s r q rfl⟩)
    | _ =>
      rw [ea] at q
      exact False.elim q
  | _ =>
    rw [eb] at q
    exact False.elim q
/-! a[b] -/
def ixP (p q : PV) : M Rs := match p with
  | .tup xs => match q with
    | .int i => match atI xs i with
      | some x => pure (.val x)
      | none => M.fail
    | _ => M.fail
  | .lst xs => match q with
    | .int i => match atI xs i with
      | some x => pure (.val x)
      | none => M.fail
    | _ => M.fail
  | .dct ks xs => match keyP q with
    | some k => match look ks xs k with
      | some x => pure (.val x)
      | none => M.fail
    | none => M.fail
  | .str z => match q with
    | .int i => match atI z.cps.toList i with
      | some c => do
        M.ask (z.length ≤ 1000)
        pure (.val (.str ⟨#[c]⟩))
      | none => M.fail
    | _ => M.fail
  | _ => M.fail
def rIxV (K : PySem.W.Frag) : R2 := fun x y H Q => rIx K x y H Q ∨ ∃ a v, x = .ref a ∧ DGet H a y (some v) ∧ Q v H
theorem ix_V {X : Cx} (hu : X.A.units + 66 < cLine) : IxR X (rIxV X.K) := ix_seq.or (ix_dict (by omega))
theorem atI_den {xs : List PV} {ys : List V} {i : Int} {x : PV} (d : DenL Z B xs ys) (h : atI xs i = some x) : ∃ v, atI ys i = some v ∧ Den Z B x v := by
  unfold atI at h ⊢
  rw [← d.len]
  cases e : ixN xs.length i with
  | none =>
    rw [e] at h
    cases h
  | some j =>
    rw [e] at h
    exact d.get h
theorem ok_ix : OpOk Z K E (rIxV K) ixP := by
  intro B H a b x y Q s r ha hb q
  cases ea : a.pv with
  | tup xs =>
    cases eb : b.pv with
    | int i =>
      rw [ea, eb] at q
      have q : (match atI xs i with | some x => pure (.val x) | none => M.fail : M Rs).run (Post Z K B H Q) (ErOk Z K B H E) := q
      cases h : atI xs i with
      | none =>
        rw [h] at q
        exact False.elim q
      | some z =>
        rw [h] at q
        obtain ⟨p1, z1, rfl, t1, d1⟩ := ha.tup ea
        obtain ⟨v, hv, dv⟩ := atI_den d1 h
        exact .inl (.inr (.inl ⟨p1, z1, i, v, rfl, hb.int eb, (t1.same s).sqt, hv, post_val s r q dv⟩))
    | _ =>
      rw [ea, eb] at q
      exact False.elim q
  | lst xs =>
    cases eb : b.pv with
    | int i =>
      rw [ea, eb] at q
      have q : (match atI xs i with | some x => pure (.val x) | none => M.fail : M Rs).run (Post Z K B H Q) (ErOk Z K B H E) := q
      cases h : atI xs i with
      | none =>
        rw [h] at q
        exact False.elim q
      | some z =>
        rw [h] at q
        obtain ⟨p1, z1, rfl, t1, d1⟩ := ha.lst s ea
        obtain ⟨v, hv, dv⟩ := atI_den d1 h
        exact .inl (.inl ⟨p1, z1, i, v, rfl, hb.int eb, SqL.of t1, hv, post_val s r q dv⟩)
    | _ =>
      rw [ea, eb] at q
      exact False.elim q
  | str z =>
    cases eb : b.pv with
    | int i =>
      rw [ea, eb] at q
      have q : (match atI z.cps.toList i with | some c => (do M.ask (z.length ≤ 1000); pure (.val (.str ⟨#[c]⟩))) | none => M.fail : M Rs).run (Post Z K B H Q) (ErOk Z K B H E) := q
      cases h : atI z.cps.toList i with
      | none =>
        rw [h] at q
        exact False.elim q
      | some c =>
        rw [h] at q
        obtain ⟨hl, q⟩ := q
        exact .inl (.inr (.inr ⟨z, i, c, ha.str ea, hb.int eb, small_len hl, h, post_val s r q rfl⟩))
    | _ =>
      rw [ea, eb] at q
      exact False.elim q
  | dct ks xs =>
    rw [ea] at q
    have q : (match keyP b.pv with | some k => (match look ks xs k with | some x => pure (.val x) | none => M.fail) | none => M.fail : M Rs).run (Post Z K B H Q) (ErOk Z K B H E) := q
    cases hk : keyP b.pv with
    | none =>
      rw [hk] at q
      exact False.elim q
    | some k =>
      rw [hk] at q
      have q2 : (match look ks xs k with | some x => pure (.val x) | none => M.fail : M Rs).run (Post Z K B H Q) (ErOk Z K B H E) := q
      cases hl : look ks xs k with
      | none =>
        rw [hl] at q2
        exact False.elim q2
      | some z =>
        rw [hl] at q2
        obtain ⟨p1, kvs, rfl, t1, rfl, d1⟩ := ha.dct s ea
        have d := hb.den (by cases e : b.pv <;> rw [e] at hk <;> first | rfl | cases hk)
        obtain rfl := den_key hk d
        obtain ⟨v, hv, dv⟩ := (look_val (k' := k) d1).1 z hl
        exact .inr ⟨p1, v, rfl, hv ▸ DGet.k t1, post_val (p := z) s r q2 dv⟩
  | _ =>
    rw [ea] at q
    exact False.elim q
end
section
variable {X : Cx} {Z : Zn} {E : Option XK} {a b c : Expr} {pos : Pos}
theorem v_ix {ma mb : ME} (hu : X.A.units + 66 < cLine) (ha : VE X Z E a ma) (hb : VE X Z E b mb) (hs : PlainIx b) : VE X Z E (.Subscript a b pos) (mBin ixP ma mb) := pe_weak (pe_ix (ix_V hu) ha hb hs) fun _ _ _ => r_bin ok_ix
end
end

/-! ## calls -/
section
open PySem.W PyProof.Rows PySem.Calls PySem.SeqAt
section
variable {Z : Zn} {K : PySem.W.Frag} {E : Option XK} {B H : Hp}
/-! a op b op' c -/
def mChain (op op' : PV → PV → M Rs) (ma mb mc : ME) : ME := fun e => do
  let a ← ma e
  let b ← mb e
  let r ← op a.pv b.pv
  let k ← asB r
  if k then do
    let c ← mc e
    op' b.pv c.pv
  else pure (.val (.bl false))
theorem r_chain {r r' : R2} {op op' : PV → PV → M Rs} {ma mb mc : ME} {σ : L2.St} {Q : VK} (ho : OpOk Z K E r op) (ho' : OpOk Z K E r' op') (h : up Z K E (mChain op op' ma mb mc) σ H Q) : tChain r r' (up Z K E ma) (up Z K E mb) (up Z K E mc) σ H Q := by
  obtain ⟨B, e, R, q⟩ := h
  refine ⟨B, e, R, (ma e).mono (fun a p B1 x H1 s1 ha => ?_) (fun _ z => z) q⟩
  refine ⟨B1, e, R.step s1, (mb e).mono (fun b p B2 y H2 s2 hb => ?_) (fun _ z => z.step R.row s1) p⟩
  have s12 := s1.trans R.row s2
  refine ho B2 H2 a b x y _ s2.s s2.r (ha.has.step s2) hb.has ((op a.pv b.pv).mono (fun z pz B3 v H3 s3 hz => ?_) (fun _ z => z.step R.row s12) p)
  obtain ⟨k, rfl, pz⟩ := asB_run pz
  have s13 := s12.trans R.row s3
  refine ⟨k, hz, ?_⟩
  cases k with
  | false => exact pz B3 _ H3 s13 rfl
  | true =>
    refine ⟨B3, e, R.step s13, (mc e).mono (fun c p B4 w H4 s4 hc => ?_) (fun _ z => z.step R.row s13) pz⟩
    have s14 := s13.trans R.row s4
    exact ho' B4 H4 b c y w Q s4.s s4.r ((hb.has.step s3).step s4) hc.has ((op' b.pv c.pv).mono (fun _ z => z.step R.row s14) (fun _ z => z.step R.row s14) p)
/-! len -/
def lenP : PV → M Rs
  | .tup xs => do
    M.ask (xs.length ≤ 100000)
    pure (.val (.int xs.length))
  | .lst xs => do
    M.ask (xs.length ≤ 100000)
    pure (.val (.int xs.length))
  | .str z => do
    M.ask (z.length ≤ 1000)
    pure (.val (.int z.length))
  | .hs _ ss _ => do
    M.ask (ss.length ≤ 100000)
    pure (.val (.int ss.length))
  | _ => M.fail
def rLenV (K : PySem.W.Frag) (C : Addr) (Eh : XK) : List V → Hp → VK → Prop := fun xs H Q => rLen K xs H Q ∨ rLenI C (spHLen C) Eh xs H Q
theorem ok_len {C : Addr} {Eh : XK} (hC : Z.C = C) : CaOk Z K E (rLenV K C Eh) (one lenP) := by
  subst hC
  intro B H rs vs Q s r ha q
  obtain ⟨x, v, rfl, hx, q⟩ := one_run ha q
  cases e : x.pv with
  | tup xs =>
    rw [e] at q
    obtain ⟨hl, q⟩ := q
    obtain ⟨a, ys, rfl, t, d⟩ := hx.tup e
    refine .inl ⟨_, ys.length, rfl, lenT (t.same s).sqt, ?_⟩
    rw [← d.len]
    exact post_val s r q rfl
  | lst xs =>
    rw [e] at q
    obtain ⟨hl, q⟩ := q
    obtain ⟨a, ys, rfl, t, d⟩ := hx.lst s e
    refine .inl ⟨_, ys.length, rfl, lenL (SqL.of t), ?_⟩
    rw [← d.len]
    exact post_val s r q rfl
  | str z =>
    rw [e] at q
    obtain ⟨hl, q⟩ := q
    obtain rfl := hx.str e
    exact .inl ⟨_, z.length, rfl, lenS (small_len hl), post_val s r q rfl⟩
  | hs ns ss kd =>
    rw [e] at q
    obtain ⟨hl, q⟩ := q
    have d := hx.den (by rw [e]; rfl)
    rw [e] at d
    obtain ⟨a, rfl, hh, hok⟩ := d
    have hh' := hh.same s
    obtain ⟨dx, nm, sg, dm, h1, _⟩ := hh'.ex
    refine .inr ⟨a, dx, _, rfl, h1, a, ns, ss, kd, rfl, hh', ss.length, rfl, by omega, post_val s r q rfl⟩
  | _ =>
    rw [e] at q
    exact False.elim q
/-! what a house tells -/
def pvV : V → PV
  | .bl b => .bl b
  | .int i => .int i
  | .str x => .str x
  | _ => .non
def pvM : MD → PV
  | .txt z => .str z
  | .tup xs => .tup (xs.map pvV)
def namesP : PV → M Rs
  | .hs ns _ _ => pure (.val (.tup (ns.map .str)))
  | _ => M.fail
def platesP : PV → M Rs
  | .hs _ ss _ => pure (.val (.tup (ss.map .str)))
  | _ => M.fail
def mannersP : PV → M Rs
  | .hs ns _ kd => pure (.own (.dct (ns.map .inr) (kd.map fun q => pvM q.2)))
  | _ => M.fail
def rProp (C : Addr) (sp : Sp) (Eh : XK) : V → Hp → VK → Prop := fun x H Q => ∃ a dx fs, x = .ref a ∧ H a = some (.ins C dx fs) ∧ sp [.ref a] H Q Eh
theorem den_strs : ∀ ns : List Str, DenL Z B (ns.map .str) (ns.map .str)
  | [] => rfl
  | n :: ns => ⟨_, _, rfl, rfl, den_strs ns⟩
theorem okn_names {C : Addr} {Eh : XK} (hC : Z.C = C) : UnOk Z K E (rProp C (getSp C "_names") Eh) namesP := by
  subst hC
  intro B H a x Q s r ha q
  cases e : a.pv with
  | hs ns ss kd =>
    rw [e] at q
    have d := ha.den (by rw [e]; rfl)
    rw [e] at d
    obtain ⟨c, rfl, hh, hok⟩ := d
    obtain ⟨dx, nm, sg, dm, h1, h2, h3, h4⟩ := hh.ex
    exact ⟨c, dx, _, rfl, s _ _ h1, c, dx, _, _, rfl, s _ _ h1, hF_names _ _ _, post_val s r q ⟨nm, _, rfl, h2, den_strs ns⟩⟩
  | _ =>
    rw [e] at q
    exact False.elim q
theorem okn_plates {C : Addr} {Eh : XK} (hC : Z.C = C) : UnOk Z K E (rProp C (getSp C "_plates") Eh) platesP := by
  subst hC
  intro B H a x Q s r ha q
  cases e : a.pv with
  | hs ns ss kd =>
    rw [e] at q
    have d := ha.den (by rw [e]; rfl)
    rw [e] at d
    obtain ⟨c, rfl, hh, hok⟩ := d
    obtain ⟨dx, nm, sg, dm, h1, h2, h3, h4⟩ := hh.ex
    exact ⟨c, dx, _, rfl, s _ _ h1, c, dx, _, _, rfl, s _ _ h1, hF_plates _ _ _, post_val s r q ⟨sg, _, rfl, h3, den_strs ss⟩⟩
  | _ =>
    rw [e] at q
    exact False.elim q
theorem den_itms : ∀ {xs : List V}, (∀ x ∈ xs, Itm x) → DenL Z B (xs.map pvV) xs
  | [], _ => rfl
  | x :: xs, h => by
    refine ⟨x, xs, rfl, ?_, den_itms fun y hy => h y (List.mem_cons_of_mem _ hy)⟩
    rcases h x List.mem_cons_self with rfl | ⟨i, rfl⟩ | ⟨b, rfl⟩
    · exact rfl
    · exact rfl
    · exact rfl
theorem den_md {v : V} {d : MD} (h : MDAt B v d) (f : d.fine) : Den Z B (pvM d) v := by
  cases d with
  | txt z => exact h
  | tup xs =>
    obtain ⟨g, rfl, hg⟩ := h
    exact ⟨g, xs, rfl, hg, den_itms f.2⟩
theorem den_kd : ∀ {kvs : List (Key × V)} {kd : List (Str × MD)}, Paired (fun (p : Key × V) (q : Str × MD) => p.1 = Sum.inr q.1 ∧ MDAt B p.2 q.2) kvs kd → (∀ q ∈ kd, q.2.fine) →
    kvs.map (·.1) = (kd.map (·.1)).map .inr ∧ DenL Z B (kd.map fun q => pvM q.2) (kvs.map (·.2))
  | _, _, .nil, _ => ⟨rfl, rfl⟩
  | p :: kvs, q :: kd, .cons r t, f => by
    obtain ⟨i1, i2⟩ := den_kd t fun z hz => f z (List.mem_cons_of_mem _ hz)
    refine ⟨?_, p.2, _, rfl, den_md r.2 (f q List.mem_cons_self), i2⟩
    show p.1 :: kvs.map (·.1) = Sum.inr q.1 :: (kd.map (·.1)).map .inr
    rw [r.1, i1]
theorem okn_manners {C : Addr} {Eh : XK} (hC : Z.C = C) : UnOk Z K E (rProp C (spMnrs C) Eh) mannersP := by
  subst hC
  intro B H a x Q s r ha q
  cases e : a.pv with
  | hs ns ss kd =>
    rw [e] at q
    have d := ha.den (by rw [e]; rfl)
    rw [e] at d
    obtain ⟨c, rfl, hh, hok⟩ := d
    obtain ⟨dx, nm, sg, dm, h1, h2, h3, h4⟩ := hh.ex
    refine ⟨c, dx, _, rfl, s _ _ h1, c, B, ns, ss, kd, rfl, hh, s, fun d kvs n hp => ?_⟩
    obtain ⟨i1, i2⟩ := den_kd (Z := Z) hp hok.fine
    rw [hok.keys] at i1
    exact post_own s r q n ⟨kvs, upd_same, i1, i2⟩
  | _ =>
    rw [e] at q
    exact False.elim q
/-! t.index(x) -/
def idxF (p : PV) : List PV → Option Nat
  | [] => none
  | x :: xs => if eqF x p then some 0 else (idxF p xs).map (· + 1)
def mTM (f : PV → List PV → M Rs) (mo : ME) (ms : En → M (List Rs)) : ME := fun e => do
  let a ← mo e
  match a.pv with
  | .tup _ => do
    let rs ← ms e
    f a.pv (rs.map Rs.pv)
  | _ => M.fail
def indexP : PV → PV → M Rs
  | .tup xs, p => do
    M.ask (p.flat = true ∧ xs.all PV.flat = true)
    match idxF p xs with
    | some j => pure (.val (.int (j : Nat)))
    | none => M.fail
  | _, _ => M.fail
def MtOk (Z : Zn) (K : PySem.W.Frag) (E : Option XK) (r : V → List V → Hp → VK → Prop) (f : PV → List PV → M Rs) : Prop := ∀ (B H : Hp) (a : Rs) (x : V) (rs : List Rs) (vs : List V) (Q : VK), Same B H → RowOk Z K B H → HasAt Z B H a x → HasL Z B H rs vs →
  (f a.pv (rs.map Rs.pv)).run (Post Z K B H Q) (ErOk Z K B H E) → r x vs H Q
theorem r_tm {r : V → List V → Hp → VK → Prop} {f : PV → List PV → M Rs} {mo : ME} {ms : En → M (List Rs)} {σ : L2.St} {Q : VK} (ho : MtOk Z K E r f) (h : up Z K E (mTM f mo ms) σ H Q) : tTM r (up Z K E mo) (upP Z K E ms) σ H Q := by
  obtain ⟨B, e, R, q⟩ := h
  refine ⟨B, e, R, (mo e).mono (fun a p B1 x H1 s1 ha => ?_) (fun _ z => z) q⟩
  cases ea : a.pv with
  | tup xs =>
    have p : (do let rs ← ms e; f a.pv (rs.map Rs.pv) : M Rs).run (Post Z K B H Q) (ErOk Z K B H E) := by
      have p' : (match a.pv with | .tup _ => (do let rs ← ms e; f a.pv (rs.map Rs.pv)) | _ => M.fail : M Rs).run (Post Z K B H Q) (ErOk Z K B H E) := p
      rw [ea] at p' ⊢
      exact p'
    obtain ⟨c, ys, rfl, t, d⟩ := ha.has.tup ea
    refine ⟨⟨c, ys, rfl, t.same s1.s⟩, B1, e, R.step s1, (ms e).mono (fun rs p B2 vs H2 s2 hv => ?_) (fun _ z => z.step R.row s1) p⟩
    have s12 := s1.trans R.row s2
    exact ho B2 H2 a _ rs vs Q s2.s s2.r (ha.has.step s2) hv ((f _ _).mono (fun _ z => z.step R.row s12) (fun _ z => z.step R.row s12) p)
  | _ =>
    have p' : (match a.pv with | .tup _ => (do let rs ← ms e; f a.pv (rs.map Rs.pv)) | _ => M.fail : M Rs).run (Post Z K B H Q) (ErOk Z K B H E) := p
    rw [ea] at p'
    exact False.elim p'
def rTix (K : PySem.W.Frag) : V → List V → Hp → VK → Prop := fun x xs H Q => ∃ (p : Addr) (ys : List V) (y : V) (j : Nat) (z : V), x = .ref p ∧ xs = [y] ∧ SqT K H p ys ∧ flatV y = true ∧ ys.all flatV = true ∧ ys[j]? = some z ∧ eqV z y = true ∧ (∀ (m : Nat) (z' : V), m < j → ys[m]? = some z' → eqV z' y = false) ∧ Q (.int (j : Nat)) H
theorem idxF_spec {p : PV} {v : V} (fp : p.flat = true) (d : Den Z B p v) : ∀ {xs : List PV} {ys : List V} {j : Nat}, xs.all PV.flat = true → DenL Z B xs ys → idxF p xs = some j →
    ∃ z, ys[j]? = some z ∧ eqV z v = true ∧ ∀ (m : Nat) (z' : V), m < j → ys[m]? = some z' → eqV z' v = false
  | [], _, _, _, _, h => by cases h
  | x :: xs, _, j, f, dl, h => by
    obtain ⟨y, r, rfl, d1, d2⟩ := dl
    rw [List.all_cons, Bool.and_eq_true] at f
    unfold idxF at h
    by_cases c : eqF x p = true
    · rw [if_pos c] at h
      cases h
      refine ⟨y, rfl, (den_eqF f.1 fp d1 d).trans c, fun m z' hm => absurd hm (Nat.not_lt_zero _)⟩
    · rw [if_neg c] at h
      obtain ⟨i, hi, e⟩ := Option.map_eq_some_iff.mp h
      subst e
      obtain ⟨z, h1, h2, h3⟩ := idxF_spec fp d f.2 d2 hi
      refine ⟨z, h1, h2, fun m z' hm hz => ?_⟩
      cases m with
      | zero =>
        cases hz
        exact (den_eqF f.1 fp d1 d).trans (Bool.eq_false_iff.mpr c)
      | succ m => exact h3 m z' (Nat.lt_of_succ_lt_succ hm) hz
theorem ok_index : MtOk Z K E (rTix K) (fun p ps => one (indexP p) ps) := by
  intro B H a x rs vs Q s r ha hv q
  obtain ⟨y, w, rfl, hy, q⟩ := one_run hv q
  cases ea : a.pv with
  | tup xs =>
    rw [ea] at q
    obtain ⟨⟨f1, f2⟩, q⟩ := q
    have q : (match idxF y.pv xs with | some j => pure (.val (.int (j : Nat))) | none => M.fail : M Rs).run (Post Z K B H Q) (ErOk Z K B H E) := q
    cases hi : idxF y.pv xs with
    | none =>
      rw [hi] at q
      exact False.elim q
    | some j =>
      rw [hi] at q
      obtain ⟨c, ys, rfl, t, d⟩ := ha.tup ea
      have dy := hy.den (by cases e : y.pv <;> rw [e] at f1 <;> first | rfl | cases f1)
      obtain ⟨z, h1, h2, h3⟩ := idxF_spec f1 dy f2 d hi
      exact ⟨c, ys, w, j, z, rfl, rfl, (t.same s).sqt, den_flat f1 dy, denL_flat f2 d, h1, h2, h3, post_val s r q rfl⟩
  | _ =>
    rw [ea] at q
    exact False.elim q
/-! own defs -/
def M.safe {α : Type} (x : M α) : M α := ⟨fun Q _ => x.run Q (fun _ => False), fun h _ q => x.mono h (fun _ z => z) q⟩
theorem safe_pure {α : Type} (a : α) : M.safe (pure a : M α) = pure a := rfl
theorem run_safe {α : Type} (x : M α) (Q : α → Prop) (F : Ex → Prop) : (M.safe x).run Q F = x.run Q (fun _ => False) := rfl
/-- the promise of a def that raises nothing -/
def spV (w : World) (K : PySem.W.Frag) (C : Addr) (n : Nat) (f : List PV → M Rs) : Sp := fun vs H Q _ => vs.length = n ∧ ∃ (Z : Zn) (B : Hp) (ps : List PV), ZC Z C w ∧ Same B H ∧ RowOk Z K B H ∧ DenL Z B ps vs ∧ (f ps).run (Post Z K B H Q) (fun _ => False)
def mCall0 (n : Nat) (f : List PV → M Rs) (ms : En → M (List PV)) : ME := fun e => do
  let ps ← ms e
  M.ask (ps.length = n)
  M.safe (f ps)
theorem r_call0 {w : World} {C : Addr} {n : Nat} {f : List PV → M Rs} {ms : En → M (List PV)} {σ : L2.St} {Q : VK} {Eh : XK} (hC : ZC Z C w) (h : up Z K E (mCall0 n f ms) σ H Q) : tCall (spV w K C n f) [] Eh (upA Z K E ms) σ H Q := by
  obtain ⟨B, e, R, q⟩ := h
  refine ⟨B, e, R, (ms e).mono (fun ps p B1 vs H1 s1 hv => ?_) (fun _ z => z) q⟩
  obtain ⟨hl, p⟩ := p
  rw [List.append_nil]
  exact ⟨hv.len.symm.trans hl, Z, B1, ps, hC, s1.s, s1.r, hv, (f ps).mono (fun _ z => z.step R.row s1) (fun _ z => z) p⟩
/-- a def's run, from its body's -/
def fnV (n k : Nat) (body : MS) : List PV → M Rs := fun ps => do
  match ← body (ps.map .val ++ List.replicate (n - k) .un) with
  | .rt r => pure r
  | .nx _ => pure (.val .non)
  | _ => M.fail
end
theorem start_rp {Z : Zn} {K : PySem.W.Frag} {B H : Hp} {ps : List PV} {vs : List V} {n : Nat} (s : Same B H) (r : RowOk Z K B H) (d : DenL Z B ps vs) : Rp Z K B (ps.map .val ++ List.replicate n .un) (vs.map some ++ List.replicate n none) H := by
  have no : ∀ (j : Nat) (p : PV), (ps.map Sl.val ++ List.replicate n Sl.un)[j]? ≠ some (.own p) := fun j p h => by
    have := List.mem_of_getElem? h
    rcases List.mem_append.mp this with z | z
    · obtain ⟨_, _, e⟩ := List.mem_map.mp z
      cases e
    · have := List.eq_of_mem_replicate z
      cases this
  refine ⟨s, ?_, fun i j p q a _ h => absurd h (no i p), r⟩
  have h2 : ∀ n : Nat, Paired (SlAt Z B H) (List.replicate n Sl.un) (List.replicate n none) := fun n => by
    induction n with
    | zero => exact .nil
    | succ n ih => exact .cons trivial ih
  have h1 : ∀ {ps : List PV} {vs : List V}, DenL Z B ps vs → Paired (SlAt Z B H) (ps.map Sl.val ++ List.replicate n Sl.un) (vs.map some ++ List.replicate n none) := by
    intro ps
    induction ps with
    | nil =>
      intro vs d
      obtain rfl : vs = [] := d
      exact h2 n
    | cons p ps ih =>
      intro vs d
      obtain ⟨y, r, rfl, d1, d2⟩ := d
      exact .cons ⟨y, rfl, d1⟩ (ih d2)
  exact h1 d
section
variable {P : Program} {w : World} {K : PySem.W.Frag} {mg : Str → Option Value} {base : Heap}
theorem cal_V {C : Addr} {x : Str} {st : Stmt} {f : Addr} {fd : FuncData} {N ps : List Str} {k : Nat} {body : MS} (F : Def K mg x st f fd) (b : Binds K fd ps []) (S : FnScope N ps (C8.fnScope st))
    (hbody : ∀ (cdv : Value) (A : Around) (outer : List Env) (s : Shared) (H : Hp) (E : XK) (Z : Zn), ZC Z C w → Room k (A.deeper (envOfC x (C8.fnScope st) s.heap.objs.size f cdv)) → VSs (cxOf C8.CX0 P w K mg base N x (C8.fnScope st) f cdv A outer s H E).nox Z none (C8.fnBody st) body) :
    Cal P w K mg base (k + 1) x (spV w K C ps.length (fnV N.length ps.length body)) [] := by
  refine C8.cal0 F b .nil S (fun vs H Q E h => h.1) (fun cdv A outer s H vs Q E hr h => ?_)
  obtain ⟨hl, Z, B, qs, hC, sb, ro, d, q⟩ := h
  refine ⟨_, hbody cdv A outer s H E Z hC hr, B, H, B, qs.map .val ++ List.replicate (N.length - ps.length) .un, ⟨?_, .refl sb ro, ro, fun i p a h => ?_⟩, ?_⟩
  · have := start_rp (n := N.length - ps.length) sb ro d
    unfold L2.start
    rw [hl]
    exact this
  · have := List.mem_of_getElem? h
    rcases List.mem_append.mp this with z | z
    · obtain ⟨_, _, e⟩ := List.mem_map.mp z
      cases e
    · have := List.eq_of_mem_replicate z
      cases this
  · refine (body _).mono (fun fl p => ?_) (fun _ z => z) q
    cases fl with
    | rt r => exact p
    | nx e => exact fun B1 σ1 H1 R1 => p B1 .non H1 R1.st rfl
    | bk e => exact False.elim p
    | ct e => exact False.elim p
theorem cal_weak {x : Str} {k : Nat} {sp sp' : Sp} {dvs : List V} (c : Cal P w K mg base k x sp dvs) (h : ∀ vs H Q E, sp' vs H Q E → sp vs H Q E) : Cal P w K mg base k x sp' dvs := by
  obtain ⟨f, fd, ps, ds, F, m, kp, b, d⟩ := c.ex
  exact ⟨f, fd, ps, ds, F.imp h, m, kp, b, d⟩
end
section
variable {X : Cx} {Z : Zn} {E : Option XK} {a b c : Expr} {pos : Pos}
theorem v_chain {o o' : CmpOp} {r r' : R2} {op op' : PV → PV → M Rs} {ma mb mc : ME} (hr : OpR X (compareOp o) r) (hr' : OpR X (compareOp o') r') (ho : OpOk Z X.K E r op) (ho' : OpOk Z X.K E r' op') (ha : VE X Z E a ma) (hb : VE X Z E b mb) (hc : VE X Z E c mc) (hm : lastMarks [o, o'] [b, c] = false := by with_unfolding_all rfl) :
    VE X Z E (.Compare a [o, o'] [b, c] pos) (mChain op op' ma mb mc) := pe_weak (pe_chain hr hr' ha hb hc hm) fun _ _ _ => r_chain ho ho'
theorem v_c {k j n : Nat} {C : Addr} {x : Str} {p : Pos} {e : Expr} {es : List Expr} {f : List PV → M Rs} {ms : En → M (List PV)} (hC : ZC Z C X.w) (cal : Cal X.prog X.w X.K X.mg X.base k x (spV X.w X.K C n f) []) (hr : Room j X.A) (hk : k ≤ j) (hg : Gl X x) (ha : VA X Z E (e :: es) ms)
    (hdb : (x == ("__debug__" : Str)) = false := by decide) (he : starEach (e :: es) X.env = (false, eval e X.env) :: starEach es X.env := by rfl) (hpl : (backTo pos (starEach es X.env)).any (·.1) = false := by rfl) : VE X Z E (.Call (.Name x p) (e :: es) [] pos) (mCall0 n f ms) :=
  pe_weak (C8.pe_c cal hr hk hg ha hdb he hpl) fun _ _ _ => r_call0 hC
theorem v_attr {C p g : Addr} {k : Nat} {f : Str} {fd : FuncData} {ps : List Str} {sp : Sp} {Eh : XK} {op : PV → M Rs} {m : ME} {CX : CXT} (he : VE X Z E a m) (c : Cls X.K C) (hp : PropOf X.K C f p g) (F : FnOk X.prog X.w X.K X.mg X.base CX k g fd ps sp) (hr : Room (k + 1) X.A) (hb : Binds X.K fd ps []) (hx : Passes CX X.nox Eh) (ho : UnOk Z X.K E (rProp C sp Eh) op)
    (hab : attributeBase a f X.env (eval a X.env) = eval a X.env) : VE X Z E (.Attribute a f pos) (mUn op m) := pe_weak (pe_prop he c hp F hr hb .nil hx hab) fun _ _ _ h => r_un ho h
theorem v_index {mo : ME} {o e : Expr} {es : List Expr} {ms : En → M (List Rs)} {apos cpos : Pos} (ho : VE X Z E o mo) (ha : VP X Z E (e :: es) ms)
    (hbase : attributeBase o "index" X.env (eval o X.env) = eval o X.env := by rfl)
    (hfew : ((backTo cpos (starEach (e :: es) X.env)).all (fun x => !x.1) && (backToKw cpos (keywordEach [] X.env)).all (fun x => x.1.isSome)
      && decide ((e :: es).length + ([] : List Keyword).length + (if ([] : List Keyword).isEmpty then 0 else 1) < 30)) = true := by rfl)
    (hline : (apos.endLine == cpos.line) = true := by rfl) (hs : starEach (e :: es) X.env = (false, eval e X.env) :: starEach es X.env := by rfl) (hplain : (backTo cpos (starEach es X.env)).any (·.1) = false := by rfl) :
    VE X Z E (.Call (.Attribute o "index" apos) (e :: es) [] cpos) (mTM (fun p ps => one (indexP p) ps) mo ms) :=
  pe_weak (pe_tm PySem.F.plainAttrs_tuple PySem.F.slot_tuple_index PySem.F.type_tuple_index mt_tup_ix ho ha hbase hfew hline hs hplain) fun _ _ _ => r_tm ok_index
end
end

section
variable {P : Program} {w : World} {K : PySem.W.Frag} {mg : Str → Option Value} {base : Heap}
/-- the row's draw: some number below -/
def isOrc : PV → Bool
  | .orc => true
  | _ => false
def takenP : List PV → M Rs := two fun a b => match b with
  | .int m => do
    M.ask (isOrc a = true ∧ 0 < m ∧ m < 1000)
    let r ← M.any fun r : Int => 0 ≤ r ∧ r < m
    pure (.val (.int r))
  | _ => M.fail
theorem two_runP {α : Type} {Z : Zn} {B : Hp} {f : PV → PV → M α} {ps : List PV} {vs : List V} {Q : α → Prop} {F : Ex → Prop} (h : DenL Z B ps vs) (q : (two f ps).run Q F) : ∃ p v p' v', ps = [p, p'] ∧ vs = [v, v'] ∧ Den Z B p v ∧ Den Z B p' v' ∧ (f p p').run Q F := by
  cases ps with
  | nil => exact False.elim q
  | cons a r =>
    cases r with
    | nil => exact False.elim q
    | cons b r =>
      cases r with
      | cons c r => exact False.elim q
      | nil =>
        obtain ⟨y, r, rfl, d1, y2, r2, rfl, d2, d3⟩ := h
        obtain rfl : r2 = [] := d3
        exact ⟨a, y, b, y2, rfl, rfl, d1, d2, q⟩
theorem den_orc {Z : Zn} {B : Hp} {p : PV} {v : V} (h : isOrc p = true) (d : Den Z B p v) : ∃ p, v = .ref p ∧ isRow Z p := by
  cases p with
  | orc => exact d
  | _ => cases h
theorem taken_V {w : World} {C : Addr} {vs : List V} {H : Hp} {Q : VK} {E : XK} (h : spV w K C 2 takenP vs H Q E) : spTaken K vs H Q E := by
  obtain ⟨hl, Z, B, ps, hC, sb, ro, d, q⟩ := h
  obtain ⟨a, v, b, v', rfl, rfl, d1, d2, q⟩ := two_runP d q
  cases b with
  | int m =>
    obtain ⟨⟨o1, m0, m1⟩, q⟩ := q
    obtain ⟨p, rfl, c, ns, hz⟩ := den_orc o1 d1
    obtain rfl : v' = .int m := d2
    obtain ⟨R, nb⟩ := ro.row p c ns hz
    refine ⟨p, c, ns, m, rfl, R, m0, m1, fun r H' r0 r1 R' sbH => ?_⟩
    have notrow : ∀ b, ¬ isEx Z b → b ≠ p := fun b nb z => nb (.inl ⟨c, ns, z ▸ hz⟩)
    refine q r ⟨r0, r1⟩ B (.int r) H' ⟨Same.refl B, fun _ _ z => .inl z, fun b o z nr => sbH b o (notrow b nr) z, fun b o z => sbH b o (fun e => ?_) (sb b o z), ⟨fun p' a' ns' z => ?_, fun t ht => ?_⟩⟩ rfl
    · rw [e, nb] at z
      cases z
    · rw [hz] at z
      cases z
      exact ⟨R', nb⟩
    · obtain ⟨t1, t2⟩ := ro.tab t ht
      have nl : ∀ b o, H b = some o → (∀ xs, o ≠ .lst xs) → H' b = some o := fun b o z n => sbH b o (fun e => by
        obtain ⟨x1, x2, x3, x4, x5⟩ := R.at_
        rw [e, x5] at z
        cases z
        exact n _ rfl) z
      obtain ⟨ps, h1, h2, h3⟩ := t1
      refine ⟨⟨ps, nl _ _ h1 (fun _ z => by cases z), h2, fun pos cv hc => ?_⟩, t2⟩
      obtain ⟨c0, e0, h4⟩ := h3 pos cv hc
      exact ⟨c0, e0, nl _ _ h4 (fun _ z => by cases z)⟩
  | _ => exact False.elim q
end

/-! ## more statements -/
section
open PySem.W PyProof.Rows PySem.Calls PySem.SeqAt
section
variable {Z : Zn} {K : PySem.W.Frag} {E : Option XK} {B0 H0 B H B' H' : Hp} {e : En} {σ : L2.St}
def slotOf : Rs → Sl
  | .val p => .val p
  | .own p => .own p
  | .bor _ => .un
theorem R0.putG (R : R0 Z K B0 H0 B e σ H) {x : Rs} {v : V} (i : Nat) (h : HasAt Z B H x v) (nb : ∀ p, x ≠ .bor p)
    (fr : ∀ p a, x = .own p → v = .ref a → H0 a = none ∧ ∀ j q, j ≠ i → e[j]? = some (.own q) → σ[j]? ≠ some (some (.ref a))) : R0 Z K B0 H0 B (e.set i (slotOf x)) (σ.set i (some v)) H := by
  cases x with
  | val p =>
    refine ⟨R.rp.setV i h, R.st, R.r0, fun j q a h1 h2 => ?_⟩
    have hj : j ≠ i := set_ne h1 (by intro z; cases z)
    rw [List.getElem?_set_ne (Ne.symm hj)] at h2
    exact R.fr j q a (own_of h1 hj) h2
  | own p =>
    obtain ⟨a, rfl, n0, n, nr, d⟩ := h
    obtain ⟨f1, f2⟩ := fr p a rfl rfl
    refine ⟨R.rp.setO i n nr d f2, R.st, R.r0, fun j q b h1 h2 => ?_⟩
    by_cases hj : j = i
    · subst hj
      have hjl : j < σ.length := by
        rcases Nat.lt_or_ge j σ.length with z | z
        · exact z
        · rw [List.getElem?_eq_none (by rw [List.length_set]; exact z)] at h2
          cases h2
      rw [List.getElem?_set_self hjl] at h2
      cases h2
      exact f1
    · rw [List.getElem?_set_ne (Ne.symm hj)] at h2
      exact R.fr j q b (own_of h1 hj) h2
  | bor p => exact absurd rfl (nb p)
theorem R0.apart (R : R0 Z K B0 H0 B e σ H) {a : Addr} (n : H a = none) {j : Nat} {q : PV} (h1 : e[j]? = some (.own q)) : σ[j]? ≠ some (some (.ref a)) := fun h2 => by
  obtain ⟨o, ho, c, rfl, _, _, d2⟩ := SlAt.get R.rp.sl h1
  rw [h2] at ho
  cases ho
  obtain ⟨u, hu⟩ := d2.there
  rw [n] at hu
  cases hu
/-! a, b = e -/
def mUnp (t : Tg) (m : ME) : MS := fun e => do
  let r ← mFz m e
  let e' ← tgSet t r.pv e
  pure (.nx e')
theorem s_unp {t : Tg} {g : TG} {m : ME} {D : Ends} (hg : TgOk K t g) (h : upS Z K E (mUnp t m) D σ H) : tAsg (up Z K E m) g D σ H := by
  obtain ⟨B0, H0, B, e, R, q⟩ := h
  refine r_fz (Q := fun x H1 => g x σ H1 D.nx) ⟨B, e, R.rp, (mFz m e).mono (fun r z B1 v H1 s1 a => ?_) (fun _ z => z.step R.r0 R.st) (mFz_val q)⟩
  obtain ⟨⟨p, rfl⟩, z⟩ := z
  have R1 := R.step s1
  exact hg Z B1 e σ H1 p v _ (fun _ => False) R1.rp a (tgSet_exc ((tgSet t p e).mono (fun e' z σ' T => z B1 σ' H1 (T.r0 R1)) (fun _ z => z) z)) (fun _ z => z)
/-! a, b = x, y -/
def mPut (i : Nat) (r : Rs) (e : En) : M En := match r with
  | .bor _ => M.fail
  | r => pure (e.set i (slotOf r))
def mPar (i j : Nat) (m n : ME) : MS := fun e => do
  let a ← m e
  let b ← n e
  let e1 ← mPut i a e
  let e2 ← mPut j b e1
  pure (.nx e2)
theorem mPut_run {i : Nat} {r : Rs} {e : En} {Q : En → Prop} {F : Ex → Prop} (h : (mPut i r e).run Q F) : (∀ p, r ≠ .bor p) ∧ Q (e.set i (slotOf r)) := by
  cases r with
  | val p => exact ⟨fun _ z => (by cases z), h⟩
  | own p => exact ⟨fun _ z => (by cases z), h⟩
  | bor p => exact False.elim h
theorem s_par {i j : Nat} {m n : ME} {D : Ends} (hij : i ≠ j) (h : upS Z K E (mPar i j m n) D σ H) : tPar i j (tCons (up Z K E m) (tCons (up Z K E n) tNil)) D σ H := by
  obtain ⟨B0, H0, B, e, R, q⟩ := h
  refine ⟨B, e, R.rp, (m e).mono (fun a p B1 x H1 s1 ha => ?_) (fun _ z => z.step R.r0 R.st) q⟩
  have R1 := R.step s1
  refine ⟨B1, e, R1.rp, (n e).mono (fun b p B2 y H2 s2 hb => ?_) (fun _ z => z.step R.r0 R1.st) p⟩
  have R2 := R1.step s2
  obtain ⟨na, p⟩ := mPut_run p
  obtain ⟨nb, p⟩ := mPut_run p
  have Ra := R2.putG i (ha.has.step s2) na fun q c e1 e2 => by
    subst e1 e2
    obtain ⟨c', e3, n0, _⟩ := ha
    cases e3
    exact ⟨R.back n0, fun k q _ hk => R.apart n0 hk⟩
  have Rb := Ra.putG j hb.has nb fun q c e1 e2 => by
    subst e1 e2
    obtain ⟨c', e3, n1, _⟩ := hb
    cases e3
    refine ⟨R1.back n1, fun k q hk hq => ?_⟩
    by_cases hki : k = i
    · subst hki
      intro z
      have hkl : k < σ.length := by
        rcases Nat.lt_or_ge k σ.length with z2 | z2
        · exact z2
        · rw [List.getElem?_eq_none (by rw [List.length_set]; exact z2)] at z
          cases z
      rw [List.getElem?_set_self hkl] at z
      cases z
      cases a with
      | own p' =>
        obtain ⟨c2, e4, _, _, _, d4⟩ := ha
        cases e4
        obtain ⟨u, hu⟩ := d4.there
        rw [n1] at hu
        cases hu
      | val p' => exact set_ne hq (by intro z; cases z) rfl
      | bor p' => exact na p' rfl
    · rw [List.getElem?_set_ne (Ne.symm hki)]
      exact R1.apart n1 (own_of hq hki)
  exact ⟨x, y, rfl, p B2 _ H2 Rb⟩
/-! x.append(e) -/
def mApp (i : Nat) (m : ME) : MS := fun e => match e[i]? with
  | some (.own (.lst xs)) => do
    let r ← mFz m e
    M.ask (xs.length ≤ 100000)
    pure (.nx (e.set i (.own (.lst (xs ++ [r.pv])))))
  | _ => M.fail
theorem own_slot {i : Nat} {xs : List PV} (R : R0 Z K B0 H0 B e σ H) (hp : e[i]? = some (.own (.lst xs))) : ∃ a ys, σ[i]? = some (some (.ref a)) ∧ B a = none ∧ ¬ isEx Z a ∧ H a = some (.lst ys) ∧ DenL Z B xs ys := by
  obtain ⟨o, ho, a, rfl, n, nr, ys, h1, h2⟩ := SlAt.get R.rp.sl hp
  exact ⟨a, ys, ho, n, nr, h1, h2⟩
theorem s_app {i : Nat} {m : ME} {D : Ends} (h : upS Z K E (mApp i m) D σ H) : tDrop (tBM K "list" rAppend (tVar i) (tCons (up Z K E m) tNil)) D σ H := by
  obtain ⟨B0, H0, B, e, R, q⟩ := h
  unfold mApp at q
  split at q
  · rename_i xs hp
    obtain ⟨a, ys, ho, n, nr, h1, d⟩ := own_slot R hp
    refine ⟨.ref a, ho, tyL (SqL.of h1), r_fz (Q := fun y H1 => rAppend (.ref a) [y] H1 fun _ H2 => D.nx σ H2) ⟨B, e, R.rp, (mFz m e).mono (fun r z B1 v H1 s1 hv => ?_) (fun _ z => z.step R.r0 R.st) (mFz_val q)⟩⟩
    obtain ⟨⟨p, rfl⟩, hl, z⟩ := z
    have R1 := R.step s1
    have n1 := s1.noneB h1 n
    have h1' := s1.h _ _ h1 nr
    refine ⟨a, ys, v, rfl, rfl, h1', by rw [← d.len, sizeLine_eq]; omega, z B1 σ _ (R1.upd hp ho n1 nr (.inl ⟨_, h1'⟩) ⟨_, upd_same, (d.mono s1.b).app ⟨v, [], rfl, hv, rfl⟩⟩)⟩
  · exact q.elim
/-! x.append(y.pop(e)) -/
def mAppPop (i j : Nat) (m : ME) : MS := fun e => match e[i]?, e[j]? with
  | some (.own (.lst xs)), some (.own (.lst ys)) => do
    let r ← m e
    match r.pv with
    | .int k => do
      M.ask (0 ≤ k ∧ xs.length ≤ 100000 ∧ ys.length ≤ 100000)
      match ys[k.toNat]? with
      | some p => pure (.nx ((e.set j (.own (.lst (ys.eraseIdx k.toNat)))).set i (.own (.lst (xs ++ [p])))))
      | none => M.fail
    | _ => M.fail
  | _, _ => M.fail
theorem s_appPop {i j : Nat} {m : ME} {D : Ends} (hij : i ≠ j) (h : upS Z K E (mAppPop i j m) D σ H) : tDrop (tBM K "list" rAppend (tVar i) (tCons (tBM K "list" rPopAt (tVar j) (tCons (up Z K E m) tNil)) tNil)) D σ H := by
  obtain ⟨B0, H0, B, e, R, q⟩ := h
  unfold mAppPop at q
  split at q
  · rename_i xs ys hpi hpj
    obtain ⟨a, us, hoa, na, nra, ha, da⟩ := own_slot R hpi
    obtain ⟨b, ws, hob, nb, nrb, hb, db⟩ := own_slot R hpj
    have hab : a ≠ b := fun z => R.rp.ap i j _ _ a hij hpi hpj hoa (z ▸ hob)
    refine ⟨.ref a, hoa, tyL (SqL.of ha), .ref b, hob, tyL (SqL.of hb), B, e, R.rp, (m e).mono (fun r z B1 v H1 s1 hv => ?_) (fun _ z => z.step R.r0 R.st) q⟩
    have R1 := R.step s1
    have ha1 := s1.h _ _ ha nra
    have hb1 := s1.h _ _ hb nrb
    have na1 := s1.noneB ha na
    have nb1 := s1.noneB hb nb
    cases hr : r.pv with
    | int k =>
      have z : (match r.pv with | .int k => (do M.ask (0 ≤ k ∧ xs.length ≤ 100000 ∧ ys.length ≤ 100000); match ys[k.toNat]? with | some p => pure (.nx ((e.set j (.own (.lst (ys.eraseIdx k.toNat)))).set i (.own (.lst (xs ++ [p]))))) | none => M.fail) | _ => M.fail : M Fl).run (FlOk Z K B0 H0 D) (ErOk Z K B0 H0 E) := z
      rw [hr] at z
      obtain ⟨⟨k0, l1, l2⟩, z⟩ := z
      have z : (match ys[k.toNat]? with | some p => pure (.nx ((e.set j (.own (.lst (ys.eraseIdx k.toNat)))).set i (.own (.lst (xs ++ [p]))))) | none => M.fail : M Fl).run (FlOk Z K B0 H0 D) (ErOk Z K B0 H0 E) := z
      cases hy : ys[k.toNat]? with
      | none =>
        rw [hy] at z
        exact False.elim z
      | some p =>
        rw [hy] at z
        obtain ⟨w, hw, dw⟩ := db.get hy
        have hwl := (List.getElem?_eq_some_iff.mp hw).1
        obtain rfl := hv.has.int hr
        have hk : k < ws.length := by omega
        have hl : ws.length = ys.length := db.len.symm
        refine ⟨b, ws, k, k.toNat, w, rfl, rfl, hb1, by omega, by omega, seqIndex_of k0 hk, hw, a, us, w, rfl, rfl, (upd_ne hab).trans ha1, by rw [← da.len, sizeLine_eq]; omega, ?_⟩
        have R2 := R1.upd (p' := .lst (ys.eraseIdx k.toNat)) (o := .lst (ws.eraseIdx k.toNat)) hpj hob nb1 nrb (.inl ⟨_, hb1⟩) ⟨_, upd_same, (db.mono s1.b).erase _⟩
        have R3 := R2.upd (i := i) (p' := .lst (xs ++ [p])) (o := .lst (us ++ [w])) (by rw [List.getElem?_set_ne (Ne.symm hij)]; exact hpi) hoa na1 nra (.inl ⟨us, (upd_ne hab).trans ha1⟩) ⟨_, upd_same, (da.mono s1.b).app ⟨w, [], rfl, dw.mono s1.b, rfl⟩⟩
        exact z B1 σ _ R3
    | _ =>
      have z : (match r.pv with | .int k => (do M.ask (0 ≤ k ∧ xs.length ≤ 100000 ∧ ys.length ≤ 100000); match ys[k.toNat]? with | some p => pure (.nx ((e.set j (.own (.lst (ys.eraseIdx k.toNat)))).set i (.own (.lst (xs ++ [p]))))) | none => M.fail) | _ => M.fail : M Fl).run (FlOk Z K B0 H0 D) (ErOk Z K B0 H0 E) := z
      rw [hr] at z
      exact False.elim z
  · exact q.elim
/-! x[k] = v -/
def mSetI (i : Nat) (mk mv : ME) : MS := fun e => do
  let v ← mFz mv e
  match e[i]? with
  | some (.own (.lst xs)) => do
    let k ← mk e
    match k.pv with
    | .int n => match ixN xs.length n with
      | some j => pure (.nx (e.set i (.own (.lst (xs.set j v.pv)))))
      | none => M.fail
    | _ => M.fail
  | _ => M.fail
theorem s_setI {i : Nat} {mk mv : ME} {D : Ends} (h : upS Z K E (mSetI i mk mv) D σ H) : tAsg (up Z K E mv) (gSub (tVar i) (up Z K E mk) rSetL) D σ H := by
  obtain ⟨B0, H0, B, e, R, q⟩ := h
  refine r_fz (Q := fun x H1 => gSub (tVar i) (up Z K E mk) rSetL x σ H1 D.nx) ⟨B, e, R.rp, (mFz mv e).mono (fun r z B1 v H1 s1 hv => ?_) (fun _ z => z.step R.r0 R.st) (mFz_val q)⟩
  obtain ⟨⟨p, rfl⟩, z⟩ := z
  have R1 := R.step s1
  have z : (match e[i]? with | some (.own (.lst xs)) => (do let k ← mk e; match k.pv with | .int n => (match ixN xs.length n with | some j => pure (.nx (e.set i (.own (.lst (xs.set j p))))) | none => M.fail) | _ => M.fail) | _ => M.fail : M Fl).run (FlOk Z K B0 H0 D) (ErOk Z K B0 H0 E) := z
  split at z
  · rename_i xs hp
    obtain ⟨a, ys, ho, n, nr, h1, d⟩ := own_slot R1 hp
    refine ⟨.ref a, ho, B1, e, R1.rp, (mk e).mono (fun k z B2 w H2 s2 hk => ?_) (fun _ z => z.step R.r0 R1.st) z⟩
    have R2 := R1.step s2
    cases hr : k.pv with
    | int m =>
      have z : (match k.pv with | .int n => (match ixN xs.length n with | some j => pure (.nx (e.set i (.own (.lst (xs.set j p))))) | none => M.fail) | _ => M.fail : M Fl).run (FlOk Z K B0 H0 D) (ErOk Z K B0 H0 E) := z
      rw [hr] at z
      have z : (match ixN xs.length m with | some j => pure (.nx (e.set i (.own (.lst (xs.set j p))))) | none => M.fail : M Fl).run (FlOk Z K B0 H0 D) (ErOk Z K B0 H0 E) := z
      cases hj : ixN xs.length m with
      | none =>
        rw [hj] at z
        exact False.elim z
      | some j =>
        rw [hj] at z
        obtain rfl := hk.has.int hr
        have h2 := s2.h _ _ h1 nr
        refine ⟨a, ys, m, j, rfl, rfl, h2, by rw [← d.len]; exact hj, z B2 σ _ (R2.upd hp ho (s2.noneB h1 n) nr (.inl ⟨_, h2⟩) ⟨_, upd_same, (d.mono s2.b).set j (Den.mono s2.b hv)⟩)⟩
    | _ =>
      have z : (match k.pv with | .int n => (match ixN xs.length n with | some j => pure (.nx (e.set i (.own (.lst (xs.set j p))))) | none => M.fail) | _ => M.fail : M Fl).run (FlOk Z K B0 H0 D) (ErOk Z K B0 H0 E) := z
      rw [hr] at z
      exact False.elim z
  · exact z.elim
/-! d[k] = v -/
def hasK (ks : List Key) (k : Key) : Bool := ks.any fun x => decide (x = k)
def dputK (ks : List Key) (k : Key) : List Key := if hasK ks k = true then ks else ks ++ [k]
def dputV (ks : List Key) (xs : List PV) (k : Key) (v : PV) : List PV := if hasK ks k = true then List.zipWith (fun k' x => if k' = k then v else x) ks xs else xs ++ [v]
theorem put_den {k : Key} {p : PV} {v : V} (hv : Den Z B p v) : ∀ {kvs : List (Key × V)} {xs : List PV}, DenL Z B xs (kvs.map (·.2)) →
    (putK kvs k v).map (·.1) = dputK (kvs.map (·.1)) k ∧ DenL Z B (dputV (kvs.map (·.1)) xs k p) ((putK kvs k v).map (·.2)) := by
  intro kvs xs d
  unfold putK dputK dputV
  have hany : (kvs.any fun kv => decide (kv.1 = k)) = hasK (kvs.map (·.1)) k := by
    unfold hasK
    rw [List.any_map]
    rfl
  rw [hany]
  by_cases hk : hasK (kvs.map (·.1)) k = true
  · rw [if_pos hk, if_pos hk, if_pos hk]
    clear hany hk
    induction kvs generalizing xs with
    | nil =>
      refine ⟨rfl, ?_⟩
      cases xs with
      | nil => exact rfl
      | cons x xs =>
        obtain ⟨_, _, e, _⟩ := d
        cases e
    | cons kv kvs ih =>
      cases xs with
      | nil => cases d
      | cons x xs =>
        obtain ⟨y, r, e, d1, d2⟩ := d
        cases e
        obtain ⟨i1, i2⟩ := ih d2
        refine ⟨?_, ?_⟩
        · rw [List.map_cons, List.map_cons, List.map_cons, i1]
          by_cases h : kv.1 = k
          · rw [if_pos h]
          · rw [if_neg h]
        · rw [List.map_cons, List.map_cons, List.map_cons, List.zipWith_cons_cons]
          by_cases h : kv.1 = k
          · rw [if_pos h, if_pos h]
            exact ⟨_, _, rfl, hv, i2⟩
          · rw [if_neg h, if_neg h]
            exact ⟨_, _, rfl, d1, i2⟩
  · rw [if_neg hk, if_neg hk, if_neg hk]
    refine ⟨by rw [List.map_append]; rfl, ?_⟩
    rw [List.map_append]
    exact d.app ⟨v, [], rfl, hv, rfl⟩
def mDPut (i : Nat) (mk mv : ME) : MS := fun e => do
  let v ← mFz mv e
  match e[i]? with
  | some (.own (.dct ks xs)) => do
    let k ← mk e
    match keyP k.pv with
    | some k => do
      M.ask (ks.length ≤ 100000)
      pure (.nx (e.set i (.own (.dct (dputK ks k) (dputV ks xs k v.pv)))))
    | none => M.fail
  | _ => M.fail
theorem s_dput {i : Nat} {mk mv : ME} {D : Ends} (h : upS Z K E (mDPut i mk mv) D σ H) : sDPut (tVar i) (up Z K E mk) (up Z K E mv) D σ H := by
  obtain ⟨B0, H0, B, e, R, q⟩ := h
  refine r_fz (Q := fun x H1 => tVar i σ H1 fun o H2 => up Z K E mk σ H2 fun y H3 => ∃ a H4, o = .ref a ∧ DPut H3 a y x H4 ∧ D.nx σ H4) ⟨B, e, R.rp, (mFz mv e).mono (fun r z B1 v H1 s1 hv => ?_) (fun _ z => z.step R.r0 R.st) (mFz_val q)⟩
  obtain ⟨⟨p, rfl⟩, z⟩ := z
  have R1 := R.step s1
  have z : (match e[i]? with | some (.own (.dct ks xs)) => (do let k ← mk e; match keyP k.pv with | some k => (do M.ask (ks.length ≤ 100000); pure (.nx (e.set i (.own (.dct (dputK ks k) (dputV ks xs k p)))))) | none => M.fail) | _ => M.fail : M Fl).run (FlOk Z K B0 H0 D) (ErOk Z K B0 H0 E) := z
  split at z
  · rename_i ks xs hp
    obtain ⟨o, ho, a, rfl, n, nr, kvs, h1, rfl, d⟩ := SlAt.get R1.rp.sl hp
    refine ⟨.ref a, ho, B1, e, R1.rp, (mk e).mono (fun k z B2 w H2 s2 hk => ?_) (fun _ z => z.step R.r0 R1.st) z⟩
    have R2 := R1.step s2
    cases hr : keyP k.pv with
    | some ky =>
      have z : (match keyP k.pv with | some k => (do M.ask ((kvs.map (·.1)).length ≤ 100000); pure (.nx (e.set i (.own (.dct (dputK (kvs.map (·.1)) k) (dputV (kvs.map (·.1)) xs k p)))))) | none => M.fail : M Fl).run (FlOk Z K B0 H0 D) (ErOk Z K B0 H0 E) := z
      rw [hr] at z
      obtain ⟨hl, z⟩ := z
      rw [List.length_map] at hl
      have dk := hk.has.den (by cases e : k.pv <;> rw [e] at hr <;> first | rfl | cases hr)
      obtain rfl := den_key hr dk
      have h2 := s2.h _ _ h1 nr
      obtain ⟨i1, i2⟩ := put_den (k := ky) (Den.mono s2.b hv) (d.mono s2.b)
      refine ⟨a, _, rfl, DPut.k (k := ky) h2 (by rw [sizeLine_eq]; omega), z B2 σ _ (R2.upd hp ho (s2.noneB h1 n) nr (.inr ⟨_, h2⟩) ⟨_, upd_same, i1, i2⟩)⟩
    | none =>
      have z : (match keyP k.pv with | some k => (do M.ask ((kvs.map (·.1)).length ≤ 100000); pure (.nx (e.set i (.own (.dct (dputK (kvs.map (·.1)) k) (dputV (kvs.map (·.1)) xs k p)))))) | none => M.fail : M Fl).run (FlOk Z K B0 H0 D) (ErOk Z K B0 H0 E) := z
      rw [hr] at z
      exact False.elim z
  · exact z.elim
end
section
variable {X : Cx} {Z : Zn} {E : Option XK} {a b c : Expr} {pos : Pos} {st : Stmt}
theorem vs_unp {tg : Expr} {t : Tg} {g : TG} {m : ME} (he : VE X Z E a m) (hg : PG X tg g) (ht : TgOk X.K t g) (hs : swapsWithSole [tg] a pos.line X.env = pure false := by rfl) (hw : swappedStores [tg] a X.env = pure none := by rfl)
    (h1 : (assignEach [tg] X.env).map (·.2) = [assign tg X.env] := by rfl) : VS X Z E (.Assign [tg] a pos) (mUnp t m) := ps_weak (ps_asg he hg hs hw h1) fun _ _ _ => s_unp ht
theorem vs_weak {t : TS} {m : MS} (h : PS X st t) (w : ∀ D σ H, upS Z X.K E m D σ H → t D σ H) : VS X Z E st m := ps_weak h w
end
end

/-! ## more calls -/
section
open PySem.W PyProof.Rows PySem.Calls PySem.SeqAt
section
variable {Z : Zn} {K : PySem.W.Frag} {E : Option XK} {B H : Hp} {σ : L2.St}
/-! isinstance(x, T) -/
def PV.tyN : PV → String
  | .non => "NoneType"
  | .bl _ => "bool"
  | .int _ => "int"
  | .str _ => "str"
  | .tup _ => "tuple"
  | .lst _ => "list"
  | .dct _ _ => "dict"
  | _ => ""
def isiP (T : String) (p : PV) : M Rs := match p with
  | .orc => M.fail
  | .tupw _ => M.fail
  | .hs _ _ _ => M.fail
  | .rg _ _ => M.fail
  | .dcn _ _ => M.fail
  | p => match kitB p.tyN T with
    | some b => pure (.val (.bl b))
    | none => M.fail
theorem has_ty {x : Rs} {v : V} (s : Same B H) (h : HasAt Z B H x v) (n1 : x.pv ≠ .orc) (n2 : ∀ xs, x.pv ≠ .tupw xs) (n3 : ∀ a b c, x.pv ≠ .hs a b c) (n4 : ∀ a b, x.pv ≠ .rg a b) (n5 : ∀ a b, x.pv ≠ .dcn a b) : TyX K H v (.type x.pv.tyN) := by
  cases e : x.pv with
  | lst xs =>
    obtain ⟨a, ys, rfl, h1, _⟩ := h.lst s e
    exact .base (.lst h1)
  | dct ks xs =>
    obtain ⟨a, ys, rfl, h1, _⟩ := h.dct s e
    exact .base (.dK h1)
  | tup xs =>
    obtain ⟨a, ys, rfl, t, _⟩ := h.tup e
    obtain ⟨o, ho, _⟩ := t.same s
    exact .fTuple ho
  | non =>
    have d := h.den (by rw [e]; rfl)
    rw [e] at d
    rw [show v = .non from d]
    exact .base .non
  | bl b =>
    have d := h.den (by rw [e]; rfl)
    rw [e] at d
    rw [show v = .bl b from d]
    exact .base (.bl b)
  | int b =>
    rw [h.int e]
    exact .base (.int b)
  | str b =>
    rw [h.str e]
    exact .base (.str b)
  | orc => exact absurd e n1
  | tupw xs => exact absurd e (n2 xs)
  | hs a b c => exact absurd e (n3 a b c)
  | rg a b => exact absurd e (n4 a b)
  | dcn a b => exact absurd e (n5 a b)
theorem ok_isi {T : String} : UnOk Z K E (fun x H Q => rIsi K [x, .ty T] H Q) (isiP T) := by
  intro B H a x Q s r ha q
  have key : a.pv ≠ .orc → (∀ xs, a.pv ≠ .tupw xs) → (∀ p q r, a.pv ≠ .hs p q r) → (∀ p q, a.pv ≠ .rg p q) → (∀ p q, a.pv ≠ .dcn p q) → ((match kitB a.pv.tyN T with | some b => pure (.val (.bl b)) | none => M.fail : M Rs).run (Post Z K B H Q) (ErOk Z K B H E)) → rIsi K [x, .ty T] H Q := by
    intro n1 n2 n3 n4 n5 q
    cases hk : kitB a.pv.tyN T with
    | none =>
      rw [hk] at q
      exact False.elim q
    | some b =>
      rw [hk] at q
      exact rd_isi (has_ty s ha n1 n2 n3 n4 n5) hk (post_val s r q rfl)
  cases e : a.pv with
  | orc =>
    rw [e] at q
    exact False.elim q
  | tupw xs =>
    rw [e] at q
    exact False.elim q
  | hs p1 p2 p3 =>
    rw [e] at q
    exact False.elim q
  | rg p1 p2 =>
    rw [e] at q
    exact False.elim q
  | dcn p1 p2 =>
    rw [e] at q
    exact False.elim q
  | _ =>
    rw [e] at q key
    exact key PV.noConfusion (fun _ => PV.noConfusion) (fun _ _ _ => PV.noConfusion) (fun _ _ => PV.noConfusion) (fun _ _ => PV.noConfusion) q
/-! slices -/
def cutP (xs : List PV) (lo hi : Option Int) : List PV := (xs.drop (HT.sIx xs.length 0 lo)).take (HT.sIx xs.length xs.length hi - HT.sIx xs.length 0 lo)
def slP (lo hi : Option Int) : PV → M Rs
  | .tup xs => pure (.val (.tup (cutP xs lo hi)))
  | .lst xs => pure (.own (.lst (cutP xs lo hi)))
  | _ => M.fail
abbrev MO := En → M (Option Int)
def mNo : MO := fun _ => pure none
def mPt (m : ME) : MO := fun e => do
  let r ← m e
  match r.pv with
  | .int i => pure (some i)
  | _ => M.fail
def mSl (m : ME) (lo hi : MO) : ME := fun e => do
  let a ← m e
  let l ← lo e
  let u ← hi e
  slP l u a.pv
def upO (Z : Zn) (K : PySem.W.Frag) (E : Option XK) (m : MO) : TO := fun σ H Q => ∃ B e, Rp Z K B e σ H ∧ (m e).run (fun o => ∀ B' H', Step Z K B H B' H' → Q o H') (ErOk Z K B H E)
theorem o_no {Q : Option Int → Hp → Prop} (h : upO Z K E mNo σ H Q) : tNoPart σ H Q := by
  obtain ⟨B, e, R, q⟩ := h
  exact q B H (.refl R.sub R.row)
theorem o_pt {m : ME} {Q : Option Int → Hp → Prop} (h : upO Z K E (mPt m) σ H Q) : tPart (up Z K E m) σ H Q := by
  obtain ⟨B, e, R, q⟩ := h
  refine ⟨B, e, R, (m e).mono (fun x p B' v H' s a => ?_) (fun _ z => z) q⟩
  cases hx : x.pv with
  | int i =>
    have p : (match x.pv with | .int i => pure (some i) | _ => M.fail : M (Option Int)).run (fun o => ∀ B' H', Step Z K B H B' H' → Q o H') (ErOk Z K B H E) := p
    rw [hx] at p
    exact ⟨i, a.has.int hx, p B' H' s⟩
  | _ =>
    have p : (match x.pv with | .int i => pure (some i) | _ => M.fail : M (Option Int)).run (fun o => ∀ B' H', Step Z K B H B' H' → Q o H') (ErOk Z K B H E) := p
    rw [hx] at p
    exact False.elim p
def rSlV (K : PySem.W.Frag) : V → Option Int → Option Int → Hp → VK → Prop := fun x lo hi H Q => rSlF K x lo hi H Q ∨ rSlL K x lo hi H Q
theorem cutP_den {xs : List PV} {ys : List V} (d : DenL Z B xs ys) (lo hi : Option Int) : DenL Z B (cutP xs lo hi) (cutV ys lo hi) := by
  unfold cutP cutV
  rw [d.len]
  exact d.cut _ _
theorem ok_sl {lo hi : Option Int} : UnOk Z K E (fun x H Q => rSlV K x lo hi H Q) (slP lo hi) := by
  intro B H a x Q s r ha q
  cases e : a.pv with
  | tup xs =>
    rw [e] at q
    obtain ⟨c, ys, rfl, t, d⟩ := ha.tup e
    refine .inl ⟨c, ys, rfl, (t.same s).sqt, fun w => ?_, fun _ => post_tup s r q (cutP_den d lo hi)⟩
    have ec : cutP xs lo hi = xs := by
      unfold cutP
      rw [d.len, w.1, w.2, List.drop_zero, Nat.sub_zero, ← d.len, List.take_length]
    rw [slP, ec] at q
    exact post_val s r q ⟨c, ys, rfl, t, d⟩
  | lst xs =>
    rw [e] at q
    obtain ⟨c, ys, rfl, t, d⟩ := ha.lst s e
    exact .inr ⟨c, ys, rfl, SqL.of t, fun p n => post_own s r q n ⟨_, upd_same, cutP_den d lo hi⟩⟩
  | _ =>
    rw [e] at q
    exact False.elim q
theorem r_sl {m : ME} {lo hi : MO} {Q : VK} (h : up Z K E (mSl m lo hi) σ H Q) : tSl (rSlV K) (up Z K E m) (upO Z K E lo) (upO Z K E hi) σ H Q := by
  obtain ⟨B, e, R, q⟩ := h
  refine ⟨B, e, R, (m e).mono (fun a p B1 x H1 s1 ha => ?_) (fun _ z => z) q⟩
  refine ⟨B1, e, R.step s1, (lo e).mono (fun l p B2 H2 s2 => ?_) (fun _ z => z.step R.row s1) p⟩
  have s12 := s1.trans R.row s2
  refine ⟨B2, e, R.step s12, (hi e).mono (fun u p B3 H3 s3 => ?_) (fun _ z => z.step R.row s12) p⟩
  have s13 := s12.trans R.row s3
  exact ok_sl B3 H3 a x Q s3.s s3.r ((ha.has.step s2).step s3) ((slP l u a.pv).mono (fun _ z => z.step R.row s13) (fun _ z => z.step R.row s13) p)
/-! tuple(x), list(x), dict(x) -/
def tupleP : PV → M Rs
  | .lst xs => pure (.val (.tup xs))
  | .tup xs => pure (.val (.tup xs))
  | _ => M.fail
def listP : PV → M Rs
  | .lst xs => pure (.own (.lst xs))
  | .tup xs => pure (.own (.lst xs))
  | _ => M.fail
def dictP : PV → M Rs
  | .dct ks xs => pure (.own (.dct ks xs))
  | _ => M.fail
theorem ok_tuple : CaOk Z K E (fun xs H Q => ∃ p ys, xs = [.ref p] ∧ ((SqL K H p ys ∧ NewT H ys Q) ∨ (SqT K H p ys ∧ Q (.ref p) H))) (one tupleP) := by
  intro B H rs vs Q s r ha q
  obtain ⟨x, v, rfl, hx, q⟩ := one_run ha q
  cases e : x.pv with
  | tup xs =>
    rw [e] at q
    obtain ⟨c, ys, rfl, t, d⟩ := hx.tup e
    exact ⟨c, ys, rfl, .inr ⟨(t.same s).sqt, post_val s r q ⟨c, ys, rfl, t, d⟩⟩⟩
  | lst xs =>
    rw [e] at q
    obtain ⟨c, ys, rfl, t, d⟩ := hx.lst s e
    exact ⟨c, ys, rfl, .inl ⟨SqL.of t, post_tup s r q d⟩⟩
  | _ =>
    rw [e] at q
    exact False.elim q
theorem ok_list : CaOk Z K E (fun xs H Q => ∃ p ys, xs = [.ref p] ∧ (SqL K H p ys ∨ SqT K H p ys) ∧ ∀ l, H l = none → Q (.ref l) (upd H l (.lst ys))) (one listP) := by
  intro B H rs vs Q s r ha q
  obtain ⟨x, v, rfl, hx, q⟩ := one_run ha q
  cases e : x.pv with
  | tup xs =>
    rw [e] at q
    obtain ⟨c, ys, rfl, t, d⟩ := hx.tup e
    exact ⟨c, ys, rfl, .inr (t.same s).sqt, fun l n => post_own s r q n ⟨_, upd_same, d⟩⟩
  | lst xs =>
    rw [e] at q
    obtain ⟨c, ys, rfl, t, d⟩ := hx.lst s e
    exact ⟨c, ys, rfl, .inl (SqL.of t), fun l n => post_own s r q n ⟨_, upd_same, d⟩⟩
  | _ =>
    rw [e] at q
    exact False.elim q
theorem ok_dict : CaOk Z K E (fun xs H Q => ∃ (a : Addr) (kvs : List (Key × V)), xs = [.ref a] ∧ Rd H a (.dK kvs) ∧ ∀ p, H p = none → Q (.ref p) (upd H p (.dK kvs))) (one dictP) := by
  intro B H rs vs Q s r ha q
  obtain ⟨x, v, rfl, hx, q⟩ := one_run ha q
  cases e : x.pv with
  | dct ks xs =>
    rw [e] at q
    obtain ⟨c, kvs, rfl, t, h1, d⟩ := hx.dct s e
    exact ⟨c, kvs, rfl, .inl t, fun l n => post_own s r q n ⟨_, upd_same, h1, d⟩⟩
  | _ =>
    rw [e] at q
    exact False.elim q
/-! {} -/
def mNewD : ME := fun _ => pure (.own (.dct [] []))
theorem r_newD {Q : VK} (h : up Z K E mNewD σ H Q) : tDNewK σ H Q := by
  obtain ⟨B, e, R, q⟩ := h
  intro p n
  exact post_own R.sub R.row q n ⟨[], upd_same, rfl, rfl⟩
/-! list(range(n)) -/
def mLstRg (m : ME) : ME := fun e => do
  let r ← m e
  match r.pv with
  | .int n => do
    M.ask (0 ≤ n ∧ n ≤ 100000)
    pure (.own (.lst ((List.range n.toNat).map fun (i : Nat) => .int (i : Int))))
  | _ => M.fail
theorem den_ints : ∀ xs : List Nat, DenL Z B (xs.map fun (i : Nat) => PV.int (i : Int)) (xs.map fun (i : Nat) => V.int (i : Int))
  | [] => rfl
  | _ :: xs => ⟨_, _, rfl, rfl, den_ints xs⟩
theorem r_lstRg {m : ME} {Q : VK} (h : up Z K E (mLstRg m) σ H Q) : tLstRg (tRg1 (up Z K E m)) σ H Q := by
  obtain ⟨B, e, R, q⟩ := h
  refine ⟨B, e, R, (m e).mono (fun r p B1 v H1 s1 hv => ?_) (fun _ z => z) q⟩
  cases hr : r.pv with
  | int n =>
    have p : (match r.pv with | .int n => (do M.ask (0 ≤ n ∧ n ≤ 100000); pure (.own (.lst ((List.range n.toNat).map fun (i : Nat) => .int (i : Int))))) | _ => M.fail : M Rs).run (Post Z K B H Q) (ErOk Z K B H E) := p
    rw [hr] at p
    obtain ⟨⟨n0, n1⟩, p⟩ := p
    refine ⟨n, hv.has.int hr, RgOk.of_le (by omega) (by omega) (by omega) n0, fun l nl => ?_⟩
    have e1 : rgV 0 n = (List.range n.toNat).map fun (i : Nat) => V.int (i : Int) := by
      rw [← rg_ints, Int.toNat_of_nonneg n0]
    rw [e1]
    exact post_own s1.s s1.r (p.step R.row s1) nl ⟨_, upd_same, den_ints _⟩
  | _ =>
    have p : (match r.pv with | .int n => (do M.ask (0 ≤ n ∧ n ≤ 100000); pure (.own (.lst ((List.range n.toNat).map fun (i : Nat) => .int (i : Int))))) | _ => M.fail : M Rs).run (Post Z K B H Q) (ErOk Z K B H E) := p
    rw [hr] at p
    exact False.elim p
/-! min(a, b), max(a, b) -/
def minP : PV → PV → M Rs := intP fun i j => .int (if j < i then j else i)
def maxP : PV → PV → M Rs := intP fun i j => .int (if j > i then j else i)
theorem ok_two_int {f : Int → Int → Int} : CaOk Z K E (fun xs H Q => ∃ i j, xs = [.int i, .int j] ∧ Q (.int (f i j)) H) (two (intP fun i j => .int (f i j))) := by
  intro B H rs vs Q s r ha q
  obtain ⟨x, v, y, w, rfl, hx, hy, q⟩ := two_run ha q
  cases ea : x.pv with
  | int i =>
    cases eb : y.pv with
    | int j =>
      rw [ea, eb] at q
      obtain rfl := hx.int ea
      obtain rfl := hy.int eb
      exact ⟨i, j, rfl, post_val s r q rfl⟩
    | _ =>
      rw [ea, eb] at q
      exact False.elim q
  | _ =>
    rw [ea] at q
    exact False.elim q
/-! sorted(list of texts) -/
def strsP : List PV → Option (List Str)
  | [] => some []
  | .str x :: r => (strsP r).map (x :: ·)
  | _ => none
theorem strsP_eq : ∀ {xs : List PV} {ss : List Str}, strsP xs = some ss → xs = ss.map .str
  | [], _, h => by
    cases h
    rfl
  | x :: xs, ss, h => by
    cases x with
    | str z =>
      obtain ⟨r, hr, e⟩ := Option.map_eq_some_iff.mp (show (strsP xs).map (z :: ·) = some ss from h)
      rw [← e, strsP_eq hr]
      rfl
    | _ => cases h
theorem strsP_of : ∀ ss : List Str, strsP (ss.map .str) = some ss
  | [] => rfl
  | s :: ss => by
    show (strsP (ss.map .str)).map (s :: ·) = some (s :: ss)
    rw [strsP_of ss]
    rfl
theorem denL_strs : ∀ {ss : List Str} {ys : List V}, DenL Z B (ss.map .str) ys → ys = ss.map .str
  | [], _, d => d
  | s :: ss, _, d => by
    obtain ⟨y, r, rfl, d1, d2⟩ := d
    rw [show y = .str s from d1, denL_strs d2]
    rfl
def sortedP : PV → M Rs
  | .lst xs => match strsP xs with
    | some ss => do
      M.ask (ss.length < 64)
      let ys ← M.any fun ys : List Str => ys.Perm ss ∧ sortedS ys = true
      pure (.own (.lst (ys.map .str)))
    | none => M.fail
  | _ => M.fail
theorem ok_sorted : CaOk Z K E (rSortedS K) (one sortedP) := by
  intro B H rs vs Q s r ha q
  obtain ⟨x, v, rfl, hx, q⟩ := one_run ha q
  cases e : x.pv with
  | lst xs =>
    rw [e] at q
    have q2 : (match strsP xs with | some ss => (do M.ask (ss.length < 64); let ys ← M.any fun ys : List Str => ys.Perm ss ∧ sortedS ys = true; pure (.own (.lst (ys.map .str)))) | none => M.fail : M Rs).run (Post Z K B H Q) (ErOk Z K B H E) := q
    cases hs : strsP xs with
    | none =>
      rw [hs] at q2
      exact False.elim q2
    | some ss =>
      rw [hs] at q2
      obtain ⟨hl, q2⟩ := q2
      obtain rfl := strsP_eq hs
      obtain ⟨c, ys, rfl, t, d⟩ := hx.lst s e
      obtain rfl := denL_strs d
      exact ⟨c, ss, rfl, SqL.of t, hl, fun zs p h1 h2 n => post_own s r (q2 zs ⟨h1, h2⟩) n ⟨_, upd_same, den_strs zs⟩⟩
  | _ =>
    rw [e] at q
    exact False.elim q
/-! list * n -/
def mulP : PV → PV → M Rs
  | .lst xs, .int k => do
    M.ask (-1000 ≤ k ∧ k ≤ 1000 ∧ xs.length ≤ 1000)
    pure (.own (.lst (List.replicate k.toNat xs).flatten))
  | .int i, .int j => do
    M.ask (CMul i j)
    pure (.val (.int (i * j)))
  | _, _ => M.fail
def rMulV : R2 := fun x y H Q => rRep x y H Q ∨ rI CMul (fun i j => .int (i * j)) x y H Q
theorem op_mulV {X : Cx} : OpR X (binaryOp .Mult) rMulV := op_rep.or op_mul
theorem den_rep {xs : List PV} {ys : List V} (d : DenL Z B xs ys) : ∀ n : Nat, DenL Z B (List.replicate n xs).flatten (List.replicate n ys).flatten
  | 0 => rfl
  | n + 1 => by
    rw [List.replicate_succ, List.replicate_succ, List.flatten_cons, List.flatten_cons]
    exact d.app (den_rep d n)
theorem ok_mul : OpOk Z K E rMulV mulP := by
  intro B H a b x y Q s r ha hb q
  cases ea : a.pv with
  | lst xs =>
    cases eb : b.pv with
    | int k =>
      rw [ea, eb] at q
      obtain ⟨⟨k0, k1, kl⟩, q⟩ := q
      obtain ⟨c, ys, rfl, t, d⟩ := ha.lst s ea
      obtain rfl := hb.int eb
      refine .inl ⟨c, k, ys, rfl, rfl, t, by omega, by omega, ?_, fun p n => post_own s r q n ⟨_, upd_same, den_rep d _⟩⟩
      rw [← d.len, sizeLine_eq]
      have : xs.length * k.toNat ≤ 1000 * 1000 := Nat.mul_le_mul kl (by omega)
      omega
    | _ =>
      rw [ea, eb] at q
      exact False.elim q
  | int i =>
    cases eb : b.pv with
    | int j =>
      rw [ea, eb] at q
      obtain ⟨c, q⟩ := q
      exact .inr ⟨i, j, ha.int ea, hb.int eb, c, post_val s r q rfl⟩
    | _ =>
      rw [ea, eb] at q
      exact False.elim q
  | _ =>
    rw [ea] at q
    exact False.elim q
/-! ints under a condition -/
def intCP (C : Int → Int → Prop) (f : Int → Int → PV) : PV → PV → M Rs
  | .int i, .int j => do
    M.ask (C i j)
    pure (.val (f i j))
  | _, _ => M.fail
theorem ok_intC {C : Int → Int → Prop} {f : Int → Int → PV} {g : Int → Int → V} (e : ∀ B i j, Den Z B (f i j) (g i j)) : OpOk Z K E (rI C g) (intCP C f) := by
  intro B H a b x y Q s r ha hb q
  cases ea : a.pv with
  | int i =>
    cases eb : b.pv with
    | int j =>
      rw [ea, eb] at q
      obtain ⟨c, q⟩ := q
      exact ⟨i, j, ha.int ea, hb.int eb, c, post_val s r q (e B i j)⟩
    | _ =>
      rw [ea, eb] at q
      exact False.elim q
  | _ =>
    rw [ea] at q
    exact False.elim q
/-! -x -/
def negP : PV → M Rs
  | .int i => pure (.val (.int (-i)))
  | _ => M.fail
theorem ok_neg : UnOk Z K E (rU fun i => .int (-i)) negP := by
  intro B H a x Q s r ha q
  cases e : a.pv with
  | int i =>
    rw [e] at q
    exact ⟨i, ha.int e, post_val s r q rfl⟩
  | _ =>
    rw [e] at q
    exact False.elim q
/-! all, any of a list of bools -/
def blsP : List PV → Option (List Bool)
  | [] => some []
  | .bl x :: r => (blsP r).map (x :: ·)
  | _ => none
theorem blsP_eq : ∀ {xs : List PV} {ss : List Bool}, blsP xs = some ss → xs = ss.map .bl
  | [], _, h => by
    cases h
    rfl
  | x :: xs, ss, h => by
    cases x with
    | bl z =>
      obtain ⟨r, hr, e⟩ := Option.map_eq_some_iff.mp (show (blsP xs).map (z :: ·) = some ss from h)
      rw [← e, blsP_eq hr]
      rfl
    | _ => cases h
theorem blsP_of : ∀ ss : List Bool, blsP (ss.map .bl) = some ss
  | [] => rfl
  | s :: ss => by
    show (blsP (ss.map .bl)).map (s :: ·) = some (s :: ss)
    rw [blsP_of ss]
    rfl
theorem denL_bls : ∀ {ss : List Bool} {ys : List V}, DenL Z B (ss.map .bl) ys → ys = ss.map .bl
  | [], _, d => d
  | s :: ss, _, d => by
    obtain ⟨y, r, rfl, d1, d2⟩ := d
    rw [show y = .bl s from d1, denL_bls d2]
    rfl
def quantP (f : List Bool → Bool) : PV → M Rs
  | .lst xs => match blsP xs with
    | some bs => pure (.val (.bl (f bs)))
    | none => M.fail
  | _ => M.fail
theorem ok_quant {f : List Bool → Bool} : CaOk Z K E (fun vs H Q => ∃ (a : Addr) (bs : List Bool), vs = [V.ref a] ∧ SqL K H a (bs.map V.bl) ∧ Q (.bl (f bs)) H) (one (quantP f)) := by
  intro B H rs vs Q s r ha q
  obtain ⟨x, v, rfl, hx, q⟩ := one_run ha q
  cases e : x.pv with
  | lst xs =>
    rw [e] at q
    have q2 : (match blsP xs with | some bs => pure (.val (.bl (f bs))) | none => M.fail : M Rs).run (Post Z K B H Q) (ErOk Z K B H E) := q
    cases hs : blsP xs with
    | none =>
      rw [hs] at q2
      exact False.elim q2
    | some bs =>
      rw [hs] at q2
      obtain rfl := blsP_eq hs
      obtain ⟨c, ys, rfl, t, d⟩ := hx.lst s e
      obtain rfl := denL_bls d
      exact ⟨c, bs, rfl, SqL.of t, post_val s r q2 rfl⟩
  | _ =>
    rw [e] at q
    exact False.elim q
/-! int(x) -/
def intOfP : PV → M Rs
  | .int i => pure (.val (.int i))
  | .bl b => pure (.val (.int (if b then 1 else 0)))
  | _ => M.fail
theorem ok_intOf : CaOk Z K E (fun xs H Q => (∃ i, xs = [.int i] ∧ Q (.int i) H) ∨ ∃ k, xs = [.bl k] ∧ Q (.int (if k then 1 else 0)) H) (one intOfP) := by
  intro B H rs vs Q s r ha q
  obtain ⟨x, v, rfl, hx, q⟩ := one_run ha q
  cases e : x.pv with
  | int i =>
    rw [e] at q
    obtain rfl := hx.int e
    exact .inl ⟨i, rfl, post_val s r q rfl⟩
  | bl b =>
    rw [e] at q
    have d := hx.den (by rw [e]; rfl)
    rw [e] at d
    obtain rfl : v = .bl b := d
    exact .inr ⟨b, rfl, post_val s r q rfl⟩
  | _ =>
    rw [e] at q
    exact False.elim q
/-! sep.join(list of texts) -/
def mJoin (m n : ME) : ME := fun e => do
  let a ← m e
  match a.pv with
  | .str z => do
    let b ← n e
    match b.pv with
    | .lst xs => match strsP xs with
      | some ss => do
        M.ask ((ss.map (·.length)).sum + ss.length * z.length ≤ 16777216)
        pure (.val (.str (Txt.join z ss)))
      | none => M.fail
    | _ => M.fail
  | _ => M.fail
theorem r_join {m n : ME} {Q : VK} (h : up Z K E (mJoin m n) σ H Q) : tM1 (fun x xs H Q => ∃ a p, ∃ ys : List Str, x = .str a ∧ xs = [.ref p] ∧ (SqL K H p (ys.map V.str) ∨ SqT K H p (ys.map V.str)) ∧
      (ys.map (·.length)).sum + ys.length * a.length ≤ 16777216 ∧ Q (.str (Txt.join a ys)) H) (up Z K E m) (up Z K E n) σ H Q := by
  obtain ⟨B, e, R, q⟩ := h
  refine ⟨B, e, R, (m e).mono (fun a p B1 x H1 s1 ha => ?_) (fun _ z => z) q⟩
  have p : (match a.pv with | .str z => (do let b ← n e; match b.pv with | .lst xs => (match strsP xs with | some ss => (do M.ask ((ss.map (·.length)).sum + ss.length * z.length ≤ 16777216); pure (.val (.str (Txt.join z ss)))) | none => M.fail) | _ => M.fail) | _ => M.fail : M Rs).run (Post Z K B H Q) (ErOk Z K B H E) := p
  cases ea : a.pv with
  | str z =>
    rw [ea] at p
    obtain rfl := ha.has.str ea
    refine ⟨⟨z, rfl⟩, B1, e, R.step s1, (n e).mono (fun b p B2 y H2 s2 hb => ?_) (fun _ z => z.step R.row s1) p⟩
    have p : (match b.pv with | .lst xs => (match strsP xs with | some ss => (do M.ask ((ss.map (·.length)).sum + ss.length * z.length ≤ 16777216); pure (.val (.str (Txt.join z ss)))) | none => M.fail) | _ => M.fail : M Rs).run (Post Z K B H Q) (ErOk Z K B H E) := p
    cases eb : b.pv with
    | lst xs =>
      rw [eb] at p
      have p2 : (match strsP xs with | some ss => (do M.ask ((ss.map (·.length)).sum + ss.length * z.length ≤ 16777216); pure (.val (.str (Txt.join z ss)))) | none => M.fail : M Rs).run (Post Z K B H Q) (ErOk Z K B H E) := p
      cases hs : strsP xs with
      | none =>
        rw [hs] at p2
        exact False.elim p2
      | some ss =>
        rw [hs] at p2
        obtain ⟨hl, p2⟩ := p2
        obtain rfl := strsP_eq hs
        obtain ⟨c, ys, rfl, t, d⟩ := hb.has.lst s2.s eb
        obtain rfl := denL_strs d
        exact ⟨z, c, ss, rfl, rfl, .inl (SqL.of t), hl, post_val s2.s s2.r (p2.step R.row (s1.trans R.row s2)) rfl⟩
    | _ =>
      rw [eb] at p
      exact False.elim p
  | _ =>
    rw [ea] at p
    exact False.elim p
end
section
variable {X : Cx} {Z : Zn} {E : Option XK} {a b c : Expr} {pos : Pos}
theorem v_un {o : UnaryOp} {r : V → Hp → VK → Prop} {op : PV → M Rs} {m : ME} (hr : UnR X (unaryOp o) r) (ho : UnOk Z X.K E r op) (ha : VE X Z E a m) : VE X Z E (.UnaryOp o a pos) (mUn op m) := pe_weak (pe_un hr ha) fun _ _ _ h => r_un ho h
theorem sl_V : SlR X (rSlV X.K) := sl_tupF.or sl_list
theorem v_sl {lo hi : Option Expr} {m : ME} {ml mh : MO} {p2 : Pos} (he : VE X Z E a m) (hl : PO X lo (upO Z X.K E ml)) (hu : PO X hi (upO Z X.K E mh)) : VE X Z E (.Subscript a (.Slice lo hi none p2) pos) (mSl m ml mh) := pe_weak (pe_slice sl_V he hl hu) fun _ _ _ => r_sl
theorem po_weak {e : Option Expr} {t t' : TO} (h : PO X e t) (w : ∀ σ H Q, t' σ H Q → t σ H Q) : PO X e t' := ⟨fun pins s σ H Q I q => h.run pins s σ H Q I (w _ _ _ q)⟩
theorem vo_no : PO X none (upO Z X.K E mNo) := po_weak po_none fun _ _ _ => o_no
theorem vo_pt {m : ME} (h : VE X Z E a m) : PO X (some a) (upO Z X.K E (mPt m)) := po_weak (po_some h) fun _ _ _ => o_pt
theorem v_newD : VE X Z E (.Dict [] [] pos) mNewD := pe_weak pe_dnewK fun _ _ _ => r_newD
theorem v_lstRg {e : Expr} {m : ME} {p p2 pos2 : Pos} (hc : X.calm = true) (hg : Gl X "list") (hm : X.mg "list" = none) (hg2 : Gl X "range") (hm2 : X.mg "range" = none) (he : VE X Z E e m)
    (na2 : starEach [e] X.env = (false, eval e X.env) :: starEach [] X.env := by rfl) (na : starEach [.Call (.Name "range" p2) [e] [] pos2] X.env = (false, eval (.Call (.Name "range" p2) [e] [] pos2) X.env) :: starEach [] X.env := by rfl) :
    VE X Z E (.Call (.Name "list" p) [.Call (.Name "range" p2) [e] [] pos2] [] pos) (mLstRg m) := pe_weak (pe_listRg hc hg hm (prg_1 hg2 hm2 he na2) na) fun _ _ _ => r_lstRg
theorem v_join {o e : Expr} {m n : ME} {apos : Pos} (ho : VE X Z E o m) (he : VE X Z E e n) (hs : starEach [e] X.env = [(false, eval e X.env)] := by rfl) (hbase : attributeBase o "join" X.env (eval o X.env) = eval o X.env := by rfl) (hline : (apos.endLine == pos.line) = true := by rfl) :
    VE X Z E (.Call (.Attribute o "join" apos) [e] [] pos) (mJoin m n) := pe_weak (pe_join ho he hs hbase hline) fun _ _ _ => r_join
theorem v_isi {e : Expr} {T : Str} {Ts : String} {m : ME} {p pT : Pos} (hg : Gl X "isinstance") (hm : X.mg "isinstance" = none) (hgT : Gl X T) (hmT : X.mg T = none) (hv : bootBuiltins T = some (.type Ts)) (he : VE X Z E e m) (hn : T ≠ "__name__" := by decide) (hd : (T == ("__debug__" : Str)) = false := by decide)
    (hi : bootBuiltins "isinstance" = some (.builtin "isinstance") := by decide +kernel)
    (hs : starEach [e, .Name T pT] X.env = (false, eval e X.env) :: starEach [.Name T pT] X.env := by rfl) (hs2 : starEach [.Name T pT] X.env = (false, eval (.Name T pT) X.env) :: starEach [] X.env := by rfl) (hpl : (backTo pos (starEach [.Name T pT] X.env)).any (·.1) = false := by rfl) :
    VE X Z E (.Call (.Name "isinstance" p) [e, .Name T pT] [] pos) (mUn (isiP Ts) m) :=
  pe_weak (pe_callB call_isi hg hm hi (pa_cons he (pa_cons (pe_bltn (v := .ty Ts) hgT hmT hv rfl hn hd) pa_nil hs2) hs) (he := hs) (hpl := hpl)) fun _ _ _ h => r_un ok_isi h
end
end

/-! ## houses made; how many there are -/
section
open PySem.W PyProof.Rows PySem.Calls PySem.SeqAt
section
variable {Z : Zn} {K : PySem.W.Frag} {E : Option XK} {B H : Hp} {σ : L2.St}
theorem Scr.same {K : PySem.W.Frag} {H H' : Hp} {a : Addr} {xs : List V} (h : Scr K H a xs) (s : Same H H') : Scr K H' a xs := by
  rcases h with ⟨o, h⟩ | h
  · exact .inl ⟨o, s _ _ h⟩
  · exact .inr h
theorem Row.same {K : PySem.W.Frag} {H H' : Hp} {p a : Addr} {ns : List Int} (R : Row K H p a ns) (s : Same H H') : Row K H' p a ns := by
  obtain ⟨i, t, u, i0, h⟩ := R.at_
  exact ⟨R.sc.same s, R.small, i, t, u, i0, s _ _ h⟩
def itmP : PV → Bool
  | .non => true
  | .int _ => true
  | .bl _ => true
  | _ => false
def vP : PV → V
  | .int i => .int i
  | .bl b => .bl b
  | _ => .non
def mdP : PV → Option MD
  | .str z => some (.txt z)
  | .tup xs => if xs.all itmP = true then some (.tup (xs.map vP)) else none
  | _ => none
def kdP : List Key → List PV → Option (List (Str × MD))
  | [], [] => some []
  | .inr n :: ks, x :: xs => (mdP x).bind fun d => (kdP ks xs).map fun r => (n, d) :: r
  | _, _ => none
theorem den_itmP : ∀ {xs : List PV} {ys : List V}, xs.all itmP = true → DenL Z B xs ys → ys = xs.map vP
  | [], _, _, d => d
  | x :: xs, _, f, d => by
    obtain ⟨y, r, rfl, d1, d2⟩ := d
    rw [List.all_cons, Bool.and_eq_true] at f
    rw [den_itmP f.2 d2]
    cases x with
    | non => rw [show y = .non from d1]; rfl
    | int i => rw [show y = .int i from d1]; rfl
    | bl i => rw [show y = .bl i from d1]; rfl
    | _ => cases f.1
theorem den_mdP {x : PV} {v : V} {d : MD} (h : mdP x = some d) (dv : Den Z B x v) : MDAt B v d := by
  cases x with
  | str z =>
    cases h
    exact dv
  | tup xs =>
    have h' : (if xs.all itmP = true then some (MD.tup (xs.map vP)) else none) = some d := h
    split at h'
    · rename_i f
      cases h'
      obtain ⟨a, ys, rfl, t, dl⟩ := dv
      rw [den_itmP f dl] at t
      exact ⟨a, rfl, t⟩
    · cases h'
  | _ => cases h
theorem den_kdP : ∀ {kvs : List (Key × V)} {xs : List PV} {kd : List (Str × MD)}, kdP (kvs.map (·.1)) xs = some kd → DenL Z B xs (kvs.map (·.2)) → Paired (fun (p : Key × V) (q : Str × MD) => p.1 = Sum.inr q.1 ∧ MDAt B p.2 q.2) kvs kd
  | [], [], _, h, _ => by
    cases h
    exact .nil
  | [], _ :: _, _, h, _ => by cases h
  | (.inl i, v) :: kvs, [], _, h, _ => by cases h
  | (.inr n, v) :: kvs, [], _, h, _ => by cases h
  | (.inl i, v) :: kvs, _ :: _, _, h, _ => by cases h
  | (.inr n, v) :: kvs, x :: xs, kd, h, d => by
    obtain ⟨y, r, e, d1, d2⟩ := d
    cases e
    obtain ⟨md, h1, h2⟩ := Option.bind_eq_some_iff.mp (show (mdP x).bind (fun d => (kdP (kvs.map (·.1)) xs).map fun r => (n, d) :: r) = some kd from h)
    obtain ⟨r, h3, rfl⟩ := Option.map_eq_some_iff.mp h2
    exact .cons ⟨rfl, den_mdP h1 d1⟩ (den_kdP h3 d2)
def houseP : List PV → M Rs
  | [.tup ns, .tup ss, .dct ks xs] => match strsP ns, strsP ss, kdP ks xs with
    | some names, some signs, some kd => do
      M.ask (HsOk names signs kd ∧ names.length ≤ 1000 ∧ signs.length ≤ 1000)
      pure (.val (.hs names signs kd))
    | _, _, _ => M.fail
  | _ => M.fail
theorem houseP_run {ps : List PV} {Q : Rs → Prop} {F : Ex → Prop} (h : (houseP ps).run Q F) : ∃ names signs kd ks xs, ps = [.tup (names.map .str), .tup (signs.map .str), .dct ks xs] ∧ kdP ks xs = some kd ∧ HsOk names signs kd ∧ names.length ≤ 1000 ∧ signs.length ≤ 1000 ∧ Q (.val (.hs names signs kd)) := by
  unfold houseP at h
  split at h
  · split at h
    · rename_i names signs kd h1 h2 h3
      obtain ⟨⟨i1, i2, i3⟩, q⟩ := h
      rw [strsP_eq h1, strsP_eq h2]
      exact ⟨names, signs, kd, _, _, rfl, h3, i1, i2, i3, q⟩
    · exact False.elim h
  · exact False.elim h
def mHouse (ms : En → M (List PV)) : ME := fun e => do
  let ps ← ms e
  houseP ps
theorem r_house {CI : Addr} {Eh : XK} {ms : En → M (List PV)} {Q : VK} (h : up Z K E (mHouse ms) σ H Q) : tMake Z.C (spHInit Z.C CI) [] Eh (upA Z K E ms) σ H Q := by
  obtain ⟨B, e, R, q⟩ := h
  refine ⟨B, e, R, (ms e).mono (fun ps p B1 vs H1 s1 hv => ?_) (fun _ z => z) q⟩
  obtain ⟨names, signs, kd, ks, xs, rfl, hk, ok, l1, l2, pq⟩ := houseP_run p
  obtain ⟨v1, r1, rfl, ⟨nm, ys, rfl, tn, dn⟩, v2, r2, rfl, ⟨sg, zs, rfl, ts, ds⟩, v3, r3, rfl, ⟨d, kvs, rfl, td, rfl, dd⟩, e3⟩ := hv
  obtain rfl : r3 = [] := e3
  obtain rfl := denL_strs dn
  obtain rfl := denL_strs ds
  intro x dx nx ndx ne
  have sm : Same H1 (upd (upd H1 dx (.own x)) x (.ins Z.C dx [])) := fun b o z => (upd_ne (ne_of_none z nx)).trans ((upd_ne (ne_of_none z ndx)).trans z)
  refine ⟨x, nm, sg, d, dx, B1, names, signs, kd, kvs, rfl, upd_same, s1.s.trans sm, tn, ts, sm _ _ (s1.s _ _ td), den_kdP hk dd, ok.sm, l1, ok.sg, l2, ok.fine, fun _ => ⟨ok.keys, ok.nd, fun H' ob hn => ⟨rfl, ?_⟩⟩, fun part hp => ?_⟩
  · obtain ⟨dx', dm, kvs', h1, h2, h3, h4⟩ := hn.ex
    have n4 : H1 dm = none := sm.free h4
    have xdm : x ≠ dm := fun z => by
      rw [z, upd_same] at h4
      cases h4
    have smH : Same H1 H' := fun b o z => ob b o (ne_of_none z nx) (sm b o z)
    have nbx := none_sub s1.s nx
    have nbd := none_sub s1.s n4
    have sB : Same B1 (upd (upd B1 dm (.dK kvs')) x (.ins Z.C dx' (hF nm sg dm))) := fun b o z => (upd_ne (ne_of_none z nbx)).trans ((upd_ne (ne_of_none z nbd)).trans z)
    refine pq (upd (upd B1 dm (.dK kvs')) x (.ins Z.C dx' (hF nm sg dm))) (.ref x) H' (s1.trans R.row ⟨sB, fun b o z => ?_, fun b o z _ => smH b o z, fun b o z => ?_, ⟨fun p' a' ns' z => ⟨(s1.r.row p' a' ns' z).1.same smH, ?_⟩, fun q hq => ⟨(s1.r.tab q hq).1.ext smH, ?_⟩⟩⟩) ⟨x, rfl, ⟨dx', nm, sg, dm, upd_same, tn.same sB, ts.same sB, kvs', (upd_ne (Ne.symm xdm)).trans upd_same, L2.Paired.mapP h3 fun _ _ q => ⟨q.1, q.2.same sB⟩⟩, ok⟩
    · by_cases e1 : b = x
      · exact .inr (e1 ▸ nx)
      · rw [upd_ne e1] at z
        by_cases e2 : b = dm
        · exact .inr (e2 ▸ n4)
        · rw [upd_ne e2] at z
          exact .inl z
    · by_cases e1 : b = x
      · subst e1
        rw [upd_same] at z
        cases z
        exact h1
      · rw [upd_ne e1] at z
        by_cases e2 : b = dm
        · subst e2
          rw [upd_same] at z
          cases z
          exact h2
        · rw [upd_ne e2] at z
          exact smH b o (s1.s b o z)
    · obtain ⟨R', nb⟩ := s1.r.row p' a' ns' z
      have e1 : p' ≠ x := fun w => R'.there nx w.symm
      have e2 : p' ≠ dm := fun w => R'.there n4 w.symm
      rw [upd_ne e1, upd_ne e2]
      exact nb
    · obtain ⟨⟨ps, t1, _⟩, nb⟩ := s1.r.tab q hq
      have e1 : q.1 ≠ x := fun w => by
        rw [w, nx] at t1
        cases t1
      have e2 : q.1 ≠ dm := fun w => by
        rw [w, n4] at t1
        cases t1
      rw [upd_ne e1, upd_ne e2]
      exact nb
  · rw [ok.part] at hp
    cases hp
/-! len(set(t)) -/
def dis : List Int → Nat
  | [] => 0
  | x :: r => if r.contains x = true then dis r else dis r + 1
theorem dis_len : ∀ (ns ks : List Int), ks.Nodup → (∀ k, k ∈ ks ↔ k ∈ ns) → ks.length = dis ns
  | [], ks, _, h => by
    cases ks with
    | nil => rfl
    | cons k ks => exact absurd ((h k).mp List.mem_cons_self) List.not_mem_nil
  | x :: r, ks, nd, h => by
    unfold dis
    by_cases c : r.contains x = true
    · rw [if_pos c]
      have hx : x ∈ r := List.contains_iff_mem.mp c
      refine dis_len r ks nd fun k => (h k).trans ⟨fun z => ?_, fun z => List.mem_cons_of_mem _ z⟩
      rcases List.mem_cons.mp z with z | z
      · exact z ▸ hx
      · exact z
    · rw [if_neg c]
      have hx : x ∉ r := fun z => c (List.contains_iff_mem.mpr z)
      have hk : x ∈ ks := (h x).mpr List.mem_cons_self
      have e := dis_len r (ks.erase x) (nd.erase x) fun k => by
        rw [nd.mem_erase_iff, h k, List.mem_cons]
        constructor
        · rintro ⟨n, z | z⟩
          · exact absurd z n
          · exact z
        · exact fun z => ⟨fun w => hx (w ▸ z), .inr z⟩
      rw [List.length_erase_of_mem hk] at e
      have := List.length_pos_of_mem hk
      omega
def intsP : List PV → Option (List Int)
  | [] => some []
  | .int x :: r => (intsP r).map (x :: ·)
  | _ => none
theorem intsP_eq : ∀ {xs : List PV} {ss : List Int}, intsP xs = some ss → xs = ss.map .int
  | [], _, h => by
    cases h
    rfl
  | x :: xs, ss, h => by
    cases x with
    | int z =>
      obtain ⟨r, hr, e⟩ := Option.map_eq_some_iff.mp (show (intsP xs).map (z :: ·) = some ss from h)
      rw [← e, intsP_eq hr]
      rfl
    | _ => cases h
theorem intsP_of : ∀ ss : List Int, intsP (ss.map .int) = some ss
  | [] => rfl
  | s :: ss => by
    show (intsP (ss.map .int)).map (s :: ·) = some (s :: ss)
    rw [intsP_of ss]
    rfl
theorem denL_intsP : ∀ {ss : List Int} {ys : List V}, DenL Z B (ss.map .int) ys → ys = ss.map .int
  | [], _, d => d
  | s :: ss, _, d => by
    obtain ⟨y, r, rfl, d1, d2⟩ := d
    rw [show y = .int s from d1, denL_intsP d2]
    rfl
def lenSetP : PV → M Rs
  | .tup xs => match intsP xs with
    | some ns => do
      M.ask (ns.length ≤ 1000)
      pure (.val (.int (dis ns : Nat)))
    | none => M.fail
  | _ => M.fail
def tLenSetI (K : PySem.W.Frag) (ta : TE) : TE := fun σ H Q => ta σ H fun x H1 => ∃ l, ∃ ns : List Int, x = .ref l ∧ SqT K H1 l (ns.map V.int) ∧ ns.length ≤ 1000 ∧ Q (.int (dis ns : Nat)) H1
theorem ok_lenSet : UnOk Z K E (fun x H Q => ∃ l, ∃ ns : List Int, x = .ref l ∧ SqT K H l (ns.map V.int) ∧ ns.length ≤ 1000 ∧ Q (.int (dis ns : Nat)) H) lenSetP := by
  intro B H a x Q s r ha q
  cases e : a.pv with
  | tup xs =>
    rw [e] at q
    have q2 : (match intsP xs with | some ns => (do M.ask (ns.length ≤ 1000); pure (.val (.int (dis ns : Nat)))) | none => M.fail : M Rs).run (Post Z K B H Q) (ErOk Z K B H E) := q
    cases hi : intsP xs with
    | none =>
      rw [hi] at q2
      exact False.elim q2
    | some ns =>
      rw [hi] at q2
      obtain ⟨hl, q2⟩ := q2
      obtain rfl := intsP_eq hi
      obtain ⟨c, ys, rfl, t, d⟩ := ha.tup e
      obtain rfl := denL_intsP d
      exact ⟨c, ns, rfl, (t.same s).sqt, hl, post_val s r q2 rfl⟩
  | _ =>
    rw [e] at q
    exact False.elim q
end
section
variable {X : Cx} {Z : Zn} {E : Option XK} {a b c : Expr} {pos : Pos}
theorem pe_lenSetI {ta : TE} {p p2 q : Pos} (hc : X.calm = true) (hg : Gl X "len") (hm : X.mg "len" = none) (hg2 : Gl X "set") (hm2 : X.mg "set" = none) (ha : PE X a ta)
    (na : starEach [a] X.env = (false, eval a X.env) :: starEach [] X.env := by rfl) : PE X (.Call (.Name "len" p) [.Call (.Name "set" p2) [a] [] q] [] pos) (tLenSetI X.K ta) := by
  refine ⟨fun pins s σ H Q I h => ?_⟩
  refine Call_ (ld_blt I hg hm boot_len ?_)
  refine PyProof.Rows.callWith_builtin1 (PyProof.Rows.args_cons ?_ rfl) rfl rfl
  refine Call_ (ld_blt I hg2 hm2 boot_set ?_)
  refine PyProof.Rows.callWith_type1 (PyProof.Rows.args_cons (thn (ha.run pins s σ H _ I h) fun v s1 ⟨x, H1, I1, r1, q1⟩ => PyProof.Rows.args_nil ?_) na) na rfl
  obtain ⟨l, ns, rfl, hq, h1, q1⟩ := q1
  cases r1
  obtain ⟨its, r, pl, hz⟩ := I1.tuple hq
  refine call_set_tupI ns (I1.ok.hd hc) pl (by simpa using intsAre_of r) (by unfold scanBound; omega) fun h' tk c hS hcl hk => ?_
  refine PyProof.Rows.args_nil ?_
  obtain ⟨o, es, ep, t, ho, hex, hd, hgood, hnd, hmem, hsz, hf, hn, _⟩ := hS
  have I2 : Inv X pins σ H1 { s1 with heap := h', toks := tk } := I1.kept hk
  have e1 : es.size = dis ns := by
    have := dis_len ns (es.toList.map keyOf) hnd fun k => by
      rw [← hmem k]
      exact decide_eq_true_iff
    rw [List.length_map, Array.length_toList] at this
    exact this
  refine PySem.call_len_set ho hex hd hf (by omega) ⟨.int (dis ns : Nat), H1, I2.tok _, ⟨_, by rw [e1]⟩, q1⟩
theorem v_lenSet {m : ME} {p p2 q : Pos} (hc : X.calm = true) (hg : Gl X "len") (hm : X.mg "len" = none) (hg2 : Gl X "set") (hm2 : X.mg "set" = none) (ha : VE X Z E a m)
    (na : starEach [a] X.env = (false, eval a X.env) :: starEach [] X.env := by rfl) : VE X Z E (.Call (.Name "len" p) [.Call (.Name "set" p2) [a] [] q] [] pos) (mUn lenSetP m) := pe_weak (pe_lenSetI hc hg hm hg2 hm2 ha na) fun _ _ _ h => r_un ok_lenSet h
end
end

/-! ## rules of the text -/
section
open PySem.W PyProof.Rows PySem.Calls PySem.SeqAt
/-- all that is asked of the class House -/
structure HouV (P : Program) (w : World) (K : PySem.W.Frag) (mg : Str → Option Value) (base : Heap) (C CI : Addr) : Prop where
  T : HouC K C
  mgH : mg "House" = some (.ref C)
  nm : ∃ p g fd, PropOf K C "names" p g ∧ FnOk P w K mg base C8.CX0 1 g fd ["self"] (getSp C "_names") ∧ Binds K fd ["self"] []
  pl : ∃ p g fd, PropOf K C "plates" p g ∧ FnOk P w K mg base C8.CX0 1 g fd ["self"] (getSp C "_plates") ∧ Binds K fd ["self"] []
  mn : ∃ p g fd, PropOf K C "manners" p g ∧ FnOk P w K mg base C8.CX0 1 g fd ["self"] (spMnrs C) ∧ Binds K fd ["self"] []
  ln : ∃ f fd, findIn K (.ref C) "__len__" = some (some (.ref f)) ∧ isFn K (.ref f) = true ∧ FnOk P w K mg base C8.CX0 1 f fd ["self"] (spHLen C) ∧ Binds K fd ["self"] []
  made : ∃ f fd, Mk K C f ∧ FnOk P w K mg base (L2.CX P w) 5 f fd ["self", "names", "plates", "manners"] (spHInit C CI) ∧ Binds K fd ["self", "names", "plates", "manners"] []
section
variable {X : Cx} {Z : Zn} {E : Option XK} {a b c : Expr} {pos : Pos} {st : Stmt} {j : Nat} {C CI : Addr} {m : ME}
theorem v_names (h : HouV X.prog X.w X.K X.mg X.base C CI) (hC : ZC Z C X.w) (hr : Room j X.A) (hj : 2 ≤ j) (he : VE X Z E a m) (hab : attributeBase a "names" X.env (eval a X.env) = eval a X.env) : VE X Z E (.Attribute a "names" pos) (mUn namesP m) := by
  obtain ⟨p, g, fd, hp, F, hb⟩ := h.nm
  exact v_attr he h.T.cl hp F (hr.mono hj) hb (Eh := C8.E0) C8.pass0 (okn_names hC.c) hab
theorem v_plates (h : HouV X.prog X.w X.K X.mg X.base C CI) (hC : ZC Z C X.w) (hr : Room j X.A) (hj : 2 ≤ j) (he : VE X Z E a m) (hab : attributeBase a "plates" X.env (eval a X.env) = eval a X.env) : VE X Z E (.Attribute a "plates" pos) (mUn platesP m) := by
  obtain ⟨p, g, fd, hp, F, hb⟩ := h.pl
  exact v_attr he h.T.cl hp F (hr.mono hj) hb (Eh := C8.E0) C8.pass0 (okn_plates hC.c) hab
theorem v_manners (h : HouV X.prog X.w X.K X.mg X.base C CI) (hC : ZC Z C X.w) (hr : Room j X.A) (hj : 2 ≤ j) (he : VE X Z E a m) (hab : attributeBase a "manners" X.env (eval a X.env) = eval a X.env) : VE X Z E (.Attribute a "manners" pos) (mUn mannersP m) := by
  obtain ⟨p, g, fd, hp, F, hb⟩ := h.mn
  exact v_attr he h.T.cl hp F (hr.mono hj) hb (Eh := C8.E0) C8.pass0 (okn_manners hC.c) hab
/-- len of what is no house -/
def lenP0 : PV → M Rs
  | .hs _ _ _ => M.fail
  | p => lenP p
theorem ok_len0 {K : PySem.W.Frag} : CaOk Z K E (rLen K) (one lenP0) := by
  intro B H rs vs Q s r ha q
  obtain ⟨x, v, rfl, hx, q⟩ := one_run ha q
  cases e : x.pv with
  | tup xs =>
    rw [e] at q
    obtain ⟨hl, q⟩ := q
    obtain ⟨a, ys, rfl, t, d⟩ := hx.tup e
    refine ⟨_, ys.length, rfl, lenT (t.same s).sqt, ?_⟩
    rw [← d.len]
    exact post_val s r q rfl
  | lst xs =>
    rw [e] at q
    obtain ⟨hl, q⟩ := q
    obtain ⟨a, ys, rfl, t, d⟩ := hx.lst s e
    refine ⟨_, ys.length, rfl, lenL (SqL.of t), ?_⟩
    rw [← d.len]
    exact post_val s r q rfl
  | str z =>
    rw [e] at q
    obtain ⟨hl, q⟩ := q
    obtain rfl := hx.str e
    exact ⟨_, z.length, rfl, lenS (small_len hl), post_val s r q rfl⟩
  | _ =>
    rw [e] at q
    exact False.elim q
theorem v_len0 {p : Pos} {ms : En → M (List Rs)} (hg : Gl X "len") (hm : X.mg "len" = none) (ha : VP X Z E [a] ms) (he : starEach [a] X.env = (false, eval a X.env) :: starEach [] X.env := by rfl) (hpl : (backTo pos (starEach [] X.env)).any (·.1) = false := by rfl) :
    VE X Z E (.Call (.Name "len" p) [a] [] pos) (mCall (one lenP0) ms) := v_callB call_lenK ok_len0 hg hm boot_len ha (he := he) (hpl := hpl)
theorem v_lenH (h : HouV X.prog X.w X.K X.mg X.base C CI) (hC : ZC Z C X.w) (hr : Room j X.A) (hj : 2 ≤ j) {p : Pos} {ms : En → M (List Rs)} (hg : Gl X "len") (hm : X.mg "len" = none) (ha : VP X Z E [a] ms) (he : starEach [a] X.env = (false, eval a X.env) :: starEach [] X.env := by rfl) (hpl : (backTo pos (starEach [] X.env)).any (·.1) = false := by rfl) :
    VE X Z E (.Call (.Name "len" p) [a] [] pos) (mCall (one lenP) ms) := by
  obtain ⟨f, fd, h1, h2, F, hb⟩ := h.ln
  exact v_callB (CallR.or call_lenK (call_lenI (E := C8.E0) F (hr.mono hj) h1 h2 hb C8.pass0)) (ok_len hC.c) hg hm boot_len ha (he := he) (hpl := hpl)
theorem v_house (h : HouV X.prog X.w X.K X.mg X.base C CI) (hC : ZC Z C X.w) (hr : Room j X.A) (hj : 6 ≤ j) {Eh : XK} {p : Pos} {e : Expr} {es : List Expr} {ms : En → M (List PV)} (hx : Passes (L2.CX X.prog X.w) X Eh) (hg : Gl X "House") (ha : VA X Z E (e :: es) ms) (he : starEach (e :: es) X.env = (false, eval e X.env) :: starEach es X.env := by rfl) (hpl : (backTo pos (starEach es X.env)).any (·.1) = false := by rfl) :
    VE X Z E (.Call (.Name "House" p) (e :: es) [] pos) (mHouse ms) := by
  obtain ⟨hC, _⟩ := hC
  subst hC
  obtain ⟨f, fd, M1, F, hb⟩ := h.made
  exact pe_weak (pe_make M1 F (hr.mono hj) hg h.mgH hb .nil hx ha (by decide) he hpl) fun _ _ _ => r_house
/-! comprehensions -/
theorem v_lc {elt tg iter : Expr} {ifs : List Expr} {scope : Scope} {own : List (Str × Nat)} {mi : En → M (List PV)} {t : Tg} {g : TG} {mt : En → M Bool} {me : ME} (hc : X.calm = true) (hN : X.N.Nodup) (hi : VI X Z E tg iter mi) (ok : BlkOk X.N X.env.scope scope own)
    (hg : ∀ (s : Shared) (H : Hp) (C : Addr) (cl : List (Str × Addr)) (fp : List Addr), PG (X.blk s H scope (compEnvC scope cl C X.env) fp) tg g) (ht : ∀ (s : Shared) (H : Hp) (C : Addr) (cl : List (Str × Addr)) (fp : List Addr), PTs (X.blk s H scope (compEnvC scope cl C X.env) fp) ifs (upT Z X.K E mt))
    (he : ∀ (s : Shared) (H : Hp) (C : Addr) (cl : List (Str × Addr)) (fp : List Addr), PE (X.blk s H scope (compEnvC scope cl C X.env) fp) elt (up Z X.K E me)) (tk : TgOk X.K t g) (sub : t.slots.all (fun i => (own.map (·.2)).contains i) = true) (hs : ∀ x, foldedSetIterable iter X.env x = pure x := by intro _; rfl) :
    VE X Z E (.ListComp elt [⟨tg, iter, ifs, 0⟩] scope pos) (mLc mi (own.map (·.2)) t mt me) :=
  pe_weak (pe_lc hc hN hi ok hg ht he hs) fun _ _ _ => r_lc tk fun i h => by
    have := List.all_eq_true.mp sub i h
    exact List.contains_iff_mem.mp this
theorem vs_setLc {i : Nat} {y : Str} {py : Pos} {elt tg iter : Expr} {ifs : List Expr} {scope : Scope} {own : List (Str × Nat)} {spos : Pos} {mi : En → M (List PV)} {t : Tg} {g : TG} {mt : En → M Bool} {me : ME} (hc : X.calm = true) (hN : X.N.Nodup) (hy : X.N[i]? = some y) (hyl : X.env.scope.names.lookup y = some .local)
    (hsw : swapsWith (.ListComp elt [⟨tg, iter, ifs, 0⟩] scope pos) (some (.Name y py)) spos.line X.env = pure true) (hi : VI X Z E tg iter mi) (ok : BlkOk X.N X.env.scope scope own)
    (hg : ∀ (s : Shared) (H : Hp) (C : Addr) (cl : List (Str × Addr)) (fp : List Addr), PG (X.blk s H scope (compEnvC scope cl C X.env) fp) tg g) (ht : ∀ (s : Shared) (H : Hp) (C : Addr) (cl : List (Str × Addr)) (fp : List Addr), PTs (X.blk s H scope (compEnvC scope cl C X.env) fp) ifs (upT Z X.K E mt))
    (he : ∀ (s : Shared) (H : Hp) (C : Addr) (cl : List (Str × Addr)) (fp : List Addr), PE (X.blk s H scope (compEnvC scope cl C X.env) fp) elt (up Z X.K E me)) (tk : TgOk X.K t g) (sub : t.slots.all (fun i => (own.map (·.2)).contains i) = true) (hs : ∀ x, foldedSetIterable iter X.env x = pure x := by intro _; rfl) :
    VS X Z E (.Assign [.Name y py] (.ListComp elt [⟨tg, iter, ifs, 0⟩] scope pos) spos) (mSet i (mLc mi (own.map (·.2)) t mt me)) :=
  ps_weak (ps_setLc hc hN hy hyl hsw hi ok hg ht he hs) fun D σ H h => r_lc tk (fun i h => by
    have := List.all_eq_true.mp sub i h
    exact List.contains_iff_mem.mp this) (s_set h)
end
end
theorem v_gS {X : Cx} {Z : Zn} {E : Option XK} {a : Expr} {i : Str} (h : PE X a (tC (.str i))) : VE X Z E a (mC (.str i)) := pe_weak h fun _ _ _ => r_c fun _ => rfl

/-! ## texts walked -/
section
variable {Z : Zn} {K : PySem.W.Frag} {E : Option XK} {B H : Hp} {σ : L2.St}
def signsP (z : Str) : List PV := z.cps.toList.map fun c => .str ⟨#[c]⟩
def itStr (m : ME) : En → M (List PV) := fun e => do
  let r ← m e
  match r.pv with
  | .str z => pure (signsP z)
  | _ => M.fail
theorem wk_str {z : Str} : Wk Z K (Its z) (signsP z) B := by
  have w := walk_str (z := z)
  have hl : (signsP z).length = z.cps.size := by
    unfold signsP
    rw [List.length_map, Array.length_toList]
  refine ⟨fun i B1 H1 s1 s2 hi => w.goes i H1 (hl ▸ hi) trivial, fun B1 H1 s1 s2 => by rw [hl]; exact w.stops H1 trivial, fun i p B1 H1 v H2 hp s1 s2 ro y => ?_⟩
  have hi := (List.getElem?_eq_some_iff.mp hp).1
  obtain ⟨rfl, c, hc, rfl⟩ := w.yields i H1 v H2 (hl ▸ hi) trivial y
  unfold signsP at hp
  rw [List.getElem?_map, Array.getElem?_toList, hc] at hp
  cases hp
  exact ⟨B1, .refl s2 ro, rfl⟩
theorem i_str {m : ME} {R : It → Hp → Prop} (h : upI Z K E (itStr m) σ H R) : iStr (up Z K E m) σ H R := by
  obtain ⟨B, e, Rr, q⟩ := h
  refine ⟨B, e, Rr, (m e).mono (fun r z B1 v H1 s1 hv => ?_) (fun _ z => z) q⟩
  have z : (match r.pv with | .str z => pure (signsP z) | _ => M.fail : M (List PV)).run (fun xs => ∀ B' H' J, Step Z K B H B' H' → Wk Z K J xs B' → R J H') (ErOk Z K B H E) := z
  cases hr : r.pv with
  | str x =>
    rw [hr] at z
    exact ⟨x, hv.has.str hr, z B1 H1 _ s1 wk_str⟩
  | _ =>
    rw [hr] at z
    exact False.elim z
end
section
variable {X : Cx} {Z : Zn} {E : Option XK} {a : Expr}
theorem vi_str {tg : Expr} {m : ME} (h : VE X Z E a m) : VI X Z E tg a (itStr m) := pi_weak (pi_str h) fun _ _ _ => i_str
end

/-! ## more over values: texts, f-strings, items, range(a, b), split -/
section
variable {Z : Zn} {K : PySem.W.Frag} {E : Option XK} {B H : Hp} {σ : L2.St}
def strP : PV → M Rs
  | .int i => do
    M.ask (i.natAbs.log2 < 1920)
    pure (.val (.str (toString i)))
  | _ => M.fail
theorem ok_strOf : CaOk Z K E (fun xs H Q => ∃ i, xs = [.int i] ∧ i.natAbs.log2 < 1920 ∧ Q (.str (toString i)) H) (one strP) := by
  intro B H rs vs Q s r ha q
  obtain ⟨x, v, rfl, hx, q⟩ := one_run ha q
  cases e : x.pv with
  | int i =>
    rw [e] at q
    obtain ⟨q1, q2⟩ := q
    obtain rfl := hx.int e
    exact ⟨i, rfl, q1, post_val s r q2 rfl⟩
  | _ =>
    rw [e] at q
    exact False.elim q
def intTP : PV → M Rs
  | .str x => match PySem.intText? x with
    | some n => do
      M.ask (x.length ≤ 640)
      pure (.val (.int n))
    | none => M.fail
  | p => intOfP p
def rIntV : List V → Hp → VK → Prop := fun xs H Q => ((∃ i, xs = [.int i] ∧ Q (.int i) H) ∨ ∃ k, xs = [.bl k] ∧ Q (.int (if k then 1 else 0)) H) ∨ ∃ a n, xs = [.str a] ∧ PySem.intText? a = some n ∧ a.length ≤ 640 ∧ Q (.int n) H
theorem call_intV {X : Cx} : CallR X (.type "int") rIntV := call_int1.or call_int_str
theorem ok_intT : CaOk Z K E rIntV (one intTP) := by
  intro B H rs vs Q s r ha q
  obtain ⟨x, v, rfl, hx, q⟩ := one_run ha q
  cases e : x.pv with
  | str t =>
    rw [e] at q
    obtain rfl := hx.str e
    unfold intTP at q
    split at q
    · rename_i t' ht
      cases ht
      split at q
      · rename_i n hn
        obtain ⟨q1, q2⟩ := q
        exact .inr ⟨_, n, rfl, hn, q1, post_val s r q2 rfl⟩
      · exact q.elim
    · rename_i h1
      exact absurd rfl (h1 t)
  | int i =>
    rw [e] at q
    obtain rfl := hx.int e
    exact .inl (.inl ⟨i, rfl, post_val s r q rfl⟩)
  | bl b =>
    rw [e] at q
    have d := hx.den (by rw [e]; rfl)
    rw [e] at d
    obtain rfl : v = .bl b := d
    exact .inl (.inr ⟨b, rfl, post_val s r q rfl⟩)
  | _ =>
    rw [e] at q
    exact False.elim q
/-! + of texts, too -/
def addSP : PV → PV → M Rs
  | .str a, .str b => do
    M.ask (a.length + b.length ≤ 100000)
    pure (.val (.str (a ++ b)))
  | p, q => addP p q
def rAddS (K : PySem.W.Frag) : R2 := fun x y H Q => rAdd K x y H Q ∨ ∃ i j, x = .str i ∧ y = .str j ∧ i.length + j.length ≤ sizeLine ∧ Q (.str (i ++ j)) H
theorem op_addSV {X : Cx} : OpR X (binaryOp .Add) (rAddS X.K) := op_addV.or op_add_str
theorem ok_addS : OpOk Z K E (rAddS K) addSP := by
  intro B H a b x y Q s r ha hb q
  unfold addSP at q
  split at q
  · rename_i i j hi hj
    obtain ⟨q1, q2⟩ := q
    obtain rfl := ha.str hi
    obtain rfl := hb.str hj
    exact .inr ⟨i, j, rfl, rfl, mid_len q1, post_val s r q2 rfl⟩
  · exact .inl (ok_add B H a b x y Q s r ha hb q)
/-! > of texts -/
def strP2 (f : Str → Str → Bool) : PV → PV → M Rs
  | .str a, .str b => pure (.val (.bl (f a b)))
  | _, _ => M.fail
theorem ok_str2 {f : Str → Str → Bool} : OpOk Z K E (fun x y H Q => ∃ i j, x = .str i ∧ y = .str j ∧ Q (.bl (f i j)) H) (strP2 f) := by
  intro B H a b x y Q s r ha hb q
  unfold strP2 at q
  split at q
  · rename_i i j hi hj
    obtain rfl := ha.str hi
    obtain rfl := hb.str hj
    exact ⟨i, j, rfl, rfl, post_val s r q rfl⟩
  · exact q.elim
abbrev gtSP := strP2 fun i j => decide (j.cps.toList < i.cps.toList)
abbrev ltSP := strP2 fun i j => decide (i.cps.toList < j.cps.toList)
/-! f-strings -/
def mFmt (m : ME) : ME := fun e => do
  let r ← m e
  match r.pv with
  | .str y => do
    M.ask (y.length ≤ 100000)
    pure (.val (.str y))
  | .int i => do
    M.ask (i.natAbs.log2 < 1920)
    pure (.val (.str (toString i)))
  | _ => M.fail
theorem r_fmt {m : ME} {Q : VK} (h : up Z K E (mFmt m) σ H Q) : tFmt (up Z K E m) σ H Q := by
  obtain ⟨B, e, R, q⟩ := h
  refine ⟨B, e, R, (m e).mono (fun a p B1 x H1 s1 ha => ?_) (fun _ z => z) q⟩
  cases ep : a.pv with
  | str y =>
    dsimp only at p
    rw [ep] at p
    obtain ⟨p1, p2⟩ := p
    obtain rfl := ha.has.str ep
    exact .inl ⟨y, rfl, mid_len p1, p2 B1 _ H1 s1 rfl⟩
  | int i =>
    dsimp only at p
    rw [ep] at p
    obtain ⟨p1, p2⟩ := p
    obtain rfl := ha.has.int ep
    exact .inr ⟨i, rfl, p1, p2 B1 _ H1 s1 rfl⟩
  | _ =>
    dsimp only at p
    rw [ep] at p
    exact False.elim p
def mJs : List ME → Str → En → M Str
  | [], acc, _ => pure acc
  | m :: ms, acc, e => do
    let r ← m e
    match r.pv with
    | .str y => do
      M.ask (acc.length + y.length ≤ 100000)
      mJs ms (acc ++ y) e
    | _ => M.fail
def mFs (ms : List ME) : ME := fun e => do
  let s ← mJs ms Str.empty e
  pure (.val (.str s))
theorem js_run {e : En} {Q : Str → Hp → Prop} : ∀ (ms : List ME) (acc : Str) (B H : Hp), Rp Z K B e σ H → (mJs ms acc e).run (fun s => ∀ B' H', Step Z K B H B' H' → Q s H') (ErOk Z K B H E) → tJs (ms.map (up Z K E)) acc σ H Q
  | [], acc, B, H, R, q => q B H (.refl R.sub R.row)
  | m :: ms, acc, B, H, R, q => by
    refine ⟨B, e, R, (m e).mono (fun a p B1 x H1 s1 ha => ?_) (fun _ z => z) q⟩
    cases ep : a.pv with
    | str y =>
      dsimp only at p
      rw [ep] at p
      obtain ⟨p1, p2⟩ := p
      obtain rfl := ha.has.str ep
      refine ⟨y, rfl, by rw [str_len_app]; exact mid_len p1, js_run ms (acc ++ y) B1 H1 (R.step s1) ((mJs ms (acc ++ y) e).mono (fun s z B2 H2 s2 => z B2 H2 (s1.trans R.row s2)) (fun _ z => z.step R.row s1) p2)⟩
    | _ =>
      dsimp only at p
      rw [ep] at p
      exact False.elim p
theorem r_fs {ms : List ME} {Q : VK} (h : up Z K E (mFs ms) σ H Q) : tJs (ms.map (up Z K E)) Str.empty σ H (fun out H1 => Q (.str out) H1) := by
  obtain ⟨B, e, R, q⟩ := h
  exact js_run ms Str.empty B H R ((mJs ms Str.empty e).mono (fun s z B' H' st => z B' _ H' st rfl) (fun _ z => z) q)
/-! split -/
def mSplit (m : ME) (b : Str) : ME := fun e => do
  let a ← m e
  match a.pv with
  | .str z => do
    M.ask (z.length ≤ 100000)
    pure (.own (.lst ((Txt.split z b).map .str)))
  | _ => M.fail
theorem r_split {m : ME} {b : Str} {Q : VK} (hb : (b.length == 0) = false) (h : up Z K E (mSplit m b) σ H Q) : tM1 (fun x xs H Q => ∃ a b, x = .str a ∧ xs = [.str b] ∧ (b.length == 0) = false ∧ a.length + 2 ≤ sizeLine ∧ rNewStrs (Txt.split a b) H Q) (up Z K E m) (up Z K E (mC (.str b))) σ H Q := by
  obtain ⟨B, e, R, q⟩ := h
  refine ⟨B, e, R, (m e).mono (fun a p B1 x H1 s1 ha => ?_) (fun _ z => z) q⟩
  cases ep : a.pv with
  | str z =>
    dsimp only at p
    rw [ep] at p
    obtain ⟨p1, p2⟩ := p
    obtain rfl := ha.has.str ep
    refine ⟨⟨z, rfl⟩, B1, e, R.step s1, fun B2 v H2 s2 d => ?_⟩
    obtain rfl : v = .str b := d
    refine ⟨z, b, rfl, rfl, hb, by rw [sizeLine_eq]; omega, fun p0 n => ?_⟩
    have s12 := s1.trans R.row s2
    exact p2 _ _ _ (s12.trans R.row (Step.own (o := .lst ((Txt.split z b).map V.str)) s2.s s2.r n)) ⟨p0, rfl, s12.nil_ R.row n, none_sub s2.s n, s2.r.ne n, _, upd_same, den_strs _⟩
  | _ =>
    dsimp only at p
    rw [ep] at p
    exact False.elim p
/-! range(a, b) -/
def range2P : PV → PV → M (List PV)
  | .int i, .int j => do
    M.ask (-1000000 ≤ i ∧ i ≤ 1000000 ∧ -1000000 ≤ j ∧ j ≤ 1000000)
    pure ((List.range (j - i).toNat).map fun (k : Nat) => .int (i + (k : Int)))
  | _, _ => M.fail
theorem wk_range2 {i : Int} {n : Nat} : Wk Z K (Itr i n) ((List.range n).map fun (k : Nat) => PV.int (i + (k : Int))) B := by
  have w := walk_range (lo := i) (n := n)
  refine ⟨fun k B1 H1 s1 s2 hi => ?_, fun B1 H1 s1 s2 => ?_, fun k p B1 H1 v H2 hp s1 s2 ro y => ?_⟩
  · rw [List.length_map, List.length_range] at hi
    exact w.goes k H1 hi trivial
  · rw [List.length_map, List.length_range]
    exact w.stops H1 trivial
  · have hi := (List.getElem?_eq_some_iff.mp hp).1
    rw [List.length_map, List.length_range] at hi
    obtain ⟨rfl, rfl⟩ := w.yields k H1 v H2 hi trivial y
    rw [List.getElem?_map, List.getElem?_range hi] at hp
    cases hp
    exact ⟨B1, .refl s2 ro, rfl⟩
theorem i_range2 {ms : En → M (List Rs)} {R : It → Hp → Prop} (h : upI Z K E (itCall (two range2P) ms) σ H R) : iRng2 (upP Z K E ms) σ H R := by
  obtain ⟨B, e, Rr, q⟩ := h
  refine ⟨B, e, Rr, (ms e).mono (fun rs z B1 vs H1 s1 ha => ?_) (fun _ z => z) q⟩
  obtain ⟨r, v, r', v', rfl, hr, hr', z⟩ := two_run ha z
  unfold range2P at z
  split at z
  · rename_i i j hi hj
    obtain ⟨⟨z1, z2, z3, z4⟩, z5⟩ := z
    obtain rfl := hr.int hi
    obtain rfl := hr'.int hj
    exact ⟨i, j, rfl, ⟨by omega, by omega, by omega, by omega⟩, z5 B1 H1 _ s1 wk_range2⟩
  · exact False.elim z
/-! d.items() of a new dict -/
def keyPV : Key → PV
  | .inl i => .int i
  | .inr s => .str s
def itemsPV : List Key → List PV → List PV
  | k :: ks, x :: xs => .tupw [keyPV k, x] :: itemsPV ks xs
  | _, _ => []
def itItems (m : ME) : En → M (List PV) := fun e => do
  match ← m e with
  | .own (.dct ks xs) => pure (itemsPV ks xs)
  | _ => M.fail
def lockT (td : TE) : TE := fun σ H Q => td σ H fun x H1 => ∃ d kvs, x = .ref d ∧ H1 d = some (.dK kvs) ∧ ∀ o, Q x (upd H1 d (.frz o (.dK kvs)))
theorem pe_lock {X : Cx} {e : Expr} {td : TE} (he : PE X e td) : PE X e (lockT td) := by
  refine ⟨fun pins s σ H Q I h => thn (he.run pins s σ H _ I h) fun v s1 hv => ?_⟩
  obtain ⟨x, H1, I1, r, d, kvs, rfl, hd, q⟩ := hv
  obtain ⟨od, I2⟩ := I1.lock hd (by trivial)
  exact ⟨.ref d, _, I2, r, q od⟩
theorem itemsPV_at {Z : Zn} {B : Hp} : ∀ {kvs : List (Key × V)} {xs : List PV}, DenL Z B xs (kvs.map (·.2)) → (itemsPV (kvs.map (·.1)) xs).length = kvs.length ∧ ∀ (i : Nat) (k : Key) (v : V), kvs[i]? = some (k, v) → ∃ p, xs[i]? = some p ∧ Den Z B p v ∧ (itemsPV (kvs.map (·.1)) xs)[i]? = some (.tupw [keyPV k, p])
  | [], xs, d => by
    cases xs with
    | nil => exact ⟨rfl, fun i k v h => by cases h⟩
    | cons x xs =>
      obtain ⟨y, r, e, _⟩ := d
      cases e
  | (k0, v0) :: kvs, xs, d => by
    cases xs with
    | nil =>
      have : (v0 :: kvs.map (·.2)) = [] := d
      cases this
    | cons x xs =>
      obtain ⟨y, r, e, d1, d2⟩ := d
      cases e
      obtain ⟨h1, h2⟩ := itemsPV_at (kvs := kvs) d2
      refine ⟨congrArg (· + 1) h1, fun i k v h => ?_⟩
      cases i with
      | zero =>
        cases h
        exact ⟨x, rfl, d1, rfl⟩
      | succ i => exact h2 i k v h
theorem den_keyPV {Z : Zn} {B : Hp} {k : Key} : Den Z B (keyPV k) (kV k) := by
  cases k with
  | inl i => rfl
  | inr s => rfl
theorem wk_items {Z : Zn} {K : PySem.W.Frag} {B : Hp} {a : Addr} {o : Obj} {kvs : List (Key × V)} {xs : List PV} (h : B a = some (.frz o (.dK kvs))) (d : DenL Z B xs (kvs.map (·.2))) : Wk Z K (Iti a o kvs) (itemsPV (kvs.map (·.1)) xs) B := by
  obtain ⟨hl, hat⟩ := itemsPV_at d
  refine ⟨fun i B1 H1 s1 s2 hi => ⟨s2 _ _ (s1 _ _ h), by rw [hl] at hi; exact hi⟩, fun B1 H1 s1 s2 => ⟨s2 _ _ (s1 _ _ h), by rw [hl]; exact Nat.le_refl _⟩, fun i p B1 H1 v H2 hp s1 s2 ro y => ?_⟩
  obtain ⟨T, k, u, hk, rfl, nT, rfl⟩ := y
  obtain ⟨p', hp', d', hi'⟩ := hat i k u hk
  rw [hi'] at hp
  cases hp
  have st := Step.put (o := .tup [kV k, u]) s2 ro nT
  exact ⟨_, st, T, [kV k, u], rfl, upd_same, _, _, rfl, den_keyPV, _, _, rfl, (d'.mono s1).mono st.b, rfl⟩
theorem i_items {m : ME} {R : It → Hp → Prop} (h : upI Z K E (itItems m) σ H R) : iItems (lockT (up Z K E m)) σ H R := by
  obtain ⟨B, e, Rr, q⟩ := h
  refine ⟨B, e, Rr, (m e).mono (fun r z B1 v H1 s1 a => ?_) (fun _ z => z) q⟩
  cases r with
  | own p =>
    cases p with
    | dct ks xs =>
      obtain ⟨d, rfl, n0, nb, nr, kvs, hd, rfl, hx⟩ := a
      refine ⟨d, kvs, rfl, hd, fun o => ⟨d, o, kvs, rfl, upd_same, ?_⟩⟩
      have st : Step Z K B H (upd B1 d (.frz o (.dK kvs))) (upd H1 d (.frz o (.dK kvs))) := by
        refine ⟨fun b u z => (upd_ne (ne_of_none (s1.b b u z) nb)).trans (s1.b b u z), fun b u z => ?_, fun b u z nz => (upd_ne (ne_of_none z n0)).trans (s1.h b u z nz), fun b u z => ?_, ⟨fun p' b ns ez => ⟨(s1.r.row p' b ns ez).1.dct hd, ?_⟩, fun q hq => ⟨tab_upd (s1.r.tab q hq).1 (.inr ⟨_, hd⟩), ?_⟩⟩⟩
        · by_cases e1 : b = d
          · exact .inr (e1 ▸ n0)
          · rw [upd_ne e1] at z
            exact s1.n b u z
        · by_cases e1 : b = d
          · rw [e1, upd_same] at z
            rw [e1, upd_same, z]
          · rw [upd_ne e1] at z
            rw [upd_ne e1]
            exact s1.s b u z
        · have e1 : p' ≠ d := fun z => nr (.inl ⟨b, ns, z ▸ ez⟩)
          rw [upd_ne e1]
          exact (s1.r.row p' b ns ez).2
        · have e1 : q.1 ≠ d := fun z => nr (.inr ⟨q.2, z ▸ hq⟩)
          rw [upd_ne e1]
          exact (s1.r.tab q hq).2
      have sb : Same B1 (upd B1 d (.frz o (.dK kvs))) := fun b u z => (upd_ne (ne_of_none z nb)).trans z
      exact z _ _ _ st (wk_items upd_same (hx.mono sb))
    | _ => exact False.elim z
  | val p => exact False.elim z
  | bor p => exact False.elim z
end
section
variable {X : Cx} {Z : Zn} {E : Option XK} {a b c : Expr} {pos : Pos}
theorem v_fmt {m : ME} (h : VE X Z E a m) : VE X Z E (.FormattedValue a (-1) none pos) (mFmt m) := pe_weak (pe_fmt h) fun _ _ _ => r_fmt
inductive VJ (X : Cx) (Z : Zn) (E : Option XK) : List Expr → List ME → Prop where
  | nil : VJ X Z E [] []
  | cons {e : Expr} {m : ME} {es : List Expr} {ms : List ME} (h : VE X Z E e m) (r : VJ X Z E es ms) : VJ X Z E (e :: es) (m :: ms)
theorem VJ.pj {es : List Expr} {ms : List ME} (h : VJ X Z E es ms) : PJ X es (ms.map (up Z X.K E)) := by
  induction h with
  | nil => exact .nil
  | cons h _ ih => exact .cons h ih
theorem v_fs {v1 v2 : Expr} {rest : List Expr} {ms : List ME} (h : VJ X Z E (v1 :: v2 :: rest) ms) : VE X Z E (.JoinedStr (v1 :: v2 :: rest) pos) (mFs ms) := pe_weak (pe_joined h.pj) fun _ _ _ => r_fs
theorem v_split {o : Expr} {m : ME} {t : Str} {j : Nat} {p1 apos : Pos} (hb : (t.length == 0) = false) (ho : VE X Z E o m) (hbase : attributeBase o "split" X.env (eval o X.env) = eval o X.env := by rfl) (hline : (apos.endLine == pos.line) = true := by rfl) :
    VE X Z E (.Call (.Attribute o "split" apos) [.Constant (.str t) j p1] [] pos) (mSplit m t) := pe_weak (pe_split (te := up Z X.K E (mC (.str t))) ho v_str rfl hbase hline) fun _ _ _ => r_split hb
theorem vi_range2 {tg : Expr} {ms : En → M (List Rs)} {p : Pos} (hg : Gl X "range") (hm : X.mg "range" = none) (ha : VP X Z E [a, b] ms) (hs : starEach [a, b] X.env = [(false, eval a X.env), (false, eval b X.env)] := by rfl) (hs2 : starEach [b] X.env = [(false, eval b X.env)] := by rfl) : VI X Z E tg (.Call (.Name "range" p) [a, b] [] pos) (itCall (two range2P) ms) := pi_weak (pi_range2 hg hm ha hs hs2) fun _ _ _ => i_range2
theorem vi_items {e : Expr} {m : ME} {elts : List Expr} {kk : Nat} {tpos apos : Pos} (he : VE X Z E e m) (hbase : attributeBase e "items" X.env (eval e X.env) = eval e X.env := by rfl) (hline : (apos.endLine == pos.line) = true := by rfl) :
    VI X Z E (.Tuple elts kk tpos) (.Call (.Attribute e "items" apos) [] [] pos) (itItems m) := pi_weak (pi_items (pe_lock he) hbase hline) fun _ _ _ => i_items
end

/-! ## dict comprehensions, deep in, == of houses, several names at once -/
section
open PySem PySem.Spec PyProof.Rows PySem.W PySem.Calls SeqAt
variable {Z : Zn} {K : PySem.W.Frag} {E : Option XK} {B0 H0 B H B' H' : Hp} {e : En} {σ : L2.St}
theorem Step.madeD {D : Addr} {o : HO} {ys : List (Key × V)} (s : Step Z K B H B' H') (n0 : H D = none) (n : B' D = none) (h : H' D = some (.dK ys)) : Step Z K B H B' (upd H' D o) := by
  refine ⟨s.b, s.n, fun a u q nq => (upd_ne (ne_of_none q n0)).trans (s.h a u q nq), fun a u q => (upd_ne (ne_of_none q n)).trans (s.s a u q), ⟨fun a b ns ez => ⟨(s.r.row a b ns ez).1.dct h, (s.r.row a b ns ez).2⟩, fun q hq => ⟨tab_upd (s.r.tab q hq).1 (.inr ⟨_, h⟩), (s.r.tab q hq).2⟩⟩⟩
def dcL (vs : List Nat) (t : Tg) (tt : En → M Bool) (mk mv : ME) (e : En) : List PV → List Key → List PV → M (List Key × List PV)
  | [], ks, xs => pure (ks, xs)
  | x :: r, ks, xs => do
    let e1 ← tgSet t x (wipeE e vs)
    let b ← tt e1
    if b then do
      let k ← mFz mk e1
      match keyP k.pv with
      | some ky => do
        M.ask (ks.length ≤ 100000)
        let v ← mFz mv e1
        dcL vs t tt mk mv e r (dputK ks ky) (dputV ks xs ky v.pv)
      | none => M.fail
    else dcL vs t tt mk mv e r ks xs
def mDc (mi : En → M (List PV)) (vs : List Nat) (t : Tg) (tt : En → M Bool) (mk mv : ME) : ME := fun e => do
  let xs ← mi e
  M.ask (xs.length ≤ 100000)
  let kx ← dcL vs t tt mk mv e xs [] []
  pure (.own (.dct kx.1 kx.2))
theorem r_dc {mi : En → M (List PV)} {vs : List Nat} {t : Tg} {g : TG} {tt : En → M Bool} {mk mv : ME} {Q : VK} (hg : TgOk K t g) (sub : ∀ i ∈ t.slots, i ∈ vs) (h : up Z K E (mDc mi vs t tt mk mv) σ H Q) :
    tDc (upI Z K E mi) g (upT Z K E tt) (up Z K E mk) (up Z K E mv) vs σ H Q := by
  obtain ⟨B, e, R, q⟩ := h
  refine ⟨B, e, R, (mi e).mono (fun xs p B1 H1 J s1 w => ?_) (fun _ z => z) q⟩
  obtain ⟨hlen, p⟩ := p
  intro D nD
  have R1 := R.step s1
  have nD0 := s1.nil_ R.row nD
  have nrD := s1.r.ne nD
  refine ⟨fun i m H' => m = xs.length - i ∧ i ≤ xs.length ∧ ∃ B2 acc kvs, Step Z K B1 H1 B2 H' ∧ B2 D = none ∧ H' D = some (.dK kvs) ∧ DenL Z B2 acc (kvs.map (·.2)) ∧ (dcL vs t tt mk mv e (xs.drop i) (kvs.map (·.1)) acc).run (fun kx => Post Z K B H Q (.own (.dct kx.1 kx.2))) (ErOk Z K B H E),
    ⟨xs.length, by simp, Nat.zero_le _, B1, [], [], Step.own s1.s s1.r nD, none_sub s1.s nD, upd_same, rfl, p⟩, ?_⟩
  rintro i m H2 ⟨rfl, hi, B2, acc, kvs, s2, nB2, hD, hd, q2⟩
  by_cases hlt : i < xs.length
  · refine .inr ⟨w.go i B2 H2 s2.b s2.s hlt, fun H' => ∃ m', m' < xs.length - i ∧ _, fun H' p' => p', fun x H3 y => ?_⟩
    obtain ⟨B3, s3, d3⟩ := w.yld i _ B2 H2 x H3 (List.getElem?_eq_getElem hlt) s2.b s2.s s2.r y
    have s13 := s2.trans s1.r s3
    have R3 := R1.step s13
    have nB3 := s3.noneB hD nB2
    have hD3 := s3.h _ _ hD nrD
    have q3 : (dcL vs t tt mk mv e (xs[i] :: xs.drop (i + 1)) (kvs.map (·.1)) acc).run (fun kx => Post Z K B H Q (.own (.dct kx.1 kx.2))) (ErOk Z K B H E) := by
      rw [← List.drop_eq_getElem_cons hlt]
      exact q2
    have q4 : (tgSet t xs[i] (wipeE e vs)).run (fun e' => _) (ErOk Z K B H E) := q3
    refine hg Z B3 _ _ H3 _ x _ (fun _ => False) (R3.wipe vs) d3 (tgSet_exc ((tgSet t xs[i] (wipeE e vs)).mono (fun e' z σ' T => ?_) (fun _ z => z) q4)) (fun _ z => z)
    refine ⟨T.wiped sub, B3, e', T.rp, (tt e').mono (fun b z B4 H4 s4 => ?_) (fun _ z => ErOk.step R.row (s1.trans R.row s13) z) z⟩
    have s14 := s13.trans s1.r s4
    have nB4 := s4.noneB hD3 nB3
    have hD4 := s4.h _ _ hD3 nrD
    cases b with
    | false => exact ⟨xs.length - (i + 1), by omega, rfl, hlt, B4, acc, kvs, s14, nB4, hD4, hd.mono (s3.b.trans s4.b), z⟩
    | true =>
      have z' := mFz_val (m := mk) (e := e') z
      refine r_fz (m := mk) (Q := fun y H4 => up Z K E mv σ' H4 fun z H5 => ∃ kvs k, y = kV k ∧ H5 D = some (.dK kvs) ∧ kvs.length < sizeLine ∧ _) ⟨B4, e', T.rp.step s4, (mFz mk e').mono (fun r z B5 v H5 s5 a => ?_) (fun _ z => ErOk.step R.row ((s1.trans R.row s14)) z) z'⟩
      obtain ⟨⟨p', rfl⟩, z⟩ := z
      have s15 := s14.trans s1.r s5
      have nB5 := s5.noneB hD4 nB4
      have hD5 := s5.h _ _ hD4 nrD
      cases hr : keyP p' with
      | none =>
        have z : (match keyP p' with | some ky => (do M.ask ((kvs.map (·.1)).length ≤ 100000); let v ← mFz mv e'; dcL vs t tt mk mv e (xs.drop (i + 1)) (dputK (kvs.map (·.1)) ky) (dputV (kvs.map (·.1)) acc ky v.pv)) | none => M.fail : M _).run (fun kx => Post Z K B H Q (.own (.dct kx.1 kx.2))) (ErOk Z K B H E) := z
        rw [hr] at z
        exact False.elim z
      | some ky =>
        have z : (match keyP p' with | some ky => (do M.ask ((kvs.map (·.1)).length ≤ 100000); let v ← mFz mv e'; dcL vs t tt mk mv e (xs.drop (i + 1)) (dputK (kvs.map (·.1)) ky) (dputV (kvs.map (·.1)) acc ky v.pv)) | none => M.fail : M _).run (fun kx => Post Z K B H Q (.own (.dct kx.1 kx.2))) (ErOk Z K B H E) := z
        rw [hr] at z
        obtain ⟨hl, z⟩ := z
        rw [List.length_map] at hl
        obtain rfl := den_key hr a
        have z2 := mFz_val (m := mv) (e := e') z
        refine r_fz (m := mv) ⟨B5, e', (T.rp.step s4).step s5, (mFz mv e').mono (fun r z B6 v6 H6 s6 a6 => ?_) (fun _ z => ErOk.step R.row ((s1.trans R.row s15)) z) z2⟩
        obtain ⟨⟨p6, rfl⟩, z⟩ := z
        have s16 := s15.trans s1.r s6
        have nB6 := s6.noneB hD5 nB5
        have hD6 := s6.h _ _ hD5 nrD
        have sall := s3.b.trans (s4.b.trans (s5.b.trans s6.b))
        obtain ⟨i1, i2⟩ := put_den (k := ky) (v := v6) a6 (hd.mono sall)
        refine ⟨kvs, ky, rfl, hD6, by rw [sizeLine_eq]; omega, xs.length - (i + 1), by omega, rfl, hlt, B6, _, _, s16.madeD nD nB6 hD6, nB6, upd_same, i2, ?_⟩
        rw [i1]
        exact z
  · have ei : i = xs.length := by omega
    subst ei
    rw [List.drop_length] at q2
    exact .inl ⟨w.stop B2 H2 s2.b s2.s, q2 B2 (.ref D) H2 (s1.trans R.row s2) ⟨D, rfl, nD0, nB2, nrD, kvs, hD, rfl, hd⟩⟩
/-! in a list or a tuple, of anything -/
def inDP (neg : Bool) (p c : PV) : M Rs := match c with
  | .lst xs => do
    M.ask (isD p = true ∧ isDs xs = true ∧ SeqAt.shaped (toD p) = true ∧ SeqAt.shaped (.list (toDs xs)) = true)
    pure (.val (.bl (neg ^^ (toDs xs).any fun z => PyData.eqv z (toD p))))
  | .tup xs => do
    M.ask (isD p = true ∧ isDs xs = true ∧ SeqAt.shaped (toD p) = true ∧ SeqAt.shaped (.tuple (toDs xs)) = true)
    pure (.val (.bl (neg ^^ (toDs xs).any fun z => PyData.eqv z (toD p))))
  | _ => M.fail
def rInDV (K : PySem.W.Frag) (neg : Bool) : R2 := fun x y H Q => ∃ d ds, Dp K H x d ∧ ((Dp K H y (.list ds) ∧ SeqAt.shaped (.list ds) = true) ∨ (Dp K H y (.tuple ds) ∧ SeqAt.shaped (.tuple ds) = true)) ∧ SeqAt.shaped d = true ∧ Q (.bl (neg ^^ ds.any fun z => PyData.eqv z d)) H
theorem op_inDV {X : Cx} (hu : X.A.units + 66 < cLine) : OpR X (compareOp .In) (rInDV X.K false) := by
  intro pins s σ H x y v u Q I rx ry h
  obtain ⟨d, ds, hd, he, sd, q⟩ := h
  rw [Bool.false_xor] at q
  obtain ⟨as, r1⟩ := Dp.reads I d x v hd rx
  rcases he with ⟨he, se⟩ | ⟨he, se⟩
  · obtain ⟨bs, r2⟩ := Dp.reads I (.list ds) y u he ry
    exact SeqAt.in_list_reads r2 r1 (SeqAt.canLay_of_shaped se) (SeqAt.canLay_of_shaped sd) (room_in_shaped sd (by omega)) ⟨.bl _, H, I, rfl, q⟩
  · obtain ⟨bs, r2⟩ := Dp.reads I (.tuple ds) y u he ry
    exact SeqAt.in_tuple_reads r2 r1 (SeqAt.canLay_of_shaped se) (SeqAt.canLay_of_shaped sd) (room_in_shaped sd (by omega)) ⟨.bl _, H, I, rfl, q⟩
theorem op_notInDV {X : Cx} (hu : X.A.units + 66 < cLine) : OpR X (compareOp .NotIn) (rInDV X.K true) := by
  intro pins s σ H x y v u Q I rx ry h
  obtain ⟨d, ds, hd, he, sd, q⟩ := h
  rw [Bool.true_xor] at q
  obtain ⟨as, r1⟩ := Dp.reads I d x v hd rx
  rcases he with ⟨he, se⟩ | ⟨he, se⟩
  · obtain ⟨bs, r2⟩ := Dp.reads I (.list ds) y u he ry
    exact SeqAt.notIn_list_reads r2 r1 (SeqAt.canLay_of_shaped se) (SeqAt.canLay_of_shaped sd) (room_in_shaped sd (by omega)) ⟨.bl _, H, I, rfl, q⟩
  · obtain ⟨bs, r2⟩ := Dp.reads I (.tuple ds) y u he ry
    exact SeqAt.notIn_tuple_reads r2 r1 (SeqAt.canLay_of_shaped se) (SeqAt.canLay_of_shaped sd) (room_in_shaped sd (by omega)) ⟨.bl _, H, I, rfl, q⟩
theorem ok_inD {neg : Bool} : OpOk Z K E (rInDV K neg) (inDP neg) := by
  intro B H a b x y Q s r ha hb q
  unfold inDP at q
  split at q
  · rename_i xs hc
    obtain ⟨⟨q1, q2, q3, q4⟩, q⟩ := q
    have db := has_dp (K := K) s hb (by rw [hc]; exact q2)
    rw [hc] at db
    exact ⟨_, _, has_dp s ha q1, .inl ⟨db, q4⟩, q3, post_val s r q rfl⟩
  · rename_i xs hc
    obtain ⟨⟨q1, q2, q3, q4⟩, q⟩ := q
    have db := has_dp (K := K) s hb (by rw [hc]; exact q2)
    rw [hc] at db
    exact ⟨_, _, has_dp s ha q1, .inr ⟨db, q4⟩, q3, post_val s r q rfl⟩
  · exact q.elim
/-! in a tuple of the module's top -/
def pvF : PV → V
  | .int i => .int i
  | .bl b => .bl b
  | .str x => .str x
  | _ => .non
theorem den_pvF : ∀ {xs : List PV}, xs.all PV.flat = true → DenL Z B xs (xs.map pvF)
  | [], _ => rfl
  | x :: xs, h => by
    rw [List.all_cons, Bool.and_eq_true] at h
    refine ⟨pvF x, _, rfl, ?_, den_pvF h.2⟩
    cases x with
    | non => rfl
    | bl b => rfl
    | int i => rfl
    | str i => rfl
    | _ => exact absurd h.1 (by intro z; cases z)
structure KTup (K : PySem.W.Frag) (mg : Str → Option Value) (x : Str) (ss : List PV) : Prop where
  flat : ss.all PV.flat = true
  ex : ∃ (a : Addr) (o : Obj) (its : Array Value) (n : Nat), mg x = some (.ref a) ∧ K.lookup a = some o ∧ o.cls = .type "tuple" ∧ o.data = .seq its n ∧ its.size ≤ sizeLine ∧ Vals (ss.map pvF) its.toList
def mInG (neg : Bool) (ss : List PV) (m : ME) : ME := fun e => do
  let r ← m e
  M.ask (r.pv.flat = true)
  pure (.val (.bl (neg ^^ ss.any fun x => eqF x r.pv)))
theorem r_inG {neg : Bool} {ss : List PV} {m : ME} {Q : VK} {a : Addr} (fl : ss.all PV.flat = true) (hq : ∀ H, SqT K H a (ss.map pvF)) (h : up Z K E (mInG neg ss m) σ H Q) : tOp (rIn K neg) (up Z K E m) (tC (.ref a)) σ H Q := by
  obtain ⟨B, e, R, q⟩ := h
  refine ⟨B, e, R, (m e).mono (fun x p B1 v H1 s1 ha => ?_) (fun _ z => z) q⟩
  obtain ⟨p1, p2⟩ := p
  have d := ha.has.den (by cases ep : x.pv <;> rw [ep] at p1 <;> first | rfl | exact absurd p1 (by intro z; cases z))
  refine ⟨a, _, rfl, .inr (hq H1), den_flat p1 d, denL_flat fl (den_pvF (Z := Z) (B := B1) fl), ?_⟩
  rw [denL_in p1 d fl (den_pvF (Z := Z) (B := B1) fl)]
  have := p2 B1 _ H1 s1 (show Den Z B1 (.bl _) (.bl _) from rfl)
  cases neg
  · rw [if_neg (by decide)]
    rw [Bool.false_xor] at this
    exact this
  · rw [if_pos rfl]
    rw [Bool.true_xor] at this
    exact this
/-! == of houses -/
structure HouE (P : Program) (w : World) (K : PySem.W.Frag) (mg : Str → Option Value) (base : Heap) (C : Addr) : Prop where
  eq : ∃ f fd, findIn K (.ref C) "__eq__" = some (some (.ref f)) ∧ isFn K (.ref f) = true ∧ FnOk P w K mg base C8.CX0 6 f fd ["self", "other"] (spHEq C) ∧ Binds K fd ["self", "other"] []
  ne : findIn K (.ref C) "__ne__" = some (some (.builtin "object.__ne__"))
  ob : PySem.W.subIn K (.ref C) (.type "object") = some true
def eqHP (neg : Bool) : PV → PV → M Rs
  | .hs a b c, .hs a' b' c' => pure (.val (.bl (neg ^^ houEq a a' b b' c c')))
  | _, _ => M.fail
theorem ok_eqH {C : Addr} {neg : Bool} {Eh : XK} (hC : Z.C = C) : OpOk Z K E (rEqI C (spHEq C) Eh neg) (eqHP neg) := by
  subst hC
  intro B H a b x y Q s r ha hb q
  unfold eqHP at q
  split at q
  · rename_i n1 s1 k1 n2 s2 k2 h1 h2
    have da := ha.den (by rw [h1]; rfl)
    have db := hb.den (by rw [h2]; rfl)
    rw [h1] at da
    rw [h2] at db
    obtain ⟨c, rfl, ha1, ok1⟩ := da
    obtain ⟨d, rfl, hb1, ok2⟩ := db
    have ha2 := ha1.same s
    have hb2 := hb1.same s
    obtain ⟨dx, nm, sg, dm, g1, _⟩ := id ha2.ex
    obtain ⟨dy, nm', sg', dm', g2, _⟩ := id hb2.ex
    exact ⟨c, d, dx, dy, _, _, rfl, rfl, g1, g2, c, d, _, _, _, _, _, _, rfl, ha2, hb2, ok1.fine, ok2.fine, _, rfl, post_val s r q rfl⟩
  · exact q.elim
/-! several names at once -/
def OwnL (Z : Zn) (B H0 H : Hp) (rs : List Rs) (vs : List V) : Prop := Paired (RsAt Z B H0 H) rs vs ∧ ∀ (i j : Nat) (p q : PV) (a : Addr), i ≠ j → rs[i]? = some (.own p) → rs[j]? = some (.own q) → vs[i]? = some (.ref a) → vs[j]? ≠ some (.ref a)
def upQ (Z : Zn) (K : PySem.W.Frag) (E : Option XK) (m : En → M (List Rs)) : TA := fun σ H Q => ∃ B e, Rp Z K B e σ H ∧ (m e).run (fun rs => ∀ B' vs H', Step Z K B H B' H' → OwnL Z B' H H' rs vs → Q vs H') (ErOk Z K B H E)
theorem q_nil {Q : List V → Hp → Prop} (h : upQ Z K E pNil σ H Q) : tNil σ H Q := by
  obtain ⟨B, e, R, q⟩ := h
  exact q B [] H (.refl R.sub R.row) ⟨.nil, fun i j p q a _ h => by cases i <;> cases h⟩
theorem pair_at {α β : Type} {R : α → β → Prop} {xs : List α} {ys : List β} (h : Paired R xs ys) {i : Nat} {x : α} (hx : xs[i]? = some x) : ∃ y, ys[i]? = some y ∧ R x y := by
  induction h generalizing i with
  | nil => cases hx
  | cons r t ih =>
    cases i with
    | zero =>
      cases hx
      exact ⟨_, rfl, r⟩
    | succ i => exact ih hx
theorem q_cons {m : ME} {r : En → M (List Rs)} {Q : List V → Hp → Prop} (h : upQ Z K E (pCons m r) σ H Q) : tCons (up Z K E m) (upQ Z K E r) σ H Q := by
  obtain ⟨B, e, R, q⟩ := h
  refine ⟨B, e, R, (m e).mono (fun x p B1 v H1 s1 ha => ?_) (fun _ z => z) q⟩
  refine ⟨B1, e, R.step s1, (r e).mono (fun rs p B2 vs H2 s2 hv => p B2 (v :: vs) H2 (s1.trans R.row s2) ?_) (fun _ z => z.step R.row s1) p⟩
  obtain ⟨h1, h2⟩ := hv
  refine ⟨.cons (RsAt.step ha s2) (L2.Paired.mapP h1 fun _ _ q => RsAt.back q fun _ n => s1.nil_ R.row n), fun i j p q a ne e1 e2 e3 => ?_⟩
  have key : ∀ (jj : Nat) (pp qq : PV) (aa : Addr), x = .own pp → rs[jj]? = some (.own qq) → v = .ref aa → vs[jj]? ≠ some (.ref aa) := fun jj pp qq aa g1 g2 g3 g4 => by
    rw [g1, g3] at ha
    obtain ⟨a', ea, _, _, _, d⟩ := ha
    cases ea
    obtain ⟨o, ho⟩ := d.there
    obtain ⟨w, hw, hr⟩ := pair_at h1 g2
    rw [g4] at hw
    cases hw
    obtain ⟨a', ea, n1, _⟩ := hr
    cases ea
    rw [ho] at n1
    cases n1
  cases i with
  | zero =>
    cases j with
    | zero => exact absurd rfl ne
    | succ j => exact key j p q a (Option.some.inj e1) e2 (Option.some.inj e3)
  | succ i =>
    cases j with
    | zero => exact fun e4 => key i q p a (Option.some.inj e2) e1 (Option.some.inj e4) e3
    | succ j => exact h2 i j p q a (fun z => ne (congrArg (· + 1) z)) e1 e2 e3
def putL : List Nat → List Rs → En → M En
  | [], [], e => pure e
  | i :: is, r :: rs, e => do
    let e1 ← mPut i r e
    putL is rs e1
  | _, _, _ => M.fail
def setL : List Nat → List V → L2.St → L2.St
  | i :: is, v :: vs, σ => setL is vs (σ.set i (some v))
  | _, _, σ => σ
theorem put_all {Q : En → Prop} {F : Ex → Prop} : ∀ (is : List Nat) (rs : List Rs) (vs : List V) (e : En) (σ : L2.St), R0 Z K B0 H0 B e σ H → OwnL Z B H0 H rs vs →
    (∀ (j : Nat) (p : PV) (a : Addr), rs[j]? = some (.own p) → vs[j]? = some (.ref a) → ∀ (k : Nat) (q : PV), e[k]? = some (.own q) → σ[k]? ≠ some (some (.ref a))) → (putL is rs e).run Q F → ∃ e', R0 Z K B0 H0 B e' (setL is vs σ) H ∧ Q e'
  | [], [], vs, e, σ, R, hv, _, q => ⟨e, R, q⟩
  | [], _ :: _, _, _, _, _, _, _, q => q.elim
  | _ :: _, [], _, _, _, _, _, _, q => q.elim
  | i :: is, r :: rs, vs, e, σ, R, hv, ap, q => by
    obtain ⟨h1, h2⟩ := hv
    cases h1 with
    | @cons _ v _ vs hr ht =>
      obtain ⟨nb, q⟩ := mPut_run (Q := fun e1 => (putL is rs e1).run Q F) (F := F) q
      have Ra := R.putG i hr.has nb fun p c e1 e2 => by
        subst e1 e2
        obtain ⟨c', e3, n0, _⟩ := hr
        cases e3
        exact ⟨n0, fun k q _ hk => ap 0 p c rfl rfl k q hk⟩
      refine put_all is rs vs _ _ Ra ⟨ht, fun i j p q a ne => h2 (i + 1) (j + 1) p q a (fun z => ne (Nat.succ.inj z))⟩ (fun j p a e1 e2 k q hk hs => ?_) q
      by_cases hki : k = i
      · subst hki
        have hkl : k < σ.length := by
          rcases Nat.lt_or_ge k σ.length with z2 | z2
          · exact z2
          · rw [List.getElem?_eq_none (by rw [List.length_set]; exact z2)] at hs
            cases hs
        rw [List.getElem?_set_self hkl] at hs
        cases hs
        cases r with
        | own p' => exact h2 0 (j + 1) p' p a (by omega) rfl e1 rfl e2
        | val p' => exact set_ne hk (by intro z; cases z) rfl
        | bor p' => exact nb p' rfl
      · rw [List.getElem?_set_ne (Ne.symm hki)] at hs
        exact ap (j + 1) p a e1 e2 k q (own_of hk hki) hs
def mParN (is : List Nat) (ms : En → M (List Rs)) : MS := fun e => do
  let rs ← ms e
  M.ask (rs.length = is.length)
  let e' ← putL is rs e
  pure (.nx e')
theorem s_parN {is : List Nat} {ms : En → M (List Rs)} {D : Ends} (h : upS Z K E (mParN is ms) D σ H) : upQ Z K E ms σ H fun vs H1 => vs.length = is.length ∧ D.nx (setL is vs σ) H1 := by
  obtain ⟨B0, H0, B, e, R, q⟩ := h
  refine ⟨B, e, R.rp, (ms e).mono (fun rs p B1 vs H1 s1 ha => ?_) (fun _ z => z.step R.r0 R.st) q⟩
  obtain ⟨pl, p⟩ := p
  have R1 := R.step s1
  have hap : ∀ (j : Nat) (p : PV) (a : Addr), rs[j]? = some (.own p) → vs[j]? = some (.ref a) → ∀ (k : Nat) (q : PV), e[k]? = some (.own q) → σ[k]? ≠ some (some (.ref a)) := fun j p a e1 e2 k q hk hs => by
    obtain ⟨w, hw, hr⟩ := pair_at ha.1 e1
    rw [e2] at hw
    cases hw
    obtain ⟨a', ea, n0, _⟩ := hr
    cases ea
    exact R.apart n0 hk hs
  obtain ⟨e', R', q'⟩ := put_all is rs vs e σ R1 ⟨L2.Paired.mapP ha.1 fun _ _ q => RsAt.back q fun _ => R.back, ha.2⟩ hap p
  exact ⟨(paired_len ha.1).symm.trans pl, q' B1 _ H1 R'⟩
theorem gNames_set {Q : L2.St → Hp → Prop} {H : Hp} : ∀ (is : List Nat) (vs : List V) (σ : L2.St), vs.length = is.length → Q (setL is vs σ) H → gNames is vs σ H Q
  | [], [], σ, _, q => ⟨rfl, q⟩
  | [], _ :: _, _, h, _ => by cases h
  | _ :: _, [], _, h, _ => by cases h
  | i :: is, v :: vs, σ, h, q => ⟨v, vs, rfl, gNames_set is vs (σ.set i (some v)) (Nat.succ.inj h) q⟩
theorem s_parT {is : List Nat} {ms : En → M (List Rs)} {D : Ends} (hs : is.length ≤ 1000) (h : upS Z K E (mParN is ms) D σ H) : tAsg (tTupF (upQ Z K E ms)) (gTup K is.length (gNames is)) D σ H := by
  obtain ⟨B0, H0, B, e, R, q⟩ := h
  refine ⟨B, e, R.rp, (ms e).mono (fun rs p B1 vs H1 s1 ha => ?_) (fun _ z => z.step R.r0 R.st) q⟩
  obtain ⟨pl, p⟩ := p
  have R1 := R.step s1
  have hl : vs.length = is.length := (paired_len ha.1).symm.trans pl
  refine ⟨small_len (by rw [hl]; exact hs), fun a o na od => ?_⟩
  have s2 := Step.own (o := .frz o (.tup vs)) s1.s s1.r na
  have R2 := R1.step s2
  have ha2 : OwnL Z B1 H (upd H1 a (.frz o (.tup vs))) rs vs := ⟨L2.Paired.mapP ha.1 fun _ _ q => RsAt.step q s2, ha.2⟩
  have hap : ∀ (j : Nat) (p : PV) (a : Addr), rs[j]? = some (.own p) → vs[j]? = some (.ref a) → ∀ (k : Nat) (q : PV), e[k]? = some (.own q) → σ[k]? ≠ some (some (.ref a)) := fun j p a e1 e2 k q hk hs => by
    obtain ⟨w, hw, hr⟩ := pair_at ha.1 e1
    rw [e2] at hw
    cases hw
    obtain ⟨a', ea, n0, _⟩ := hr
    cases ea
    exact R.apart n0 hk hs
  obtain ⟨e', R', q'⟩ := put_all is rs vs e σ R2 ⟨L2.Paired.mapP ha2.1 fun _ _ q => RsAt.back q fun _ => R.back, ha.2⟩ hap p
  exact ⟨a, vs, rfl, (show TupAt _ a vs from ⟨o, upd_same, od⟩).sqt, hl, gNames_set is vs σ hl (q' B1 _ _ R')⟩
theorem s_par3 {i j l : Nat} {m n o : ME} {D : Ends} (h : upS Z K E (mParN [i, j, l] (pCons m (pCons n (pCons o pNil)))) D σ H) : tPar3 i j l (upQ Z K E (pCons m (pCons n (pCons o pNil)))) D σ H := by
  obtain ⟨B, e, R, q⟩ := s_parN h
  refine ⟨B, e, R, (pCons m (pCons n (pCons o pNil)) e).mono (fun rs p B1 vs H1 s1 ha => ?_) (fun _ z => z) q⟩
  obtain ⟨pl, p⟩ := p B1 vs H1 s1 ha
  match vs, pl, p with
  | [u, v, w], _, p => exact ⟨u, v, w, rfl, p⟩
end
section
open PySem PySem.Spec PyProof.Rows PySem.W PySem.Calls
variable {X : Cx} {Z : Zn} {E : Option XK} {a b c : Expr} {pos : Pos}
theorem v_inD {neg : Bool} {op : CmpOp} {ma mb : ME} (hr : OpR X (compareOp op) (rInDV X.K neg)) (ha : VE X Z E a ma) (hb : VE X Z E b mb) (hm : behindInMarks op b = false) : VE X Z E (.Compare a [op] [b] pos) (mBin (inDP neg) ma mb) := v_cmp hr ok_inD ha hb hm
theorem ktup_sq {K : PySem.W.Frag} {mg : Str → Option Value} {x : Str} {ss : List PV} (T : KTup K mg x ss) : ∃ a, mg x = some (.ref a) ∧ ∀ H, SqT K H a (ss.map pvF) := by
  obtain ⟨a, o, its, n, h1, h2, h3, h4, h5, h6⟩ := T.ex
  exact ⟨a, h1, fun H => .inr ⟨o, its, n, h2, h3, h4, h5, h6⟩⟩
theorem v_inG {x : Str} {p : Pos} {ss : List PV} {m : ME} (T : KTup X.K X.mg x ss) (hg : Gl X x) (ha : VE X Z E a m) (hd : (x == ("__debug__" : Str)) = false := by decide) (hm : behindInMarks .In (.Name x p) = false := by with_unfolding_all rfl) : VE X Z E (.Compare a [.In] [.Name x p] pos) (mInG false ss m) := by
  obtain ⟨g, h1, h2⟩ := ktup_sq T
  exact pe_weak (pe_cmpR op_in_seq ha (pe_glob (v := .ref g) hg h1 rfl hd) hm) fun _ _ _ => r_inG T.flat h2
theorem v_notInG {x : Str} {p : Pos} {ss : List PV} {m : ME} (T : KTup X.K X.mg x ss) (hg : Gl X x) (ha : VE X Z E a m) (hd : (x == ("__debug__" : Str)) = false := by decide) (hm : behindInMarks .NotIn (.Name x p) = false := by with_unfolding_all rfl) : VE X Z E (.Compare a [.NotIn] [.Name x p] pos) (mInG true ss m) := by
  obtain ⟨g, h1, h2⟩ := ktup_sq T
  exact pe_weak (pe_cmpR op_notIn_seq ha (pe_glob (v := .ref g) hg h1 rfl hd) hm) fun _ _ _ => r_inG T.flat h2
theorem v_eqH {C : Addr} {j : Nat} {Eh : XK} {ma mb : ME} (h : HouE X.prog X.w X.K X.mg X.base C) (hC : ZC Z C X.w) (hr : Room j X.A) (hj : 7 ≤ j) (hx : Passes C8.CX0 X Eh) (ha : VE X Z E a ma) (hb : VE X Z E b mb) : VE X Z E (.Compare a [.Eq] [b] pos) (mBin (eqHP false) ma mb) := by
  obtain ⟨f, fd, h1, h2, h3, h4⟩ := h.eq
  exact v_cmp (op_eqI h3 (hr.mono (by omega)) h1 h2 h4 hx) (ok_eqH hC.c) ha hb (nomark _)
theorem v_neH {C : Addr} {j : Nat} {Eh : XK} {ma mb : ME} (h : HouE X.prog X.w X.K X.mg X.base C) (hC : ZC Z C X.w) (hr : Room j X.A) (hj : 7 ≤ j) (hx : Passes C8.CX0 X Eh) (ha : VE X Z E a ma) (hb : VE X Z E b mb) : VE X Z E (.Compare a [.NotEq] [b] pos) (mBin (eqHP true) ma mb) := by
  obtain ⟨f, fd, h1, h2, h3, h4⟩ := h.eq
  exact v_cmp (op_neI h3 (hr.mono hj) h1 h.ne h.ob h2 h4 hx) (ok_eqH hC.c) ha hb (nomark _)
theorem vt_inG {x : Str} {p : Pos} {ss : List PV} {m : ME} (T : KTup X.K X.mg x ss) (hg : Gl X x) (ha : VE X Z E a m) (hd : (x == ("__debug__" : Str)) = false := by decide) (hm : behindInMarks .In (.Name x p) = false := by with_unfolding_all rfl) : VT X Z E (.Compare a [.In] [.Name x p] pos) (mTst (mInG false ss m)) := by
  obtain ⟨g, h1, h2⟩ := ktup_sq T
  exact pt_weak (pt_cmpR op_in_seq ha (pe_glob (v := .ref g) hg h1 rfl hd) hm) fun _ _ _ h => r_inG T.flat h2 (r_tst h)
theorem vt_notInG {x : Str} {p : Pos} {ss : List PV} {m : ME} (T : KTup X.K X.mg x ss) (hg : Gl X x) (ha : VE X Z E a m) (hd : (x == ("__debug__" : Str)) = false := by decide) (hm : behindInMarks .NotIn (.Name x p) = false := by with_unfolding_all rfl) : VT X Z E (.Compare a [.NotIn] [.Name x p] pos) (mTst (mInG true ss m)) := by
  obtain ⟨g, h1, h2⟩ := ktup_sq T
  exact pt_weak (pt_cmpR op_notIn_seq ha (pe_glob (v := .ref g) hg h1 rfl hd) hm) fun _ _ _ h => r_inG T.flat h2 (r_tst h)
theorem vt_eqH {C : Addr} {j : Nat} {Eh : XK} {ma mb : ME} (h : HouE X.prog X.w X.K X.mg X.base C) (hC : ZC Z C X.w) (hr : Room j X.A) (hj : 7 ≤ j) (hx : Passes C8.CX0 X Eh) (ha : VE X Z E a ma) (hb : VE X Z E b mb) : VT X Z E (.Compare a [.Eq] [b] pos) (mTst (mBin (eqHP false) ma mb)) := by
  obtain ⟨f, fd, h1, h2, h3, h4⟩ := h.eq
  exact vt_cmp (op_eqI h3 (hr.mono (by omega)) h1 h2 h4 hx) (ok_eqH hC.c) ha hb (nomark _)
theorem vt_neH {C : Addr} {j : Nat} {Eh : XK} {ma mb : ME} (h : HouE X.prog X.w X.K X.mg X.base C) (hC : ZC Z C X.w) (hr : Room j X.A) (hj : 7 ≤ j) (hx : Passes C8.CX0 X Eh) (ha : VE X Z E a ma) (hb : VE X Z E b mb) : VT X Z E (.Compare a [.NotEq] [b] pos) (mTst (mBin (eqHP true) ma mb)) := by
  obtain ⟨f, fd, h1, h2, h3, h4⟩ := h.eq
  exact vt_cmp (op_neI h3 (hr.mono hj) h1 h.ne h.ob h2 h4 hx) (ok_eqH hC.c) ha hb (nomark _)
abbrev VQ (X : Cx) (Z : Zn) (E : Option XK) (es : List Expr) (m : En → M (List Rs)) : Prop := PA X es (upQ Z X.K E m)
theorem vq_nil : VQ X Z E [] pNil := pa_weak pa_nil fun _ _ _ => q_nil
theorem vq_cons {es : List Expr} {m : ME} {ms : En → M (List Rs)} (ha : VE X Z E a m) (hr : VQ X Z E es ms) (hs : starEach (a :: es) X.env = (false, eval a X.env) :: starEach es X.env := by rfl) : VQ X Z E (a :: es) (pCons m ms) := pa_weak (pa_cons ha hr hs) fun _ _ _ => q_cons
theorem vs_par3 {i j l : Nat} {x y z : Str} {m n o : ME} {px py pz pt : Pos} {kt k2 pt2} (hc : X.calm = true) (hN : X.N.Nodup) (hi : X.N[i]? = some x) (hj : X.N[j]? = some y) (hl : X.N[l]? = some z) (hij : i ≠ j) (hil : i ≠ l) (hjl : j ≠ l)
    (hx : X.env.scope.names.lookup x = some .local) (hy : X.env.scope.names.lookup y = some .local) (hz : X.env.scope.names.lookup z = some .local) (ha : VQ X Z E [a, b, c] (pCons m (pCons n (pCons o pNil))))
    (hw : swappedStores [.Tuple [.Name x px, .Name y py, .Name z pz] kt pt] (.Tuple [a, b, c] k2 pt2) X.env = pure (some [x, y, z]))
    (hs : swapsWithSole [.Tuple [.Name x px, .Name y py, .Name z pz] kt pt] (.Tuple [a, b, c] k2 pt2) pos.line X.env = pure false := by rfl) :
    VS X Z E (.Assign [.Tuple [.Name x px, .Name y py, .Name z pz] kt pt] (.Tuple [a, b, c] k2 pt2) pos) (mParN [i, j, l] (pCons m (pCons n (pCons o pNil)))) := vs_weak (ps_par3 hc hN hi hj hl hij hil hjl hx hy hz ha hw hs) fun _ _ _ => s_par3
theorem vs_parT {es : List Expr} {ts : List Expr} {kk k2 : Nat} {pt p2 : Pos} {is : List Nat} {ms : En → M (List Rs)} (ha : VQ X Z E es ms) (hg : PG X (.Tuple ts kk pt) (gTup X.K is.length (gNames is))) (hl : is.length ≤ 1000 := by decide) (hs : swapsWithSole [.Tuple ts kk pt] (.Tuple es k2 p2) pos.line X.env = pure false := by rfl) (hw : swappedStores [.Tuple ts kk pt] (.Tuple es k2 p2) X.env = pure none := by rfl)
    (h1 : (assignEach [.Tuple ts kk pt] X.env).map (·.2) = [assign (.Tuple ts kk pt) X.env] := by rfl) : VS X Z E (.Assign [.Tuple ts kk pt] (.Tuple es k2 p2) pos) (mParN is ms) := vs_weak (ps_asg (pe_tupF ha) hg hs hw h1) fun _ _ _ => s_parT hl
theorem v_dc {kx vx tg iter : Expr} {ifs : List Expr} {scope : Scope} {own : List (Str × Nat)} {mi : En → M (List PV)} {t : Tg} {g : TG} {mt : En → M Bool} {mk mv : ME} (hc : X.calm = true) (hN : X.N.Nodup) (hi : VI X Z E tg iter mi) (ok : BlkOk X.N X.env.scope scope own)
    (hg : ∀ (s : Shared) (H : Hp) (C : Addr) (cl : List (Str × Addr)) (fp : List Addr), PG (X.blk s H scope (compEnvC scope cl C X.env) fp) tg g) (ht : ∀ (s : Shared) (H : Hp) (C : Addr) (cl : List (Str × Addr)) (fp : List Addr), PTs (X.blk s H scope (compEnvC scope cl C X.env) fp) ifs (upT Z X.K E mt))
    (hk : ∀ (s : Shared) (H : Hp) (C : Addr) (cl : List (Str × Addr)) (fp : List Addr), PE (X.blk s H scope (compEnvC scope cl C X.env) fp) kx (up Z X.K E mk)) (he : ∀ (s : Shared) (H : Hp) (C : Addr) (cl : List (Str × Addr)) (fp : List Addr), PE (X.blk s H scope (compEnvC scope cl C X.env) fp) vx (up Z X.K E mv))
    (tk : TgOk X.K t g) (sub : t.slots.all (fun i => (own.map (·.2)).contains i) = true) (hs : ∀ x, foldedSetIterable iter X.env x = pure x := by intro _; rfl) :
    VE X Z E (.DictComp kx vx [⟨tg, iter, ifs, 0⟩] scope pos) (mDc mi (own.map (·.2)) t mt mk mv) :=
  pe_weak (pe_dc hc hN hi ok hg ht hk he hs) fun _ _ _ => r_dc tk fun i h => by
    have := List.all_eq_true.mp sub i h
    exact List.contains_iff_mem.mp this
end

/-! ## dict(list of pairs) -/
section
open PySem PySem.Spec PyProof.Rows PySem.W PySem.Calls
variable {Z : Zn} {K : PySem.W.Frag} {E : Option XK} {B H : Hp}
def pairsP : List PV → Option (List (Key × PV))
  | [] => some []
  | .tup [k, v] :: r => match keyP k, pairsP r with
    | some ky, some l => some ((ky, v) :: l)
    | _, _ => none
  | _ => none
def mergeP : List (Key × PV) → List Key → List PV → List Key × List PV
  | [], ks, xs => (ks, xs)
  | (k, v) :: r, ks, xs => mergeP r (dputK ks k) (dputV ks xs k v)
def dictPP : PV → M Rs
  | .lst xs => match pairsP xs with
    | some l => pure (.own (.dct (mergeP l [] []).1 (mergeP l [] []).2))
    | none => M.fail
  | _ => M.fail
theorem pairs_den : ∀ {xs : List PV} {l : List (Key × PV)} {ys : List V}, pairsP xs = some l → DenL Z B xs ys → ∃ (ps : List Addr) (kvs : List (Key × V)), ys = ps.map V.ref ∧ Paired (fun p kv => SqT K B p [kV kv.1, kv.2]) ps kvs ∧ Paired (fun (a : Key × PV) (b : Key × V) => a.1 = b.1 ∧ Den Z B a.2 b.2) l kvs
  | [], l, ys, h, d => by
    cases h
    obtain rfl : ys = [] := d
    exact ⟨[], [], rfl, .nil, .nil⟩
  | x :: xs, l, ys, h, d => by
    obtain ⟨y, r, rfl, d1, d2⟩ := d
    unfold pairsP at h
    split at h
    · rename_i h1
      cases h1
    · rename_i k v r' h1
      cases h1
      split at h
      · rename_i ky l' hk hl
        cases h
        obtain ⟨ps, kvs, rfl, p1, p2⟩ := pairs_den hl d2
        obtain ⟨a, zs, rfl, t, dz⟩ := d1
        obtain ⟨z1, r1, rfl, dk, z2, r2, rfl, dv, e3⟩ := dz
        obtain rfl : r2 = [] := e3
        obtain rfl := den_key hk dk
        exact ⟨a :: ps, (ky, z2) :: kvs, rfl, .cons t.sqt p1, .cons ⟨rfl, dv⟩ p2⟩
      · cases h
    · cases h
theorem merge_den : ∀ {l : List (Key × PV)} {more kvs : List (Key × V)} {xs : List PV}, Paired (fun (a : Key × PV) (b : Key × V) => a.1 = b.1 ∧ Den Z B a.2 b.2) l more → DenL Z B xs (kvs.map (·.2)) →
    ((mergeK kvs more).map (·.1) = (mergeP l (kvs.map (·.1)) xs).1 ∧ DenL Z B (mergeP l (kvs.map (·.1)) xs).2 ((mergeK kvs more).map (·.2)))
  | _, _, kvs, xs, .nil, d => ⟨rfl, d⟩
  | (k, p) :: l, (k', v) :: more, kvs, xs, .cons h t, d => by
    obtain ⟨e, hv⟩ := h
    cases e
    obtain ⟨i1, i2⟩ := put_den (k := k) (p := p) (v := v) hv d
    have := merge_den (kvs := putK kvs k v) t i2
    rw [i1] at this
    exact this
theorem ok_dictP : CaOk Z K E (fun xs H Q => ∃ (a : Addr) (ps : List Addr) (kvs : List (Key × V)), xs = [.ref a] ∧ SqL K H a (ps.map V.ref) ∧ Paired (fun p kv => SqT K H p [kV kv.1, kv.2]) ps kvs ∧ ∀ p, H p = none → Q (.ref p) (upd H p (.dK (mergeK [] kvs)))) (one dictPP) := by
  intro B H rs vs Q s r ha q
  obtain ⟨x, v, rfl, hx, q⟩ := one_run ha q
  unfold dictPP at q
  split at q
  · rename_i xs hc
    split at q
    · rename_i l hl
      obtain ⟨a, ys, rfl, hy, d⟩ := hx.lst s hc
      obtain ⟨ps, kvs, rfl, p1, p2⟩ := pairs_den (K := K) hl d
      refine ⟨a, ps, kvs, rfl, SqL.of hy, L2.Paired.mapP p1 fun _ _ z => ?_, fun p n => ?_⟩
      · rcases z with (z | ⟨u, z⟩) | z
        · exact .inl (.inl (s _ _ z))
        · exact .inl (.inr ⟨u, s _ _ z⟩)
        · exact .inr z
      · obtain ⟨m1, m2⟩ := merge_den (kvs := []) (xs := []) p2 rfl
        exact q _ _ _ (Step.own (o := .dK (mergeK [] kvs)) s r n) ⟨p, rfl, n, none_sub s n, r.ne n, _, upd_same, m1, m2⟩
    · exact q.elim
  · exact q.elim
end

/-! ## plans -/
section
inductive Man where
  | back | keep | guess (g : List (Option Nat))
/-- what a guess has for a name -/
def optV : Option Nat → V
  | none => .non
  | some b => .int (b : Int)
structure Plan where
  names : List Str
  signs : List Str
  ways : List Man
  truth : List Nat
/-- a plate that a name can have: each sign the name's or a point -/
def Worn (sign name : Str) : Prop := sign.cps.size = name.cps.size ∧ ∀ (i c : Nat), sign.cps[i]? = some c → c = 46 ∨ name.cps[i]? = some c
structure Plan.Ok (L : Plan) (most : Nat) : Prop where
  pos : 0 < L.names.length
  four : L.names.length ≤ 4
  sub : ∀ x ∈ L.names, x ∈ pool
  asc : Asc L.names
  nd : L.names.Nodup
  fit : L.names.length ≤ L.signs.length
  most : L.signs.length ≤ most
  wl : L.ways.length = L.names.length
  tl : L.truth.length = L.names.length
  tnd : L.truth.Nodup
  tlt : ∀ b ∈ L.truth, b < L.signs.length
  worn : ∀ (b : Nat) (x : Str), L.signs[b]? = some x → x = "" ∨ ∃ (k : Nat) (n : Str), L.truth[k]? = some b ∧ L.names[k]? = some n ∧ Worn x n
  gs : ∀ g, Man.guess g ∈ L.ways → g.length = L.names.length ∧ ∀ b, some b ∈ g → b < L.signs.length
theorem pool_nd : pool.Nodup := by decide +kernel
theorem pool_size : ∀ x ∈ pool, x.cps.size ≤ 8 := by decide +kernel
theorem ixN_nat {n j : Nat} (h : j < n) : ixN n (j : Int) = some j := by
  unfold ixN
  rw [if_pos (by omega), if_pos (by omega), Int.toNat_natCast]
theorem sum_ones : ∀ cs : List Nat, (List.map (fun (x : Str) => x.length) (cs.map fun c => (⟨#[c]⟩ : Str))).sum = cs.length
  | [] => rfl
  | c :: r => by
    rw [List.map_cons, List.map_cons, List.sum_cons, sum_ones r]
    show 1 + r.length = r.length + 1
    omega
theorem perm_erase {α : Type} : ∀ {l : List α} {j : Nat} (h : j < l.length), ([l[j]] ++ l.eraseIdx j).Perm l
  | [], _, h => absurd h (Nat.not_lt_zero _)
  | x :: r, 0, _ => List.Perm.refl _
  | x :: r, j + 1, h => by
    have hj : j < r.length := Nat.lt_of_succ_lt_succ h
    have ih := perm_erase (l := r) (j := j) hj
    show (r[j] :: x :: r.eraseIdx j).Perm (x :: r)
    exact (List.Perm.swap x r[j] _).trans (List.Perm.cons x ih)
end
section
def mdOf : Man → MD
  | .back => .txt (Str.ofString "back")
  | .keep => .txt (Str.ofString "keep")
  | .guess g => .tup (g.map optV)
def kdOf (L : Plan) : List (Str × MD) := L.names.zip (L.ways.map mdOf)
theorem kd_keys {L : Plan} {m : Nat} (h : L.Ok m) : (kdOf L).map (·.1) = L.names := by
  unfold kdOf
  rw [List.map_fst_zip]
  rw [List.length_map, h.wl]
  exact Nat.le_refl _
theorem kd_len {L : Plan} {m : Nat} (h : L.Ok m) : (kdOf L).length = L.names.length := by
  have := congrArg List.length (kd_keys h)
  rw [List.length_map] at this
  exact this
theorem kd_nd {L : Plan} {m : Nat} (h : L.Ok m) : ((kdOf L).map (·.1)).Nodup := by
  rw [kd_keys h]
  exact h.nd
theorem kd_mem {L : Plan} {q : Str × MD} (h : q ∈ kdOf L) : ∃ m ∈ L.ways, q.2 = mdOf m := by
  have := (List.of_mem_zip h).2
  obtain ⟨m, hm, e⟩ := List.mem_map.mp this
  exact ⟨m, hm, e.symm⟩
theorem optV_itm (o : Option Nat) : Itm (optV o) := by
  cases o with
  | none => exact .inl rfl
  | some b => exact .inr (.inl ⟨_, rfl⟩)
theorem kd_fine {L : Plan} {m : Nat} (h : L.Ok m) : ∀ q ∈ kdOf L, q.2.fine := fun q hq => by
  obtain ⟨mn, hm, e⟩ := kd_mem hq
  rw [e]
  cases mn with
  | back => trivial
  | keep => trivial
  | guess g =>
    obtain ⟨hl, _⟩ := h.gs g hm
    have := h.four
    refine ⟨by rw [List.length_map]; omega, fun x hx => ?_⟩
    obtain ⟨o, _, rfl⟩ := List.mem_map.mp hx
    exact optV_itm o
theorem kd_man {L : Plan} {m : Nat} (h : L.Ok m) : ∀ q ∈ kdOf L, mannerB L.names.length L.signs.length q.2 = true := fun q hq => by
  obtain ⟨mn, hm, e⟩ := kd_mem hq
  rw [e]
  cases mn with
  | back => rfl
  | keep => rfl
  | guess g =>
    obtain ⟨hl, hb⟩ := h.gs g hm
    show (decide ((g.map optV).length = L.names.length) && (g.map optV).all (itemB L.signs.length)) = true
    rw [decide_eq_true (by rw [List.length_map]; exact hl), Bool.true_and, List.all_eq_true]
    intro x hx
    obtain ⟨o, ho, rfl⟩ := List.mem_map.mp hx
    cases o with
    | none => rfl
    | some b =>
      have := hb b ho
      show (decide (V.int (b : Int) = .non) || (decide (0 ≤ (b : Int)) && decide ((b : Int) < (L.signs.length : Int)))) = true
      rw [decide_eq_true (by omega : 0 ≤ (b : Int)), decide_eq_true (by omega : (b : Int) < (L.signs.length : Int))]
      simp
theorem kd_look {L : Plan} {m : Nat} (h : L.Ok m) {n : Str} (hn : n ∈ L.names) : ∃ d, (kdOf L).lookup n = some d ∧ (n, d) ∈ kdOf L := by
  obtain ⟨j, hj, rfl⟩ := List.getElem_of_mem hn
  have hj' : j < (kdOf L).length := by rw [kd_len h]; exact hj
  have e : (kdOf L)[j].1 = L.names[j] := by
    have q : ((kdOf L).map (·.1))[j]? = L.names[j]? := by rw [kd_keys h]
    rw [List.getElem?_map, List.getElem?_eq_getElem hj', List.getElem?_eq_getElem hj] at q
    exact Option.some.inj q
  refine ⟨(kdOf L)[j].2, ?_, ?_⟩
  · rw [← e]
    exact lookup_nd hj' (kd_nd h)
  · rw [← e]
    exact List.getElem_mem hj'
theorem man_ok {L : Plan} {m : Nat} (h : L.Ok m) : mannersB (kdOf L) L.names L.signs.length = true := by
  unfold mannersB
  rw [decide_eq_true (kd_len h), Bool.true_and, Bool.and_eq_true]
  constructor
  · rw [List.all_eq_true]
    intro n hn
    obtain ⟨d, e, _⟩ := kd_look h hn
    rw [e]
    rfl
  · rw [List.all_eq_true]
    intro n hn
    obtain ⟨d, e, hd⟩ := kd_look h hn
    rw [e]
    exact kd_man h _ hd
theorem pool_ok : ∀ x ∈ pool, okSigns lettersS x = true := by decide +kernel
theorem pool_pat : ∀ x ∈ pool, 1 ≤ x.cps.size ∧ x.cps.size ≤ 8 ∧ ∀ c ∈ x.cps.toList, c ∈ patternS.cps.toList := by decide +kernel
theorem asc_ok {l : List Str} (h : Asc l) : ascB l = true := by
  unfold ascB
  rw [List.all_eq_true]
  intro i hi
  have hi := List.mem_range.mp hi
  have h1 : l[i]? = some (l.getD i ⟨#[]⟩) := by
    rw [List.getD_eq_getElem?_getD, List.getElem?_eq_getElem (by omega : i < l.length)]
    rfl
  have h2 : l[i + 1]? = some (l.getD (i + 1) ⟨#[]⟩) := by
    rw [List.getD_eq_getElem?_getD, List.getElem?_eq_getElem (by omega : i + 1 < l.length)]
    rfl
  exact decide_eq_true (h i _ _ h1 h2)
theorem names_ok {L : Plan} {m : Nat} (h : L.Ok m) : namesB L.names = true := by
  have h1 := h.pos
  have h4 := h.four
  unfold namesB
  rw [decide_eq_true (by omega : 1 ≤ L.names.length), decide_eq_true (by omega : L.names.length ≤ 6), asc_ok h.asc, Bool.true_and, Bool.true_and, Bool.and_true, List.all_eq_true]
  exact fun x hx => pool_ok x (h.sub x hx)
theorem worn_ok {x n : Str} (hn : n ∈ pool) (h : Worn x n) : okSigns patternS x = true := by
  obtain ⟨e, hc⟩ := h
  obtain ⟨h1, h8, hp⟩ := pool_pat n hn
  unfold okSigns
  have l1 : 1 ≤ x.length := by show 1 ≤ x.cps.size; omega
  have l8 : x.length ≤ 8 := by show x.cps.size ≤ 8; omega
  rw [decide_eq_true l1, decide_eq_true l8, Bool.true_and, Bool.true_and, List.all_eq_true]
  intro c hm
  obtain ⟨i, hi, rfl⟩ := List.getElem_of_mem hm
  have hx : x.cps[i]? = some x.cps.toList[i] := by
    rw [← Array.getElem?_toList, List.getElem?_eq_getElem hi]
  rcases hc i _ hx with q | q
  · rw [q]
    decide +kernel
  · refine decide_eq_true (hp _ ?_)
    rw [← Array.getElem?_toList] at q
    exact List.mem_of_getElem? q
theorem plates_ok {L : Plan} {m : Nat} (h : L.Ok m) (hm : m ≤ 6) : platesB L.signs L.names.length = true := by
  have h1 := h.fit
  have h2 := h.most
  unfold platesB
  rw [decide_eq_true h1, decide_eq_true (by omega : L.signs.length ≤ 6), Bool.true_and, Bool.true_and, List.all_eq_true]
  intro x hx
  obtain ⟨b, hb, rfl⟩ := List.getElem_of_mem hx
  rcases h.worn b _ (List.getElem?_eq_getElem hb) with e | ⟨k, n, _, hn, hw⟩
  · rw [e]
    decide +kernel
  · have := worn_ok (h.sub n (List.mem_of_getElem? hn)) hw
    unfold plateB
    rw [this, Bool.or_true]
theorem plan_part {L : Plan} {m : Nat} (h : L.Ok m) (hm : m ≤ 6) : housePart L.names L.signs (kdOf L) = none := by
  unfold housePart
  rw [if_pos (names_ok h), if_pos (plates_ok h hm), if_pos (man_ok h)]
theorem small_names {L : Plan} {m : Nat} (h : L.Ok m) : ∀ z ∈ L.names, z.length ≤ 1000 := fun z hz => by
  have := pool_size z (h.sub z hz)
  show z.cps.size ≤ 1000
  omega
theorem small_signs {L : Plan} {m : Nat} (h : L.Ok m) : ∀ z ∈ L.signs, z.length ≤ 1000 := fun z hz => by
  obtain ⟨b, hb, rfl⟩ := List.getElem_of_mem hz
  rcases h.worn b _ (List.getElem?_eq_getElem hb) with e | ⟨k, n, _, hn, hw⟩
  · rw [e]
    decide +kernel
  · have := pool_size n (h.sub n (List.mem_of_getElem? hn))
    have e := hw.1
    show L.signs[b].cps.size ≤ 1000
    omega
end

/-! ## evaluation of mirrors -/
section
theorem run_map {α β : Type} (f : α → β) (x : M α) (Q : β → Prop) (E : Ex → Prop) : (f <$> x).run Q E = x.run (fun a => Q (f a)) E := rfl
theorem map_pureM {α β : Type} (f : α → β) (a : α) : f <$> (pure a : M α) = pure (f a) := rfl
theorem asB_bl (b : Bool) : asB (.val (.bl b)) = pure b := rfl
theorem int_ii (f : Int → Int → PV) (i j : Int) : intP f (.int i) (.int j) = pure (.val (f i j)) := rfl
theorem xor_false' (b : Bool) : (false ^^ b) = b := by cases b <;> rfl
theorem xor_true' (b : Bool) : (true ^^ b) = !b := by cases b <;> rfl
theorem min0 {p q : PV} (h : dpt p = 0) : min (dpt p) (dpt q) ≤ 60 := by rw [h, Nat.zero_min]; exact Nat.zero_le _
theorem min0' {p q : PV} (h : dpt q = 0) : min (dpt p) (dpt q) ≤ 60 := by rw [h, Nat.min_zero]; exact Nat.zero_le _
theorem eqP_of {neg b : Bool} {p q : PV} (h1 : isD p = true) (h2 : isD q = true) (h3 : min (dpt p) (dpt q) ≤ 60) (e : eqB p q = b) : eqP neg p q = pure (.val (.bl (neg ^^ b))) := by
  unfold eqP
  rw [ask_true ⟨h1, h2, h3⟩, e]
  rfl
theorem eq_ii (neg : Bool) (i j : Int) : eqP neg (.int i) (.int j) = pure (.val (.bl (neg ^^ decide (i = j)))) := eqP_of rfl rfl (min0 rfl) rfl
theorem eq_ss (neg : Bool) (i j : Str) : eqP neg (.str i) (.str j) = pure (.val (.bl (neg ^^ decide (i = j)))) := eqP_of rfl rfl (min0 rfl) rfl
theorem eq_ni (neg : Bool) (j : Int) : eqP neg .non (.int j) = pure (.val (.bl (neg ^^ false))) := eqP_of rfl rfl (min0 rfl) rfl
theorem eq_ns (neg : Bool) (j : Str) : eqP neg .non (.str j) = pure (.val (.bl (neg ^^ false))) := eqP_of rfl rfl (min0 rfl) rfl
theorem eq_nn (neg : Bool) : eqP neg .non .non = pure (.val (.bl (neg ^^ true))) := eqP_of rfl rfl (min0 rfl) rfl
theorem eq_in (neg : Bool) (j : Int) : eqP neg (.int j) .non = pure (.val (.bl (neg ^^ false))) := eqP_of rfl rfl (min0 rfl) rfl
theorem eq_ts (neg : Bool) {xs : List PV} (j : Str) (h : isDs xs = true) : eqP neg (.tup xs) (.str j) = pure (.val (.bl (neg ^^ false))) := eqP_of h rfl (min0' rfl) rfl
mutual
theorem eqB_refl : ∀ p : PV, isD p = true → eqB p p = true
  | .non, _ => rfl
  | .bl b, _ => by show (b == b) = true; exact beq_self_eq_true b
  | .int i, _ => by show (i == i) = true; exact beq_self_eq_true i
  | .str x, _ => by show (x == x) = true; exact beq_self_eq_true x
  | .tup xs, h => eqBs_refl xs h
  | .lst xs, h => eqBs_refl xs h
  | .orc, h => nomatch h
  | .dct _ _, h => nomatch h
  | .tupw _, h => nomatch h
  | .hs _ _ _, h => nomatch h
theorem eqBs_refl : ∀ xs : List PV, isDs xs = true → PyData.eqvAll (toDs xs) (toDs xs) = true
  | [], _ => rfl
  | x :: xs, h => by
    have h : (isD x && isDs xs) = true := h
    rw [Bool.and_eq_true] at h
    show (eqB x x && PyData.eqvAll (toDs xs) (toDs xs)) = true
    rw [eqB_refl x h.1, eqBs_refl xs h.2]
    rfl
end
theorem eq_self (neg : Bool) {p : PV} (h : isD p = true) (hd : dpt p ≤ 60) : eqP neg p p = pure (.val (.bl (neg ^^ true))) := eqP_of h h (by omega) (eqB_refl p h)
abbrev nI (n : Nat) : PV := .int (n : Int)
def oP : Option Nat → PV
  | none => .non
  | some b => nI b
def mP : Man → PV
  | .back => .str "back"
  | .keep => .str "keep"
  | .guess g => .tup (g.map oP)
def planP (L : Plan) : PV := .tup [.tup (L.names.map .str), .tup (L.signs.map .str), .dct (L.names.map .inr) (L.ways.map mP), .tup (L.truth.map nI)]
def houP (L : Plan) : PV := .hs L.names L.signs (kdOf L)
theorem isDs_nI (l : List Nat) : isDs (l.map nI) = true := by
  induction l with
  | nil => rfl
  | cons x r ih => exact ih
theorem isDs_str (l : List Str) : isDs (l.map PV.str) = true := by
  induction l with
  | nil => rfl
  | cons x r ih => exact ih
theorem isDs_oP (l : List (Option Nat)) : isDs (l.map oP) = true := by
  induction l with
  | nil => rfl
  | cons x r ih =>
    show (isD (oP x) && isDs (r.map oP)) = true
    rw [ih]
    cases x <;> rfl
theorem dpts_nI (l : List Nat) : dpts (l.map nI) = 0 := by
  induction l with
  | nil => rfl
  | cons x r ih =>
    show max 0 (dpts (r.map nI)) = 0
    rw [ih]
    rfl
theorem flat_nI (l : List Nat) : (l.map nI).all PV.flat = true := by
  rw [List.all_map, List.all_eq_true]
  exact fun _ _ => rfl
theorem flat_str (l : List Str) : (l.map PV.str).all PV.flat = true := by
  rw [List.all_map, List.all_eq_true]
  exact fun _ _ => rfl
theorem any_nI (l : List Nat) (b : Nat) : ((l.map nI).any fun x => eqF x (nI b)) = decide (b ∈ l) := by
  induction l with
  | nil => rfl
  | cons x r ih =>
    rw [List.map_cons, List.any_cons, ih]
    show (((x : Int) == (b : Int)) || decide (b ∈ r)) = decide (b ∈ x :: r)
    by_cases e : b = x
    · subst e
      simp
    · have e2 : ¬ (x : Int) = (b : Int) := by omega
      simp [e, e2]
theorem any_str (l : List Str) (b : Str) : ((l.map PV.str).any fun x => eqF x (.str b)) = decide (b ∈ l) := by
  induction l with
  | nil => rfl
  | cons x r ih =>
    rw [List.map_cons, List.any_cons, ih]
    show ((x == b) || decide (b ∈ r)) = decide (b ∈ x :: r)
    by_cases e : b = x
    · subst e
      simp
    · have e2 : ¬ x = b := fun z => e z.symm
      simp [e, e2]
/-- the first place -/
def ixN' {α : Type} [DecidableEq α] (b : α) : List α → Option Nat
  | [] => none
  | x :: r => if x = b then some 0 else (ixN' b r).map (· + 1)
theorem ixN'_some {α : Type} [DecidableEq α] {b : α} : ∀ {l : List α} {k : Nat}, ixN' b l = some k → l[k]? = some b
  | [], _, h => nomatch h
  | x :: r, k, h => by
    unfold ixN' at h
    by_cases e : x = b
    · rw [if_pos e] at h
      cases h
      rw [e]
      rfl
    · rw [if_neg e] at h
      cases q : ixN' b r with
      | none => rw [q] at h; cases h
      | some j =>
        rw [q] at h
        cases h
        show (x :: r)[j + 1]? = some b
        rw [List.getElem?_cons_succ]
        exact ixN'_some q
theorem ixN'_none {α : Type} [DecidableEq α] {b : α} : ∀ {l : List α}, ixN' b l = none → b ∉ l
  | [], _ => List.not_mem_nil
  | x :: r, h => by
    unfold ixN' at h
    by_cases e : x = b
    · rw [if_pos e] at h
      cases h
    · rw [if_neg e] at h
      cases q : ixN' b r with
      | some j => rw [q] at h; cases h
      | none =>
        rw [List.mem_cons]
        rintro (z | z)
        · exact e z.symm
        · exact ixN'_none q z
theorem ixN'_nd {α : Type} [DecidableEq α] {l : List α} (nd : l.Nodup) {k : Nat} (h : k < l.length) : ixN' l[k] l = some k := by
  cases q : ixN' l[k] l with
  | none => exact absurd (List.getElem_mem h) (ixN'_none q)
  | some j =>
    have e := ixN'_some q
    have hj := (List.getElem?_eq_some_iff.mp e).1
    rw [List.getElem?_eq_getElem hj] at e
    rw [(List.getElem_inj nd).mp (Option.some.inj e)]
theorem idx_nI (l : List Nat) (b : Nat) : idxF (nI b) (l.map nI) = ixN' b l := by
  induction l with
  | nil => rfl
  | cons x r ih =>
    show (if ((x : Int) == (b : Int)) = true then some 0 else (idxF (nI b) (r.map nI)).map (· + 1)) = if x = b then some 0 else (ixN' b r).map (· + 1)
    rw [ih]
    by_cases e : x = b
    · rw [if_pos e, if_pos (by rw [e]; exact beq_self_eq_true _)]
    · rw [if_neg e, if_neg (by rw [beq_iff_eq]; omega)]
theorem idx_str (l : List Str) (b : Str) : idxF (.str b) (l.map PV.str) = ixN' b l := by
  induction l with
  | nil => rfl
  | cons x r ih =>
    show (if (x == b) = true then some 0 else (idxF (.str b) (r.map PV.str)).map (· + 1)) = if x = b then some 0 else (ixN' b r).map (· + 1)
    rw [ih]
    by_cases e : x = b
    · rw [if_pos e, if_pos (by rw [e]; exact beq_self_eq_true _)]
    · rw [if_neg e, if_neg (by rw [beq_iff_eq]; exact e)]
theorem index_nI {l : List Nat} {b k : Nat} (h : ixN' b l = some k) : indexP (.tup (l.map nI)) (nI b) = pure (.val (nI k)) := by
  unfold indexP
  dsimp only
  rw [ask_true ⟨rfl, flat_nI l⟩, idx_nI, h]
  rfl
theorem index_str {l : List Str} {b : Str} {k : Nat} (h : ixN' b l = some k) : indexP (.tup (l.map PV.str)) (.str b) = pure (.val (nI k)) := by
  unfold indexP
  dsimp only
  rw [ask_true ⟨rfl, flat_str l⟩, idx_str, h]
  rfl
theorem in_nI (neg : Bool) (l : List Nat) (b : Nat) : inP neg (nI b) (.tup (l.map nI)) = pure (.val (.bl (neg ^^ decide (b ∈ l)))) := by
  unfold inP
  dsimp only
  rw [ask_true ⟨rfl, flat_nI l⟩, any_nI]
  rfl
theorem inL_nI (neg : Bool) (l : List Nat) (b : Nat) : inP neg (nI b) (.lst (l.map nI)) = pure (.val (.bl (neg ^^ decide (b ∈ l)))) := by
  unfold inP
  dsimp only
  rw [ask_true ⟨rfl, flat_nI l⟩, any_nI]
  rfl
theorem in_str (neg : Bool) (l : List Str) (b : Str) : inP neg (.str b) (.tup (l.map PV.str)) = pure (.val (.bl (neg ^^ decide (b ∈ l)))) := by
  unfold inP
  dsimp only
  rw [ask_true ⟨rfl, flat_str l⟩, any_str]
  rfl
theorem ixT_of {xs : List PV} {i : Nat} {p : PV} (h : xs[i]? = some p) : ixP (.tup xs) (nI i) = pure (.val p) := by
  unfold ixP
  dsimp only
  rw [atI_nat h]
theorem ixL_of {xs : List PV} {i : Nat} {p : PV} (h : xs[i]? = some p) : ixP (.lst xs) (nI i) = pure (.val p) := by
  unfold ixP
  dsimp only
  rw [atI_nat h]
theorem atI_last {α : Type} (xs : List α) (x : α) : atI (xs ++ [x]) (-1) = some x := by
  unfold atI ixN
  have hl : (xs ++ [x]).length = xs.length + 1 := by rw [List.length_append]; rfl
  rw [if_neg (by omega), if_pos (by omega), Option.bind_some, hl, show ((-1 : Int) + ((xs.length + 1 : Nat) : Int)).toNat = xs.length by omega, List.getElem?_concat_length]
theorem look_nd : ∀ {ns : List Str} {xs : List PV} {k : Nat} {n : Str} {p : PV}, ixN' n ns = some k → xs[k]? = some p → look (ns.map .inr) xs (.inr n) = some p
  | [], _, _, _, _, h, _ => nomatch h
  | x :: ns, [], k, n, p, _, h => by cases k <;> cases h
  | x :: ns, y :: xs, k, n, p, h, hx => by
    unfold ixN' at h
    show (if (Sum.inr x : Key) = .inr n then some y else look (ns.map .inr) xs (.inr n)) = some p
    by_cases e : x = n
    · rw [if_pos e] at h
      cases h
      rw [if_pos (by rw [e])]
      exact hx
    · rw [if_neg e] at h
      rw [if_neg (fun z => e (Sum.inr.inj z))]
      cases q : ixN' n ns with
      | none => rw [q] at h; cases h
      | some j =>
        rw [q] at h
        cases h
        exact look_nd q (by simpa using hx)
theorem ixD_of {ns : List Str} {xs : List PV} {k : Nat} {n : Str} {p : PV} (h : ixN' n ns = some k) (hx : xs[k]? = some p) : ixP (.dct (ns.map .inr) xs) (.str n) = pure (.val p) := by
  unfold ixP keyP
  dsimp only
  rw [look_nd h hx]
theorem pvM_md (m : Man) : pvM (mdOf m) = mP m := by
  cases m with
  | back => rfl
  | keep => rfl
  | guess g =>
    show PV.tup ((g.map optV).map pvV) = .tup (g.map oP)
    rw [List.map_map]
    congr 1
    refine List.map_congr_left fun o _ => ?_
    cases o <;> rfl
theorem kd_pv {L : Plan} {m : Nat} (h : L.Ok m) : (kdOf L).map (fun q => pvM q.2) = L.ways.map mP := by
  have e : (kdOf L).map (fun q => pvM q.2) = ((kdOf L).map (·.2)).map pvM := by rw [List.map_map]; rfl
  rw [e]
  unfold kdOf
  rw [List.map_snd_zip (by rw [List.length_map, h.wl]; exact Nat.le_refl _), List.map_map]
  exact List.map_congr_left fun m _ => pvM_md m
theorem mdP_m (m : Man) : mdP (mP m) = some (mdOf m) := by
  cases m with
  | back => rfl
  | keep => rfl
  | guess g =>
    show (if (g.map oP).all itmP = true then some (MD.tup ((g.map oP).map vP)) else none) = some (.tup (g.map optV))
    rw [if_pos (by rw [List.all_map, List.all_eq_true]; intro o _; cases o <;> rfl), List.map_map]
    congr 2
    refine List.map_congr_left fun o _ => ?_
    cases o <;> rfl
theorem kdP_of : ∀ {ns : List Str} {ws : List Man}, ws.length = ns.length → kdP (ns.map .inr) (ws.map mP) = some (ns.zip (ws.map mdOf))
  | [], [], _ => rfl
  | [], _ :: _, h => nomatch h
  | _ :: _, [], h => nomatch h
  | n :: ns, m :: ws, h => by
    show ((mdP (mP m)).bind fun d => (kdP (ns.map .inr) (ws.map mP)).map fun r => (n, d) :: r) = _
    rw [mdP_m, kdP_of (Nat.succ.inj h)]
    rfl
theorem strsP_map : ∀ ns : List Str, strsP (ns.map .str) = some ns
  | [] => rfl
  | n :: ns => by
    show (strsP (ns.map .str)).map (n :: ·) = _
    rw [strsP_map ns]
    rfl
theorem intsP_map : ∀ ns : List Nat, intsP (ns.map nI) = some (ns.map fun (n : Nat) => (n : Int))
  | [] => rfl
  | n :: ns => by
    show (intsP (ns.map nI)).map ((n : Int) :: ·) = _
    rw [intsP_map ns]
    rfl
theorem dis_nd : ∀ {ns : List Nat}, ns.Nodup → dis (ns.map fun (n : Nat) => (n : Int)) = ns.length
  | [], _ => rfl
  | n :: ns, h => by
    rw [List.nodup_cons] at h
    show (if (ns.map fun (n : Nat) => (n : Int)).contains (n : Int) = true then dis _ else dis _ + 1) = _
    rw [if_neg, dis_nd h.2]
    · rfl
    · rw [List.contains_iff_mem]
      intro z
      obtain ⟨k, hk, e⟩ := List.mem_map.mp z
      have e : k = n := by omega
      exact h.1 (e ▸ hk)
theorem hs_ok {L : Plan} (h : L.Ok 6) : HsOk L.names L.signs (kdOf L) := ⟨plan_part h (Nat.le_refl 6), kd_fine h, kd_keys h, h.nd, small_names h, small_signs h⟩
theorem house_of {L : Plan} (h : L.Ok 6) : houseP [.tup (L.names.map .str), .tup (L.signs.map .str), .dct (L.names.map .inr) (L.ways.map mP)] = pure (.val (houP L)) := by
  unfold houseP
  dsimp only
  rw [strsP_map, strsP_map, kdP_of h.wl]
  have h1 := h.four
  have h2 := h.most
  show (do M.ask _; pure _) = _
  rw [ask_true ⟨hs_ok h, by omega, by omega⟩]
  rfl
/-- a comprehension whose parts draw nothing -/
theorem lc_nm {i : Nat} {vs : List Nat} {tt : En → M Bool} {el : ME} {e : En} (T : PV → Bool) (f : PV → PV) : ∀ {xs acc : List PV}, (∀ x ∈ xs, tt ((wipeE e vs).set i (.val x)) = pure (T x) ∧ (T x = true → mFz el ((wipeE e vs).set i (.val x)) = pure (.val (f x)))) → lcL vs (.nm i) tt el e xs acc = pure (acc ++ (xs.filter T).map f)
  | [], acc, _ => by
    show pure acc = pure (acc ++ [])
    rw [List.append_nil]
  | x :: r, acc, h => by
    obtain ⟨h1, h2⟩ := h x List.mem_cons_self
    have ih := fun acc' => lc_nm (acc := acc') T f fun y hy => h y (List.mem_cons_of_mem _ hy)
    show (do
      let e1 ← (pure ((wipeE e vs).set i (.val x)) : M En)
      let b ← tt e1
      if b then do
        let y ← mFz el e1
        lcL vs (.nm i) tt el e r (acc ++ [y.pv])
      else lcL vs (.nm i) tt el e r acc) = _
    rw [pure_bind, h1, pure_bind]
    cases hb : T x with
    | true =>
      rw [if_pos rfl, h2 hb, pure_bind, ih, List.filter_cons_of_pos hb, List.map_cons, List.append_assoc]
      rfl
    | false =>
      rw [if_neg (by decide), ih, List.filter_cons_of_neg (by rw [hb]; decide)]
theorem mLc_of {mi : En → M (List PV)} {i : Nat} {vs : List Nat} {tt : En → M Bool} {el : ME} {e : En} {xs : List PV} (T : PV → Bool) (f : PV → PV) (hi : mi e = pure xs) (hl : xs.length ≤ 100000) (h : ∀ x ∈ xs, tt ((wipeE e vs).set i (.val x)) = pure (T x) ∧ (T x = true → mFz el ((wipeE e vs).set i (.val x)) = pure (.val (f x)))) :
    mLc mi vs (.nm i) tt el e = pure (.own (.lst ((xs.filter T).map f))) := by
  unfold mLc
  rw [hi, pure_bind, ask_true hl, pure_bind, lc_nm T f h]
  rfl
/-- one that draws -/
theorem mLc_run {mi : En → M (List PV)} {i : Nat} {vs : List Nat} {el : ME} {e : En} {xs : List PV} {Q : Rs → Prop} {F : Ex → Prop} (R : PV → PV → Prop) (hi : mi e = pure xs) (hl : xs.length ≤ 100000) (h : ∀ x ∈ xs, (mFz el ((wipeE e vs).set i (.val x))).run (fun y => R x y.pv) F) (k : ∀ ys, Paired R xs ys → Q (.own (.lst ys))) :
    (mLc mi vs (.nm i) mYes el e).run Q F := by
  have g : ∀ (xs acc : List PV) (Q : List PV → Prop), (∀ x ∈ xs, (mFz el ((wipeE e vs).set i (.val x))).run (fun y => R x y.pv) F) → (∀ ys, Paired R xs ys → Q (acc ++ ys)) → (lcL vs (.nm i) mYes el e xs acc).run Q F := by
    intro xs
    induction xs with
    | nil =>
      intro acc Q _ k
      have := k [] .nil
      rw [List.append_nil] at this
      exact this
    | cons x r ih =>
      intro acc Q h k
      refine (mFz el ((wipeE e vs).set i (.val x))).mono (fun y hy => ?_) (fun _ z => z) (h x List.mem_cons_self)
      refine ih _ _ (fun z hz => h z (List.mem_cons_of_mem _ hz)) fun ys p => ?_
      have := k (y.pv :: ys) (.cons hy p)
      rw [List.append_assoc]
      exact this
  unfold mLc
  rw [hi, pure_bind, ask_true hl, pure_bind]
  exact g xs [] _ h fun ys p => k ys p
end

/-! ## evaluation of mirrors: what all laws need -/
section
theorem isN_non : isNP false .non .non = pure (.val (.bl true)) := rfl
theorem isN_int (i : Int) : isNP false (.int i) .non = pure (.val (.bl false)) := rfl
theorem isN_str (i : Str) : isNP false (.str i) .non = pure (.val (.bl false)) := rfl
theorem neg_int (i : Int) : negP (.int i) = pure (.val (.int (-i))) := rfl
theorem tup_lst (xs : List PV) : tupleP (.lst xs) = pure (.val (.tup xs)) := rfl
theorem s_bk : decide (Str.ofString "back" = Str.ofString "keep") = false := by decide +kernel
theorem s_bb : decide (Str.ofString "back" = Str.ofString "back") = true := by decide +kernel
theorem s_kk : decide (Str.ofString "keep" = Str.ofString "keep") = true := by decide +kernel
theorem one_1 {α : Type} (f : PV → M α) (x : PV) : one f [x] = f x := rfl
theorem two_2 {α : Type} (f : PV → PV → M α) (x y : PV) : two f [x, y] = f x y := rfl
theorem whileN_more {c : En → M Bool} {body : MS} : ∀ (n : Nat) (e : En) (Q : Fl → Prop) (F : Ex → Prop), (whileN c body n e).run Q F → (whileN c body (n + 1) e).run Q F
  | 0, _, _, _, h => False.elim h
  | n + 1, e, Q, F, h => by
    have ih := fun e => whileN_more (c := c) (body := body) n e Q F
    rw [whileN] at h
    rw [whileN]
    refine (c e).mono (fun b hb => ?_) (fun _ z => z) h
    cases b with
    | false => exact hb
    | true =>
      refine (body e).mono (fun fl hf => ?_) (fun _ z => z) hb
      cases fl with
      | nx e2 => exact ih e2 hf
      | ct e2 => exact ih e2 hf
      | bk e2 => exact hf
      | rt v => exact hf
theorem whileN_le {c : En → M Bool} {body : MS} {n m : Nat} {e : En} {Q : Fl → Prop} {F : Ex → Prop} (h : n ≤ m) (q : (whileN c body n e).run Q F) : (whileN c body m e).run Q F := by
  induction h with
  | refl => exact q
  | step _ ih => exact whileN_more _ _ _ _ ih
theorem mWhile_of {c : En → M Bool} {body : MS} {e : En} {x : Fl} (n0 : Nat) (h : ∀ n, n0 ≤ n → whileN c body n e = pure x) : mWhile c body e = pure x := M.ext fun Q F => by
  constructor
  · rintro ⟨m, q⟩
    have q := whileN_le (Nat.le_max_left m n0) q
    rw [h _ (Nat.le_max_right m n0)] at q
    exact q
  · intro q
    exact ⟨n0, by rw [h _ (Nat.le_refl _)]; exact q⟩
theorem quant_all {α : Type} (xs : List α) : quantP (fun bs => bs.all id) (.lst (xs.map fun _ => .bl true)) = pure (.val (.bl true)) := by
  have h : ∀ xs : List α, ∃ bs, blsP (xs.map fun _ => .bl true) = some bs ∧ bs.all id = true := by
    intro xs
    induction xs with
    | nil => exact ⟨[], rfl, rfl⟩
    | cons x r ih =>
      obtain ⟨bs, e, a⟩ := ih
      refine ⟨true :: bs, ?_, ?_⟩
      · show (blsP (r.map fun _ => .bl true)).map (true :: ·) = _
        rw [e]
        rfl
      · rw [List.all_cons, a]
        rfl
  obtain ⟨bs, e, a⟩ := h xs
  unfold quantP
  dsimp only
  rw [e]
  dsimp only
  rw [a]
theorem len_tup {xs : List PV} (h : xs.length ≤ 100000) : lenP0 (.tup xs) = pure (.val (.int (xs.length : Int))) := by
  show (do M.ask _; pure _) = _
  rw [ask_true h]
  rfl
theorem len_lst {xs : List PV} (h : xs.length ≤ 100000) : lenP0 (.lst xs) = pure (.val (.int (xs.length : Int))) := by
  show (do M.ask _; pure _) = _
  rw [ask_true h]
  rfl
theorem lenSet_nd {o : List Nat} (nd : o.Nodup) (h : o.length ≤ 1000) : lenSetP (.tup (o.map nI)) = pure (.val (.int (o.length : Int))) := by
  unfold lenSetP
  dsimp only
  rw [intsP_map]
  dsimp only
  rw [ask_true (by rw [List.length_map]; exact h), dis_nd nd]
  rfl
theorem nd_len : ∀ (n : Nat) (l : List Nat), l.Nodup → (∀ x ∈ l, x < n) → l.length ≤ n
  | 0, [], _, _ => Nat.le_refl _
  | 0, x :: _, _, h => absurd (h x List.mem_cons_self) (Nat.not_lt_zero _)
  | n + 1, l, nd, h => by
    by_cases c : n ∈ l
    · have h1 := nd_len n (l.erase n) (nd.erase n) fun x hx => by
        obtain ⟨h1, h2⟩ := (List.Nodup.mem_erase_iff nd).mp hx
        have := h x h2
        omega
      rw [List.length_erase_of_mem c] at h1
      omega
    · have h1 := nd_len n l nd fun x hx => by
        have := h x hx
        have : x ≠ n := fun z => c (z ▸ hx)
        omega
      omega
theorem range_of (n : Nat) (h : n ≤ 1000000) : rangeP (.int (n : Int)) = pure ((List.range n).map nI) := by
  unfold rangeP
  dsimp only
  rw [ask_true (by omega)]
  rfl
abbrev NoX : Ex → Prop := fun _ => False
theorem run_of {α β : Type} {x : M α} {R : α → Prop} {g : α → M β} {Q : β → Prop} {F : Ex → Prop} (h : x.run R NoX) (k : ∀ a, R a → (g a).run Q F) : (M.safe x >>= g).run Q F := x.mono k (fun _ z => z.elim) h
theorem run_of' {α β : Type} {x : M α} {R : α → Prop} {g : α → M β} {Q : β → Prop} {F : Ex → Prop} (h : x.run R NoX) (k : ∀ a, R a → (g a).run Q F) : (x >>= g).run Q F := x.mono k (fun _ z => z.elim) h
theorem s_taken {m : Int} (h0 : 0 < m) (h1 : m < 1000) : (takenP [.orc, .int m]).run (fun r => ∃ i : Nat, (i : Int) < m ∧ r = .val (nI i)) NoX :=
  ⟨⟨rfl, h0, h1⟩, fun r hr => ⟨r.toNat, by omega, by show Rs.val (.int r) = .val (.int (r.toNat : Int)); rw [Int.toNat_of_nonneg hr.1]⟩⟩
theorem flat_D {xs : List PV} (h : ∀ x ∈ xs, x.flat = true) : isDs xs = true ∧ dpts xs = 0 := by
  induction xs with
  | nil => exact ⟨rfl, rfl⟩
  | cons x r ih =>
    obtain ⟨h1, h2⟩ := ih fun y hy => h y (List.mem_cons_of_mem _ hy)
    have hx := h x List.mem_cons_self
    have : isD x = true ∧ dpt x = 0 := by cases x <;> first | exact ⟨rfl, rfl⟩ | cases hx
    refine ⟨?_, ?_⟩
    · show (isD x && isDs r) = true
      rw [this.1, h1]
      rfl
    · show max (dpt x) (dpts r) = 0
      rw [this.2, h2]
      rfl
theorem ne_nil {xs : List PV} (h : ∀ x ∈ xs, x.flat = true) : eqP true (.lst xs) (.lst []) = pure (.val (.bl (!xs.isEmpty))) := by
  obtain ⟨h1, h2⟩ := flat_D h
  have e : eqB (.lst xs) (.lst []) = xs.isEmpty := by cases xs <;> rfl
  rw [eqP_of (p := .lst xs) (q := .lst []) h1 rfl (by show min (dpts xs + 1) _ ≤ 60; rw [h2]; exact Nat.le_trans (Nat.min_le_left _ _) (by decide)) e, xor_true']
theorem forL_run {t : Tg} {body : MS} {F : Ex → Prop} (I : Nat → En → Prop) : ∀ (xs : List PV) (i : Nat) (e : En) (Q : Fl → Prop), I i e → (∀ (j : Nat) (x : PV) (e : En), xs[j]? = some x → I (i + j) e → (tgSet t x e >>= body).run (fun fl => ∃ e2, fl = .nx e2 ∧ I (i + j + 1) e2) F) → (∀ e2, I (i + xs.length) e2 → Q (.nx e2)) → (forL t body xs e).run Q F
  | [], i, e, Q, h, _, k => k e h
  | x :: xs, i, e, Q, h, hs, k => by
    rw [forL]
    have h0 := hs 0 x e rfl h
    have h0 := (tgSet t x e).mono (Q' := fun e1 => ((body e1) >>= fun fl => (match fl with
      | .nx e2 => forL t body xs e2
      | .ct e2 => forL t body xs e2
      | .bk e2 => pure (.nx e2)
      | .rt v => pure (.rt v))).run Q F) (E' := F) (fun e1 h1 => (body e1).mono (fun fl hf => by
        obtain ⟨e2, rfl, h2⟩ := hf
        refine forL_run I xs (i + 1) e2 Q h2 (fun j y e3 hy h3 => ?_) (fun e3 h3 => k e3 ?_)
        · have e4 : i + (j + 1) = i + 1 + j := by omega
          have := hs (j + 1) y e3 hy (e4 ▸ h3)
          rw [e4] at this
          exact this
        · rw [List.length_cons, show i + (xs.length + 1) = i + 1 + xs.length by omega]
          exact h3) (fun _ z => z) h1) (fun _ z => z) h0
    exact h0
theorem cut_takeP (xs : List PV) (n : Nat) : cutP xs none (some (n : Int)) = xs.take n := by
  unfold cutP
  rw [HT.sIx_none, HT.sIx_nat, List.drop_zero, Nat.sub_zero]
  by_cases h : n ≤ xs.length
  · rw [Nat.min_eq_left h]
  · rw [Nat.min_eq_right (by omega), List.take_of_length_le (Nat.le_refl _), List.take_of_length_le (by omega)]
theorem sl_take (xs : List PV) (n : Nat) : slP none (some (n : Int)) (.lst xs) = pure (.own (.lst (xs.take n))) := by
  show pure (Rs.own (.lst (cutP xs none (some (n : Int))))) = _
  rw [cut_takeP]
theorem lstRg_of {m : ME} {e : En} {n : Nat} (h : m e = pure (.val (nI n))) (hn : n ≤ 100000) : mLstRg m e = pure (.own (.lst ((List.range n).map nI))) := by
  unfold mLstRg
  rw [h, pure_bind]
  show (do M.ask _; pure _) = _
  rw [ask_true (by omega)]
  rfl
theorem hasK_no {ns : List Str} {n : Str} (h : n ∉ ns) : hasK (ns.map .inr) (.inr n) = false := by
  unfold hasK
  rw [List.any_eq_false]
  intro x hx c
  obtain ⟨y, hy, rfl⟩ := List.mem_map.mp hx
  have c := Sum.inr.inj (of_decide_eq_true c)
  exact h (c ▸ hy)
theorem take_get {α : Type} {l : List α} {j : Nat} (h : j < l.length) : l.take (j + 1) = l.take j ++ [l[j]] := by
  rw [List.take_succ, List.getElem?_eq_getElem h]
  rfl
theorem not_taken {α : Type} {l : List α} (nd : l.Nodup) {j : Nat} (h : j < l.length) : l[j] ∉ l.take j := fun z => by
  obtain ⟨q, hq, eq⟩ := List.getElem_of_mem z
  rw [List.length_take] at hq
  rw [List.getElem_take] at eq
  have := (List.getElem_inj nd).mp eq
  omega
theorem back_of {α : Type} {f : α → PV} (g : PV → α) (hg : ∀ a, g (f a) = a) {xs : List PV} {ss : List α} (h : xs.Perm (ss.map f)) : ∃ zs : List α, xs = zs.map f ∧ zs.Perm ss := by
  refine ⟨xs.map g, ?_, ?_⟩
  · rw [List.map_map]
    have : ∀ x ∈ xs, (f ∘ g) x = x := fun x hx => by
      obtain ⟨a, _, rfl⟩ := List.mem_map.mp (h.subset hx)
      show f (g (f a)) = f a
      rw [hg]
    rw [List.map_congr_left this]
    exact (List.map_id'' (fun _ => rfl) xs).symm
  · have := h.map g
    rw [List.map_map] at this
    have e : ss.map (g ∘ f) = ss := (List.map_congr_left (f := g ∘ f) (g := id) fun a _ => hg a).trans (List.map_id ss)
    rw [e] at this
    exact this
theorem back_str {xs : List PV} {ss : List Str} (h : xs.Perm (ss.map .str)) : ∃ zs : List Str, xs = zs.map PV.str ∧ zs.Perm ss := back_of (fun v => match v with | .str z => z | _ => ⟨#[]⟩) (fun _ => rfl) h
theorem back_nI {xs : List PV} {ss : List Nat} (h : xs.Perm (ss.map nI)) : ∃ zs : List Nat, xs = zs.map nI ∧ zs.Perm ss := back_of (fun v => match v with | .int z => z.toNat | _ => 0) (fun n => Int.toNat_natCast n) h
theorem flat_mem_str {ss : List Str} : ∀ x ∈ ss.map PV.str, x.flat = true := fun x hx => by
  obtain ⟨z, _, rfl⟩ := List.mem_map.mp hx
  rfl
theorem flat_mem_nI {ss : List Nat} : ∀ x ∈ ss.map nI, x.flat = true := fun x hx => by
  obtain ⟨z, _, rfl⟩ := List.mem_map.mp hx
  rfl
theorem mul_rep {x : PV} {n : Nat} (h : n ≤ 1000) : mulP (.lst [x]) (nI n) = pure (.own (.lst (List.replicate n x))) := by
  unfold mulP
  dsimp only
  rw [ask_true ⟨by omega, by omega, by rw [List.length_singleton]; decide⟩, pure_bind, Int.toNat_natCast, List.flatten_replicate_singleton]
theorem mFor_eq (mi : En → M (List PV)) (t : Tg) (body : MS) (e : En) : mFor mi t body e = (mi e >>= fun xs => forL t body xs e) := rfl
end

/-! ## evaluation: the newer rules -/
section
theorem dsl0 : (0 : Nat) = 0 := rfl
theorem isNt_non : isNP true .non .non = pure (.val (.bl false)) := rfl
theorem isNt_int (i : Int) : isNP true (.int i) .non = pure (.val (.bl true)) := rfl
theorem isNt_str (i : Str) : isNP true (.str i) .non = pure (.val (.bl true)) := rfl
theorem addS_ii (i j : Int) : addSP (.int i) (.int j) = pure (.val (.int (i + j))) := rfl
theorem addS_sn {a b : Str} (h : a.length + b.length ≤ 100000) : addSP (.str a) (.str b) = pure (.val (.str (a ++ b))) := by
  show (do M.ask _; pure _) = _
  rw [ask_true h]
  rfl
theorem addS_ll {a b : List PV} (h : a.length + b.length ≤ 100000) : addSP (.lst a) (.lst b) = pure (.own (.lst (a ++ b))) := by
  show (do M.ask _; pure _) = _
  rw [ask_true h]
  rfl
theorem range2_of {i j : Int} (h : -1000000 ≤ i ∧ i ≤ 1000000 ∧ -1000000 ≤ j ∧ j ≤ 1000000) : range2P (.int i) (.int j) = pure ((List.range (j - i).toNat).map fun (k : Nat) => .int (i + (k : Int))) := by
  show (do M.ask _; pure _) = _
  rw [ask_true h]
  rfl
theorem join_of {m n : ME} {e : En} {z : Str} {ss : List Str} {r : Rs} (h1 : m e = pure (.val (.str z))) (h2 : n e = pure r) (h3 : r.pv = .lst (ss.map .str)) (h4 : (ss.map (·.length)).sum + ss.length * z.length ≤ 16777216) : mJoin m n e = pure (.val (.str (Txt.join z ss))) := by
  unfold mJoin
  rw [h1, pure_bind]
  show (n e >>= fun b => match b.pv with | .lst xs => (match strsP xs with | some ss => (do M.ask ((ss.map (·.length)).sum + ss.length * z.length ≤ 16777216); pure (Rs.val (.str (Txt.join z ss)))) | none => M.fail) | _ => M.fail) = _
  rw [h2, pure_bind, h3]
  dsimp only
  rw [strsP_of]
  dsimp only
  rw [ask_true h4]
  rfl
theorem split_of {m : ME} {e : En} {b z : Str} {r : Rs} (h1 : m e = pure r) (h2 : r.pv = .str z) (h3 : z.length ≤ 100000) : mSplit m b e = pure (.own (.lst ((Txt.split z b).map .str))) := by
  unfold mSplit
  rw [h1, pure_bind, h2]
  dsimp only
  rw [ask_true h3]
  rfl
theorem lenS_of {z : Str} (h : z.length ≤ 1000) : lenP0 (.str z) = pure (.val (.int (z.length : Int))) := by
  show (do M.ask _; pure _) = _
  rw [ask_true h]
  rfl
theorem inG_of {neg : Bool} {ss : List PV} {m : ME} {e : En} {r : Rs} (h : m e = pure r) (hf : r.pv.flat = true) : mInG neg ss m e = pure (.val (.bl (neg ^^ ss.any fun x => eqF x r.pv))) := by
  unfold mInG
  rw [h, pure_bind, ask_true hf]
  rfl
theorem gtS_ss (f : Str → Str → Bool) (a b : Str) : strP2 f (.str a) (.str b) = pure (.val (.bl (f a b))) := rfl
theorem quant_bls (f : List Bool → Bool) (bs : List Bool) : quantP f (.lst (bs.map .bl)) = pure (.val (.bl (f bs))) := by
  unfold quantP
  dsimp only
  rw [blsP_of]
end

/-! ## loops and comprehensions whose end is known -/
section
theorem forL_pure {t : Tg} {body : MS} (I : Nat → En → Prop) : ∀ (xs : List PV) (i : Nat) (e : En), I i e → (∀ (j : Nat) (x : PV) (e : En), xs[j]? = some x → I (i + j) e → ∃ e', (tgSet t x e >>= body) = pure (.nx e') ∧ I (i + j + 1) e') → ∃ e', forL t body xs e = pure (.nx e') ∧ I (i + xs.length) e'
  | [], i, e, h, _ => ⟨e, rfl, h⟩
  | x :: xs, i, e, h, k => by
    obtain ⟨e1, h1, h2⟩ := k 0 x e rfl h
    obtain ⟨e2, h3, h4⟩ := forL_pure I xs (i + 1) e1 h2 fun j y e' hy he => by
      have := k (j + 1) y e' hy (by rw [show i + (j + 1) = i + 1 + j by omega]; exact he)
      rw [show i + (j + 1) + 1 = i + 1 + j + 1 by omega] at this
      exact this
    refine ⟨e2, ?_, by rw [List.length_cons, show i + (xs.length + 1) = i + 1 + xs.length by omega]; exact h4⟩
    rw [forL, ← bind_assoc, h1, pure_bind]
    exact h3
theorem lc_gen {t : Tg} {vs : List Nat} {tt : En → M Bool} {el : ME} {e : En} (f : PV → PV) : ∀ (xs acc : List PV), (∀ x ∈ xs, ∃ e1, tgSet t x (wipeE e vs) = pure e1 ∧ tt e1 = pure true ∧ mFz el e1 = pure (.val (f x))) → lcL vs t tt el e xs acc = pure (acc ++ xs.map f)
  | [], acc, _ => by
    simp only [List.map_nil, List.append_nil]
    rfl
  | x :: xs, acc, h => by
    obtain ⟨e1, h1, h2, h3⟩ := h x List.mem_cons_self
    rw [lcL, h1, pure_bind, h2, pure_bind, if_pos rfl, h3, pure_bind, lc_gen f xs _ fun y hy => h y (List.mem_cons_of_mem _ hy)]
    rw [List.append_assoc]
    rfl
theorem mLc_gen {mi : En → M (List PV)} {t : Tg} {vs : List Nat} {tt : En → M Bool} {el : ME} {e : En} {xs : List PV} (f : PV → PV) (hi : mi e = pure xs) (hl : xs.length ≤ 100000) (h : ∀ x ∈ xs, ∃ e1, tgSet t x (wipeE e vs) = pure e1 ∧ tt e1 = pure true ∧ mFz el e1 = pure (.val (f x))) : mLc mi vs t tt el e = pure (.own (.lst (xs.map f))) := by
  unfold mLc
  rw [hi, pure_bind, ask_true hl, pure_bind, lc_gen f xs [] h]
  rfl
theorem lc_map {α : Type} {t : Tg} {vs : List Nat} {tt : En → M Bool} {el : ME} {e : En} (g f : α → PV) : ∀ (xs : List α) (acc : List PV), (∀ x ∈ xs, ∃ e1, tgSet t (g x) (wipeE e vs) = pure e1 ∧ tt e1 = pure true ∧ mFz el e1 = pure (.val (f x))) → lcL vs t tt el e (xs.map g) acc = pure (acc ++ xs.map f)
  | [], acc, _ => by
    simp only [List.map_nil, List.append_nil]
    rfl
  | x :: xs, acc, h => by
    obtain ⟨e1, h1, h2, h3⟩ := h x List.mem_cons_self
    rw [List.map_cons, lcL, h1, pure_bind, h2, pure_bind, if_pos rfl, h3, pure_bind, lc_map g f xs _ fun y hy => h y (List.mem_cons_of_mem _ hy)]
    rw [List.append_assoc]
    rfl
theorem mLc_map {α : Type} {mi : En → M (List PV)} {t : Tg} {vs : List Nat} {tt : En → M Bool} {el : ME} {e : En} (g f : α → PV) (xs : List α) (hi : mi e = pure (xs.map g)) (hl : xs.length ≤ 100000) (h : ∀ x ∈ xs, ∃ e1, tgSet t (g x) (wipeE e vs) = pure e1 ∧ tt e1 = pure true ∧ mFz el e1 = pure (.val (f x))) : mLc mi vs t tt el e = pure (.own (.lst (xs.map f))) := by
  unfold mLc
  rw [hi, pure_bind, ask_true (by rw [List.length_map]; exact hl), pure_bind, lc_map g f xs [] h]
  rfl
theorem hasK_not {ks : List Key} {k : Key} (h : k ∉ ks) : hasK ks k = false := by
  unfold hasK
  rw [List.any_eq_false]
  intro x hx
  rw [decide_eq_true_eq]
  exact fun z => h (z ▸ hx)
theorem dc_gen {t : Tg} {vs : List Nat} {tt : En → M Bool} {mk mv : ME} {e : En} (kf : PV → Key) (f : PV → PV) : ∀ (xs : List PV) (ks : List Key) (acc : List PV), (ks ++ xs.map kf).Nodup → ks.length + xs.length ≤ 1000 → (∀ x ∈ xs, ∃ e1, tgSet t x (wipeE e vs) = pure e1 ∧ tt e1 = pure true ∧ (∃ p, mFz mk e1 = pure (.val p) ∧ keyP p = some (kf x)) ∧ mFz mv e1 = pure (.val (f x))) → dcL vs t tt mk mv e xs ks acc = pure (ks ++ xs.map kf, acc ++ xs.map f)
  | [], ks, acc, _, _, _ => by
    simp only [List.map_nil, List.append_nil]
    rfl
  | x :: xs, ks, acc, nd, hl, h => by
    obtain ⟨e1, h1, h2, ⟨p, h3, h4⟩, h5⟩ := h x List.mem_cons_self
    rw [List.length_cons] at hl
    have hn : kf x ∉ ks := fun z => by
      rw [List.map_cons, List.nodup_append] at nd
      exact nd.2.2 _ z _ List.mem_cons_self rfl
    rw [dcL, h1, pure_bind, h2, pure_bind, if_pos rfl, h3, pure_bind]
    show (match keyP p with | some ky => (do M.ask (ks.length ≤ 100000); let v ← mFz mv e1; dcL vs t tt mk mv e xs (dputK ks ky) (dputV ks acc ky v.pv)) | none => M.fail) = _
    rw [h4]
    show (M.ask (ks.length ≤ 100000) >>= fun _ => _) = _
    rw [ask_true (by omega), pure_bind, h5, pure_bind]
    unfold dputK dputV
    rw [hasK_not hn, if_neg (by decide), if_neg (by decide), dc_gen kf f xs (ks ++ [kf x]) _ (by rw [List.append_assoc]; exact nd) (by rw [List.length_append]; show ks.length + 1 + xs.length ≤ 1000; omega) fun y hy => h y (List.mem_cons_of_mem _ hy)]
    rw [List.append_assoc, List.append_assoc]
    rfl
theorem mDc_gen {mi : En → M (List PV)} {t : Tg} {vs : List Nat} {tt : En → M Bool} {mk mv : ME} {e : En} {xs : List PV} (kf : PV → Key) (f : PV → PV) (hi : mi e = pure xs) (nd : (xs.map kf).Nodup) (hl : xs.length ≤ 1000) (h : ∀ x ∈ xs, ∃ e1, tgSet t x (wipeE e vs) = pure e1 ∧ tt e1 = pure true ∧ (∃ p, mFz mk e1 = pure (.val p) ∧ keyP p = some (kf x)) ∧ mFz mv e1 = pure (.val (f x))) : mDc mi vs t tt mk mv e = pure (.own (.dct (xs.map kf) (xs.map f))) := by
  unfold mDc
  rw [hi, pure_bind, ask_true (by omega), pure_bind, dc_gen kf f xs [] [] (by rw [List.nil_append]; exact nd) (by rw [List.length_nil]; omega) h]
  rfl
theorem dc_map {α : Type} {t : Tg} {vs : List Nat} {tt : En → M Bool} {mk mv : ME} {e : En} (g : α → PV) (kf : α → Key) (f : α → PV) : ∀ (xs : List α) (ks : List Key) (acc : List PV), (ks ++ xs.map kf).Nodup → ks.length + xs.length ≤ 1000 → (∀ x ∈ xs, ∃ e1, tgSet t (g x) (wipeE e vs) = pure e1 ∧ tt e1 = pure true ∧ (∃ p, mFz mk e1 = pure (.val p) ∧ keyP p = some (kf x)) ∧ mFz mv e1 = pure (.val (f x))) → dcL vs t tt mk mv e (xs.map g) ks acc = pure (ks ++ xs.map kf, acc ++ xs.map f)
  | [], ks, acc, _, _, _ => by
    simp only [List.map_nil, List.append_nil]
    rfl
  | x :: xs, ks, acc, nd, hl, h => by
    obtain ⟨e1, h1, h2, ⟨p, h3, h4⟩, h5⟩ := h x List.mem_cons_self
    rw [List.length_cons] at hl
    have hn : kf x ∉ ks := fun z => by
      rw [List.map_cons, List.nodup_append] at nd
      exact nd.2.2 _ z _ List.mem_cons_self rfl
    rw [List.map_cons, dcL, h1, pure_bind, h2, pure_bind, if_pos rfl, h3, pure_bind]
    show (match keyP p with | some ky => (do M.ask (ks.length ≤ 100000); let v ← mFz mv e1; dcL vs t tt mk mv e (xs.map g) (dputK ks ky) (dputV ks acc ky v.pv)) | none => M.fail) = _
    rw [h4]
    show (M.ask (ks.length ≤ 100000) >>= fun _ => _) = _
    rw [ask_true (by omega), pure_bind, h5, pure_bind]
    unfold dputK dputV
    rw [hasK_not hn, if_neg (by decide), if_neg (by decide), dc_map g kf f xs (ks ++ [kf x]) _ (by rw [List.append_assoc]; exact nd) (by rw [List.length_append]; show ks.length + 1 + xs.length ≤ 1000; omega) fun y hy => h y (List.mem_cons_of_mem _ hy)]
    rw [List.append_assoc, List.append_assoc]
    rfl
theorem mDc_map {α : Type} {mi : En → M (List PV)} {t : Tg} {vs : List Nat} {tt : En → M Bool} {mk mv : ME} {e : En} (g : α → PV) (kf : α → Key) (f : α → PV) (xs : List α) (hi : mi e = pure (xs.map g)) (nd : (xs.map kf).Nodup) (hl : xs.length ≤ 1000) (h : ∀ x ∈ xs, ∃ e1, tgSet t (g x) (wipeE e vs) = pure e1 ∧ tt e1 = pure true ∧ (∃ p, mFz mk e1 = pure (.val p) ∧ keyP p = some (kf x)) ∧ mFz mv e1 = pure (.val (f x))) : mDc mi vs t tt mk mv e = pure (.own (.dct (xs.map kf) (xs.map f))) := by
  unfold mDc
  rw [hi, pure_bind, ask_true (by rw [List.length_map]; omega), pure_bind, dc_map g kf f xs [] [] (by rw [List.nil_append]; exact nd) (by rw [List.length_nil]; omega) h]
  rfl
theorem items_zip {α : Type} (f : α → PV) : ∀ (ns : List Str) (ws : List α), itemsPV (ns.map .inr) (ws.map f) = (ns.zip ws).map fun q => .tupw [.str q.1, f q.2]
  | [], _ => rfl
  | _ :: _, [] => rfl
  | n :: ns, w :: ws => congrArg (PV.tupw [.str n, f w] :: ·) (items_zip f ns ws)
theorem mem_map_str {ss : List Str} {x : PV} (h : x ∈ ss.map PV.str) : ∃ z ∈ ss, x = .str z := by
  obtain ⟨z, hz, rfl⟩ := List.mem_map.mp h
  exact ⟨z, hz, rfl⟩
theorem get_map_str {ss : List Str} {j : Nat} {x : PV} (h : (ss.map PV.str)[j]? = some x) : ∃ z, ss[j]? = some z ∧ x = .str z := by
  rw [List.getElem?_map] at h
  cases e : ss[j]? with
  | none => rw [e] at h; cases h
  | some z =>
    rw [e] at h
    cases h
    exact ⟨z, rfl, rfl⟩
theorem join2 (z a b : Str) : Txt.join z [a, b] = a ++ z ++ b := by
  have e := SX.join_S z.cps.toList [a.cps.toList, b.cps.toList]
  have e1 : [a.cps.toList, b.cps.toList].map SX.S = [a, b] := by
    rw [List.map_cons, List.map_cons, List.map_nil, SX.S_tl, SX.S_tl]
  rw [e1, SX.S_tl] at e
  rw [e]
  have e2 : TL.joinL z.cps.toList [a.cps.toList, b.cps.toList] = a.cps.toList ++ (z.cps.toList ++ b.cps.toList) := rfl
  rw [e2, ← SX.S_cat, ← SX.S_cat, SX.S_tl, SX.S_tl, SX.S_tl]
  have assoc : ∀ x y w : Str, x ++ y ++ w = x ++ (y ++ w) := fun x y w => by
    show (⟨(x.cps ++ y.cps) ++ w.cps⟩ : Str) = ⟨x.cps ++ (y.cps ++ w.cps)⟩
    rw [Array.append_assoc]
  rw [assoc]
end

/-! ## texts put together and split -/
section
theorem join_TL (z : Str) (l : List Str) : Txt.join z l = SX.S (TL.joinL z.cps.toList (l.map (·.cps.toList))) := by
  have e := SX.join_S z.cps.toList (l.map (·.cps.toList))
  have e1 : (l.map (·.cps.toList)).map SX.S = l := by
    rw [List.map_map]
    exact (List.map_congr_left fun x _ => SX.S_tl x).trans (List.map_id' l)
  rw [e1, SX.S_tl] at e
  exact e
theorem split_join1 {c : Nat} (hc : c < 256) {l : List Str} (hne : l ≠ []) (h : ∀ p ∈ l, c ∉ p.cps.toList) : Txt.split (Txt.join ⟨#[c]⟩ l) ⟨#[c]⟩ = l := by
  rw [join_TL]
  have e := SX.split_S (a := TL.joinL [c] (l.map (·.cps.toList))) (b := [c]) (by simp) (by simp [hc])
  have e2 := SX.spl_join (c := c) (sep := []) (parts := l.map (·.cps.toList)) (by simpa using hne) (fun p hp => by
    obtain ⟨q, hq, rfl⟩ := List.mem_map.mp hp
    exact h q hq)
  rw [e2, List.map_map] at e
  exact e.trans ((List.map_congr_left fun x _ => SX.S_tl x).trans (List.map_id' l))
theorem joinL_len (S : List Nat) : ∀ l : List (List Nat), (TL.joinL S l).length ≤ (l.map (·.length)).sum + l.length * S.length
  | [] => Nat.zero_le _
  | [p] => by
    show p.length ≤ _
    simp
  | p :: q :: r => by
    have ih := joinL_len S (q :: r)
    show (p ++ (S ++ TL.joinL S (q :: r))).length ≤ _
    rw [List.length_append, List.length_append, List.map_cons, List.sum_cons, List.length_cons, Nat.succ_mul]
    omega
theorem join_len (z : Str) (l : List Str) : (Txt.join z l).length ≤ (l.map (·.length)).sum + l.length * z.length := by
  rw [join_TL, SX.S_len]
  have := joinL_len z.cps.toList (l.map (·.cps.toList))
  rw [List.map_map, List.length_map] at this
  have e : ((fun x : List Nat => x.length) ∘ fun x : Str => x.cps.toList) = fun x : Str => x.length := by
    funext x
    exact Array.length_toList
  rw [e] at this
  have e2 : z.cps.toList.length = z.length := Array.length_toList
  rw [e2] at this
  exact this
theorem joinL_mem {c : Nat} {S : List Nat} : ∀ {l : List (List Nat)}, c ∈ TL.joinL S l → c ∈ S ∨ ∃ p ∈ l, c ∈ p
  | [], h => by cases h
  | [p], h => .inr ⟨p, List.mem_singleton.mpr rfl, h⟩
  | p :: q :: r, h => by
    have h : c ∈ p ++ (S ++ TL.joinL S (q :: r)) := h
    rw [List.mem_append, List.mem_append] at h
    rcases h with h | h | h
    · exact .inr ⟨p, List.mem_cons_self, h⟩
    · exact .inl h
    · rcases joinL_mem h with h | ⟨x, hx, h⟩
      · exact .inl h
      · exact .inr ⟨x, List.mem_cons_of_mem _ hx, h⟩
theorem join_mem {c : Nat} {z : Str} {l : List Str} (h : c ∈ (Txt.join z l).cps.toList) : c ∈ z.cps.toList ∨ ∃ p ∈ l, c ∈ p.cps.toList := by
  rw [join_TL] at h
  have h : c ∈ TL.joinL z.cps.toList (l.map (·.cps.toList)) := by simpa using h
  rcases joinL_mem h with h | ⟨p, hp, h⟩
  · exact .inl h
  · obtain ⟨q, hq, rfl⟩ := List.mem_map.mp hp
    exact .inr ⟨q, hq, h⟩
theorem sum_le {B : Nat} : ∀ {l : List Str}, (∀ x ∈ l, x.length ≤ B) → (l.map (·.length)).sum ≤ l.length * B
  | [], _ => Nat.zero_le _
  | x :: l, h => by
    have h1 := h x List.mem_cons_self
    have h2 := sum_le fun y hy => h y (List.mem_cons_of_mem _ hy)
    rw [List.map_cons, List.sum_cons, List.length_cons, Nat.succ_mul]
    omega
theorem blank : Str.ofString " " = ⟨#[32]⟩ := by decide +kernel
theorem feed : Str.ofString "\n" = ⟨#[10]⟩ := by decide +kernel
end

/-! ## != and == of tuples that hold houses -/
section
open PySem PySem.SeqAt PySem.Spec PyProof.Rows PySem.W PySem.Calls
open MeetsSeq MeetsSeq2 MeetsSeq3 SeqRoads2
section
variable {prog : Program} {w : World} {A : Around} {R : Result → Shared → Prop}
theorem tuple_neG (l b : Addr) (items items2 : Array Value) (n n2 : Nat) (dd dd2 : Option Addr) (sl sl2 : Array (Option Value)) (hsz : items.size = items2.size) (I : Nat → Shared → Prop)
    (turn : ∀ i (h1 : i < items.size) (h2 : i < items2.size) s, I i s → wpAny (model prog w) A.in1 (eqBool items[i] items2[i]) (fun r s' => r = true ∧ I (i + 1) s') (fun e s' => R (.error e) s') s)
    (fin : ∀ s, I items.size s → R (.ok (.ret (.bool false))) s) {s : Shared} (hl1 : s.heap.get? l = some { cls := .type "tuple", dict := dd, data := .seq items n, slots := sl }) (hb1 : s.heap.get? b = some { cls := .type "tuple", dict := dd2, data := .seq items2 n2, slots := sl2 }) (h : I 0 s) :
    wpAny (model prog w) A.in1 (Builtin.«tuple.__ne__» ⟨[.ref l, .ref b], []⟩) (GQ.FinOf prog w A R) (fun e s' => R (.error e) s') s := by
  have f2 := AutoSeq1.sub_tuple_tuple
  have hZ : (items.toList.zip items2.toList).length = items.size := by simp [hsz]
  have h0 := h
  obtain ⟨hp, g, d, tk, os⟩ := s
  wp_walk using AutoSeq1.wpAny_loadPart' hl1, AutoSeq1.wpAny_loadPart' hb1, wpAny_forIn_list _ (fun rest b s' => b.1 = none ∧ ∃ i, rest = (items.toList.zip items2.toList).drop i ∧ i ≤ items.size ∧ I i s') _
  case turn =>
    rintro ⟨y, x⟩ rest b s' ⟨hb', i, hz, hi, hI⟩
    have hlt : i < (items.toList.zip items2.toList).length := by
      rcases Nat.lt_or_ge i (items.toList.zip items2.toList).length with h' | h'
      · exact h'
      · rw [List.drop_of_length_le h'] at hz; cases hz
    have h1 : i < items.size := hZ ▸ hlt
    have h2 : i < items2.size := hsz ▸ h1
    rw [List.drop_eq_getElem_cons hlt] at hz
    injection hz with hyx hrest
    have hy : y = items[i] := by have := congrArg Prod.fst hyx; simpa using this
    have hx : x = items2[i] := by have := congrArg Prod.snd hyx; simpa using this
    subst hy hx
    refine wpAny_bind (wpAny_mono (turn i h1 h2 s' hI) (fun r s2 q2 => ?_) fun _ _ x => x)
    obtain ⟨hr, q2⟩ := q2
    subst hr
    wp_walk
    exact ⟨rfl, i + 1, hrest, h1, q2⟩
  case fin =>
    rintro ⟨b1, b2⟩ s' ⟨hb', i, hz, hi, hI⟩
    simp only at hb'
    subst hb'
    have hge : items.size ≤ i := by
      rcases Nat.lt_or_ge i (items.toList.zip items2.toList).length with h' | h'
      · rw [List.drop_eq_getElem_cons h'] at hz; cases hz
      · exact hZ ▸ h'
    have hi' : i = items.size := by omega
    have hR : R (.ok (.ret (.bool false))) s' := fin s' (hi' ▸ hI)
    wp_walk
    simpa [Builtin.Tuple.tupleCompareSizes, hsz] using hR
  case h =>
    exact ⟨rfl, 0, rfl, Nat.zero_le _, h0⟩
end
section
variable {prog : Program} {w : World} {A : Around} {E : Value → Shared → Prop} {s : Shared}
theorem rc_tupNeG {l b : Addr} {items items2 : Array Value} {Q : Value → Shared → Prop} (hsz : items.size = items2.size) (hu : A.units < cLine) (I : Nat → Shared → Prop)
    (hl : s.heap.IsTuple l items) (hb : s.heap.IsTuple b items2)
    (turn : ∀ i (h1 : i < items.size) (h2 : i < items2.size) s, I i s → wpAny (model prog w) A.in1 (eqBool items[i] items2[i]) (fun r s' => r = true ∧ I (i + 1) s') E s)
    (fin : ∀ s, I items.size s → Q (.bool false) s) (h : I 0 s) : wpAny (model prog w) A (richCompare .NotEq (.ref l) (.ref b)) Q E s := by
  obtain ⟨⟨cls, dd, data, sl⟩, ho, hc, n, hd⟩ := id hl
  obtain ⟨⟨cls2, dd2, data2, sl2⟩, ho2, hc2, n2, hd2⟩ := id hb
  simp only at hc hd hc2 hd2
  subst hc hd hc2 hd2
  refine wpAny_richCompare_same_room (op := .NotEq) ⟨_, ho, rfl⟩ ⟨_, ho2, rfl⟩ F.slot_tuple_ne (GQ.call_here F.slot_tuple_ne ⟨_, ho, rfl⟩ F.entry_tuple_ne (F.args_tuple_ne_2 _ _) ?_) hu
  exact tuple_neG (R := wants (fun v s' => v ≠ .notImplemented ∧ Q v s') E) l b items items2 n n2 dd dd2 sl sl2 hsz I turn (fun s' q => ⟨(fun x => nomatch x), fin s' q⟩) ho ho2 h
end
section
variable {X : Cx} {n : Nat} {D : Eqv}
def rNeTG (K : PySem.W.Frag) (D : Eqv) : R2 := fun x y H Q => DTup K D x y H ∧ ∀ H', Ext H H' → Q (.bl false) H'
theorem op_neTG (hD : Mon D) (h : EqG X n D) (hr : Room (n + 1) X.A) : OpR X (compareOp .NotEq) (rNeTG X.K D) := by
  intro pins s σ H x y v u Q I rx ry h'
  obtain ⟨⟨a, b, xs, ys, rfl, rfl, ha, hb, p⟩, q⟩ := h'
  cases rx
  cases ry
  obtain ⟨its, r, e, z⟩ := I.tuple ha
  obtain ⟨its2, r2, e2, z2⟩ := I.tuple hb
  have hsz : its.toArray.size = its2.toArray.size := by rw [List.size_toArray, List.size_toArray, ← r.length, ← r2.length]; exact p.1
  refine rc_tupNeG (A := X.A) hsz hr.units0 (fun _ s' => LoopI X pins σ H s') e e2 (fun i h1 h2 s' q => turnG hD h ⟨hr, rfl⟩ p r r2 i h1 h2 s' q) (fun s' ⟨H', I', ex⟩ => ⟨.bl false, H', I', rfl, q H' ex⟩) ⟨H, I, Ext.rfl'⟩
end
/-! what is compared -/
def okv : PV → Bool
  | .hs _ _ _ => true
  | .tup xs => xs.all PV.flat
  | p => p.flat
def sameH (C : Addr) (a b : Addr) (H : Hp) : Prop := ∃ ns ss kd, HouseAt C H a ns ss kd ∧ HouseAt C H b ns ss kd ∧ (∀ q ∈ kd, q.2.fine) ∧ (kd.map (·.1)).Nodup
def DV (K : PySem.W.Frag) (C : Addr) : Eqv := fun x y H => DFlat x y H ∨ DIns C (sameH C) x y H ∨ DTup K DFlat x y H
theorem mon_DV {K : PySem.W.Frag} {C : Addr} : Mon (DV K C) := Mon.or mon_flat (Mon.or (mon_ins fun a b H H' e r => by
  obtain ⟨ns, ss, kd, h1, h2, h3⟩ := r
  exact ⟨ns, ss, kd, h1.same e, h2.same e, h3⟩) (mon_tup mon_flat))
theorem houEq_self {ns ss : List Str} {kd : List (Str × MD)} (nd : (kd.map (·.1)).Nodup) : houEq ns ns ss ss kd kd = true := by
  unfold houEq
  rw [kdEq_refl nd, decide_eq_true rfl, decide_eq_true rfl]
  rfl
theorem eqG_DV {X : Cx} {C : Addr} {Eh : XK} (h : HouE X.prog X.w X.K X.mg X.base C) (hx : Passes C8.CX0 X Eh) : EqG X 6 (DV X.K C) := by
  obtain ⟨f, fd, h1, h2, h3, h4⟩ := h.eq
  refine (eqG_flat.mono (Nat.zero_le _)).or (EqG.or ?_ ?_)
  · refine RcG.eqG (rcG_ins (h3.imp fun vs H Q E h => ?_) h1 h2 h4 hx) fun x y H d => by
      obtain ⟨a, b, _, _, _, _, e1, e2, _⟩ := d
      exact ⟨a, b, e1, e2⟩
    obtain ⟨a, b, rfl, ⟨ns, ss, kd, ha, hb, hf, nd⟩, q⟩ := h
    refine ⟨a, b, ns, ns, ss, ss, kd, kd, rfl, ha, hb, hf, hf, ?_⟩
    rw [houEq_self nd]
    exact q H Ext.rfl'
  · exact EqG.mono (eqG_tup mon_flat eqG_flat) (by decide)
end
section
open PySem PySem.Spec PyProof.Rows PySem.W PySem.Calls
variable {Z : Zn} {K : PySem.W.Frag} {E : Option XK} {B H : Hp}
theorem eqF_refl : ∀ p : PV, p.flat = true → eqF p p = true
  | .non, _ => rfl
  | .bl b, _ => beq_self_eq_true b
  | .int i, _ => beq_self_eq_true i
  | .str x, _ => beq_self_eq_true x
  | .tup _, h => nomatch h
  | .lst _, h => nomatch h
  | .orc, h => nomatch h
  | .dct _ _, h => nomatch h
  | .tupw _, h => nomatch h
  | .hs _ _ _, h => nomatch h
  | .rg _ _, h => nomatch h
  | .dcn _ _, h => nomatch h
theorem den_DFlat {p : PV} {v w : V} (f : p.flat = true) (d : Den Z B p v) (d' : Den Z B p w) : DFlat v w H := ⟨den_flat f d, den_flat f d', by rw [den_eqF f f d d', eqF_refl p f]⟩
theorem prs_DFlat : ∀ {xs : List PV} {vs ws : List V}, xs.all PV.flat = true → DenL Z B xs vs → DenL Z B xs ws → Prs DFlat vs ws H
  | [], vs, ws, _, d, d' => by
    obtain rfl : vs = [] := d
    obtain rfl : ws = [] := d'
    exact Prs.nil
  | x :: xs, vs, ws, f, d, d' => by
    rw [List.all_cons, Bool.and_eq_true] at f
    obtain ⟨y, r, rfl, d1, d2⟩ := d
    obtain ⟨y', r', rfl, e1, e2⟩ := d'
    exact Prs.cons (den_DFlat f.1 d1 e1) (prs_DFlat f.2 d2 e2)
theorem den_DV {p : PV} {v w : V} (f : okv p = true) (s : Same B H) (d : Den Z B p v) (d' : Den Z B p w) : DV K Z.C v w H := by
  cases p with
  | hs ns ss kd =>
    obtain ⟨a, rfl, h1, ok⟩ := d
    obtain ⟨b, rfl, h2, _⟩ := d'
    have h1 := h1.same s
    have h2 := h2.same s
    obtain ⟨dx, nm, sg, dm, g1, _⟩ := id h1.ex
    obtain ⟨dy, nm', sg', dm', g2, _⟩ := id h2.ex
    exact .inr (.inl ⟨a, b, dx, dy, _, _, rfl, rfl, g1, g2, ns, ss, kd, h1, h2, ok.fine, by rw [ok.keys]; exact ok.nd⟩)
  | tup xs =>
    obtain ⟨a, ys, rfl, t1, e1⟩ := d
    obtain ⟨b, zs, rfl, t2, e2⟩ := d'
    exact .inr (.inr ⟨a, b, ys, zs, rfl, rfl, (t1.same s).sqt, (t2.same s).sqt, prs_DFlat f e1 e2⟩)
  | non => exact .inl (den_DFlat rfl d d')
  | bl b => exact .inl (den_DFlat rfl d d')
  | int b => exact .inl (den_DFlat rfl d d')
  | str b => exact .inl (den_DFlat rfl d d')
  | lst b => exact absurd f (by intro z; cases z)
  | orc => exact absurd f (by intro z; cases z)
  | dct _ _ => exact absurd f (by intro z; cases z)
  | tupw _ => exact absurd f (by intro z; cases z)
  | rg _ _ => exact absurd f (by intro z; cases z)
  | dcn _ _ => exact absurd f (by intro z; cases z)
theorem prs_DV (s : Same B H) : ∀ {xs : List PV} {vs ws : List V}, xs.all okv = true → DenL Z B xs vs → DenL Z B xs ws → Prs (DV K Z.C) vs ws H
  | [], vs, ws, _, d, d' => by
    obtain rfl : vs = [] := d
    obtain rfl : ws = [] := d'
    exact Prs.nil
  | x :: xs, vs, ws, f, d, d' => by
    rw [List.all_cons, Bool.and_eq_true] at f
    obtain ⟨y, r, rfl, d1, d2⟩ := d
    obtain ⟨y', r', rfl, e1, e2⟩ := d'
    exact Prs.cons (den_DV f.1 s d1 e1) (prs_DV s f.2 d2 e2)
/-- the two are the same -/
def neTP : PV → PV → M Rs
  | .tup xs, .tup ys => do
    M.ask (xs = ys ∧ xs.all okv = true)
    pure (.val (.bl false))
  | _, _ => M.fail
theorem step_ext {H' : Hp} (s : Same B H) (r : RowOk Z K B H) (e : Ext H H') : Step Z K B H B H' :=
  ⟨Same.refl B, fun _ _ q => .inl q, fun a o q _ => e a o q, fun a o q => e a o (s a o q), ⟨fun p a ns z => ⟨Row.same (r.row p a ns z).1 e, (r.row p a ns z).2⟩, fun q hq => ⟨(r.tab q hq).1.ext e, (r.tab q hq).2⟩⟩⟩
theorem ok_neT {C : Addr} (hC : Z.C = C) : OpOk Z K E (rNeTG K (DV K C)) neTP := by
  subst hC
  intro B H a b x y Q s r ha hb q
  unfold neTP at q
  split at q
  · rename_i xs ys h1 h2
    obtain ⟨⟨rfl, ok⟩, q⟩ := q
    obtain ⟨c, us, rfl, t1, d1⟩ := ha.tup h1
    obtain ⟨d, vs, rfl, t2, d2⟩ := hb.tup h2
    exact ⟨⟨c, d, us, vs, rfl, rfl, (t1.same s).sqt, (t2.same s).sqt, prs_DV s ok d1 d2⟩, fun H' e => q B _ H' (step_ext s r e) rfl⟩
  · exact q.elim
end
section
open PySem PySem.Spec PyProof.Rows PySem.W PySem.Calls
variable {X : Cx} {Z : Zn} {E : Option XK} {a b c : Expr} {pos : Pos}
theorem v_neT {C : Addr} {j : Nat} {Eh : XK} {ma mb : ME} (h : HouE X.prog X.w X.K X.mg X.base C) (hC : ZC Z C X.w) (hr : Room j X.A) (hj : 7 ≤ j) (hx : Passes C8.CX0 X Eh) (ha : VE X Z E a ma) (hb : VE X Z E b mb) : VE X Z E (.Compare a [.NotEq] [b] pos) (mBin neTP ma mb) :=
  v_cmp (op_neTG mon_DV (eqG_DV h hx) (hr.mono hj)) (ok_neT hC.c) ha hb (nomark _)
theorem vt_neT {C : Addr} {j : Nat} {Eh : XK} {ma mb : ME} (h : HouE X.prog X.w X.K X.mg X.base C) (hC : ZC Z C X.w) (hr : Room j X.A) (hj : 7 ≤ j) (hx : Passes C8.CX0 X Eh) (ha : VE X Z E a ma) (hb : VE X Z E b mb) : VT X Z E (.Compare a [.NotEq] [b] pos) (mTst (mBin neTP ma mb)) :=
  vt_cmp (op_neTG mon_DV (eqG_DV h hx) (hr.mono hj)) (ok_neT hC.c) ha hb (nomark _)
end
section
variable {Z : Zn} {K : PySem.W.Frag} {E : Option XK}
theorem ok_sub : OpOk Z K E (rI0 fun i j => .int (i - j)) subP := ok_int fun _ _ _ => rfl
end

/-! ## enumerate over a tuple -/
section
open PySem PySem.Spec PyProof.Rows PySem.W PySem.Calls
theorem en_new {v : Value} {o : Obj} {H : Heap → Prop} (B : Begins v o H) :
    Meets (Builtin.«enumerate.__new__» ⟨[.type "enumerate", v], []⟩) (fun _ R s => H s.heap ∧ R (.ok (.ret (.ref (s.heap.push o).objs.size))) { s with heap := (s.heap.push o).push { cls := .type "enumerate", data := .fields #[.none, .bool false, .ref s.heap.objs.size, rawInt 0, .none, .none] } }) :=
  .of_wp fun prog w A R s h => by
    obtain ⟨hp, g, d, tk, os⟩ := s
    obtain ⟨h1, h⟩ := h
    have hsub := sub_enumerate
    wp_walk
    refine wpAny_stack_any fun st => wpAny_pure ?_
    split
    · rename_i c _ _ _ _ _
      cases (c == Value.type "enumerate") <;> (wp_walk using B.iter _ _ _ _ _ _ h1; exact ⟨_, rfl, h⟩)
    · wp_walk using B.iter _ _ _ _ _ _ h1
      exact ⟨_, rfl, h⟩
section
variable {prog : Program} {w : World} {A : Around} {E : Value → Shared → Prop} {s : Shared}
theorem en_call {v : Value} {o : Obj} {H : Heap → Prop} {Q : Value → Shared → Prop} (B : Begins v o H) (h1 : H s.heap)
    (h : ∀ h', IsEnum h' (s.heap.objs.size + 1) s.heap.objs.size 0 .none → h'.get? s.heap.objs.size = some o → (∀ b o, s.heap.get? b = some o → h'.get? b = some o) → Q (.ref (s.heap.objs.size + 1)) { s with heap := h' }) :
    wpAny (model prog w) A (call (.type "enumerate") [v]) Q E s := by
  refine callType_new F.called_enumerate (by decide) (F.typeCall_enumerate_1 _) (F.newCall_enumerate_1 _) (fun obj => F.args_object_init_2 obj _) F.entry_enumerate_new (en_new B) ⟨h1, ?_⟩
  have hz : (s.heap.push o).objs.size = s.heap.objs.size + 1 := Heap.size_push ..
  have he := Heap.get?_push_size (o := ({ cls := .type "enumerate", data := .fields #[.none, .bool false, .ref s.heap.objs.size, rawInt 0, .none, .none] } : Obj)) (s.heap.push o) rfl
  show _ ∧ _
  rw [hz] at he ⊢
  exact ⟨⟨_, he, rfl⟩, h _ he (Heap.get?_push_of_some _ (Heap.get?_push_size _ B.free)) fun b o x => Heap.get?_push_of_some _ (Heap.get?_push_of_some _ x)⟩
end
/-- a tuple's items, each in a new pair with its number -/
def IteT (K : PySem.W.Frag) (a : Addr) : It where
  go := fun i H => ∃ (xs : List V) (x : V), SqT K H a xs ∧ xs[i]? = some x
  yld := fun i H v H' => ∃ T x, v = .ref T ∧ H T = none ∧ H' = upd H T (.tup [.int (i : Nat), x]) ∧ ∀ xs, SqT K H a xs → xs[i]? = some x
  stop := fun i H => ∃ xs : List V, SqT K H a xs ∧ xs.length = i
theorem turn_enT {P : Program} {w : World} {K : PySem.W.Frag} {elts : List Expr} {kk : Nat} {tpos : Pos} (a e q : Addr) (hqa : a ≠ q) :
    Turn P w K (.Tuple elts kk tpos) (IteT K a) [e, q] e (fun i h => (∃ old, IsEnum h e q ((i : Nat) : Int) old) ∧ h.IsTupleIter q a i ∧ e ≠ q) where
  mem := by simp
  obj := fun i h st b hb => by
    obtain ⟨⟨old, he⟩, ⟨o, ho, hc, hd⟩, _⟩ := st
    rcases List.mem_cons.mp hb with z | z
    · rw [z]
      exact ⟨_, he, fun v y => nomatch y⟩
    · rw [List.mem_singleton.mp z]
      exact ⟨o, ho, fun v y => by rw [hd] at y; cases y⟩
  keep := fun i h h' st k => ⟨⟨st.1.choose, k e (by simp) _ st.1.choose_spec⟩, st.2.1.at fun o y => k q (by simp) o y, st.2.2⟩
  item := by
    intro X hP hw hK hc i pins s σ H E I hf st hg
    subst hP hw hK
    obtain ⟨⟨old, he⟩, hit, hne⟩ := st
    obtain ⟨xs, x, hq, hx⟩ := hg
    obtain ⟨its, rv, p, hz⟩ := I.tuple hq
    obtain ⟨u, hu, ru⟩ := rv.get hx
    have hel : e < s.heap.objs.size := Heap.lt_size he
    have hil : q < s.heap.objs.size := Heap.lt_size hit.choose_spec.1
    have hlt : i < its.toArray.size := by
      rw [List.size_toArray]
      exact (List.getElem?_eq_some_iff.mp hu).1
    have D := Draws.tuple (prog := X.prog) (w := X.w) (A := X.A.in1) (I.ok.hd hc) q a hqa its.toArray
    have hea : e ∉ [q, a] := fun m => by
      rcases List.mem_cons.mp m with z | z
      · exact hne z
      · rw [List.mem_singleton.mp z] at he
        obtain ⟨o, ho, hc2, _⟩ := p
        have h3 := ho.symm.trans he
        rw [Option.some.inj h3] at hc2
        exact absurd (Value.type.inj hc2) (by decide)
    refine wpAny_pyNext_enum_itemD D he ⟨hit, p⟩ hlt hne hea fun y h1 tk hy ho hst hT hsz hk => ?_
    obtain rfl : u = y := Option.some.inj ((show its[i]? = some u from hu).symm.trans (by simpa using hy))
    refine ⟨_, rfl, wpAny_letOwnedTupleGo_enum (s := { s with heap := h1, toks := tk + 1 }) ho fun h2 he2 sb => ?_⟩
    have hT2 := (sb.2 _ (Nat.ne_of_gt hel)).trans hT
    have ob : ObjOk X.prog X.w (upd H s.heap.objs.size (.tup [.int (i : Nat), x])) h2 s.heap.objs.size (.tup [.int (i : Nat), x]) := by
      refine ⟨by show 2 ≤ sizeLine; decide, [.int i tk, u], .cons ⟨_, rfl⟩ (.cons ru .nil), _, hT2, rfl, _, rfl⟩
    have I2 : Inv X pins σ (upd H s.heap.objs.size (.tup [.int (i : Nat), x])) { s with heap := h2, toks := tk + 1 } :=
      I.turnedNew (ch := [e, q]) (fun b o hb z => (sb.2 b fun w => hb (by simp [w])).trans (hk b o (fun w => hb (by simp [w])) (fun w => hb (by simp [w])) z)) hf (Nat.le_refl _) ob
    refine ⟨.ref s.heap.objs.size, _, I2, rfl, ⟨_, x, rfl, I.hok.fresh (Nat.le_refl _), rfl, fun ys hy => I.tuple_inj hy hq ▸ hx⟩, ⟨⟨u, ?_⟩, hst.1.at fun o z => (sb.2 q (Ne.symm hne)).trans z, hne⟩, fun b hb => ?_⟩
    · rw [show ((i + 1 : Nat) : Int) = (i : Int) + 1 by omega]
      exact he2
    · have lt : b < s.heap.objs.size := by
        rcases List.mem_cons.mp hb with z | z
        · exact z ▸ hel
        · exact List.mem_singleton.mp z ▸ hil
      exact (upd_ne (Nat.ne_of_lt lt)).trans (hf b hb).1
  done := by
    intro X hP hw hK hc i pins s σ H E I hf st hg
    subst hP hw hK
    obtain ⟨⟨old, he⟩, hit, hne⟩ := st
    obtain ⟨xs, hq, hx⟩ := hg
    obtain ⟨its, rv, p, hz⟩ := I.tuple hq
    obtain ⟨f0, f1, f2, f3, f4, f5⟩ := hf q (by simp)
    have hl : its.toArray.size = i := by
      rw [List.size_toArray, ← rv.length, hx]
    have D := Draws.tuple (prog := X.prog) (w := X.w) (A := X.A.in1) (I.ok.hd hc) q a hqa its.toArray
    exact wpAny_pyNext_enum_endD D he ⟨hl.symm ▸ hit, p⟩ fun h1 eb => ⟨rfl, I.turned (t' := s.toks) (fun b o hb z => eb b o hb z) f0 f1 f3 f4 f5⟩
  self := fun A i s Q E st h => let ⟨⟨_, he⟩, _⟩ := st; wpAny_pyIter_enum he h
def iEnumT (K : PySem.W.Frag) (te : TE) : TI := fun σ H R => te σ H fun x H1 => ∃ a xs, x = .ref a ∧ SqT K H1 a xs ∧ R (IteT K a) H1
theorem pi_enumT {X : Cx} {e : Expr} {te : TE} {p pos tpos : Pos} {elts : List Expr} {kk : Nat} (hg : Gl X "enumerate") (hm : X.mg "enumerate" = none) (he : PE X e te) (na : starEach [e] X.env = (false, eval e X.env) :: starEach [] X.env := by rfl) :
    PI X (.Tuple elts kk tpos) (.Call (.Name "enumerate" p) [e] [] pos) (iEnumT X.K te) := by
  refine ⟨fun pins s σ H R I h => ?_⟩
  refine Call_ (ld_blt I hg hm boot_enumerate (PyProof.Rows.callWith_type1 (one_arg he I h (fun v s1 x H1 I1 r q => ?_) na) na))
  obtain ⟨a, xs, rfl, hq, q⟩ := q
  obtain rfl : v = .ref a := r
  obtain ⟨its, rv, pt, hz⟩ := I1.tuple hq
  refine en_call (begins_tuple a its.toArray) pt fun h1 he1 hit hk => wpAny_pyIter_enum he1 ?_
  have I2 : Inv X pins σ H1 { s1 with heap := h1 } := I1.kept (t' := s1.toks) hk
  have hal : a ≠ s1.heap.objs.size := fun z => by
    obtain ⟨o, ho, _⟩ := pt
    exact absurd (Heap.lt_size ho) (by rw [z]; exact Nat.lt_irrefl _)
  refine ⟨s1.heap.objs.size + 1, [s1.heap.objs.size + 1, s1.heap.objs.size], _, _, H1, rfl, I2, turn_enT a (s1.heap.objs.size + 1) s1.heap.objs.size hal, ⟨⟨.none, he1⟩, ⟨_, hit, rfl, rfl⟩, Nat.succ_ne_self _⟩, fun b hb => ?_, q⟩
  have hle : s1.heap.objs.size ≤ b := by
    rcases List.mem_cons.mp hb with z | z
    · rw [z]
      exact Nat.le_succ _
    · exact Nat.le_of_eq (List.mem_singleton.mp z).symm
  exact I1.fpOk hle (I1.hok.fresh hle)
end

/-! ## enumerate over a tuple, over values -/
section
variable {Z : Zn} {K : PySem.W.Frag} {E : Option XK} {B H : Hp} {σ : L2.St}
def enumPV : Nat → List PV → List PV
  | _, [] => []
  | i, x :: r => .tupw [.int (i : Int), x] :: enumPV (i + 1) r
theorem enumPV_len : ∀ (xs : List PV) (i : Nat), (enumPV i xs).length = xs.length
  | [], _ => rfl
  | _ :: r, i => congrArg (· + 1) (enumPV_len r (i + 1))
theorem enumPV_at : ∀ (xs : List PV) (i j : Nat), (enumPV i xs)[j]? = (xs[j]?).map fun x => .tupw [.int ((i + j : Nat) : Int), x]
  | [], _, _ => rfl
  | x :: r, i, 0 => rfl
  | x :: r, i, j + 1 => by
    show (enumPV (i + 1) r)[j]? = (r[j]?).map _
    rw [enumPV_at r (i + 1) j, show i + 1 + j = i + (j + 1) by omega]
def itEnumT (m : ME) : En → M (List PV) := fun e => do
  match (← mFz m e).pv with
  | .tup xs => pure (enumPV 0 xs)
  | _ => M.fail
theorem wk_enT {a : Addr} {xs : List PV} {ys : List V} (h : TupAt B a ys) (d : DenL Z B xs ys) : Wk Z K (IteT K a) (enumPV 0 xs) B := by
  refine ⟨fun i B1 H1 s1 s2 hi => ?_, fun B1 H1 s1 s2 => ⟨ys, ((h.same s1).same s2).sqt, by rw [enumPV_len, d.len]⟩, fun i p B1 H1 v H2 hp s1 s2 ro y => ?_⟩
  · rw [enumPV_len, d.len] at hi
    exact ⟨ys, ys[i], ((h.same s1).same s2).sqt, List.getElem?_eq_getElem hi⟩
  · rw [enumPV_at, Nat.zero_add] at hp
    cases hx : xs[i]? with
    | none => rw [hx] at hp; cases hp
    | some x =>
      rw [hx] at hp
      cases hp
      obtain ⟨T, u, rfl, nT, rfl, hu⟩ := y
      obtain ⟨v', hv', d'⟩ := d.get hx
      rw [hu ys ((h.same s1).same s2).sqt] at hv'
      cases hv'
      have st := Step.put (o := .tup [.int (i : Nat), u]) s2 ro nT
      exact ⟨_, st, T, [.int (i : Nat), u], rfl, upd_same, _, _, rfl, rfl, _, _, rfl, (d'.mono s1).mono st.b, rfl⟩
theorem i_enT {m : ME} {R : It → Hp → Prop} (h : upI Z K E (itEnumT m) σ H R) : iEnumT K (up Z K E m) σ H R := by
  obtain ⟨B, e, Rr, q⟩ := h
  refine r_fz (m := m) (Q := fun x H1 => ∃ a xs, x = .ref a ∧ _) ⟨B, e, Rr, (mFz m e).mono (fun r z B1 v H1 s1 a => ?_) (fun _ z => z) (mFz_val q)⟩
  obtain ⟨⟨p, rfl⟩, z⟩ := z
  cases p with
  | tup xs =>
    obtain ⟨c, ys, rfl, h1, h2⟩ := a
    exact ⟨c, ys, rfl, (h1.same s1.s).sqt, z B1 H1 _ s1 (wk_enT h1 h2)⟩
  | _ => exact False.elim z
end
section
variable {X : Cx} {Z : Zn} {E : Option XK} {a : Expr}
theorem vi_enT {m : ME} {p pos tpos : Pos} {elts : List Expr} {kk : Nat} (hg : Gl X "enumerate") (hm : X.mg "enumerate" = none) (h : VE X Z E a m) (na : starEach [a] X.env = (false, eval a X.env) :: starEach [] X.env := by rfl) : VI X Z E (.Tuple elts kk tpos) (.Call (.Name "enumerate" p) [a] [] pos) (itEnumT m) := pi_weak (pi_enumT hg hm h na) fun _ _ _ => i_enT
end

/-! ## enumerate over a list, over values -/
section
variable {Z : Zn} {K : PySem.W.Frag} {E : Option XK} {B H : Hp} {σ : L2.St}
def enL : List PV → M (List PV)
  | [.lst xs] => pure (enumPV 0 xs)
  | _ => M.fail
def itEnumL (ms : En → M (List PV)) : En → M (List PV) := fun e => do
  let ps ← ms e
  enL ps
theorem wk_enL {a : Addr} {xs : List PV} {ys : List V} (h : B a = some (.lst ys)) (d : DenL Z B xs ys) : Wk Z K (Ite K a) (enumPV 0 xs) B := by
  refine ⟨fun i B1 H1 s1 s2 hi => ?_, fun B1 H1 s1 s2 => ⟨ys, SqL.of (s2 _ _ (s1 _ _ h)), by rw [enumPV_len, d.len]; exact Nat.le_refl _⟩, fun i p B1 H1 v H2 hp s1 s2 ro y => ?_⟩
  · rw [enumPV_len, d.len] at hi
    exact ⟨ys, ys[i], SqL.of (s2 _ _ (s1 _ _ h)), List.getElem?_eq_getElem hi⟩
  · rw [enumPV_at, Nat.zero_add] at hp
    cases hx : xs[i]? with
    | none => rw [hx] at hp; cases hp
    | some x =>
      rw [hx] at hp
      cases hp
      obtain ⟨T, u, rfl, nT, rfl, hu⟩ := y
      obtain ⟨v', hv', d'⟩ := d.get hx
      rw [hu ys (SqL.of (s2 _ _ (s1 _ _ h)))] at hv'
      cases hv'
      have st := Step.put (o := .tup [.int (i : Nat), u]) s2 ro nT
      exact ⟨_, st, T, [.int (i : Nat), u], rfl, upd_same, _, _, rfl, rfl, _, _, rfl, (d'.mono s1).mono st.b, rfl⟩
theorem i_enL {ms : En → M (List PV)} {R : It → Hp → Prop} (h : upI Z K E (itEnumL ms) σ H R) : iEnum K (upA Z K E ms) σ H R := by
  obtain ⟨B, e, Rr, q⟩ := h
  refine ⟨B, e, Rr, (ms e).mono (fun ps z B1 vs H1 s1 hv => ?_) (fun _ z => z) q⟩
  unfold enL at z
  dsimp only at z
  split at z
  · rename_i xs
    obtain ⟨y, r, rfl, d1, d2⟩ := hv
    obtain rfl : r = [] := d2
    obtain ⟨c, ys, rfl, h1, h2⟩ := d1
    exact ⟨c, ys, rfl, SqL.of (s1.s _ _ h1), z B1 H1 _ s1 (wk_enL h1 h2)⟩
  · exact False.elim z
end
section
variable {X : Cx} {Z : Zn} {E : Option XK} {a : Expr}
theorem vi_enL {ms : En → M (List PV)} {p pos tpos : Pos} {elts : List Expr} {kk : Nat} (hg : Gl X "enumerate") (hm : X.mg "enumerate" = none) (h : VA X Z E [a] ms) (hs : starEach [a] X.env = [(false, eval a X.env)] := by rfl) : VI X Z E (.Tuple elts kk tpos) (.Call (.Name "enumerate" p) [a] [] pos) (itEnumL ms) := pi_weak (pi_enum hg hm h hs) fun _ _ _ => i_enL
end

/-! ## values: tuple * int -/
section
open PySem.W PyProof.Rows PySem.Calls
def rRepN (K : PySem.W.Frag) : R2 := fun x y H Q => ∃ l k xs, x = .ref l ∧ y = .int k ∧ SqT K H l xs ∧ 1 ≤ xs.length ∧ xs.length ≤ 1000 ∧ 2 ≤ k ∧ k ≤ 1000 ∧ NewT H (List.replicate k.toNat xs).flatten Q
theorem rep_len {α : Type} {xs : List α} {k : Int} (h : xs.length ≤ 1000) (hk : k ≤ 1000) : (List.replicate k.toNat xs).flatten.length ≤ sizeLine := by
  rw [PyProof.Rows.lm_len_rep_flat, sizeLine_eq]
  exact Nat.le_trans (Nat.mul_le_mul (show k.toNat ≤ 1000 by omega) h) (by decide)
theorem op_repN {X : Cx} : OpR X (binaryOp .Mult) (rRepN X.K) := by
  rintro pins s σ H x y v u Q I rx ry ⟨l, k, xs, rfl, rfl, hT, x0, x1, k0, k1, q⟩
  obtain ⟨t, rfl⟩ := ry
  cases rx
  obtain ⟨its, r, ⟨ob, ho, hc, n, hd⟩, _⟩ := I.tuple hT
  have len := r.length
  cases ob with
  | mk cls dd data sl =>
    dsimp only at hc hd
    cases hc
    cases hd
    have sz : its.toArray.size = xs.length := by rw [List.size_toArray]; omega
    have em : its.toArray.isEmpty = false := by
      rw [Array.isEmpty, decide_eq_false]
      omega
    have le : ((its.toArray.size : Nat) : Int) * k ≤ 1000 * 1000 := by
      rw [sz]
      exact Int.mul_le_mul (by omega) k1 (by omega) (by omega)
    have few : Builtin.Tuple.tupleTooMany (((its.toArray.size : Nat) : Int) * k) = false := by
      unfold Builtin.Tuple.tupleTooMany
      rw [sizeLine_eq]
      exact decide_eq_false (by omega)
    have mul := tuple_mulW l its.toArray n dd sl k t (by rw [decide_eq_false, decide_eq_false] <;> first | rfl | omega) (by rw [em]; exact beq_eq_false_iff_ne.mpr (by omega)) (by rw [em, decide_eq_false (by omega)]; rfl) (by omega) few (by rw [size_rep, List.size_toArray]; exact rep_len (by omega) k1)
    refine wpAny_binaryOp_repeat_ref (U := "int") (T := "tuple") (by decide) ⟨_, ho, rfl⟩ (fun s' => typeIs_int s' k t) noFill_tuple_mul F.fills_int_mul F.slot_int_rmul repeat_tuple F.slot_int_index.lookup ?_
    refine call_meets F.slot_int_rmul (typeIs_int s k t) F.entry_int_rmul (F.args_int_rmul_2 _ _) (int_rmul_tuple k t l its.toArray n dd sl) ⟨ho, rfl, ⟨_, ho, rfl⟩, ?_⟩
    refine call_meets F.slot_tuple_mul ⟨_, ho, rfl⟩ F.entry_tuple_mul (F.args_tuple_mul_2 _ _) mul ⟨ho, ?_⟩
    rw [size_rep]
    exact tup_done I (rep_len x1 k1) (r.rep k.toNat) q
variable {Z : Zn} {K : PySem.W.Frag} {E : Option XK}
def mulTP : PV → PV → M Rs
  | .tup xs, .int k => do
    M.ask (1 ≤ xs.length ∧ xs.length ≤ 1000 ∧ 2 ≤ k ∧ k ≤ 1000)
    pure (.val (.tup (List.replicate k.toNat xs).flatten))
  | _, _ => M.fail
theorem ok_mulT : OpOk Z K E (rRepN K) mulTP := by
  intro B H a b x y Q s r ha hb q
  cases ea : a.pv with
  | tup xs =>
    cases eb : b.pv with
    | int k =>
      rw [ea, eb] at q
      obtain ⟨⟨x0, x1, k0, k1⟩, q⟩ := q
      obtain ⟨c, ys, rfl, t, d⟩ := ha.tup ea
      obtain rfl := hb.int eb
      have e1 := d.len
      exact ⟨c, k, ys, rfl, rfl, (t.same s).sqt, by omega, by omega, k0, k1, post_tup s r q (den_rep d _)⟩
    | _ =>
      rw [ea, eb] at q
      exact False.elim q
  | _ =>
    rw [ea] at q
    exact False.elim q
end

/-! ## values: count of a text in a tuple -/
section
open PySem.W PyProof.Rows PySem.Calls
def rTct (K : PySem.W.Frag) : V → List V → Hp → VK → Prop := fun x xs H Q => ∃ (p : Addr) (ys : List V) (y : V), x = .ref p ∧ xs = [y] ∧ SqT K H p ys ∧ (∀ z ∈ ys, Leaf z) ∧ Leaf y ∧ Q (.int (((ys.map dW).countP fun z => PyData.eqv z (dW y) : Nat) : Int)) H
theorem mt_tct {X : Cx} (hu : X.A.units + 66 < cLine) : MtR X "tuple.count" (rTct X.K) := by
  rintro pins s σ H x xs v us Q I rx rxs ⟨p, ys, y, rfl, rfl, hs, fy, f1, q⟩
  obtain ⟨u, rfl, ru⟩ := rxs.one
  cases rx
  obtain ⟨its, rv, pl, _⟩ := I.tuple hs
  obtain ⟨as, r1⟩ := Dp.readsAll I (ys.map dW) ys its (dw_dp fy) rv
  have d1 := dw_dp (K := X.K) (H := H) (xs := [y]) fun z hz => List.mem_singleton.mp hz ▸ f1
  cases d1 with
  | cons h1 _ =>
    obtain ⟨bs, r2⟩ := Dp.reads I _ _ u h1 ru
    obtain ⟨p1, e1⟩ := dw_plain ys
    obtain ⟨p2, e2⟩ := dw_one y
    exact SeqAt.count_tuple_data pl (by simpa using r1) r2 p1 p2 (by rw [e1, e2]; show _ + 1 + 0 < _; omega) ⟨.int _, H, I.tok _, ⟨_, rfl⟩, q⟩
theorem cnt_strs (z : Str) : ∀ ss : List Str, (((ss.map V.str).map dW).countP fun d => PyData.eqv d (dW (.str z))) = ss.countP fun w => decide (w = z)
  | [] => rfl
  | w :: ss => by
    rw [List.map_cons, List.map_cons, List.countP_cons, List.countP_cons, cnt_strs z ss]
    rfl
variable {Z : Zn} {K : PySem.W.Frag} {E : Option XK}
def countP : PV → PV → M Rs
  | .tup xs, .str z => match strsP xs with
    | some ss => pure (.val (.int ((ss.countP fun w => decide (w = z) : Nat) : Int)))
    | none => M.fail
  | _, _ => M.fail
theorem ok_count : MtOk Z K E (rTct K) (fun p ps => one (countP p) ps) := by
  intro B H a x rs vs Q s r ha hv q
  obtain ⟨y, w, rfl, hy, q⟩ := one_run hv q
  cases ea : a.pv with
  | tup xs =>
    cases ey : y.pv with
    | str z =>
      rw [ea, ey] at q
      have q : (match strsP xs with | some ss => pure (.val (.int ((ss.countP fun w => decide (w = z) : Nat) : Int))) | none => M.fail : M Rs).run (Post Z K B H Q) (ErOk Z K B H E) := q
      cases hi : strsP xs with
      | none =>
        rw [hi] at q
        exact False.elim q
      | some ss =>
        rw [hi] at q
        obtain ⟨c, ys, rfl, t, d⟩ := ha.tup ea
        rw [strsP_eq hi] at d
        obtain rfl := denL_strs d
        obtain rfl := hy.str ey
        refine ⟨c, ss.map .str, .str z, rfl, rfl, (t.same s).sqt, fun v hv => ?_, .inr (.inr (.inr ⟨z, rfl⟩)), ?_⟩
        · obtain ⟨w, _, rfl⟩ := List.mem_map.mp hv
          exact .inr (.inr (.inr ⟨w, rfl⟩))
        · rw [cnt_strs]
          exact post_val s r q rfl
    | _ =>
      rw [ea, ey] at q
      exact False.elim q
  | _ =>
    rw [ea] at q
    exact False.elim q
variable {X : Cx} {cpos : Pos}
theorem v_count {mo : ME} {o e : Expr} {es : List Expr} {ms : En → M (List Rs)} {apos cpos : Pos} (hu : X.A.units + 66 < cLine) (ho : VE X Z E o mo) (ha : VP X Z E (e :: es) ms)
    (hbase : attributeBase o "count" X.env (eval o X.env) = eval o X.env := by rfl)
    (hfew : ((backTo cpos (starEach (e :: es) X.env)).all (fun x => !x.1) && (backToKw cpos (keywordEach [] X.env)).all (fun x => x.1.isSome)
      && decide ((e :: es).length + ([] : List Keyword).length + (if ([] : List Keyword).isEmpty then 0 else 1) < 30)) = true := by rfl)
    (hline : (apos.endLine == cpos.line) = true := by rfl) (hs : starEach (e :: es) X.env = (false, eval e X.env) :: starEach es X.env := by rfl) (hplain : (backTo cpos (starEach es X.env)).any (·.1) = false := by rfl) :
    VE X Z E (.Call (.Attribute o "count" apos) (e :: es) [] cpos) (mTM (fun p ps => one (countP p) ps) mo ms) :=
  pe_weak (pe_tm PySem.F.plainAttrs_tuple PySem.F.slot_tuple_count PySem.F.type_tuple_count (mt_tct hu) ho ha hbase hfew hline hs hplain) fun _ _ _ => r_tm ok_count
theorem ok_pow : OpOk Z K E (rI CPow fun i j => .int (i ^ j.toNat)) (intCP CPow fun i j => .int (i ^ j.toNat)) := ok_intC fun _ _ _ => rfl
theorem ok_fdiv : OpOk Z K E (rI CDiv fun i j => .int (i / j)) (intCP CDiv fun i j => .int (i / j)) := ok_intC fun _ _ _ => rfl
end

/-! ## a lambda handed to a def: the table alone changes -/
section
open PySem PySem.Spec PyProof.Rows PySem.W PySem.Calls LamX
/-- all but what stands at P stays -/
def ExtP (P : Addr) (H H' : Hp) : Prop := ∀ b o, H b = some o → b ≠ P → H' b = some o
section
variable {X : Cx} {pins : List (Addr × Obj)} {σ : L2.St} {H : Hp} {s : Shared}
theorem far_frames (I : Inv X pins σ H s) {f : Addr} (hf : s.heap.objs.size ≤ f) : f ∉ frs X.stack := fun z => by
  have bound := I.lt
  cases List.mem_cons.mp (I.stkSub _ z) with
  | inl e =>
    rw [← e] at bound
    exact absurd bound (Nat.not_lt.mpr hf)
  | inr e => exact I.nofs hf e
theorem lam_mk {c P : Addr} {params : Arguments} {body : Expr} {scope : Scope} {pos : Pos} {E : Value → Shared → Prop} {Q : Value → Shared → Prop} (TB : TabB X.base X.mg c P) (hcode : X.env.code = .ref c) (I : Inv X pins σ H s)
    (hT : TabS H P (X.env.qual ++ "<lambda>")) (hdef : defaultsOf params X.env = ([], [])) (hfree : ∀ y ∈ scope.names, y.2 = .free → ∃ c, X.env.cells.lookup y.1 = some c)
    (k : ∀ (f c' : Addr) (pm ctv : Value) (H1 : Hp) (s' : Shared), Inv X pins σ H1 s' → ExtP P H H1 → TabS H1 P (X.env.qual ++ "<lambda>") → H1 f = none → f ∉ frs X.stack → H1 c' = some (CodeO c' (X.env.qual ++ "<lambda>")) →
      s'.heap.get? f = some (kla_obj "<lambda>" (X.env.qual ++ "<lambda>") params body scope (cloFrom X.env.cells scope.names []) pm c' ctv) → Q (.ref f) s') :
    wpAny (model X.prog X.w) X.A (eval (.Lambda params body scope pos) X.env) Q E s := by
  obtain ⟨ps, tabP, trip, among⟩ := hT
  have inB : s.heap.BuiltinsAt X.mg P := TB.bm.keeps I.bk
  have gl := I.mod.glob.keeps I.bk
  have objP : s.heap.get? P = some { cls := .none, data := .fields ps } := I.hok P _ tabP
  refine kla_eval hdef ?_
  cases hit : codeAmong pos ps.toList with
  | some cv =>
    obtain ⟨c', rfl, known⟩ := among pos cv hit
    refine kla_makeFunctionHit (mg := X.mg) (c := c) (P := P) (ps := ps) (closure_ok hfree) I.ok.glob gl hcode (TB.code.keeps I.bk) objP trip hit inB fun ctv h' tk hx hsz => ?_
    exact k h'.objs.size c' _ ctv H _ (I.kept fun b o e => Heap.get?_push_of_some _ (hx b o e)) (fun _ _ e _ => e) ⟨ps, tabP, trip, among⟩ (I.hok.fresh hsz) (far_frames I hsz) known (Heap.get?_push_size _ rfl)
  | none =>
    refine kla_makeFunction (mg := X.mg) (c := c) (P := P) (ps := ps) (closure_ok hfree) I.ok.glob gl hcode (TB.code.keeps I.bk) objP trip hit TB.gP inB fun c2 ctv h' tk hx hge hlt hrec htb => ?_
    obtain ⟨c', oc, vs, t, ec, atc, dc, nc⟩ := hrec
    obtain rfl : c2 = c' := Value.ref.inj ec
    have newc : H c2 = none := I.hok.fresh hge
    have far : s.heap.objs.size ≤ h'.objs.size := by omega
    have up1 : ∀ b o, H b = some o → b ≠ P → upd (upd H P (.tbl (ps ++ #[rawInt pos.line, rawInt pos.col, .ref c2]))) c2 (CodeO c2 (X.env.qual ++ "<lambda>")) b = some o := fun b o e n => (upd_ne (ne_of_none e newc)).trans ((upd_ne n).trans e)
    have lst : (ps ++ #[rawInt pos.line, rawInt pos.col, .ref c2]).toList = ps.toList ++ [rawInt pos.line, rawInt pos.col, .ref c2] := by simp
    refine k h'.objs.size c2 _ ctv _ _ (inv_table (t' := tk) (more := #[rawInt pos.line, rawInt pos.col, .ref c2]) (q := X.env.qual ++ "<lambda>") I tabP (fun b o hb e => Heap.get?_push_of_some _ (hx b o hb e)) (Heap.get?_push_of_some _ htb) hge ⟨oc, vs, t, Heap.get?_push_of_some _ atc, dc, nc⟩) up1
      ⟨_, (upd_ne (ne_of_none tabP newc)).trans upd_same, by rw [lst]; exact PySem.TriplesOk_snoc _ _ _ _ trip, fun p' cv hcv => ?_⟩ ?_ (far_frames I far) upd_same (Heap.get?_push_size _ rfl)
    · rw [lst] at hcv
      cases among_app _ trip hcv with
      | inl z =>
        obtain ⟨c0, e1, e2⟩ := among p' cv z
        exact ⟨c0, e1, up1 _ _ e2 fun z => codeO_ne ps (Option.some.inj (e2.symm.trans (z ▸ tabP)))⟩
      | inr z => exact ⟨c2, z, upd_same⟩
    · have ltP : P < s.heap.objs.size := Heap.lt_size objP
      rw [upd_ne (by omega : h'.objs.size ≠ c2), upd_ne (Nat.ne_of_gt (Nat.lt_of_lt_of_le ltP far))]
      exact I.hok.fresh far
end
def tLam1 (P : Addr) (q : Str) (TT : (XK → Hp → VK → Prop) → Hp → VK → Prop) (t : XK → TE) : TE := fun σ H Q => TabS H P q ∧ ∀ H1, ExtP P H H1 → TabS H1 P q → TT (fun E H' Q' => t E σ H' Q') H1 Q
theorem pe_lam1 {X : Cx} {TT : (XK → Hp → VK → Prop) → Hp → VK → Prop} {x a : Str} {g c P : Addr} {k : Nat} {pg : Arguments} {bg : List Stmt} {sg : Scope} {dV kV doc pm cdv ct oc : Value} {an od : Option Addr} {osl : Array (Option Value)} {Ng : List Str}
    {params : Arguments} {body : Expr} {scope : Scope} {t : XK → TE} {p lpos pos : Pos} (hg : Gl X x) (hm : X.mg x = some (.ref g)) (hk : keepIn X.K (.ref g) = true)
    (lk : X.K.lookup g = some ⟨oc, od, .func (fnOf x x pg bg sg dV kV doc pm an cdv ct), osl⟩) (hcg : codeIn X.K cdv x = true) (hb : L2.Binds X.K (fnOf x x pg bg sg dV kV doc pm an cdv ct) [a] []) (Sg : FnScope Ng [a] sg) (hNg : Ng[0]? = some a) (hva : Vis sg a)
    (hG : GivesTo X Ng x sg g cdv bg a (X.env.qual ++ "<lambda>") TT) (TB : TabB X.base X.mg c P) (hcode : X.env.code = .ref c) (hr : Room (k + 2) X.A) (L : LamS X.env.scope scope) (hdef : defaultsOf params X.env = ([], []))
    (hbind : ∀ (q : Str) (cl : List (Str × Addr)) (pm cv ctv : Value), bindArgs (kla_fn "<lambda>" q params body scope cl pm cv ctv) ⟨[], []⟩ = pure [])
    (hbody : ∀ (A : Around) (outer : List Env) (s : Shared) (H : Hp) (E : XK) (f c' : Addr), Room k (A.deeper (lamEnv X scope s.heap.objs.size f c')) → PE (lamCx X A outer s H E scope f c') body (t E))
    (hdb : (x == ("__debug__" : Str)) = false := by decide) (hd : (a == ("__debug__" : Str)) = false := by decide) (hcd : (a == ("__classdict__" : Str)) = false := by decide) :
    PE X (.Call (.Name x p) [.Lambda params body scope lpos] [] pos) (tLam1 P (X.env.qual ++ "<lambda>") TT t) := by
  refine ⟨fun pins s σ H Q I h => ?_⟩
  obtain ⟨hT, wish⟩ := h
  refine wpAny_Call_Name_kw (ld_glob I hg hm ?_ hdb)
  refine callWith_K (h₀ := X.base) I.ok.mod.kin hk ?_ (by rfl) (by rfl)
  show wpAny _ _ (spliced ((false, eval (.Lambda params body scope lpos) X.env) :: backTo pos (starEach [] X.env))) _ _ s
  refine Calls.spliced_cons (lam_mk TB hcode I hT hdef (L.has I.ok) fun f c' pm' ctv H1 s' I1 ext tab nf ff kc atf => ?_)
  refine Calls.spliced_nil ⟨I1.kIn, wpAny_call (codeAny_mono (R := CR C8.CX0 X.stack X.prog X.w H1 s' Q C8.E0) (run_ofS (N := Ng) (ps := [a]) (us := [.ref f]) (vs := [.ref f]) lk hcg Sg hr I1.env0 (hb s' [.ref f] I1.kIn rfl) (.cons rfl .nil) rfl fun hr' => ?_) fun r s2 hq => ?_)⟩
  · obtain ⟨t', p', q'⟩ := hG f c' s' H1 Q (fun E H' Q' => t E σ H' Q') (fun W pn xe E p1 p2 tk hW => pe_act (i := 0) I1 L atf nf ff (hbind _ _ _ _ _) tk hW hr' (fun A outer s H hr2 => hbody A outer s H E f c' hr2) hNg hva hd hcd) kc (wish H1 ext tab)
    exact ⟨t', p'.nox, q'⟩
  · cases r with
    | error e => exact (show False from hq).elim
    | ok fl =>
      cases fl with
      | ret u => exact I1.after hq
      | next => exact hq.elim
      | brk => exact hq.elim
      | cont => exact hq.elim
end

/-! ## raising defs over values -/
section
open PySem.W PyProof.Rows PySem.Calls
def upX (Z : Zn) (K : PySem.W.Frag) (E : Option XK) (mx : En → M Ex) : L2.St → Hp → XK → Prop := fun σ H W => ∃ B e, Rp Z K B e σ H ∧ (mx e).run (fun x => ∀ B' cls d H', Step Z K B H B' H' → ExAt Z x cls d H' → W cls d H') (ErOk Z K B H E)
def mRaise (mx : En → M Ex) : MS := fun e => do
  let x ← mx e
  M.throw x
abbrev VX (X : Cx) (Z : Zn) (E : Option XK) (a : Expr) (mx : En → M Ex) : Prop := PMk X a (upX Z X.K E mx)
section
variable {X : Cx} {Z : Zn} {F : XK} {W : WX} {pos : Pos}
theorem vs_raise {a : Expr} {mx : En → M Ex} (hc : X.calm = true) (tk : Takes X W) (hW : ∀ cls d σ H, F cls d H → W cls d σ H) (he : VX X Z (some F) a mx) : VS X Z (some F) (.Raise (some a) none pos) (mRaise mx) := ps_weak (ps_raise hc tk he) fun D σ H h => by
  obtain ⟨B0, H0, B, e, R, q⟩ := h
  have q : (mx e).run (fun x => ErOk Z X.K B0 H0 (some F) x) (ErOk Z X.K B0 H0 (some F)) := q
  exact ⟨B, e, R.rp, (mx e).mono (fun x z B' cls d H' s a => hW _ _ _ _ (z B' cls d H' (R.st.trans R.r0 s) a)) (fun _ z => z.step R.r0 R.st) q⟩
theorem pmk_weak {X : Cx} {a : Expr} {t t' : L2.St → Hp → XK → Prop} (h : PMk X a t) (k : ∀ σ H Q, t' σ H Q → t σ H Q) : PMk X a t' := fun pins s σ H Q I q => h pins s σ H Q I (k σ H Q q)
/-- an error made of a written text -/
theorem vx_own {E : Option XK} {C : Addr} {bmB : List Value} {B newId initId : String} {c : String} {x m : Str} {j : Nat} {p p2 : Pos} (hZ : Z.ex c = C) (FB : ExcBaseFacts B newId initId bmB) (q : PySem.W.excIn X.K C bmB newId = true) (gC : X.mg x = some (.ref C)) (kC : PySem.W.keepIn X.K (.ref C) = true) (r : Raises X (.ref C)) (hg : Gl X x)
    (hdb : (x == ("__debug__" : Str)) = false := by decide) : VX X Z E (.Call (.Name x p) [.Constant (.str m) j p2] [] pos) (fun _ => pure ⟨c, []⟩) := pmk_weak (pmk_own FB q gC kC r hg hdb) fun σ H Q h => by
  obtain ⟨B, e, R, z⟩ := h
  exact z B (.ref C) none H (.refl R.sub R.row) ⟨by rw [hZ], .inl ⟨rfl, rfl⟩⟩
end
/-- the promise of a def that may raise; ex: where the classes of errors stand -/
def spE (w : World) (K : PySem.W.Frag) (C : Addr) (ex : String → Addr) (n : Nat) (f : List PV → M Rs) : Sp := fun vs H Q E => vs.length = n ∧ ∃ (Z : Zn) (B : Hp) (ps : List PV), ZC Z C w ∧ Z.ex = ex ∧ Same B H ∧ RowOk Z K B H ∧ DenL Z B ps vs ∧ (f ps).run (Post Z K B H Q) (ErOk Z K B H (some E))
structure CalE (P : Program) (w : World) (K : PySem.W.Frag) (mg : Str → Option Value) (base : Heap) (k : Nat) (x : Str) (sp : Sp) : Prop where
  ex : ∃ (f : Addr) (fd : FuncData) (ps : List Str), FnOk P w K mg base (L2.CX P w) k f fd ps sp ∧ mg x = some (.ref f) ∧ PySem.W.keepIn K (.ref f) = true ∧ Binds K fd ps []
section
variable {P : Program} {w : World} {K : PySem.W.Frag} {mg : Str → Option Value} {base : Heap}
theorem cal_E {C : Addr} {ex : String → Addr} {x : Str} {st : Stmt} {f : Addr} {fd : FuncData} {N ps : List Str} {k : Nat} {body : MS} (F : Def K mg x st f fd) (b : Binds K fd ps []) (S : FnScope N ps (C8.fnScope st))
    (hbody : ∀ (cdv : Value) (A : Around) (outer : List Env) (s : Shared) (H : Hp) (E : XK) (Z : Zn), ZC Z C w → Z.ex = ex → Room k (A.deeper (envOfC x (C8.fnScope st) s.heap.objs.size f cdv)) → VSs (cxOf (L2.CX P w) P w K mg base N x (C8.fnScope st) f cdv A outer s H E) Z (some E) (C8.fnBody st) body) :
    CalE P w K mg base (k + 1) x (spE w K C ex ps.length (fnV N.length ps.length body)) := by
  have q := F.fn.ex
  obtain ⟨oc, od, dV, kV, doc, pm, an, cdv, ct, osl, e, lk, hcd⟩ := q
  subst e
  refine ⟨f, _, ps, fn_of lk hcd S (fun vs H Q E h => h.1) (fun A outer s H vs Q E hr h => ?_), F.mgf, F.kp, b⟩
  obtain ⟨hl, Z, B, qs, hC, hX, sb, ro, d, q⟩ := h
  refine ⟨_, hbody cdv A outer s H E Z hC hX hr, B, H, B, qs.map .val ++ List.replicate (N.length - ps.length) .un, ⟨?_, .refl sb ro, ro, fun i p a h => ?_⟩, ?_⟩
  · have := start_rp (n := N.length - ps.length) sb ro d
    unfold L2.start
    rw [hl]
    exact this
  · have := List.mem_of_getElem? h
    rcases List.mem_append.mp this with z | z
    · obtain ⟨_, _, e⟩ := List.mem_map.mp z
      cases e
    · have := List.eq_of_mem_replicate z
      cases this
  · refine (body _).mono (fun fl p => ?_) (fun _ z => z) q
    cases fl with
    | rt r => exact p
    | nx e => exact fun B1 σ1 H1 R1 => p B1 .non H1 R1.st rfl
    | bk e => exact False.elim p
    | ct e => exact False.elim p
end
def mCallE (n : Nat) (f : List PV → M Rs) (ms : En → M (List PV)) : ME := fun e => do
  let ps ← ms e
  M.ask (ps.length = n)
  f ps
theorem r_callE {w : World} {Z : Zn} {K : PySem.W.Frag} {C : Addr} {ex : String → Addr} {F : XK} {n : Nat} {f : List PV → M Rs} {ms : En → M (List PV)} {σ : L2.St} {H : Hp} {Q : VK} (hC : ZC Z C w) (hX : Z.ex = ex) (h : up Z K (some F) (mCallE n f ms) σ H Q) : tCall (spE w K C ex n f) [] F (upA Z K (some F) ms) σ H Q := by
  obtain ⟨B, e, R, q⟩ := h
  refine ⟨B, e, R, (ms e).mono (fun ps p B1 vs H1 s1 hv => ?_) (fun _ z => z) q⟩
  obtain ⟨hl, p⟩ := p
  rw [List.append_nil]
  exact ⟨hv.len.symm.trans hl, Z, B1, ps, hC, hX, s1.s, s1.r, hv, (f ps).mono (fun _ z => z.step R.row s1) (fun _ z => z.step R.row s1) p⟩
theorem v_ce {X : Cx} {Z : Zn} {F : XK} {W : WX} {k j n : Nat} {C : Addr} {ex : String → Addr} {x : Str} {p pos : Pos} {e : Expr} {es : List Expr} {f : List PV → M Rs} {ms : En → M (List PV)} (hC : ZC Z C X.w) (hX : Z.ex = ex) (tk : Takes X W) (hW : ∀ cls d σ H, F cls d H → W cls d σ H) (cal : CalE X.prog X.w X.K X.mg X.base k x (spE X.w X.K C ex n f)) (hr : Room j X.A) (hk : k ≤ j) (hg : Gl X x) (ha : VA X Z (some F) (e :: es) ms)
    (hdb : (x == ("__debug__" : Str)) = false := by decide) (he : starEach (e :: es) X.env = (false, eval e X.env) :: starEach es X.env := by rfl) (hpl : (backTo pos (starEach es X.env)).any (·.1) = false := by rfl) : VE X Z (some F) (.Call (.Name x p) (e :: es) [] pos) (mCallE n f ms) := by
  obtain ⟨fa, fd, ps, G, hm, kp, b⟩ := cal.ex
  exact pe_weak (pe_call G (hr.mono hk) hg hm kp b .nil (passes_call tk hW) ha hdb he hpl) fun _ _ _ => r_callE hC hX
end

/-! ## the table alone changes, as a step -/
section
open PySem PySem.Spec PyProof.Rows PySem.W PySem.Calls LamX
section
variable {Z : Zn} {K : PySem.W.Frag} {E : Option XK} {B H H1 : Hp} {e : En} {σ : L2.St} {P : Addr} {q : Str}
theorem row_extP {p a : Addr} {ns : List Int} (R : Row K H p a ns) {ps : Array Value} (hP : H P = some (.tbl ps)) (x : ExtP P H H1) : Row K H1 p a ns := by
  obtain ⟨i, s, t, i0, h⟩ := R.at_
  refine ⟨?_, R.small, i, s, t, i0, x _ _ h fun z => by rw [z, hP] at h; cases h⟩
  rcases R.sc with ⟨o, ha⟩ | ha
  · exact .inl ⟨o, x _ _ ha fun z => by rw [z, hP] at ha; cases ha⟩
  · exact .inr ha
theorem step_tab (s : Same B H) (r : RowOk Z K B H) (hz : Z.tabs = [(P, q)]) (x : ExtP P H H1) (t : TabS H1 P q) : Step Z K B H B H1 := by
  obtain ⟨⟨ps, hP, _⟩, nb⟩ := r.tab (P, q) (by rw [hz]; exact List.mem_cons_self)
  refine ⟨Same.refl B, fun _ _ z => .inl z, fun a o z n => x a o z fun e => n (.inr ⟨q, by rw [hz, e]; exact List.mem_cons_self⟩), fun a o z => x a o (s a o z) fun e => ?_, fun p a ns z => ⟨row_extP (r.row p a ns z).1 hP x, (r.row p a ns z).2⟩, fun p hp => ?_⟩
  · rw [e] at z
    rw [z] at nb
    cases nb
  · rw [hz] at hp
    rw [List.mem_singleton.mp hp]
    exact ⟨t, nb⟩
end
end

/-! ## own errors; list of a dict's keys -/
section
open PySem.W PyProof.Rows PySem.Calls
/-- an own class of errors without an own __init__ -/
structure OwnErr (K : PySem.W.Frag) (mg : Str → Option Value) (x : Str) (C : Addr) : Prop where
  fb : ∃ (B newId initId : String) (bmB : List Value), ExcBaseFacts B newId initId bmB ∧ PySem.W.excIn K C bmB newId = true
  gC : mg x = some (.ref C)
  kC : PySem.W.keepIn K (.ref C) = true
  sb : PySem.W.subIn K (.ref C) (.type "BaseException") = some true
  ty : PySem.W.typeIn K (.ref C) = some (.type "type")
theorem vx_err {X : Cx} {Z : Zn} {E : Option XK} {ex : String → Addr} {c : String} {x m : Str} {j : Nat} {p p2 pos : Pos} (hX : Z.ex = ex) (O : OwnErr X.K X.mg x (ex c)) (hg : Gl X x) (hdb : (x == ("__debug__" : Str)) = false := by decide) :
    VX X Z E (.Call (.Name x p) [.Constant (.str m) j p2] [] pos) (fun _ => pure ⟨c, []⟩) := by
  obtain ⟨B, newId, initId, bmB, F, q⟩ := O.fb
  exact vx_own (by rw [hX]) F q O.gC O.kC (raises_own O.sb O.ty) hg hdb
def kPV : Key → PV
  | .inl i => .int i
  | .inr z => .str z
def listDP : PV → M Rs
  | .dct ks _ => pure (.own (.lst (ks.map kPV)))
  | _ => M.fail
theorem den_keys {Z : Zn} {B : Hp} : ∀ ks : List Key, DenL Z B (ks.map kPV) (ks.map kV)
  | [] => rfl
  | .inl i :: r => ⟨_, _, rfl, rfl, den_keys r⟩
  | .inr z :: r => ⟨_, _, rfl, rfl, den_keys r⟩
theorem ok_listD {Z : Zn} {K : PySem.W.Frag} {E : Option XK} : CaOk Z K E rListD (one listDP) := by
  intro B H rs vs Q s r ha q
  obtain ⟨x, v, rfl, hx, q⟩ := one_run ha q
  cases e : x.pv with
  | dct ks xs =>
    rw [e] at q
    obtain ⟨c, kvs, rfl, t, h1, d⟩ := hx.dct s e
    refine ⟨c, kvs, rfl, t, fun l n => post_own s r q n ⟨_, upd_same, ?_⟩⟩
    rw [← h1, show (kvs.map fun kv => kV kv.1) = (kvs.map (·.1)).map kV by rw [List.map_map]; rfl]
    exact den_keys _
  | _ =>
    rw [e] at q
    exact False.elim q
theorem vt_chain {X : Cx} {Z : Zn} {E : Option XK} {a b c : Expr} {pos : Pos} {o o' : CmpOp} {r r' : R2} {op op' : PV → PV → M Rs} {ma mb mc : ME} (hr : OpR X (compareOp o) r) (hr' : OpR X (compareOp o') r') (ho : OpOk Z X.K E r op) (ho' : OpOk Z X.K E r' op') (ha : VE X Z E a ma) (hb : VE X Z E b mb) (hc : VE X Z E c mc)
    (hm : lastMarks [o, o'] [b, c] = false := by with_unfolding_all rfl) : VT X Z E (.Compare a [o, o'] [b, c] pos) (mTst (mChain op op' ma mb mc)) := pt_weak (pt_chain hr hr' ha hb hc hm) fun _ _ _ h => r_chain ho ho' (r_tst h)
end

/-! ## a tuple, once or not at all -/
section
open PySem.W PyProof.Rows PySem.Calls PySem.MeetsSeq
theorem mul_one (l : Addr) (us : Array Value) (n : Nat) (dd : Option Addr) (sl : Array (Option Value)) (u : Tok) :
    Meets (Builtin.«tuple.__mul__» ⟨[.ref l, .int 1 u], []⟩) (fun _ R s => s.heap.get? l = some { cls := .type "tuple", dict := dd, data := .seq us n, slots := sl } ∧ R (.ok (.ret (Value.ref l))) s) :=
  .of_wp fun prog w A R s h => by
    obtain ⟨hp, g, d, tk, os⟩ := s
    obtain ⟨hl, h⟩ := h
    have f1 := AutoSeq1.idx_int
    wp_walk using AutoSeq1.wpAny_loadPart' hl
    repeat (first
      | (refine wpAny_ite_true (by simp) ?_; wp_walk using AutoSeq1.wpAny_loadPart' hl)
      | (refine wpAny_ite_false (by simp) ?_; wp_walk using AutoSeq1.wpAny_loadPart' hl))
    exact ⟨_, rfl, h⟩
theorem mul_zero (l : Addr) (us : Array Value) (n : Nat) (dd : Option Addr) (sl : Array (Option Value)) (u : Tok) (hi : us.isEmpty = false) :
    Meets (Builtin.«tuple.__mul__» ⟨[.ref l, .int 0 u], []⟩) (fun _ R s => s.heap.get? l = some { cls := .type "tuple", dict := dd, data := .seq us n, slots := sl } ∧
      R (.ok (.ret (Value.ref s.heap.objs.size))) { s with heap := s.heap.push { cls := Value.type "tuple", data := Data.seq #[] }, toks := s.toks }) :=
  .of_wp fun prog w A R s h => by
    obtain ⟨hp, g, d, tk, os⟩ := s
    obtain ⟨hl, h⟩ := h
    have f1 := AutoSeq1.idx_int
    wp_walk using AutoSeq1.wpAny_loadPart' hl
    repeat (first
      | (refine wpAny_ite_true (by simp [hi]) ?_; wp_walk using AutoSeq1.wpAny_loadPart' hl)
      | (refine wpAny_ite_false (by simp [hi]) ?_; wp_walk using AutoSeq1.wpAny_loadPart' hl))
    exact ⟨_, rfl, h⟩
def rRep01 (K : PySem.W.Frag) : R2 := fun x y H Q => ∃ (l : Addr) (k : Int) (xs : List V), x = .ref l ∧ y = .int k ∧ SqT K H l xs ∧ xs ≠ [] ∧ ((k = 0 ∧ NewT H [] Q) ∨ (k = 1 ∧ Q (.ref l) H))
theorem op_rep01 {X : Cx} : OpR X (binaryOp .Mult) (rRep01 X.K) := by
  rintro pins s σ H x y v u Q I rx ry ⟨l, k, xs, rfl, rfl, hT, ne, q⟩
  cases rx
  obtain ⟨t, rfl⟩ := ry
  obtain ⟨its, r, ⟨⟨cls, dd, data, sl⟩, ho, hc, n, hd⟩, hs⟩ := I.tuple hT
  simp only at hc hd
  subst hc hd
  have hi : its.toArray.isEmpty = false := by
    cases r with
    | nil => exact absurd rfl ne
    | cons a b => rfl
  have ty : s.TypeIs (Value.ref l) "tuple" := ⟨_, ho, rfl⟩
  rcases q with ⟨rfl, q⟩ | ⟨rfl, q⟩
  · refine wpAny_binaryOp_repeat_ref (T := "tuple") (U := "int") (by decide) ty (fun s' => typeIs_int s' _ t) noFill_tuple_mul F.fills_int_mul F.slot_int_rmul repeat_tuple F.slot_int_index.lookup
      (call_meets F.slot_int_rmul (typeIs_int s _ t) F.entry_int_rmul (F.args_int_rmul_2 _ _) (int_rmul_tuple _ t l its.toArray n dd sl)
        ⟨ho, rfl, ty, call_meets F.slot_tuple_mul ty F.entry_tuple_mul (F.args_tuple_mul_2 _ _) (mul_zero l its.toArray n dd sl t hi) ⟨ho, ?_⟩⟩)
    exact tup_done (its := []) I (Nat.zero_le _) .nil q
  · refine wpAny_binaryOp_repeat_ref (T := "tuple") (U := "int") (by decide) ty (fun s' => typeIs_int s' _ t) noFill_tuple_mul F.fills_int_mul F.slot_int_rmul repeat_tuple F.slot_int_index.lookup
      (call_meets F.slot_int_rmul (typeIs_int s _ t) F.entry_int_rmul (F.args_int_rmul_2 _ _) (int_rmul_tuple _ t l its.toArray n dd sl)
        ⟨ho, rfl, ty, call_meets F.slot_tuple_mul ty F.entry_tuple_mul (F.args_tuple_mul_2 _ _) (mul_one l its.toArray n dd sl t) ⟨ho, ?_⟩⟩)
    exact ⟨.ref l, H, I, rfl, q⟩
def mul01P : PV → PV → M Rs
  | .tup (x :: xs), .int k => if k = 0 then pure (.val (.tup [])) else if k = 1 then pure (.val (.tup (x :: xs))) else M.fail
  | _, _ => M.fail
theorem ok_rep01 {Z : Zn} {K : PySem.W.Frag} {E : Option XK} : OpOk Z K E (rRep01 K) mul01P := by
  intro B H a b x y Q s r ha hb q
  unfold mul01P at q
  split at q
  · rename_i z xs k ea eb
    obtain ⟨c, ys, rfl, t, d⟩ := ha.tup ea
    obtain rfl := hb.int eb
    refine ⟨c, k, ys, rfl, rfl, (t.same s).sqt, fun e => ?_, ?_⟩
    · have := d.len
      rw [e] at this
      cases this
    · split at q
      · rename_i e
        exact .inl ⟨e, post_tup s r q rfl⟩
      · split at q
        · rename_i e
          exact .inr ⟨e, post_val s r q ⟨c, ys, rfl, t, d⟩⟩
        · exact q.elim
  · exact q.elim
end

/-! ## several except clauses, each with a name or without -/
section
open PySem PySem.Spec PyProof.Rows PySem.W PySem.Calls
abbrev HTS := Addr → Value → Option Addr → TS
/-- behind the suite of a named clause: the name is gone -/
def goneD (i : Nat) (D : Ends) : Ends := ⟨fun τ G => D.nx (τ.set i none) G, D.rt, fun τ G => D.bk (τ.set i none) G, fun τ G => D.ct (τ.set i none) G⟩
/-- what one clause wishes -/
def wOne (o : Option Nat) (ts : HTS) (a : Addr) (cls : Value) (d : Option Addr) (D : Ends) (τ : L2.St) (G : Hp) : Prop := match o with
  | none => ts a cls d D τ G
  | some i => ts a cls d (goneD i D) (τ.set i (some (.ref a))) G
def wMix (K : PySem.W.Frag) (Wout : WX) (D : Ends) : List (Value × Option Nat × HTS) → WX
  | [] => Wout
  | (c, o, ts) :: r => fun cls d τ G => ∃ b, PySem.W.exmOne K cls c = some b ∧ (b = true → ∀ a, G a = none → wOne o ts a cls d D τ G) ∧ (b = false → wMix K Wout D r cls d τ G)
/-- a caught error on the ground: sI is the state without it -/
structure Lnd (X : Cx) (pins : List (Addr × Obj)) (τ : L2.St) (G : Hp) (a : Addr) (cls : Value) (d : Option Addr) (sI t : Shared) (B : Heap) : Prop where
  I : Inv X pins τ G sI
  nb : ∀ b o, sI.heap.get? b = some o → b ∉ frs X.stack → B.get? b = some o
  fl : HandSPX.FlyingZ B (X.env :: X.outer) a (Zc cls d) t.heap
  up : sI.heap.UpToSlots t.heap
  na : G a = none
  os : t.os = sI.os
  ag : AllBare t.gens
theorem notFrame {B h : Heap} {st : List Env} {a : Addr} {o : Obj} {vs : Array Value} (ff : h.FunFrames B st) (e : h.get? a = some o) (dd : o.data = .fields vs) : a ∉ frs st := fun z => by
  obtain ⟨_, o', e', no⟩ := ff.mem z
  cases e.symm.trans e'
  exact no _ dd
theorem Lnd.off {X : Cx} {pins : List (Addr × Obj)} {τ : L2.St} {G : Hp} {a : Addr} {cls : Value} {d : Option Addr} {sI t : Shared} {B : Heap} (L : Lnd X pins τ G a cls d sI t B) (hf : X.env.frame = some X.env.locals) : a ≠ X.env.locals ∧ a ∉ X.fs := by
  obtain ⟨oe, vs, he, hz, hd⟩ := L.fl.there
  have nf := notFrame L.fl.2.2.1 he hd
  refine ⟨fun z => nf (List.mem_filterMap.mpr ⟨X.env, List.mem_cons_self, by rw [hf, z]⟩), fun z => ?_⟩
  obtain ⟨e, he, q⟩ := List.mem_filterMap.mp z
  exact nf (List.mem_filterMap.mpr ⟨e, List.mem_cons_of_mem _ he, q⟩)
/-- what is asked of clauses: a caught error that wishes w is dealt with -/
def HBy (X : Cx) (tkw : WX) (hds : List ExceptHandler) (w : Ends → WX) : Prop := ∀ (pins : List (Addr × Obj)) (τ : L2.St) (G : Hp) (a : Addr) (cls : Value) (d : Option Addr) (sI t : Shared) (B : Heap) (D : Ends), X.Ok → Takes X tkw → X.stack = X.env :: X.outer → X.env.frame = some X.env.locals →
  Lnd X pins τ G a cls d sI t B → w D cls d τ G → wpAny (model X.prog X.w) X.A (handleBy (.ref a) X.env hds) (SP X pins D) X.xe t
theorem by_nil {X : Cx} {Wout : WX} : HBy X Wout [] (fun _ => Wout) := by
  intro pins τ G a cls d sI t B D ok tk hs hf L w
  refine wpAny_handleBy_nil ?_
  obtain ⟨_, _, _, oe, vs, T, oT, _, he, _, hd, h1, _⟩ := id L.fl
  have stp : wpAny (model X.prog X.w) X.A (setFlight (.ref a) X.env.frame) (fun _ t4 => wpAny (model X.prog X.w) X.A (throw (.ref a) : Sem Flow) (SP X pins D) X.xe t4) X.xe t := by
    rw [hf]
    refine HandSPX.setFlight_upZ L.fl fun h4 held u4 => wpAny_throw (tk _ _ ⟨a, B, sI, pins, τ, G, cls, d, rfl, L.I, L.nb, L.up.trans u4, .inr (.inr ?_), L.na, L.os, L.ag, w⟩)
    rw [hs]
    exact held
  unfold PySem.passOn
  refine wpAny_bind (wpAny_field he hd h1 ?_)
  have nn : ¬ ((Value.ref T == Value.none) = true) := by simp
  rw [if_neg nn]
  first
    | exact wpAny_bind stp
    | exact wpAny_bind (wpAny_pure (wpAny_bind stp))
theorem by_cons {X : Cx} {Wout : WX} {x : Str} {c : Value} {o : Option Nat} {on : Option Str} {ts : HTS} {b₀ : Stmt} {suite : List Stmt} {np pos' : Pos} {hds : List ExceptHandler} {w : Ends → WX} (hc : Names X x c)
    (hn : (o = none ∧ on = none) ∨ ∃ i n, o = some i ∧ on = some n ∧ X.N.Nodup ∧ X.N[i]? = some n ∧ X.env.kindOf n = some .local)
    (hsu : ∀ (a : Addr) (oe : Obj) (cls : Value) (d : Option Addr) (pn : List (Addr × Obj)), Zc cls d oe → (∃ vs, oe.data = .fields vs) → PSs (X.suite a ((a, oe) :: pn)) (b₀ :: suite) (ts a cls d)) (r : HBy X Wout hds w) :
    HBy X Wout (.ExceptHandler (some (.Name x np)) on (b₀ :: suite) pos' :: hds) (fun D cls d τ G => ∃ b, PySem.W.exmOne X.K cls c = some b ∧ (b = true → ∀ a, G a = none → wOne o ts a cls d D τ G) ∧ (b = false → w D cls d τ G)) := by
  intro pins τ G a cls d sI t B D ok tk hs hf L ⟨b, hb, yes, no⟩
  obtain ⟨nL, nF⟩ := L.off hf
  have It : Inv X pins τ G t := L.I.landed L.nb L.fl.1 L.up L.os L.ag
  obtain ⟨oe, vs, he, hz, hd⟩ := L.fl.there
  have St := It.suite he hd L.na nL nF
  refine wpAny_handleBy_cons (codeAny_handlers_test ?_) (by rintro ⟨⟩)
  have lk := PySem.W.exm_one (M := model X.prog X.w) It.kIn (fun A Q E s k q => wpAny_typeOf_ref (k _ _ he) (by rw [hz.1]; exact q)) hb
  have nam : ∀ {Q E : Value → Shared → Prop}, Q c t → wpAny (model X.prog X.w) (X.A.mark (some (.ref a))) (eval (.Name x np) X.env) Q E t := fun {Q E} q => by
    obtain ⟨hg, hdb, hm | ⟨hm, hv, hnn⟩⟩ := hc
    · exact ld_glob (X := X.suite a ((a, oe) :: (X.pn ++ pins))) St hg hm q hdb
    · exact ld_blt (X := X.suite a ((a, oe) :: (X.pn ++ pins))) St hg hm hv q hnn hdb
  refine nam (lk.here ?_)
  cases b with
  | false => exact r pins τ G a cls d sI t B D ok tk hs hf L (no rfl)
  | true =>
    have wish := yes rfl a L.na
    rcases hn with ⟨rfl, rfl⟩ | ⟨i, n, rfl, rfl, hN, hi, hln⟩
    · refine codeAny_handlers_suite (HandSPX.lands_againZ L.fl fun h4 fl4 u4 => ?_)
      obtain ⟨oe4, vs4, he4, hz4, hd4⟩ := fl4.there
      have S4 := (Inv.landed (s' := { t with heap := h4 }) L.I L.nb fl4.1 (L.up.trans u4) L.os L.ag).suite he4 hd4 L.na nL nF
      refine wpAny_mono ((hsu a oe4 cls d (X.pn ++ pins) hz4 ⟨_, hd4⟩).run [] _ _ G _ S4 wish) (fun f s6 z => ?_) (fun _ _ z => z.elim)
      cases f with
      | ret u => obtain ⟨v6, τ6, G6, S6, r6, q6⟩ := z; exact ⟨v6, τ6, G6, S6.unsuite ok, r6, q6⟩
      | next => obtain ⟨τ6, G6, S6, q6⟩ := z; exact ⟨τ6, G6, S6.unsuite ok, q6⟩
      | brk => obtain ⟨τ6, G6, S6, q6⟩ := z; exact ⟨τ6, G6, S6.unsuite ok, q6⟩
      | cont => obtain ⟨τ6, G6, S6, q6⟩ := z; exact ⟨τ6, G6, S6.unsuite ok, q6⟩
    · refine codeAny_handlers_suite_as (HandSPX.lands_againZ L.fl fun h4 fl4 u4 => ?_)
      obtain ⟨oe4, vs4, he4, hz4, hd4⟩ := fl4.there
      have S4 := (Inv.landed (s' := { t with heap := h4 }) L.I L.nb fl4.1 (L.up.trans u4) L.os L.ag).suite he4 hd4 L.na nL nF
      refine store_ok (X := X.suite a ((a, oe4) :: (X.pn ++ pins))) (v := .ref a) S4 hN hi (.inl hln) rfl (fun s5 S5 => ?_) (.inr hln)
      refine wpAny_mono ((hsu a oe4 cls d (X.pn ++ pins) hz4 ⟨_, hd4⟩).run [] s5 _ G _ S5 wish) (fun f s6 z => ?_) (fun _ _ z => z.elim)
      cases f with
      | ret u => obtain ⟨v6, τ6, G6, S6, r6, q6⟩ := z; exact gone_ok (S6.unsuite ok) hN hi hln fun s7 J => ⟨v6, τ6.set i none, G6, J, r6, q6⟩
      | next => obtain ⟨τ6, G6, S6, q6⟩ := z; exact gone_ok (S6.unsuite ok) hN hi hln fun s7 J => ⟨τ6.set i none, G6, J, q6⟩
      | brk => obtain ⟨τ6, G6, S6, q6⟩ := z; exact gone_ok (S6.unsuite ok) hN hi hln fun s7 J => ⟨τ6.set i none, G6, J, q6⟩
      | cont => obtain ⟨τ6, G6, S6, q6⟩ := z; exact gone_ok (S6.unsuite ok) hN hi hln fun s7 J => ⟨τ6.set i none, G6, J, q6⟩
theorem ps_try_mix {X : Cx} {body : List Stmt} {h₀ : ExceptHandler} {hds : List ExceptHandler} {pos : Pos} {tb : WX → TS} {Wout : WX} {w : Ends → WX} (hs : X.stack = X.env :: X.outer) (hf : X.env.frame = some X.env.locals) (tk : Takes X Wout)
    (hb : ∀ (W : WX) (pn : List (Addr × Obj)) (xe : Value → Shared → Prop), Takes (X.tr pn xe) W → PassesOwn (model X.prog X.w) X.A X.env xe → PSs (X.tr pn xe) body (tb W))
    (hh : HBy X Wout (h₀ :: hds) w) : PS X (.Try body (h₀ :: hds) [] [] pos) (fun D τ G => tb (w D) D τ G) := by
  constructor
  intro pins s τ G D I h
  have ok := I.ok
  have fr : X.A.frames = some (X.env :: X.outer) := by rw [ok.frames, hs]
  refine wpAny_Try_except (wpAny_mono ((hb (w D) (X.pn ++ pins) _ (fun u s' xx => ?_) PassesOwn.looking).run [] s τ G D (I.toTry _) h) (fun f s1 z => ?_) (fun e s1 he => he))
  · obtain ⟨a, B, sI, pins', τ', G', cls, d, rfl, J', nb, up, sky, na, os, ag, ww⟩ := xx
    rw [show (X.tr (X.pn ++ pins) _).stack = X.env :: X.outer from hs] at sky
    show wpAny (model X.prog X.w) X.A (noteFrame (.ref a) X.env) _ _ _
    refine Sky.land Zc.steady fr hf sky fun h3 fl3 u3 => ?_
    exact hh pins τ' G' a cls d sI { s' with heap := h3 } B D ok tk hs hf ⟨J'.ofTry ok, nb, fl3, up.trans u3, na, os, ag⟩ ww
  · cases f with
    | next => obtain ⟨τ', G', J, q⟩ := z; exact wpAny_execs_nil ⟨τ', G', J.ofTry ok, q⟩
    | ret u => obtain ⟨v, τ', G', J, r, q⟩ := z; exact ⟨v, τ', G', J.ofTry ok, r, q⟩
    | brk => obtain ⟨τ', G', J, q⟩ := z; exact ⟨τ', G', J.ofTry ok, q⟩
    | cont => obtain ⟨τ', G', J, q⟩ := z; exact ⟨τ', G', J.ofTry ok, q⟩
end

/-! ## an own error that keeps an int -/
section
open PySem.W PyProof.Rows PySem.Calls
/-- the promise of such an __init__ -/
def spSupI (C : Addr) (field : Str) : Sp := fun vs H Q _ => ∃ (x : Addr) (i : Int), vs = [.ref x, .int i] ∧ 0 ≤ i ∧ i < 1000 ∧ H x = some (exo x C none) ∧ ∀ dx, H dx = none → dx ≠ x → Q .non (upd (upd H dx (exd dx [(field, .int i)])) x (exo x C (some dx)))
theorem len_small {i : Int} (h0 : 0 ≤ i) (h : i < 1000) : (toString i : Str).length ≤ 10 := by
  have key : ∀ n < 1000, (toString ((n : Nat) : Int) : Str).length ≤ 10 := by decide +kernel
  obtain ⟨n, rfl⟩ : ∃ n : Nat, i = n := ⟨i.toNat, by omega⟩
  exact key n (by omega)
theorem log_small {i : Int} (h0 : 0 ≤ i) (h : i < 1000) : i.natAbs.log2 < 1920 := by
  have key : ∀ n < 1000, n.log2 < 1920 := by decide +kernel
  exact key _ (by omega)
end

/-! ## an own error that keeps two ints -/
section
open PySem.W PyProof.Rows PySem.Calls
/-- the promise of such an __init__, two ints -/
def spSupII (C : Addr) (f1 f2 : Str) : Sp := fun vs H Q _ => ∃ (x : Addr) (i i2 : Int), vs = [.ref x, .int i, .int i2] ∧ 0 ≤ i ∧ i < 1000 ∧ 0 ≤ i2 ∧ i2 < 1000 ∧ H x = some (exo x C none) ∧ ∀ dx, H dx = none → dx ≠ x → Q .non (upd (upd (upd H dx (exd dx [(f1, .int i)])) x (exo x C (some dx))) dx (exd dx [(f2, .int i2), (f1, .int i)]))
theorem vals3 {x1 x2 x3 : V} {us : List Value} (h : Vals [x1, x2, x3] us) : ∃ u1 u2 u3, us = [u1, u2, u3] ∧ RelV x1 u1 ∧ RelV x2 u2 ∧ RelV x3 u3 := by
  cases h with
  | cons r1 t => cases t with
    | cons r2 t => cases t with
      | cons r3 t => cases t with
        | nil => exact ⟨_, _, _, rfl, r1, r2, r3⟩
theorem inv_startS2 {P : Program} {w : World} {K : PySem.W.Frag} {mg : Str → Option Value} {base : Heap} {qual : Str} {scope : Scope} {f cc : Addr} {cd : Value} {A : Around} {outer : List Env} {s : Shared} {H : Hp} {u1 u2 u3 : Value} {v1 v2 v3 : V} {p2 p3 : Str} {h₀ : Heap} {tk : Nat} {cv : Option Value}
    (hk : scope.kind = .function) (hs : ∀ y, scope.names.lookup y = some .cell ∨ scope.names.lookup y = some .free → y = "__class__") (hs1 : scope.names.lookup ("self" : Str) = some .local) (hs2 : scope.names.lookup p2 = some .local) (hs3 : scope.names.lookup p3 = some .local) (np : ("self" : Str) ≠ p2) (nq : ("self" : Str) ≠ p3) (nr : p2 ≠ p3) (hd : A.handled = none) (e0 : Env0 P w K mg base A outer s H) (r1 : RelV v1 u1) (r2 : RelV v2 u2) (r3 : RelV v3 u3)
    (hcc : base.IsCell cc cv) (hns : h₀.Ns s.heap.objs.size (fun x => ([("self", u1), (p2, u2), (p3, u3)] : List (Str × Value)).reverse.lookup x)) (kp : ∀ b o, s.heap.get? b = some o → h₀.get? b = some o) :
    Inv (cxS P w K mg base ["self", p2, p3] qual scope f cd cc A outer s H) [] [some v1, some v2, some v3] H { s with heap := h₀, toks := tk } := by
  have noA : ∀ b : Addr, b ∉ (cxS P w K mg base ["self", p2, p3] qual scope f cd cc A outer s H).ex := fun b z => absurd (show b ∈ ([] : List Addr) from z) (by simp)
  have one : ∀ {y c}, (cxS P w K mg base ["self", p2, p3] qual scope f cd cc A outer s H).env.cells.lookup y = some c → y = ("__class__" : Str) ∧ c = cc := fun {y c} e => by
    have e : List.lookup y [(("__class__" : Str), cc)] = some c := e
    rw [List.lookup_cons] at e
    split at e
    · rename_i hb
      exact ⟨beq_iff_eq.mp hb, (Option.some.inj e).symm⟩
    · cases e
  obtain ⟨oc, hoc, hdc⟩ := id hcc
  refine ⟨⟨e0.mod, hk, rfl, rfl, Nat.le_refl _, fun y z c h1 h2 => (one h1).1.trans (one h2).1.symm, fun y hy => ?_, fun y c h _ => ?_, fun _ => hd, Around.frames_deeper e0.frames, .inr ⟨rfl, rfl⟩, fun b z => absurd z (noA b), e0.bs, e0.bsz, fun b _ _ => noA b, fun b z => absurd z (noA b), e0.funs, e0.frf⟩,
    rfl, e0.bare, Un.kept kp, ⟨_, hns, fun i y v h1 h2 h3 => ?_⟩, fun y c h => ⟨cv, oc, ?_, hdc⟩, e0.hok.fresh (Nat.le_refl _), fun y c h => ?_, fun p hp => absurd (show p ∈ ([] : List (Addr × Obj)) from hp) (by simp), e0.hok.kept kp, rfl⟩
  · have e := hs y hy
    subst e
    exact ⟨cc, by show List.lookup _ [(("__class__" : Str), cc)] = _; rw [List.lookup_cons, beq_self_eq_true]⟩
  · have h : false = true := h
    cases h
  · have np' : (p2 == ("self" : Str)) = false := beq_eq_false_iff_ne.mpr np.symm
    have nq' : (p3 == ("self" : Str)) = false := beq_eq_false_iff_ne.mpr nq.symm
    have nq2 : (("self" : Str) == p3) = false := beq_eq_false_iff_ne.mpr nq
    have nr2 : (p2 == p3) = false := beq_eq_false_iff_ne.mpr nr
    have np2 : (("self" : Str) == p2) = false := beq_eq_false_iff_ne.mpr np
    match i, h1, h2 with
    | 0, h1, h2 =>
      cases h1
      cases h2
      refine ⟨u1, r1, .inl ⟨hs1, ?_⟩⟩
      show List.lookup ("self" : Str) [(p3, u3), (p2, u2), (("self" : Str), u1)] = some u1
      rw [List.lookup_cons, nq2, List.lookup_cons, np2, List.lookup_cons, beq_self_eq_true]
    | 1, h1, h2 =>
      cases h1
      cases h2
      refine ⟨u2, r2, .inl ⟨hs2, ?_⟩⟩
      show List.lookup p2 [(p3, u3), (p2, u2), (("self" : Str), u1)] = some u2
      rw [List.lookup_cons, nr2, List.lookup_cons, beq_self_eq_true]
    | 2, h1, h2 =>
      cases h1
      cases h2
      refine ⟨u3, r3, .inl ⟨hs3, ?_⟩⟩
      show List.lookup p3 [(p3, u3), (p2, u2), (("self" : Str), u1)] = some u3
      rw [List.lookup_cons, beq_self_eq_true]
  · rw [(one h).2]
    exact kp _ _ (e0.bs _ _ hoc).1
  · rw [(one h).2]
    exact (e0.bs _ _ hoc).2
end

section
open PySem.W PyProof.Rows PySem.Calls
abbrev stI_InvalidText : Stmt := inClass (top 3) 0
theorem lookc_InvalidText : ∀ y, (defScope stI_InvalidText).names.lookup y = some .cell ∨ (defScope stI_InvalidText).names.lookup y = some .free → y = "__class__" := by
  intro y h
  rcases h with h | h
  · have q := PySem.mem_of_lookup h
    exact absurd q ((by decide +kernel : ∀ p ∈ (defScope stI_InvalidText).names, p.2 ≠ .cell) _ · rfl)
  · have q := PySem.mem_of_lookup h
    exact (by decide +kernel : ∀ p ∈ (defScope stI_InvalidText).names, p.2 = .free → p.1 = "__class__") _ q rfl
theorem fn_InvalidText {P : Program} {w : World} {K : PySem.W.Frag} {mg : Str → Option Value} {base : Heap} {CX : CXT} {C f : Addr} {fd : FuncData} (T : SupC P K mg C f fd "InvalidText.__init__" stI_InvalidText "row") (hno2 : findIn K (.ref C) "word" = some none) : FnOk P w K mg base CX 1 f fd ["self", "row", "word"] (spSupII C "row" "word") := by
  refine ⟨fun vs H Q E h => ?_, fun A outer s H args us vs Q E hr e0 hb r hsp => ?_⟩
  · obtain ⟨x, i, i2, rfl, _⟩ := h
    rfl
  · obtain ⟨x, i, i2, rfl, hz0, hz, hy0, hy, hx, hq⟩ := hsp
    obtain ⟨u1, u2, u3, rfl, r1, r2, r3⟩ := vals3 r
    obtain ⟨oc, od, osl, kV, doc, pm, ct, an, cda, cc, rfl, lk, hcd, ⟨ccl, cdd, vs', ccs, file, tf, hcode, hvs, hfile⟩, cl, cld, csl, hcell⟩ := T.fn
    have up : ∀ b o, base.get? b = some o → s.heap.get? b = some o := fun b o e => (e0.bs b o e).1
    have KX : K.In s.heap := e0.mod.kin.keeps up
    have lim : s.heap.NoLimit := e0.mod.nolimit.keeps up
    obtain rfl : u1 = Value.ref x := r1
    obtain ⟨hp, g, d, tk, os⟩ := s
    refine ks_codeAny_call_defAt (fd := ksFn "__init__" "InvalidText.__init__" (defArgs stI_InvalidText) (defBody stI_InvalidText) (defScope stI_InvalidText) .none kV doc pm an (.ref cda) ct cc) (body := defBody stI_InvalidText) (binds := [("self", .ref x), ("row", u2), ("word", u3)]) hr.depth (KX _ _ lk) rfl lim (codeRec_of KX hcd) rfl hb (show ∀ x ∈ (defScope stI_InvalidText).names, x.2 ≠ .cell by decide +kernel) (fun y hy => ?_) (fun h₀ hns hkp => ?_) rfl rfl rfl
    · rcases List.mem_cons.mp hy with e | hy
      · rw [e]; rfl
      · rcases List.mem_cons.mp hy with e | hy
        · rw [e]; rfl
        · rcases List.mem_cons.mp hy with e | hy
          · rw [e]; rfl
          · cases hy
    have I : Inv (cxS P w K mg base ["self", "row", "word"] "InvalidText.__init__" (defScope stI_InvalidText) f (.ref cda) cc A outer ⟨hp, g, d, tk, os⟩ H) [] [some (.ref x), some (.int i), some (.int i2)] H ⟨h₀, g, d, tk + 3, os⟩ :=
      inv_startS2 (cv := some (.ref C)) rfl lookc_InvalidText rfl rfl rfl (by decide +kernel) (by decide +kernel) (by decide +kernel) hr.hd e0 rfl r2 r3 ⟨_, e0.mod.kin _ _ hcell, rfl⟩ hns hkp
    show _root_.PySem.wpAt (model P w) (cxS P w K mg base ["self", "row", "word"] "InvalidText.__init__" (defScope stI_InvalidText) f (.ref cda) cc A outer ⟨hp, g, d, tk, os⟩ H).A (.func (defBody stI_InvalidText) (cxS P w K mg base ["self", "row", "word"] "InvalidText.__init__" (defScope stI_InvalidText) f (.ref cda) cc A outer ⟨hp, g, d, tk, os⟩ H).env) (execs (defBody stI_InvalidText) (cxS P w K mg base ["self", "row", "word"] "InvalidText.__init__" (defScope stI_InvalidText) f (.ref cda) cc A outer ⟨hp, g, d, tk, os⟩ H).env) _ _ ⟨h₀, g, d, tk + 3, os⟩
    refine ks_wpAt_execs_cons (ks_wpAt_Expr_any (ks_wpAt_MethodCall ?_))
    have kb : ∀ b o, base.get? b = some o → h₀.get? b = some o := fun b o e => hkp b o (up b o e)
    obtain ⟨cdC, hclC⟩ := T.cls
    obtain ⟨oD, hD1, hD2⟩ : ∃ oD, base.get? C = some oD ∧ oD.data = .cls cdC := by
      have hclC' := hclC
      unfold clsIn at hclC'
      split at hclC'
      · rename_i c d cd' sl ho
        cases hclC'
        exact ⟨_, e0.mod.kin _ _ ho, rfl⟩
      · cases hclC'
    refine ks_wpAt_super_base (env := (cxS P w K mg base ["self", "row", "word"] "InvalidText.__init__" (defScope stI_InvalidText) f (.ref cda) cc A outer ⟨hp, g, d, tk, os⟩ H).env) rfl rfl (by decide +kernel) rfl (kb _ _ (e0.mod.kin _ _ lk)) rfl rfl rfl (kb _ _ (e0.mod.kin _ _ hcode)) rfl hvs hfile T.top ?_
    obtain ⟨mb, hb1, hb2⟩ := e0.mod.blt
    refine ks_loadName_global rfl rfl (loadGlobal_builtin (e0.mod.glob.keeps kb) T.sn (hb1.keeps kb) ((hb2 "super" (by decide)).trans (by decide +kernel : bootBuiltins "super" = some (.type "super"))) ⟨rfl, ?_⟩)
    refine wpAny_loadName_free rfl rfl rfl ⟨_, kb _ _ (e0.mod.kin _ _ hcell), rfl⟩ ?_
    refine wpAny_loadName_local rfl rfl hns rfl ?_
    refine ks_wpAny_isType_cls (kb _ _ hD1) hD2 ⟨rfl, ?_⟩
    obtain ⟨t1, hx0⟩ := exo_at I.hok hx
    refine ks_wpAny_call_super (kb _ _ hD1) hD2 hx0 rfl (fun c e => by cases e) (looks_mroIn (e0.mod.kin.keeps kb) T.isC) (fun h1 hso k1 => ?_)
    have I1 := I.kept (h' := h1) (t' := tk + 3) k1
    have X1 : K.In h1 := I1.kIn
    obtain ⟨t2, hx1⟩ := exo_at I1.hok hx
    have IA : InstAt h1 x _ C none := ⟨hx1, rfl, rfl, trivial⟩
    have hsup := T.sup
    unfold ks_superIn at hsup
    rw [hclC] at hsup
    refine kxs_getMethod kxs_ValueError hso (looks_opaque X1 T.thr) (l₀ := cdC.mro) (fun A Q E s k q => wpAny_bind ((looks_clsIn X1 hclC) A _ E s k (wpAny_pure q))) rfl X1 hsup (IA.type.andThen (looks_subIn X1 T.isV)) (ks_ne X1 IA hclC) (by decide) ?_
    have k2 : ∀ b o, h1.get? b = some o → (h1.push (kxs_mw "ValueError.__init__" x)).get? b = some o := fun b o e => Heap.get?_push_of_some _ e
    have I2 := I1.kept (h' := h1.push (kxs_mw "ValueError.__init__" x)) (t' := tk + 3 + 1) k2
    have hu : (h1.push (kxs_mw "ValueError.__init__" x)).get? h1.objs.size = some (kxs_mw "ValueError.__init__" x) := Heap.get?_push_at rfl rfl
    have nL : h1.objs.size ≠ hp.objs.size := fun e => by
      have q := Heap.lt_size (k1 _ _ (hkp _ _ (up _ _ hD1)))
      have q2 := I1.lt
      have q2 : hp.objs.size < h1.objs.size := q2
      omega
    have I3 : Inv (cxS P w K mg base ["self", "row", "word"] "InvalidText.__init__" (defScope stI_InvalidText) f (.ref cda) cc A outer ⟨hp, g, d, tk, os⟩ H) [(h1.objs.size, kxs_mw "ValueError.__init__" x)] [some (.ref x), some (.int i), some (.int i2)] H ⟨h1.push (kxs_mw "ValueError.__init__" x), g, d, tk + 3 + 1, os⟩ :=
      I2.pins_of fun p hp' => by
        obtain rfl := List.mem_singleton.mp hp'
        exact ⟨hu, I1.hok.fresh (Nat.le_refl _), nL, I1.nofs (Nat.le_refl _), fun v e => by cases e⟩
    refine kxs_callWith (i := "ValueError.__init__") (x := x) rfl (evalArgs_plain ?_)
    have pa := pa_cons (X := cxS P w K mg base ["self", "row", "word"] "InvalidText.__init__" (defScope stI_InvalidText) f (.ref cda) cc A outer ⟨hp, g, d, tk, os⟩ H) (pe_joined (pos := ⟨12, 25, 12, 67⟩) (.cons (pe_str (x := "word ") (j := 0) (pos := ⟨12, 27, 12, 32⟩)) (.cons (pe_fmt (pos := ⟨12, 32, 12, 38⟩) (pv 2 (x := "word") (pos := ⟨12, 33, 12, 37⟩))) (.cons (pe_str (x := " of row ") (j := 0) (pos := ⟨12, 38, 12, 46⟩)) (.cons (pe_fmt (pos := ⟨12, 46, 12, 51⟩) (pv 1 (x := "row") (pos := ⟨12, 47, 12, 50⟩))) (.cons (pe_str (x := " cannot be such") (j := 0) (pos := ⟨12, 51, 12, 66⟩)) .nil)))))) pa_nil
    have l0 : (Str.empty ++ ("word " : Str)).length = 5 := by decide +kernel
    have l1 : (" of row " : Str).length = 8 := by decide +kernel
    have l2 : (" cannot be such" : Str).length = 15 := by decide +kernel
    have li := len_small hz0 hz
    have li2 := len_small hy0 hy
    refine wpAny_mono (pa.run ⟨12, 8, 12, 68⟩ _ _ _ _ (fun vs H1 => H1 = H ∧ ∃ y, vs = [.str y]) I3 ?_) (fun us s2 hh => ?_) fun _ _ z => z.elim
    · refine ⟨_, rfl, by rw [l0]; decide, _, rfl, .inr ⟨i2, rfl, log_small hy0 hy, toString i2, rfl, ?_, _, rfl, ?_, _, rfl, .inr ⟨i, rfl, log_small hz0 hz, toString i, rfl, ?_, _, rfl, ?_, rfl, _, rfl⟩⟩⟩
      · rw [str_len_app, l0]; exact small_len (by omega)
      · rw [str_len_app, str_len_app, l0, l1]; exact small_len (by omega)
      · rw [str_len_app, str_len_app, str_len_app, l0, l1]; exact small_len (by omega)
      · rw [str_len_app, str_len_app, str_len_app, str_len_app, l0, l1, l2]; exact small_len (by omega)
    · obtain ⟨vs, H1, J, rv, rfl, y, rfl⟩ := hh
      obtain ⟨uy, rfl, ry⟩ := vals1 rv
      obtain ⟨hp2, g2, d2, tk2, os2⟩ := s2
      have hu2 : hp2.get? h1.objs.size = some (kxs_mw "ValueError.__init__" x) := (J.pin _ (List.mem_append_right _ List.mem_cons_self)).1
      refine ⟨hu2, ?_⟩
      obtain ⟨nm, q, N, bs, bm, sn, sub, ab, col, dd, k0, k1', k2', k3, k5, hC, hbm⟩ := T.ex.cls
      obtain ⟨t3, hx3⟩ := exo_at J.hok hx
      refine call_bwV (J.kIn _ _ hC) hx3 hu2 (by show 1 ≤ sizeLine; decide) fun h' t4 kk hx4 => ?_
      have J2 := (inv_unpin J).write (t' := tk2) (x := x) (e := x) (o := exo x C none) (by rw [hx]; exact True.intro) (.inl rfl) kk ⟨_, hx4⟩ (exo_ok hx4)
      have eu : upd H1 x (exo x C none) = H1 := by
        funext b
        by_cases hb : b = x
        · rw [hb, upd_same, hx]
        · rw [upd_ne hb]
      rw [eu] at J2
      refine wpAt_of_wpAny ?_
      refine wpAny_mono ((pss_cons (X := cxS P w K mg base ["self", "row", "word"] "InvalidText.__init__" (defScope stI_InvalidText) f (.ref cda) cc A outer ⟨hp, g, d, tk, os⟩ H1) (ps_ost (pv 0) (pv 1)) (pss_one (ps_ost (pv 0) (pv 2)))).run [] _ _ _ { nx := fun _ H' => Q .non H', rt := Q } J2 ?_) (fun fl s3 hs => ?_) fun _ _ z => z.elim
      · refine ⟨_, rfl, _, rfl, x, C, rfl, T.ex, T.no, .inl ⟨hx, fun dx hdx nd => ?_⟩⟩
        refine ⟨_, rfl, _, rfl, x, C, rfl, T.ex, hno2, .inr ⟨dx, [("row", .int i)], upd_same, (upd_ne nd).trans upd_same, by show 1 ≤ 900; decide, ?_⟩⟩
        exact hq dx hdx nd
      · cases fl with
        | next =>
          obtain ⟨σ', H', J3, q3⟩ := hs
          exact ⟨.non, H', J3.os, J3.bare, J3.base, J3.hok, rfl, q3⟩
        | ret u =>
          obtain ⟨v, σ', H', J3, rv, q3⟩ := hs
          exact ⟨v, H', J3.os, J3.bare, J3.base, J3.hok, rv, q3⟩
        | brk =>
          obtain ⟨_, _, _, q⟩ := hs
          exact q.elim
        | cont =>
          obtain ⟨_, _, _, q⟩ := hs
          exact q.elim
end

/-! ## try with clauses that hand back something, over values -/
section
open PySem PySem.Spec PySem.W PyProof.Rows PySem.Calls
inductive TI where
  | c (w : Str) | f (x : Str)
inductive TK2 where
  | non | wd (w : Str) | fd (x : Str) | tp (l : List TI)
def tiV (fs : List (Str × V)) : List TI → Option (List V)
  | [] => some []
  | .c w :: r => match tiV fs r with
    | some vs => some (.str w :: vs)
    | none => none
  | .f x :: r => match fs.lookup x, tiV fs r with
    | some v, some vs => some (v :: vs)
    | _, _ => none
def vPV : V → Option PV
  | .int i => some (.int i)
  | .str z => some (.str z)
  | _ => none
def fdP (fs : List (Str × V)) (x : Str) : Option PV := match fs.lookup x with
  | some v => vPV v
  | none => none
def tiP (fs : List (Str × V)) : List TI → Option (List PV)
  | [] => some []
  | .c w :: r => match tiP fs r with
    | some vs => some (.str w :: vs)
    | none => none
  | .f x :: r => match fdP fs x, tiP fs r with
    | some v, some vs => some (v :: vs)
    | _, _ => none
theorem vPV_den {Z : Zn} {B : Hp} {v : V} {p : PV} (h : vPV v = some p) : Den Z B p v := by
  cases v with
  | int i =>
    cases h
    exact rfl
  | str z =>
    cases h
    exact rfl
  | _ => cases h
theorem fdP_den {Z : Zn} {B : Hp} {fs : List (Str × V)} {x : Str} {p : PV} (h : fdP fs x = some p) : ∃ v, fs.lookup x = some v ∧ Den Z B p v := by
  unfold fdP at h
  split at h
  · rename_i v e
    exact ⟨v, e, vPV_den h⟩
  · cases h
theorem tiP_den {Z : Zn} {B : Hp} {fs : List (Str × V)} : ∀ {l : List TI} {ps : List PV}, tiP fs l = some ps → ∃ vs, tiV fs l = some vs ∧ DenL Z B ps vs
  | [], ps, h => by
    cases h
    exact ⟨[], rfl, rfl⟩
  | .c w :: r, ps, h => by
    unfold tiP at h
    split at h
    · rename_i qs e
      cases h
      obtain ⟨vs, e1, d⟩ := tiP_den (B := B) (Z := Z) e
      refine ⟨.str w :: vs, ?_, _, _, rfl, rfl, d⟩
      unfold tiV
      rw [e1]
    · cases h
  | .f x :: r, ps, h => by
    unfold tiP at h
    split at h
    · rename_i p qs e0 e
      cases h
      obtain ⟨vs, e1, d⟩ := tiP_den (B := B) (Z := Z) e
      obtain ⟨v, e2, d2⟩ := fdP_den (B := B) (Z := Z) e0
      refine ⟨v :: vs, ?_, _, _, rfl, d2, d⟩
      unfold tiV
      rw [e2, e1]
    · cases h
def tk2 (k : TK2) (x : Ex) : Option PV := match k with
  | .non => some .non
  | .wd w => some (.str w)
  | .fd f => fdP x.fs f
  | .tp l => if x.fs.isEmpty = true then none else match tiP x.fs l with
    | some ps => some (.tup ps)
    | none => none
def tld2 : List (String × TK2) → Ex → Option PV
  | [], _ => none
  | (c, k) :: r, x => if x.c = c then tk2 k x else tld2 r x
def WdOne2 (k : TK2) (d : Option Addr) (H : Hp) (Q : VK) : Prop := match k with
  | .non => Q .non H
  | .wd w => Q (.str w) H
  | .fd f => ∃ (dd : Addr) (fs : List (Str × V)) (v : V), d = some dd ∧ H dd = some (.xd fs) ∧ fs.lookup f = some v ∧ Q v H
  | .tp l => ∃ (dd : Addr) (fs : List (Str × V)) (vs : List V), d = some dd ∧ H dd = some (.xd fs) ∧ tiV fs l = some vs ∧ ∀ H2, Same H H2 → NewT H2 vs Q
def WdOf2 (ex : String → Addr) : List (String × TK2) → Value → Option Addr → Hp → VK → Prop
  | [], _, _, _, _ => False
  | (c, k) :: r, cls, d, H, Q => (cls = .ref (ex c) ∧ WdOne2 k d H Q) ∨ WdOf2 ex r cls d H Q
theorem wd_of2 {Z : Zn} {K : PySem.W.Frag} {ex : String → Addr} {B H : Hp} {Q : VK} {cls : Value} {d : Option Addr} (hX : Z.ex = ex) (s : Same B H) (r : RowOk Z K B H) {x : Ex} {p : PV} (a : ExAt Z x cls d H) (q : Post Z K B H Q (.val p)) : ∀ {l : List (String × TK2)}, tld2 l x = some p → WdOf2 ex l cls d H Q
  | [], h => nomatch h
  | (c, k) :: l, h => by
    unfold tld2 at h
    split at h
    · rename_i ec
      obtain ⟨a1, a2⟩ := a
      refine .inl ⟨by rw [a1, hX, ec], ?_⟩
      have nil_fd : ∀ f, x.fs = [] → fdP x.fs f = none := fun f e => by rw [e]; rfl
      cases k with
      | non =>
        cases h
        exact q B _ H (.refl s r) rfl
      | wd w =>
        cases h
        exact q B _ H (.refl s r) rfl
      | fd f =>
        obtain ⟨v, e1, dv⟩ := fdP_den (Z := Z) (B := B) h
        rcases a2 with ⟨n, _⟩ | ⟨_, dd, rfl, h2⟩
        · have h : fdP x.fs f = some p := h
          rw [nil_fd f n] at h
          cases h
        · exact ⟨dd, x.fs, v, rfl, h2, e1, q B v H (.refl s r) dv⟩
      | tp l' =>
        have h : (if x.fs.isEmpty = true then none else match tiP x.fs l' with | some ps => some (PV.tup ps) | none => none) = some p := h
        split at h
        · cases h
        · rename_i ne
          split at h
          · rename_i ps e
            cases h
            rcases a2 with ⟨n, rfl⟩ | ⟨_, dd, rfl, h2⟩
            · exact absurd (by rw [n]; rfl) ne
            · obtain ⟨vs, e1, dv⟩ := tiP_den (Z := Z) (B := B) e
              refine ⟨dd, x.fs, vs, rfl, h2, e1, fun H2 sm => ?_⟩
              have s2 := step_ext s r sm
              exact post_tup s2.s s2.r (Post.step r s2 q) (DenL.mono s2.b dv)
          · cases h
    · exact .inr (wd_of2 hX s r a q h)
def mTry (l : List (String × TK2)) (m : ME) : MS := fun e => ⟨fun Q _ => (m e).run (fun _ => Q (.nx e)) (fun x => ∃ p, tld2 l x = some p ∧ Q (.rt (.val p))), fun k _ h => (m e).mono (fun _ z => k _ z) (fun _ ⟨p, z1, z2⟩ => ⟨p, z1, k _ z2⟩) h⟩
theorem try_ok {l : List (String × TK2)} {m : ME} {e : En} {r : Rs} (h : m e = pure r) : mTry l m e = pure (.nx e) := M.ext fun Q E => by
  show (m e).run _ _ ↔ _
  rw [h]
  exact Iff.rfl
theorem try_throw {l : List (String × TK2)} {m : ME} {e : En} {x : Ex} {p : PV} (h : m e = M.throw x) (ht : tld2 l x = some p) : mTry l m e = pure (.rt (.val p)) := M.ext fun Q E => by
  show (m e).run _ _ ↔ _
  rw [h]
  exact ⟨fun ⟨p', e', q⟩ => by rw [ht] at e'; cases e'; exact q, fun q => ⟨p, ht, q⟩⟩
theorem xe_len3 {X : Cx} {W : WX} {n : Nat} {u : Value} {s' : Shared} (hn : X.N.length = n) (x : L2.XE X (fun cls d σ' H' => σ'.length = n → W cls d σ' H') u s') : L2.XE X W u s' := by
  obtain ⟨a, B, sI, pins, σ, H, cls, d, e, J, nb, up, sky, na, os, ag, w⟩ := x
  exact ⟨a, B, sI, pins, σ, H, cls, d, e, J, nb, up, sky, na, os, ag, w (J.len.trans hn)⟩
theorem vs_try {X : Cx} {Z : Zn} {E : Option XK} {ex : String → Addr} {l : List (String × TK2)} {call : Expr} {p pos : Pos} {h₀ : ExceptHandler} {hds : List ExceptHandler} {w : Ends → WX} {m : ME} (hX : Z.ex = ex) (hs : X.stack = X.env :: X.outer) (hf : X.env.frame = some X.env.locals)
    (hb : ∀ (W : WX) (pn : List (Addr × Obj)) (xe : Value → Shared → Prop) (F : XK), Takes (X.tr pn xe) W → (∀ cls d σ H, F cls d H → W cls d σ H) → VE (X.tr pn xe) Z (some F) call m) (hsw : ∀ (pn : List (Addr × Obj)) (xe : Value → Shared → Prop), swapsWith call none p.line (X.tr pn xe).env = pure false)
    (hh : HBy X (fun _ _ _ _ => False) (h₀ :: hds) w) (hw : ∀ (D : Ends) (cls : Value) (d : Option Addr) (σ : L2.St) (H : Hp), σ.length = X.N.length → WdOf2 ex l cls d H D.rt → w D cls d σ H) :
    VS X Z E (.Try [.Expr call p] (h₀ :: hds) [] [] pos) (mTry l m) := by
  refine ⟨fun pins s σ H D I h => ?_⟩
  refine (ps_try_mix (tb := fun W D σ H => σ.length = X.N.length ∧ up Z X.K (some fun cls d H' => ∀ σ' : L2.St, σ'.length = X.N.length → W cls d σ' H') m σ H (fun _ H' => D.nx σ H')) hs hf L2.takes0 (fun W pn xe tk _ => ?_) hh).run pins s σ H D I ⟨I.len, ?_⟩
  · refine ⟨fun pins s' σ H' D I ⟨hl, h'⟩ => ?_⟩
    exact (pss_one (ps_expr (hb (fun cls d σ' H' => σ'.length = X.N.length → W cls d σ' H') pn xe (fun cls d H' => ∀ σ' : L2.St, σ'.length = X.N.length → W cls d σ' H') (fun u s' x => tk u s' (xe_len3 rfl x)) (fun cls d σ H' k hl => k σ hl)) (hsw pn xe))).run pins s' σ H' D I h'
  · obtain ⟨B0, H0, B, e, R, q⟩ := h
    have q : (m e).run (fun _ => FlOk Z X.K B0 H0 D (.nx e)) (fun x => ∃ p, tld2 l x = some p ∧ FlOk Z X.K B0 H0 D (.rt (.val p))) := q
    refine ⟨B, e, R.rp, (m e).mono (fun r z B' v H' st _ => z B' σ H' (R.step st)) (fun x z B' cls d H' st ea σ' hl => ?_) q⟩
    obtain ⟨p, z1, z2⟩ := z
    exact hw D cls d σ' H' hl (wd_of2 hX st.s st.r ea (fun B2 v H2 s2 hd => z2 B2 v H2 ((R.st.trans R.r0 st).trans R.r0 s2) hd) z1)
/-! the fields of a caught error, read -/
def tiT (a : Addr) (cls : Value) (d : Option Addr) (C : Addr) (i : Nat) : List TI → TA
  | [] => tNil
  | .c w :: r => tCons (tC (.str w)) (tiT a cls d C i r)
  | .f x :: r => tCons (tXf a cls d C x (tVar i)) (tiT a cls d C i r)
theorem tiT_run {a C dd : Addr} {i : Nat} {fs : List (Str × V)} {σ : L2.St} {H : Hp} (hi : σ[i]? = some (some (.ref a))) (hd : H dd = some (.xd fs)) : ∀ {l : List TI} {vs : List V} {Q : List V → Hp → Prop}, tiV fs l = some vs → Q vs H → tiT a (.ref C) (some dd) C i l σ H Q
  | [], vs, Q, h, q => by
    cases h
    exact q
  | .c w :: r, vs, Q, h, q => by
    unfold tiV at h
    split at h
    · rename_i us e
      cases h
      exact tiT_run (Q := fun us H' => Q (.str w :: us) H') hi hd e q
    · cases h
  | .f x :: r, vs, Q, h, q => by
    unfold tiV at h
    split at h
    · rename_i v us e0 e
      cases h
      exact ⟨.ref a, hi, rfl, rfl, dd, fs, v, rfl, hd, e0, tiT_run (Q := fun us H' => Q (v :: us) H') hi hd e q⟩
    · cases h
end

/-! ## an own error that keeps two ints; a house that cannot be such -/
section
open PySem.W PyProof.Rows PySem.Calls
/-- an own class of errors whose __init__ keeps two ints -/
structure OwnErrII (P : Program) (w : World) (K : PySem.W.Frag) (mg : Str → Option Value) (base : Heap) (x : Str) (f1 f2 : Str) (C : Addr) : Prop where
  T : OexC K C
  ini : ∃ fI fd, findIn K (.ref C) "__init__" = some (some (.ref fI)) ∧ typeIn K (.ref fI) = some (.type "function") ∧ FnOk P w K mg base C8.CX0 1 fI fd ["self", f1, f2] (spSupII C f1 f2) ∧ Binds K fd ["self", f1, f2] []
  gC : mg x = some (.ref C)
def fldII (c : String) (f1 f2 : Str) : PV → PV → M Ex
  | .int i, .int j => do
    M.ask ((0 ≤ i ∧ i < 1000) ∧ (0 ≤ j ∧ j < 1000))
    pure ⟨c, [(f2, .int j), (f1, .int i)]⟩
  | _, _ => M.fail
def mFldII (c : String) (f1 f2 : Str) (m n : ME) : En → M Ex := fun e => do
  let r ← m e
  let q ← n e
  fldII c f1 f2 r.pv q.pv
theorem vx_fld2 {X : Cx} {Z : Zn} {E : Option XK} {ex : String → Addr} {c : String} {x f1 f2 : Str} {j : Nat} {a b : Expr} {m n : ME} {p pos : Pos} (hX : Z.ex = ex) (O : OwnErrII X.prog X.w X.K X.mg X.base x f1 f2 (ex c)) (hr : Room j X.A) (hj : 2 ≤ j) (hg : Gl X x) (he : VE X Z E a m) (he2 : VE X Z E b n) (hdb : (x == ("__debug__" : Str)) = false := by decide)
    (hs1 : starEach [b] X.env = (false, eval b X.env) :: starEach [] X.env := by rfl) (hs : starEach [a, b] X.env = (false, eval a X.env) :: starEach [b] X.env := by rfl) (hpl : (backTo pos (starEach [b] X.env)).any (·.1) = false := by rfl) : VX X Z E (.Call (.Name x p) [a, b] [] pos) (mFldII c f1 f2 m n) := by
  obtain ⟨fI, fd, iC, tI, F, hb⟩ := O.ini
  refine pmk_weak (pmk_oex O.T iC tI F (hr.mono hj) hb .nil C8.pass0 hg O.gC (vp_cons he (vp_cons he2 vp_nil (hs := hs1)) (hs := hs)) hdb hs hpl) fun σ H W h => ?_
  obtain ⟨B, e, R, q⟩ := h
  refine ⟨B, e, R, ?_⟩
  refine (m e).mono (fun r z => ?_) (fun _ z => z) q
  refine (n e).mono (fun r2 z B' vs H' s hv => ?_) (fun _ z => z) z
  cases hv with
  | cons hx hn =>
  cases hn with
  | cons hy hn =>
  cases hn
  have z : (fldII c f1 f2 r.pv r2.pv).run _ _ := z
  cases er : r.pv with
  | int i =>
    cases er2 : r2.pv with
    | int i2 =>
      rw [er, er2] at z
      obtain ⟨⟨⟨h0, h1⟩, g0, g1⟩, z⟩ := z
      obtain rfl := hx.int er
      obtain rfl := hy.int er2
      refine ⟨by show 2 ≤ 1000; decide, fun b' nb => ⟨b', i, i2, rfl, h0, h1, g0, g1, upd_same, fun dx hdx nd => ?_⟩⟩
      have n1 : H' dx = none := by
        rw [upd_ne nd] at hdx
        exact hdx
      refine ⟨rfl, dx, [(f2, .int i2), (f1, .int i)], (upd_ne (Ne.symm nd)).trans upd_same, upd_same, n1, ?_⟩
      have eq : upd (del (upd (upd (upd (upd H' b' (exo b' (ex c) none)) dx (exd dx [(f1, .int i)])) b' (exo b' (ex c) (some dx))) dx (exd dx [(f2, .int i2), (f1, .int i)])) b') dx (.xd [(f2, .int i2), (f1, .int i)]) = upd H' dx (.xd [(f2, .int i2), (f1, .int i)]) := by
        funext y
        by_cases hy : y = dx
        · rw [hy, upd_same, upd_same]
        · rw [upd_ne hy, upd_ne hy]
          by_cases hz : y = b'
          · rw [hz, del_same, nb]
          · rw [del_ne hz, upd_ne hy, upd_ne hz, upd_ne hy, upd_ne hz]
      rw [eq]
      exact z B' _ _ _ (s.trans R.row (Step.own s.s s.r n1)) ⟨by rw [hX], .inr ⟨by simp, dx, rfl, upd_same⟩⟩
    | _ =>
      rw [er, er2] at z
      exact False.elim z
  | _ =>
    rw [er] at z
    exact False.elim z
def houseEP : List PV → M Rs
  | [.tup ns, .tup ss, .dct ks xs] => match strsP ns, strsP ss, kdP ks xs with
    | some names, some signs, some kd => match housePart names signs kd with
      | none => houseP [.tup ns, .tup ss, .dct ks xs]
      | some part => do
        M.ask ((∀ z ∈ names, z.length ≤ 1000) ∧ names.length ≤ 1000 ∧ (∀ z ∈ signs, z.length ≤ 1000) ∧ signs.length ≤ 1000 ∧ ∀ q ∈ kd, q.2.fine)
        M.throw ⟨"InvalidHouse", [("part", .str part)]⟩
    | _, _, _ => M.fail
  | _ => M.fail
def mHouseE (ms : En → M (List PV)) : ME := fun e => do
  let ps ← ms e
  houseEP ps
theorem houseEP_run {ps : List PV} {Q : Rs → Prop} {F : Ex → Prop} (h : (houseEP ps).run Q F) : (houseP ps).run Q F ∨ ∃ names signs kd ks xs part, ps = [.tup (names.map .str), .tup (signs.map .str), .dct ks xs] ∧ kdP ks xs = some kd ∧ housePart names signs kd = some part ∧
    (∀ z ∈ names, z.length ≤ 1000) ∧ names.length ≤ 1000 ∧ (∀ z ∈ signs, z.length ≤ 1000) ∧ signs.length ≤ 1000 ∧ (∀ q ∈ kd, q.2.fine) ∧ F ⟨"InvalidHouse", [("part", .str part)]⟩ := by
  unfold houseEP at h
  split at h
  · split at h
    · rename_i names signs kd h1 h2 h3
      split at h
      · exact .inl h
      · rename_i part hp
        obtain ⟨⟨i1, i2, i3, i4, i5⟩, q⟩ := h
        rw [strsP_eq h1, strsP_eq h2]
        exact .inr ⟨names, signs, kd, _, _, part, rfl, h3, hp, i1, i2, i3, i4, i5, q⟩
    · exact False.elim h
  · exact False.elim h
theorem r_houseE {Z : Zn} {K : PySem.W.Frag} {σ : L2.St} {H : Hp} {CI : Addr} {Eh : XK} {ms : En → M (List PV)} {Q : VK} (hI : Z.ex "InvalidHouse" = CI) (h : up Z K (some Eh) (mHouseE ms) σ H Q) : tMake Z.C (spHInit Z.C CI) [] Eh (upA Z K (some Eh) ms) σ H Q := by
  obtain ⟨B, e, R, q⟩ := h
  refine ⟨B, e, R, (ms e).mono (fun ps p B1 vs H1 s1 hv => ?_) (fun _ z => z) q⟩
  rcases houseEP_run p with p | ⟨names, signs, kd, ks, xs, part, rfl, hk, hp0, z1, z2, z3, z4, z5, pq⟩
  · skip
    obtain ⟨names, signs, kd, ks, xs, rfl, hk, ok, l1, l2, pq⟩ := houseP_run p
    obtain ⟨v1, r1, rfl, ⟨nm, ys, rfl, tn, dn⟩, v2, r2, rfl, ⟨sg, zs, rfl, ts, ds⟩, v3, r3, rfl, ⟨d, kvs, rfl, td, rfl, dd⟩, e3⟩ := hv
    obtain rfl : r3 = [] := e3
    obtain rfl := denL_strs dn
    obtain rfl := denL_strs ds
    intro x dx nx ndx ne
    have sm : Same H1 (upd (upd H1 dx (.own x)) x (.ins Z.C dx [])) := fun b o z => (upd_ne (ne_of_none z nx)).trans ((upd_ne (ne_of_none z ndx)).trans z)
    refine ⟨x, nm, sg, d, dx, B1, names, signs, kd, kvs, rfl, upd_same, s1.s.trans sm, tn, ts, sm _ _ (s1.s _ _ td), den_kdP hk dd, ok.sm, l1, ok.sg, l2, ok.fine, fun _ => ⟨ok.keys, ok.nd, fun H' ob hn => ⟨rfl, ?_⟩⟩, fun part hp => ?_⟩
    · obtain ⟨dx', dm, kvs', h1, h2, h3, h4⟩ := hn.ex
      have n4 : H1 dm = none := sm.free h4
      have xdm : x ≠ dm := fun z => by
        rw [z, upd_same] at h4
        cases h4
      have smH : Same H1 H' := fun b o z => ob b o (ne_of_none z nx) (sm b o z)
      have nbx := none_sub s1.s nx
      have nbd := none_sub s1.s n4
      have sB : Same B1 (upd (upd B1 dm (.dK kvs')) x (.ins Z.C dx' (hF nm sg dm))) := fun b o z => (upd_ne (ne_of_none z nbx)).trans ((upd_ne (ne_of_none z nbd)).trans z)
      refine pq (upd (upd B1 dm (.dK kvs')) x (.ins Z.C dx' (hF nm sg dm))) (.ref x) H' (s1.trans R.row ⟨sB, fun b o z => ?_, fun b o z _ => smH b o z, fun b o z => ?_, ⟨fun p' a' ns' z => ⟨(s1.r.row p' a' ns' z).1.same smH, ?_⟩, fun q hq => ⟨(s1.r.tab q hq).1.ext smH, ?_⟩⟩⟩) ⟨x, rfl, ⟨dx', nm, sg, dm, upd_same, tn.same sB, ts.same sB, kvs', (upd_ne (Ne.symm xdm)).trans upd_same, L2.Paired.mapP h3 fun _ _ q => ⟨q.1, q.2.same sB⟩⟩, ok⟩
      · by_cases e1 : b = x
        · exact .inr (e1 ▸ nx)
        · rw [upd_ne e1] at z
          by_cases e2 : b = dm
          · exact .inr (e2 ▸ n4)
          · rw [upd_ne e2] at z
            exact .inl z
      · by_cases e1 : b = x
        · subst e1
          rw [upd_same] at z
          cases z
          exact h1
        · rw [upd_ne e1] at z
          by_cases e2 : b = dm
          · subst e2
            rw [upd_same] at z
            cases z
            exact h2
          · rw [upd_ne e2] at z
            exact smH b o (s1.s b o z)
      · obtain ⟨R', nb⟩ := s1.r.row p' a' ns' z
        have e1 : p' ≠ x := fun w => R'.there nx w.symm
        have e2 : p' ≠ dm := fun w => R'.there n4 w.symm
        rw [upd_ne e1, upd_ne e2]
        exact nb
      · obtain ⟨⟨ps, t1, _⟩, nb⟩ := s1.r.tab q hq
        have e1 : q.1 ≠ x := fun w => by
          rw [w, nx] at t1
          cases t1
        have e2 : q.1 ≠ dm := fun w => by
          rw [w, n4] at t1
          cases t1
        rw [upd_ne e1, upd_ne e2]
        exact nb
    · rw [ok.part] at hp
      cases hp
  · obtain ⟨v1, r1, rfl, ⟨nm, ys, rfl, tn, dn⟩, v2, r2, rfl, ⟨sg, zs, rfl, ts, ds⟩, v3, r3, rfl, ⟨d, kvs, rfl, td, rfl, dd⟩, e3⟩ := hv
    obtain rfl : r3 = [] := e3
    obtain rfl := denL_strs dn
    obtain rfl := denL_strs ds
    intro x dx nx ndx ne
    have sm : Same H1 (upd (upd H1 dx (.own x)) x (.ins Z.C dx [])) := fun b o z => (upd_ne (ne_of_none z nx)).trans ((upd_ne (ne_of_none z ndx)).trans z)
    refine ⟨x, nm, sg, d, dx, B1, names, signs, kd, kvs, rfl, upd_same, s1.s.trans sm, tn, ts, sm _ _ (s1.s _ _ td), den_kdP hk dd, z1, z2, z3, z4, z5, fun hn => ?_, fun part' hp H' d2 smH nd hd => ?_⟩
    · rw [hp0] at hn
      cases hn
    · rw [hp0] at hp
      cases hp
      have s2 := step_ext s1.s s1.r (sm.trans smH)
      exact pq B1 _ _ H' (s1.trans R.row s2) ⟨by rw [hI], .inr ⟨by simp, d2, rfl, hd⟩⟩

theorem v_houseE {X : Cx} {Z : Zn} {C CI : Addr} {ex : String → Addr} {F : XK} {W : WX} {j : Nat} {p pos : Pos} {e : Expr} {es : List Expr} {ms : En → M (List PV)} (h : HouV X.prog X.w X.K X.mg X.base C CI) (hC : ZC Z C X.w) (hX : Z.ex = ex) (hI : ex "InvalidHouse" = CI) (tk : Takes X W) (hW : ∀ cls d σ H, F cls d H → W cls d σ H) (hr : Room j X.A) (hj : 6 ≤ j) (hg : Gl X "House") (ha : VA X Z (some F) (e :: es) ms)
    (he : starEach (e :: es) X.env = (false, eval e X.env) :: starEach es X.env := by rfl) (hpl : (backTo pos (starEach es X.env)).any (·.1) = false := by rfl) : VE X Z (some F) (.Call (.Name "House" p) (e :: es) [] pos) (mHouseE ms) := by
  obtain ⟨hC, _⟩ := hC
  subst hC
  obtain ⟨f, fd, M1, F1, hb⟩ := h.made
  exact pe_weak (pe_make M1 F1 (hr.mono hj) hg h.mgH hb .nil (passes_call tk hW) ha (by decide) he hpl) fun _ _ _ => r_houseE (by rw [hX]; exact hI)
end

/-! ## the promise of a def that raises nothing itself, but knows the errors' classes -/
section
open PySem.W PyProof.Rows PySem.Calls
def spVX (w : World) (K : PySem.W.Frag) (C : Addr) (ex : String → Addr) (n : Nat) (f : List PV → M Rs) : Sp := fun vs H Q _ => vs.length = n ∧ ∃ (Z : Zn) (B : Hp) (ps : List PV), ZC Z C w ∧ Z.ex = ex ∧ Same B H ∧ RowOk Z K B H ∧ DenL Z B ps vs ∧ (f ps).run (Post Z K B H Q) (fun _ => False)
theorem r_callX {w : World} {Z : Zn} {K : PySem.W.Frag} {E : Option XK} {C : Addr} {ex : String → Addr} {n : Nat} {f : List PV → M Rs} {ms : En → M (List PV)} {σ : L2.St} {H : Hp} {Q : VK} {Eh : XK} (hC : ZC Z C w) (hX : Z.ex = ex) (h : up Z K E (mCall0 n f ms) σ H Q) : tCall (spVX w K C ex n f) [] Eh (upA Z K E ms) σ H Q := by
  obtain ⟨B, e, R, q⟩ := h
  refine ⟨B, e, R, (ms e).mono (fun ps p B1 vs H1 s1 hv => ?_) (fun _ z => z) q⟩
  obtain ⟨hl, p⟩ := p
  rw [List.append_nil]
  exact ⟨hv.len.symm.trans hl, Z, B1, ps, hC, hX, s1.s, s1.r, hv, (f ps).mono (fun _ z => z.step R.row s1) (fun _ z => z) p⟩
section
variable {P : Program} {w : World} {K : PySem.W.Frag} {mg : Str → Option Value} {base : Heap}
theorem cal_VX {C : Addr} {ex : String → Addr} {x : Str} {st : Stmt} {f : Addr} {fd : FuncData} {N ps : List Str} {k : Nat} {body : MS} (F : Def K mg x st f fd) (b : Binds K fd ps []) (S : FnScope N ps (C8.fnScope st))
    (hbody : ∀ (cdv : Value) (A : Around) (outer : List Env) (s : Shared) (H : Hp) (E : XK) (Z : Zn), ZC Z C w → Z.ex = ex → Room k (A.deeper (envOfC x (C8.fnScope st) s.heap.objs.size f cdv)) → VSs (cxOf C8.CX0 P w K mg base N x (C8.fnScope st) f cdv A outer s H E).nox Z none (C8.fnBody st) body) :
    Cal P w K mg base (k + 1) x (spVX w K C ex ps.length (fnV N.length ps.length body)) [] := by
  refine C8.cal0 F b .nil S (fun vs H Q E h => h.1) (fun cdv A outer s H vs Q E hr h => ?_)
  obtain ⟨hl, Z, B, qs, hC, hX, sb, ro, d, q⟩ := h
  refine ⟨_, hbody cdv A outer s H E Z hC hX hr, B, H, B, qs.map .val ++ List.replicate (N.length - ps.length) .un, ⟨?_, .refl sb ro, ro, fun i p a h => ?_⟩, ?_⟩
  · have := start_rp (n := N.length - ps.length) sb ro d
    unfold L2.start
    rw [hl]
    exact this
  · have := List.mem_of_getElem? h
    rcases List.mem_append.mp this with z | z
    · obtain ⟨_, _, e⟩ := List.mem_map.mp z
      cases e
    · have := List.eq_of_mem_replicate z
      cases this
  · refine (body _).mono (fun fl p => ?_) (fun _ z => z) q
    cases fl with
    | rt r => exact p
    | nx e => exact fun B1 σ1 H1 R1 => p B1 .non H1 R1.st rfl
    | bk e => exact False.elim p
    | ct e => exact False.elim p
end
theorem v_cX {X : Cx} {Z : Zn} {E : Option XK} {k j n : Nat} {C : Addr} {ex : String → Addr} {x : Str} {p pos : Pos} {e : Expr} {es : List Expr} {f : List PV → M Rs} {ms : En → M (List PV)} (hC : ZC Z C X.w) (hX : Z.ex = ex) (cal : Cal X.prog X.w X.K X.mg X.base k x (spVX X.w X.K C ex n f) []) (hr : Room j X.A) (hk : k ≤ j) (hg : Gl X x) (ha : VA X Z E (e :: es) ms)
    (hdb : (x == ("__debug__" : Str)) = false := by decide) (he : starEach (e :: es) X.env = (false, eval e X.env) :: starEach es X.env := by rfl) (hpl : (backTo pos (starEach es X.env)).any (·.1) = false := by rfl) : VE X Z E (.Call (.Name x p) (e :: es) [] pos) (mCall0 n f ms) :=
  pe_weak (C8.pe_c cal hr hk hg ha hdb he hpl) fun _ _ _ => r_callX hC hX
end

section
theorem tiV_len {fs : List (Str × V)} : ∀ {l : List TI} {vs : List V}, tiV fs l = some vs → l.length ≤ 1000 → vs.length ≤ sizeLine
  | l, vs, h, hl => by
    have key : ∀ (l : List TI) (vs : List V), tiV fs l = some vs → vs.length = l.length := by
      intro l
      induction l with
      | nil =>
        intro vs h
        cases h
        rfl
      | cons t r ih =>
        intro vs h
        cases t with
        | c w =>
          unfold tiV at h
          split at h
          · rename_i us e
            cases h
            exact congrArg Nat.succ (ih _ e)
          · cases h
        | f x =>
          unfold tiV at h
          split at h
          · rename_i v us e0 e
            cases h
            exact congrArg Nat.succ (ih _ e)
          · cases h
    exact small_len (by rw [key l vs h]; exact hl)
end

/-! ## slices of texts -/
section
open PySem.W PyProof.Rows PySem.Calls
def slSP (lo hi : Option Int) : PV → M Rs
  | .str z => do
    M.ask (z.length ≤ 100000)
    pure (.val (.str (Txt.slice z lo hi)))
  | _ => M.fail
def mSlS (m : ME) (lo hi : MO) : ME := fun e => do
  let a ← m e
  let l ← lo e
  let u ← hi e
  slSP l u a.pv
theorem r_slS {Z : Zn} {K : PySem.W.Frag} {E : Option XK} {σ : L2.St} {H : Hp} {m : ME} {lo hi : MO} {Q : VK} (h : up Z K E (mSlS m lo hi) σ H Q) : tSl C8.rSlX (up Z K E m) (upO Z K E lo) (upO Z K E hi) σ H Q := by
  obtain ⟨B, e, R, q⟩ := h
  refine ⟨B, e, R, (m e).mono (fun a p B1 x H1 s1 ha => ?_) (fun _ z => z) q⟩
  refine ⟨B1, e, R.step s1, (lo e).mono (fun l p B2 H2 s2 => ?_) (fun _ z => z.step R.row s1) p⟩
  have s12 := s1.trans R.row s2
  refine ⟨B2, e, R.step s12, (hi e).mono (fun u p B3 H3 s3 => ?_) (fun _ z => z.step R.row s12) p⟩
  have s13 := s12.trans R.row s3
  have hx : HasAt Z B3 H3 a x := (ha.has.step s2).step s3
  cases ep : a.pv with
  | str z =>
    have p : (slSP l u a.pv).run (Post Z K B H Q) (ErOk Z K B H E) := p
    rw [ep] at p
    obtain ⟨hl, p⟩ := p
    obtain rfl := hx.str ep
    exact ⟨z, rfl, Nat.le_trans hl (by decide), p B3 _ H3 s13 rfl⟩
  | _ =>
    have p : (slSP l u a.pv).run (Post Z K B H Q) (ErOk Z K B H E) := p
    rw [ep] at p
    exact False.elim p
theorem v_slS {X : Cx} {Z : Zn} {E : Option XK} {a : Expr} {lo hi : Option Expr} {m : ME} {ml mh : MO} {pos p2 : Pos} (he : VE X Z E a m) (hl : PO X lo (upO Z X.K E ml)) (hu : PO X hi (upO Z X.K E mh)) : VE X Z E (.Subscript a (.Slice lo hi none p2) pos) (mSlS m ml mh) := pe_weak (pe_slice C8.sl_txt he hl hu) fun _ _ _ => r_slS
end

section
open PySem PySem.Spec PySem.W PyProof.Rows PySem.Calls
variable {ex : String → Addr} {P : Program} {w : World} {K : PySem.W.Frag} {mg : Str → Option Value} {base : Heap} {C CI : Addr}
abbrev f__law_taken : List PV → M Rs := takenP
abbrev stVConsistsOf : Stmt := top 8
theorem scVConsistsOf : FnScope ["text", "signs", "sign"] ["text", "signs"] (C8.fnScope stVConsistsOf) := ⟨rfl, rfl, rfl, by decide +kernel, rfl, by decide +kernel, by decide +kernel⟩
def b_consists_of : MS :=
  (mSeq (mRet (mAndV (mUn (isiP "str") (mVar 0)) (mAndV (mChain leP leP (mC (.int 1)) (mCall (one lenP0) (pCons (mVar 0) pNil)) (mC (.int 8))) (mCall (one (quantP fun bs => bs.all id)) (pCons (mLc (itStr (mVar 0)) [2] (.nm 2) mYes (mBin (inP false) (mVar 2) (mVar 1))) pNil)))))
  mNext)
def f_consists_of : List PV → M Rs := fnV 3 2 b_consists_of
theorem cv_consists_of {f : Addr} {fd : FuncData} (F : Def K mg "consists_of" stVConsistsOf f fd) (b : Binds K fd ["text", "signs"] []) (n_all : mg "all" = none) (n_isinstance : mg "isinstance" = none) (n_len : mg "len" = none) (n_str : mg "str" = none) (g_LONGEST_WORD : ∃ u, mg "LONGEST_WORD" = some u ∧ RelV (.int 8) u) : Cal P w K mg base 1 "consists_of" (spV w K C 2 f_consists_of) [] := by
  refine cal_V F b scVConsistsOf (fun cdv A outer s H E Z hC hr => ?_)
  have nd := scVConsistsOf.nd
  have hu := hu_of hr
  have hu66 := hu66_of hr
  exact (vs_cons (vs_ret (v_and (v_isi rfl n_isinstance rfl n_str (by decide +kernel) (v_var (pv 0))) (v_and (v_chain op_le op_le (ok_int fun _ _ _ => rfl) (ok_int fun _ _ _ => rfl) v_int (v_len0 rfl n_len (vp_cons (v_var (pv 0)) vp_nil)) (v_gI (C8.pe_gc rfl g_LONGEST_WORD))) (v_one (v_callB (cr_all rfl) ok_quant rfl n_all (by decide +kernel) (vp_cons (v_lc (own := [("sign", 2)]) rfl nd (vi_str (v_var (pv 0))) (blkOk_by (N := ["text", "signs", "sign"]) (sc := C8.fnScope stVConsistsOf) (by decide +kernel)) (fun _ _ _ _ _ => (pg_name (i := 2) nd rfl (Or.inl rfl))) (fun _ _ _ _ _ => vts_nil) (fun _ _ _ _ _ => (v_cmp (op_inV hu66) ok_in (v_var (pv 2)) (v_var (pv 1)) (by with_unfolding_all rfl))) tg_nm (by decide)) vp_nil))))))
      vs_nil)
abbrev stVIsWord : Stmt := top 9
theorem scVIsWord : FnScope ["text"] ["text"] (C8.fnScope stVIsWord) := ⟨rfl, rfl, rfl, by decide +kernel, rfl, by decide +kernel, by decide +kernel⟩
def b_is_word : MS :=
  (mSeq (mRet (mCall0 2 f_consists_of (mCons (mVar 0) (mCons (mC (.str "abcdefghijklmnopqrstuvwxyz")) mNil))))
  mNext)
def f_is_word : List PV → M Rs := fnV 1 1 b_is_word
theorem cv_is_word {f : Addr} {fd : FuncData} (F : Def K mg "is_word" stVIsWord f fd) (b : Binds K fd ["text"] []) (g_LETTERS : ∃ u, mg "LETTERS" = some u ∧ RelV (.str "abcdefghijklmnopqrstuvwxyz") u) (c_consists_of : Cal P w K mg base 1 "consists_of" (spV w K C 2 f_consists_of) []) : Cal P w K mg base 2 "is_word" (spV w K C 1 f_is_word) [] := by
  refine cal_V F b scVIsWord (fun cdv A outer s H E Z hC hr => ?_)
  have nd := scVIsWord.nd
  have hu := hu_of hr
  have hu66 := hu66_of hr
  exact (vs_cons (vs_ret (v_c hC c_consists_of hr (by decide) rfl (va_cons (v_var (pv 0)) (va_cons (v_gS (C8.pe_gc rfl g_LETTERS)) va_nil))))
      vs_nil)
abbrev stVIsPattern : Stmt := top 10
theorem scVIsPattern : FnScope ["text"] ["text"] (C8.fnScope stVIsPattern) := ⟨rfl, rfl, rfl, by decide +kernel, rfl, by decide +kernel, by decide +kernel⟩
def b_is_pattern : MS :=
  (mSeq (mRet (mCall0 2 f_consists_of (mCons (mVar 0) (mCons (mC (.str "abcdefghijklmnopqrstuvwxyz.")) mNil))))
  mNext)
def f_is_pattern : List PV → M Rs := fnV 1 1 b_is_pattern
theorem cv_is_pattern {f : Addr} {fd : FuncData} (F : Def K mg "is_pattern" stVIsPattern f fd) (b : Binds K fd ["text"] []) (g_PATTERN_SIGNS : ∃ u, mg "PATTERN_SIGNS" = some u ∧ RelV (.str "abcdefghijklmnopqrstuvwxyz.") u) (c_consists_of : Cal P w K mg base 1 "consists_of" (spV w K C 2 f_consists_of) []) : Cal P w K mg base 2 "is_pattern" (spV w K C 1 f_is_pattern) [] := by
  refine cal_V F b scVIsPattern (fun cdv A outer s H E Z hC hr => ?_)
  have nd := scVIsPattern.nd
  have hu := hu_of hr
  have hu66 := hu66_of hr
  exact (vs_cons (vs_ret (v_c hC c_consists_of hr (by decide) rfl (va_cons (v_var (pv 0)) (va_cons (v_gS (C8.pe_gc rfl g_PATTERN_SIGNS)) va_nil))))
      vs_nil)
abbrev stVWrongInPlates : Stmt := top 24
theorem scVWrongInPlates : FnScope ["words", "at"] ["words"] (C8.fnScope stVWrongInPlates) := ⟨rfl, rfl, rfl, by decide +kernel, rfl, by decide +kernel, by decide +kernel⟩
def b_wrong_in_plates : MS :=
  (mSeq (mIfS (mTst (mBin (eqP true) (mBin ixP (mVar 0) (mC (.int 0))) (mC (.str "plates")))) (mSeq (mRet (mC (.int 0)))
  mNext) mNext)
  (mSeq (mFor (itCall (two range2P) (pCons (mC (.int 1)) (pCons (mCall (one lenP0) (pCons (mVar 0) pNil)) pNil))) (.nm 1) (mSeq (mIfS (mOr (mTst (mBin gtP (mVar 1) (mC (.int 6)))) (mNot (mOr (mTst (mBin (eqP false) (mBin ixP (mVar 0) (mVar 1)) (mC (.str "-")))) (mTst (mCall0 1 f_is_pattern (mCons (mBin ixP (mVar 0) (mVar 1)) mNil)))))) (mSeq (mRet (mVar 1))
  mNext) mNext)
  mNext))
  (mSeq (mRet (mIf (mTst (mBin (eqP false) (mCall (one lenP0) (pCons (mVar 0) pNil)) (mC (.int 1)))) (mC (.int 1)) (mC .non)))
  mNext)))
def f_wrong_in_plates : List PV → M Rs := fnV 2 1 b_wrong_in_plates
theorem cv_wrong_in_plates {f : Addr} {fd : FuncData} (F : Def K mg "wrong_in_plates" stVWrongInPlates f fd) (b : Binds K fd ["words"] []) (n_len : mg "len" = none) (n_range : mg "range" = none) (g_MOST_BOXES : ∃ u, mg "MOST_BOXES" = some u ∧ RelV (.int 6) u) (c_is_pattern : Cal P w K mg base 2 "is_pattern" (spV w K C 1 f_is_pattern) []) : Cal P w K mg base 3 "wrong_in_plates" (spV w K C 1 f_wrong_in_plates) [] := by
  refine cal_V F b scVWrongInPlates (fun cdv A outer s H E Z hC hr => ?_)
  have nd := scVWrongInPlates.nd
  have hu := hu_of hr
  have hu66 := hu66_of hr
  exact (vs_cons (vs_if (vt_cmp (op_nePv hu66) ok_eq (v_ix hu66 (v_var (pv 0)) v_int (fun _ _ => rfl)) v_str (nomark _)) (vs_cons (vs_ret v_int)
      vs_nil) vs_nil)
      (vs_cons (vs_for PassesOwn.never rfl (vi_range2 rfl n_range (vp_cons v_int (vp_cons (v_len0 rfl n_len (vp_cons (v_var (pv 0)) vp_nil)) vp_nil))) (pg_name (i := 1) nd rfl (Or.inl rfl)) tg_nm (vs_cons (vs_if (PW.pt (vw_or (vt_cmp op_gt (ok_int fun _ _ _ => rfl) (v_var (pv 1)) (v_gI (C8.pe_gc rfl g_MOST_BOXES)) (nomark _)) (vw_or1 (vt_not (PW.pt (vw_or (vt_cmp (op_eqPv hu66) ok_eq (v_ix hu66 (v_var (pv 0)) (v_var (pv 1)) (fun _ _ => rfl)) v_str (nomark _)) (vw_or1 (vt_val (v_c hC c_is_pattern hr (by decide) rfl (va_cons (v_ix hu66 (v_var (pv 0)) (v_var (pv 1)) (fun _ _ => rfl)) va_nil)))))))))) (vs_cons (vs_ret (v_var (pv 1)))
      vs_nil) vs_nil)
      vs_nil))
      (vs_cons (vs_ret (v_ife (vt_cmp (op_eqPv hu66) ok_eq (v_len0 rfl n_len (vp_cons (v_var (pv 0)) vp_nil)) v_int (nomark _)) v_int v_non))
      vs_nil)))
abbrev stVWrongInHousehold : Stmt := top 25
theorem scVWrongInHousehold : FnScope ["words", "before", "many", "wanted", "at", "right"] ["words", "before", "many"] (C8.fnScope stVWrongInHousehold) := ⟨rfl, rfl, rfl, by decide +kernel, rfl, by decide +kernel, by decide +kernel⟩
def b_wrong_in_household : MS :=
  (mSeq (mIfS (mTst (mInG true [.str "back", .str "keep", .str "guess"] (mBin ixP (mVar 0) (mC (.int 0))))) (mSeq (mRet (mC (.int 0)))
  mNext) mNext)
  (mSeq (mSet 3 (mFz (mIf (mTst (mBin (eqP false) (mBin ixP (mVar 0) (mC (.int 0))) (mC (.str "guess")))) (mBin addSP (mC (.int 2)) (mVar 2)) (mC (.int 2)))))
  (mSeq (mFor (itCall (two range2P) (pCons (mC (.int 1)) (pCons (mCall (one lenP0) (pCons (mVar 0) pNil)) pNil))) (.nm 4) (mSeq (mSet 5 (mFz (mIf (mTst (mBin gtP (mVar 4) (mC (.int 1)))) (mInG false [.str "-", .str "0", .str "1", .str "2", .str "3", .str "4", .str "5", .str "6", .str "7", .str "8", .str "9"] (mBin ixP (mVar 0) (mVar 4))) (mAndV (mCall0 1 f_is_word (mCons (mBin ixP (mVar 0) (mVar 4)) mNil)) (mBin gtSP (mBin ixP (mVar 0) (mVar 4)) (mVar 1))))))
  (mSeq (mIfS (mOr (mTst (mBin geP (mVar 4) (mVar 3))) (mNot (mTst (mVar 5)))) (mSeq (mRet (mVar 4))
  mNext) mNext)
  mNext)))
  (mSeq (mRet (mIf (mTst (mBin ltP (mCall (one lenP0) (pCons (mVar 0) pNil)) (mVar 3))) (mCall (one lenP0) (pCons (mVar 0) pNil)) (mC .non)))
  mNext))))
def f_wrong_in_household : List PV → M Rs := fnV 6 3 b_wrong_in_household
theorem cv_wrong_in_household {f : Addr} {fd : FuncData} (F : Def K mg "wrong_in_household" stVWrongInHousehold f fd) (b : Binds K fd ["words", "before", "many"] []) (n_len : mg "len" = none) (n_range : mg "range" = none) (t_BOX_WORDS : KTup K mg "BOX_WORDS" [.str "-", .str "0", .str "1", .str "2", .str "3", .str "4", .str "5", .str "6", .str "7", .str "8", .str "9"]) (t_FIRST_WORDS : KTup K mg "FIRST_WORDS" [.str "back", .str "keep", .str "guess"]) (c_is_word : Cal P w K mg base 2 "is_word" (spV w K C 1 f_is_word) []) : Cal P w K mg base 3 "wrong_in_household" (spV w K C 3 f_wrong_in_household) [] := by
  refine cal_V F b scVWrongInHousehold (fun cdv A outer s H E Z hC hr => ?_)
  have nd := scVWrongInHousehold.nd
  have hu := hu_of hr
  have hu66 := hu66_of hr
  exact (vs_cons (vs_if (vt_notInG t_FIRST_WORDS rfl (v_ix hu66 (v_var (pv 0)) v_int (fun _ _ => rfl))) (vs_cons (vs_ret v_int)
      vs_nil) vs_nil)
      (vs_cons (vs_set (i := 3) (v_fz (v_ife (vt_cmp (op_eqPv hu66) ok_eq (v_ix hu66 (v_var (pv 0)) v_int (fun _ _ => rfl)) v_str (nomark _)) (v_op op_addSV ok_addS v_int (v_var (pv 2))) v_int)) (pg_name (i := 3) nd rfl (Or.inl rfl)))
      (vs_cons (vs_for PassesOwn.never rfl (vi_range2 rfl n_range (vp_cons v_int (vp_cons (v_len0 rfl n_len (vp_cons (v_var (pv 0)) vp_nil)) vp_nil))) (pg_name (i := 4) nd rfl (Or.inl rfl)) tg_nm (vs_cons (vs_set (i := 5) (v_fz (v_ife (vt_cmp op_gt (ok_int fun _ _ _ => rfl) (v_var (pv 4)) v_int (nomark _)) (v_inG t_BOX_WORDS rfl (v_ix hu66 (v_var (pv 0)) (v_var (pv 4)) (fun _ _ => rfl))) (v_and (v_c hC c_is_word hr (by decide) rfl (va_cons (v_ix hu66 (v_var (pv 0)) (v_var (pv 4)) (fun _ _ => rfl)) va_nil)) (v_one (v_cmp op_gt_str ok_str2 (v_ix hu66 (v_var (pv 0)) (v_var (pv 4)) (fun _ _ => rfl)) (v_var (pv 1)) (nomark _)))))) (pg_name (i := 5) nd rfl (Or.inl rfl)))
      (vs_cons (vs_if (PW.pt (vw_or (vt_cmp op_ge (ok_int fun _ _ _ => rfl) (v_var (pv 4)) (v_var (pv 3)) (nomark _)) (vw_or1 (vt_not (vt_val (v_var (pv 5))))))) (vs_cons (vs_ret (v_var (pv 4)))
      vs_nil) vs_nil)
      vs_nil)))
      (vs_cons (vs_ret (v_ife (vt_cmp op_lt (ok_int fun _ _ _ => rfl) (v_len0 rfl n_len (vp_cons (v_var (pv 0)) vp_nil)) (v_var (pv 3)) (nomark _)) (v_len0 rfl n_len (vp_cons (v_var (pv 0)) vp_nil)) v_non))
      vs_nil))))
abbrev stVCheckWords : Stmt := top 26
theorem scVCheckWords : FnScope ["rows", "wrong", "before", "row"] ["rows"] (C8.fnScope stVCheckWords) := ⟨rfl, rfl, rfl, by decide +kernel, rfl, by decide +kernel, by decide +kernel⟩
def b_check_words : MS :=
  (mSeq (mSet 1 (mFz (mCall0 1 f_wrong_in_plates (mCons (mBin ixP (mVar 0) (mC (.int 0))) mNil))))
  (mSeq (mIfS (mTst (mBin (isNP true) (mVar 1) (mC .non))) (mSeq (fun _ => M.fail)
  mNext) mNext)
  (mSeq (mIfS (mTst (mBin (eqP false) (mCall (one lenP0) (pCons (mVar 0) pNil)) (mC (.int 1)))) (mSeq (fun _ => M.fail)
  mNext) mNext)
  (mSeq (mSet 2 (mFz (mC (.str ""))))
  (mSeq (mFor (itCall (two range2P) (pCons (mC (.int 1)) (pCons (mCall (one lenP0) (pCons (mVar 0) pNil)) pNil))) (.nm 3) (mSeq (mSet 1 (mFz (mIf (mTst (mBin gtP (mVar 3) (mC (.int 6)))) (mC (.int 0)) (mCall0 3 f_wrong_in_household (mCons (mBin ixP (mVar 0) (mVar 3)) (mCons (mVar 2) (mCons (mBin subP (mCall (one lenP0) (pCons (mVar 0) pNil)) (mC (.int 1))) mNil)))))))
  (mSeq (mIfS (mTst (mBin (isNP true) (mVar 1) (mC .non))) (mSeq (fun _ => M.fail)
  mNext) mNext)
  (mSeq (mSet 2 (mFz (mBin ixP (mBin ixP (mVar 0) (mVar 3)) (mC (.int 1)))))
  mNext))))
  mNext)))))
def f_check_words : List PV → M Rs := fnV 4 1 b_check_words
theorem cv_check_words {f : Addr} {fd : FuncData} (F : Def K mg "check_words" stVCheckWords f fd) (b : Binds K fd ["rows"] []) (n_len : mg "len" = none) (n_range : mg "range" = none) (g_MOST_NAMES : ∃ u, mg "MOST_NAMES" = some u ∧ RelV (.int 6) u) (c_wrong_in_household : Cal P w K mg base 3 "wrong_in_household" (spV w K C 3 f_wrong_in_household) []) (c_wrong_in_plates : Cal P w K mg base 3 "wrong_in_plates" (spV w K C 1 f_wrong_in_plates) []) : Cal P w K mg base 4 "check_words" (spV w K C 1 f_check_words) [] := by
  refine cal_V F b scVCheckWords (fun cdv A outer s H E Z hC hr => ?_)
  have nd := scVCheckWords.nd
  have hu := hu_of hr
  have hu66 := hu66_of hr
  exact (vs_cons (vs_set (i := 1) (v_fz (v_c hC c_wrong_in_plates hr (by decide) rfl (va_cons (v_ix hu66 (v_var (pv 0)) v_int (fun _ _ => rfl)) va_nil))) (pg_name (i := 1) nd rfl (Or.inl rfl)))
      (vs_cons (vs_if (vt_cmp op_notN (ok_isN fun v => (Bool.true_xor _).symm) (v_var (pv 1)) v_non (nomark _)) (vs_cons vs_any
      vs_nil) vs_nil)
      (vs_cons (vs_if (vt_cmp (op_eqPv hu66) ok_eq (v_len0 rfl n_len (vp_cons (v_var (pv 0)) vp_nil)) v_int (nomark _)) (vs_cons vs_any
      vs_nil) vs_nil)
      (vs_cons (vs_set (i := 2) (v_fz v_str) (pg_name (i := 2) nd rfl (Or.inl rfl)))
      (vs_cons (vs_for PassesOwn.never rfl (vi_range2 rfl n_range (vp_cons v_int (vp_cons (v_len0 rfl n_len (vp_cons (v_var (pv 0)) vp_nil)) vp_nil))) (pg_name (i := 3) nd rfl (Or.inl rfl)) tg_nm (vs_cons (vs_set (i := 1) (v_fz (v_ife (vt_cmp op_gt (ok_int fun _ _ _ => rfl) (v_var (pv 3)) (v_gI (C8.pe_gc rfl g_MOST_NAMES)) (nomark _)) v_int (v_c hC c_wrong_in_household hr (by decide) rfl (va_cons (v_ix hu66 (v_var (pv 0)) (v_var (pv 3)) (fun _ _ => rfl)) (va_cons (v_var (pv 2)) (va_cons (v_op op_sub ok_sub (v_len0 rfl n_len (vp_cons (v_var (pv 0)) vp_nil)) v_int) va_nil)))))) (pg_name (i := 1) nd rfl (Or.inl rfl)))
      (vs_cons (vs_if (vt_cmp op_notN (ok_isN fun v => (Bool.true_xor _).symm) (v_var (pv 1)) v_non (nomark _)) (vs_cons vs_any
      vs_nil) vs_nil)
      (vs_cons (vs_set (i := 2) (v_fz (v_ix hu66 (v_ix hu66 (v_var (pv 0)) (v_var (pv 3)) (fun _ _ => rfl)) v_int (fun _ _ => rfl))) (pg_name (i := 2) nd rfl (Or.inl rfl)))
      vs_nil))))
      vs_nil)))))
def be_check_words : MS :=
  (mSeq (mSet 1 (mFz (mCall0 1 f_wrong_in_plates (mCons (mBin ixP (mVar 0) (mC (.int 0))) mNil))))
  (mSeq (mIfS (mTst (mBin (isNP true) (mVar 1) (mC .non))) (mSeq (mRaise (mFldII "InvalidText" "row" "word" (mC (.int 0)) (mVar 1)))
  mNext) mNext)
  (mSeq (mIfS (mTst (mBin (eqP false) (mCall (one lenP0) (pCons (mVar 0) pNil)) (mC (.int 1)))) (mSeq (mRaise (mFldII "InvalidText" "row" "word" (mC (.int 1)) (mC (.int 0))))
  mNext) mNext)
  (mSeq (mSet 2 (mFz (mC (.str ""))))
  (mSeq (mFor (itCall (two range2P) (pCons (mC (.int 1)) (pCons (mCall (one lenP0) (pCons (mVar 0) pNil)) pNil))) (.nm 3) (mSeq (mSet 1 (mFz (mIf (mTst (mBin gtP (mVar 3) (mC (.int 6)))) (mC (.int 0)) (mCall0 3 f_wrong_in_household (mCons (mBin ixP (mVar 0) (mVar 3)) (mCons (mVar 2) (mCons (mBin subP (mCall (one lenP0) (pCons (mVar 0) pNil)) (mC (.int 1))) mNil)))))))
  (mSeq (mIfS (mTst (mBin (isNP true) (mVar 1) (mC .non))) (mSeq (mRaise (mFldII "InvalidText" "row" "word" (mVar 3) (mVar 1)))
  mNext) mNext)
  (mSeq (mSet 2 (mFz (mBin ixP (mBin ixP (mVar 0) (mVar 3)) (mC (.int 1)))))
  mNext))))
  mNext)))))
def fe_check_words : List PV → M Rs := fnV 4 1 be_check_words
theorem cve_check_words {f : Addr} {fd : FuncData} (F : Def K mg "check_words" stVCheckWords f fd) (b : Binds K fd ["rows"] []) (n_len : mg "len" = none) (n_range : mg "range" = none) (g_MOST_NAMES : ∃ u, mg "MOST_NAMES" = some u ∧ RelV (.int 6) u) (c_wrong_in_household : Cal P w K mg base 3 "wrong_in_household" (spV w K C 3 f_wrong_in_household) []) (c_wrong_in_plates : Cal P w K mg base 3 "wrong_in_plates" (spV w K C 1 f_wrong_in_plates) []) (eii_InvalidText : OwnErrII P w K mg base "InvalidText" "row" "word" (ex "InvalidText")) : CalE P w K mg base 4 "check_words" (spE w K C ex 1 fe_check_words) := by
  refine cal_E F b scVCheckWords (fun cdv A outer s H E Z hC hX hr => ?_)
  have nd := scVCheckWords.nd
  have hu := hu_of hr
  have hu66 := hu66_of hr
  exact (vs_cons (vs_set (i := 1) (v_fz (v_c hC c_wrong_in_plates hr (by decide) rfl (va_cons (v_ix hu66 (v_var (pv 0)) v_int (fun _ _ => rfl)) va_nil))) (pg_name (i := 1) nd rfl (Or.inl rfl)))
      (vs_cons (vs_if (vt_cmp op_notN (ok_isN fun v => (Bool.true_xor _).symm) (v_var (pv 1)) v_non (nomark _)) (vs_cons (vs_raise rfl (L2.takes_of rfl rfl rfl rfl) (fun _ _ _ _ z => z) (vx_fld2 (c := "InvalidText") (f1 := "row") (f2 := "word") hX eii_InvalidText hr (by decide) rfl v_int (v_var (pv 1))))
      vs_nil) vs_nil)
      (vs_cons (vs_if (vt_cmp (op_eqPv hu66) ok_eq (v_len0 rfl n_len (vp_cons (v_var (pv 0)) vp_nil)) v_int (nomark _)) (vs_cons (vs_raise rfl (L2.takes_of rfl rfl rfl rfl) (fun _ _ _ _ z => z) (vx_fld2 (c := "InvalidText") (f1 := "row") (f2 := "word") hX eii_InvalidText hr (by decide) rfl v_int v_int))
      vs_nil) vs_nil)
      (vs_cons (vs_set (i := 2) (v_fz v_str) (pg_name (i := 2) nd rfl (Or.inl rfl)))
      (vs_cons (vs_for (L2.passes_of rfl) rfl (vi_range2 rfl n_range (vp_cons v_int (vp_cons (v_len0 rfl n_len (vp_cons (v_var (pv 0)) vp_nil)) vp_nil))) (pg_name (i := 3) nd rfl (Or.inl rfl)) tg_nm (vs_cons (vs_set (i := 1) (v_fz (v_ife (vt_cmp op_gt (ok_int fun _ _ _ => rfl) (v_var (pv 3)) (v_gI (C8.pe_gc rfl g_MOST_NAMES)) (nomark _)) v_int (v_c hC c_wrong_in_household hr (by decide) rfl (va_cons (v_ix hu66 (v_var (pv 0)) (v_var (pv 3)) (fun _ _ => rfl)) (va_cons (v_var (pv 2)) (va_cons (v_op op_sub ok_sub (v_len0 rfl n_len (vp_cons (v_var (pv 0)) vp_nil)) v_int) va_nil)))))) (pg_name (i := 1) nd rfl (Or.inl rfl)))
      (vs_cons (vs_if (vt_cmp op_notN (ok_isN fun v => (Bool.true_xor _).symm) (v_var (pv 1)) v_non (nomark _)) (vs_cons (vs_raise rfl (L2.takes_of rfl rfl rfl rfl) (fun _ _ _ _ z => z) (vx_fld2 (c := "InvalidText") (f1 := "row") (f2 := "word") hX eii_InvalidText hr (by decide) rfl (v_var (pv 3)) (v_var (pv 1))))
      vs_nil) vs_nil)
      (vs_cons (vs_set (i := 2) (v_fz (v_ix hu66 (v_ix hu66 (v_var (pv 0)) (v_var (pv 3)) (fun _ _ => rfl)) v_int (fun _ _ => rfl))) (pg_name (i := 2) nd rfl (Or.inl rfl)))
      vs_nil))))
      vs_nil)))))
abbrev stVReadManner : Stmt := top 27
theorem scVReadManner : FnScope ["words", "word"] ["words"] (C8.fnScope stVReadManner) := ⟨rfl, rfl, rfl, by decide +kernel, rfl, by decide +kernel, by decide +kernel⟩
def b_read_manner : MS :=
  (mSeq (mIfS (mTst (mBin (eqP false) (mBin ixP (mVar 0) (mC (.int 0))) (mC (.str "guess")))) (mSeq (mRet (mCall (one tupleP) (pCons (mLc (itSeq (mSl (mVar 0) (mPt (mC (.int 2))) mNo)) [1] (.nm 1) mYes (mIf (mTst (mBin (eqP false) (mVar 1) (mC (.str "-")))) (mC .non) (mCall (one intTP) (pCons (mVar 1) pNil)))) pNil)))
  mNext) mNext)
  (mSeq (mRet (mBin ixP (mVar 0) (mC (.int 0))))
  mNext))
def f_read_manner : List PV → M Rs := fnV 2 1 b_read_manner
theorem cv_read_manner {f : Addr} {fd : FuncData} (F : Def K mg "read_manner" stVReadManner f fd) (b : Binds K fd ["words"] []) (n_int : mg "int" = none) (n_tuple : mg "tuple" = none) : Cal P w K mg base 1 "read_manner" (spV w K C 1 f_read_manner) [] := by
  refine cal_V F b scVReadManner (fun cdv A outer s H E Z hC hr => ?_)
  have nd := scVReadManner.nd
  have hu := hu_of hr
  have hu66 := hu66_of hr
  exact (vs_cons (vs_if (vt_cmp (op_eqPv hu66) ok_eq (v_ix hu66 (v_var (pv 0)) v_int (fun _ _ => rfl)) v_str (nomark _)) (vs_cons (vs_ret (v_callTy call_tuple_ofF ok_tuple rfl n_tuple (by decide +kernel) (vp_cons (v_lc (own := [("word", 1)]) rfl nd (vi_seq (v_sl (v_var (pv 0)) (vo_pt v_int) vo_no)) (blkOk_by (N := ["words", "word"]) (sc := C8.fnScope stVReadManner) (by decide +kernel)) (fun _ _ _ _ _ => (pg_name (i := 1) nd rfl (Or.inl rfl))) (fun _ _ _ _ _ => vts_nil) (fun _ _ _ _ _ => (v_ife (vt_cmp (op_eqPv hu66) ok_eq (v_var (pv 1)) v_str (nomark _)) v_non (v_callTy call_intV ok_intT rfl n_int (by decide +kernel) (vp_cons (v_var (pv 1)) vp_nil)))) tg_nm (by decide)) vp_nil)))
      vs_nil) vs_nil)
      (vs_cons (vs_ret (v_ix hu66 (v_var (pv 0)) v_int (fun _ _ => rfl)))
      vs_nil))
abbrev stVParseHouse : Stmt := top 28
theorem scVParseHouse : FnScope ["text", "rows", "plates", "names", "row", "word", "words"] ["text"] (C8.fnScope stVParseHouse) := ⟨rfl, rfl, rfl, by decide +kernel, rfl, by decide +kernel, by decide +kernel⟩
def b_parse_house : MS :=
  (mSeq (mSet 1 (mLc (itSeq (mSplit (mVar 0) "\n")) [4] (.nm 4) mYes (mSplit (mVar 4) " ")))
  (mKeep 1 (mSeq (mDo (mCall0 1 f_check_words (mCons (mVar 1) mNil)))
  (mSeq (mSet 2 (mFz (mCall (one tupleP) (pCons (mLc (itSeq (mSl (mBin ixP (mVar 1) (mC (.int 0))) (mPt (mC (.int 1))) mNo)) [5] (.nm 5) mYes (mIf (mTst (mBin (eqP false) (mVar 5) (mC (.str "-")))) (mC (.str "")) (mVar 5))) pNil))))
  (mSeq (mSet 3 (mFz (mCall (one tupleP) (pCons (mLc (itSeq (mSl (mVar 1) (mPt (mC (.int 1))) mNo)) [6] (.nm 6) mYes (mBin ixP (mVar 6) (mC (.int 1)))) pNil))))
  (mSeq (mRet (mHouse (mCons (mVar 3) (mCons (mVar 2) (mCons (mDc (itSeq (mSl (mVar 1) (mPt (mC (.int 1))) mNo)) [6] (.nm 6) mYes (mBin ixP (mVar 6) (mC (.int 1))) (mCall0 1 f_read_manner (mCons (mVar 6) mNil))) mNil)))))
  mNext))))))
def f_parse_house : List PV → M Rs := fnV 7 1 b_parse_house
theorem cv_parse_house {f : Addr} {fd : FuncData} (F : Def K mg "parse_house" stVParseHouse f fd) (b : Binds K fd ["text"] []) (n_tuple : mg "tuple" = none) (c_check_words : Cal P w K mg base 4 "check_words" (spV w K C 1 f_check_words) []) (c_read_manner : Cal P w K mg base 1 "read_manner" (spV w K C 1 f_read_manner) []) (HH : HouV P w K mg base C CI) : Cal P w K mg base 7 "parse_house" (spV w K C 1 f_parse_house) [] := by
  refine cal_V F b scVParseHouse (fun cdv A outer s H E Z hC hr => ?_)
  have nd := scVParseHouse.nd
  have hu := hu_of hr
  have hu66 := hu66_of hr
  exact (vs_cons (vs_setLc (i := 1) (own := [("row", 4)]) rfl nd rfl rfl (sw_true rfl rfl rfl (by decide +kernel)) (vi_seq (v_split (by decide) (v_var (pv 0)))) (blkOk_by (N := ["text", "rows", "plates", "names", "row", "word", "words"]) (sc := C8.fnScope stVParseHouse) (by decide +kernel)) (fun _ _ _ _ _ => (pg_name (i := 4) nd rfl (Or.inl rfl))) (fun _ _ _ _ _ => vts_nil) (fun _ _ _ _ _ => (v_split (by decide) (v_var (pv 4)))) tg_nm (by decide))
      (vss_keep 1 (vs_cons (vs_do (v_c hC c_check_words hr (by decide) rfl (va_cons (v_var (pv 1)) va_nil)))
      (vs_cons (vs_set (i := 2) (v_fz (v_callTy call_tuple_ofF ok_tuple rfl n_tuple (by decide +kernel) (vp_cons (v_lc (own := [("word", 5)]) rfl nd (vi_seq (v_sl (v_ix hu66 (v_var (pv 1)) v_int (fun _ _ => rfl)) (vo_pt v_int) vo_no)) (blkOk_by (N := ["text", "rows", "plates", "names", "row", "word", "words"]) (sc := C8.fnScope stVParseHouse) (by decide +kernel)) (fun _ _ _ _ _ => (pg_name (i := 5) nd rfl (Or.inl rfl))) (fun _ _ _ _ _ => vts_nil) (fun _ _ _ _ _ => (v_ife (vt_cmp (op_eqPv hu66) ok_eq (v_var (pv 5)) v_str (nomark _)) v_str (v_var (pv 5)))) tg_nm (by decide)) vp_nil))) (pg_name (i := 2) nd rfl (Or.inl rfl)))
      (vs_cons (vs_set (i := 3) (v_fz (v_callTy call_tuple_ofF ok_tuple rfl n_tuple (by decide +kernel) (vp_cons (v_lc (own := [("words", 6)]) rfl nd (vi_seq (v_sl (v_var (pv 1)) (vo_pt v_int) vo_no)) (blkOk_by (N := ["text", "rows", "plates", "names", "row", "word", "words"]) (sc := C8.fnScope stVParseHouse) (by decide +kernel)) (fun _ _ _ _ _ => (pg_name (i := 6) nd rfl (Or.inl rfl))) (fun _ _ _ _ _ => vts_nil) (fun _ _ _ _ _ => (v_ix hu66 (v_var (pv 6)) v_int (fun _ _ => rfl))) tg_nm (by decide)) vp_nil))) (pg_name (i := 3) nd rfl (Or.inl rfl)))
      (vs_cons (vs_ret (v_house HH hC hr (by decide) passL rfl (va_cons (v_var (pv 3)) (va_cons (v_var (pv 2)) (va_cons (v_dc (own := [("words", 6)]) rfl nd (vi_seq (v_sl (v_var (pv 1)) (vo_pt v_int) vo_no)) (blkOk_by (N := ["text", "rows", "plates", "names", "row", "word", "words"]) (sc := C8.fnScope stVParseHouse) (by decide +kernel)) (fun _ _ _ _ _ => (pg_name (i := 6) nd rfl (Or.inl rfl))) (fun _ _ _ _ _ => vts_nil) (fun _ _ _ _ _ => (v_ix hu66 (v_var (pv 6)) v_int (fun _ _ => rfl))) (fun _ _ _ _ _ => (v_c hC c_read_manner hr (by decide) rfl (va_cons (v_var (pv 6)) va_nil))) tg_nm (by decide)) va_nil)))))
      vs_nil))))))
def be_parse_house : MS :=
  (mSeq (mSet 1 (mLc (itSeq (mSplit (mVar 0) "\n")) [4] (.nm 4) mYes (mSplit (mVar 4) " ")))
  (mKeep 1 (mSeq (mDo (mCallE 1 fe_check_words (mCons (mVar 1) mNil)))
  (mSeq (mSet 2 (mFz (mCall (one tupleP) (pCons (mLc (itSeq (mSl (mBin ixP (mVar 1) (mC (.int 0))) (mPt (mC (.int 1))) mNo)) [5] (.nm 5) mYes (mIf (mTst (mBin (eqP false) (mVar 5) (mC (.str "-")))) (mC (.str "")) (mVar 5))) pNil))))
  (mSeq (mSet 3 (mFz (mCall (one tupleP) (pCons (mLc (itSeq (mSl (mVar 1) (mPt (mC (.int 1))) mNo)) [6] (.nm 6) mYes (mBin ixP (mVar 6) (mC (.int 1)))) pNil))))
  (mSeq (mRet (mHouseE (mCons (mVar 3) (mCons (mVar 2) (mCons (mDc (itSeq (mSl (mVar 1) (mPt (mC (.int 1))) mNo)) [6] (.nm 6) mYes (mBin ixP (mVar 6) (mC (.int 1))) (mCall0 1 f_read_manner (mCons (mVar 6) mNil))) mNil)))))
  mNext))))))
def fe_parse_house : List PV → M Rs := fnV 7 1 be_parse_house
theorem cve_parse_house {f : Addr} {fd : FuncData} (F : Def K mg "parse_house" stVParseHouse f fd) (b : Binds K fd ["text"] []) (n_tuple : mg "tuple" = none) (c_read_manner : Cal P w K mg base 1 "read_manner" (spV w K C 1 f_read_manner) []) (HH : HouV P w K mg base C CI) (ce_check_words : CalE P w K mg base 4 "check_words" (spE w K C ex 1 fe_check_words)) (hexI : ex "InvalidHouse" = CI) : CalE P w K mg base 7 "parse_house" (spE w K C ex 1 fe_parse_house) := by
  refine cal_E F b scVParseHouse (fun cdv A outer s H E Z hC hX hr => ?_)
  have nd := scVParseHouse.nd
  have hu := hu_of hr
  have hu66 := hu66_of hr
  exact (vs_cons (vs_setLc (i := 1) (own := [("row", 4)]) rfl nd rfl rfl (sw_true rfl rfl rfl (by decide +kernel)) (vi_seq (v_split (by decide) (v_var (pv 0)))) (blkOk_by (N := ["text", "rows", "plates", "names", "row", "word", "words"]) (sc := C8.fnScope stVParseHouse) (by decide +kernel)) (fun _ _ _ _ _ => (pg_name (i := 4) nd rfl (Or.inl rfl))) (fun _ _ _ _ _ => vts_nil) (fun _ _ _ _ _ => (v_split (by decide) (v_var (pv 4)))) tg_nm (by decide))
      (vss_keep 1 (vs_cons (vs_do (v_ce hC hX (L2.takes_of rfl rfl rfl rfl) (fun _ _ _ _ z => z) ce_check_words hr (by decide) rfl (va_cons (v_var (pv 1)) va_nil)))
      (vs_cons (vs_set (i := 2) (v_fz (v_callTy call_tuple_ofF ok_tuple rfl n_tuple (by decide +kernel) (vp_cons (v_lc (own := [("word", 5)]) rfl nd (vi_seq (v_sl (v_ix hu66 (v_var (pv 1)) v_int (fun _ _ => rfl)) (vo_pt v_int) vo_no)) (blkOk_by (N := ["text", "rows", "plates", "names", "row", "word", "words"]) (sc := C8.fnScope stVParseHouse) (by decide +kernel)) (fun _ _ _ _ _ => (pg_name (i := 5) nd rfl (Or.inl rfl))) (fun _ _ _ _ _ => vts_nil) (fun _ _ _ _ _ => (v_ife (vt_cmp (op_eqPv hu66) ok_eq (v_var (pv 5)) v_str (nomark _)) v_str (v_var (pv 5)))) tg_nm (by decide)) vp_nil))) (pg_name (i := 2) nd rfl (Or.inl rfl)))
      (vs_cons (vs_set (i := 3) (v_fz (v_callTy call_tuple_ofF ok_tuple rfl n_tuple (by decide +kernel) (vp_cons (v_lc (own := [("words", 6)]) rfl nd (vi_seq (v_sl (v_var (pv 1)) (vo_pt v_int) vo_no)) (blkOk_by (N := ["text", "rows", "plates", "names", "row", "word", "words"]) (sc := C8.fnScope stVParseHouse) (by decide +kernel)) (fun _ _ _ _ _ => (pg_name (i := 6) nd rfl (Or.inl rfl))) (fun _ _ _ _ _ => vts_nil) (fun _ _ _ _ _ => (v_ix hu66 (v_var (pv 6)) v_int (fun _ _ => rfl))) tg_nm (by decide)) vp_nil))) (pg_name (i := 3) nd rfl (Or.inl rfl)))
      (vs_cons (vs_ret (v_houseE HH hC hX hexI (L2.takes_of rfl rfl rfl rfl) (fun _ _ _ _ z => z) hr (by decide) rfl (va_cons (v_var (pv 3)) (va_cons (v_var (pv 2)) (va_cons (v_dc (own := [("words", 6)]) rfl nd (vi_seq (v_sl (v_var (pv 1)) (vo_pt v_int) vo_no)) (blkOk_by (N := ["text", "rows", "plates", "names", "row", "word", "words"]) (sc := C8.fnScope stVParseHouse) (by decide +kernel)) (fun _ _ _ _ _ => (pg_name (i := 6) nd rfl (Or.inl rfl))) (fun _ _ _ _ _ => vts_nil) (fun _ _ _ _ _ => (v_ix hu66 (v_var (pv 6)) v_int (fun _ _ => rfl))) (fun _ _ _ _ _ => (v_c hC c_read_manner hr (by decide) rfl (va_cons (v_var (pv 6)) va_nil))) tg_nm (by decide)) va_nil)))))
      vs_nil))))))
abbrev tryl__law_place : List (String × TK2) := [("InvalidText", .tp [.f "row", .f "word"]), ("InvalidHouse", .tp [.c "house", .f "part"])]
structure TryK__law_place (K : PySem.W.Frag) (mg : Str → Option Value) (ex : String → Addr) : Prop where
  g0 : mg "InvalidText" = some (.ref (ex "InvalidText"))
  x0 : XfC K (ex "InvalidText")
  n0_row : findIn K (.ref (ex "InvalidText")) "row" = some none
  n0_word : findIn K (.ref (ex "InvalidText")) "word" = some none
  g1 : mg "InvalidHouse" = some (.ref (ex "InvalidHouse"))
  x1 : XfC K (ex "InvalidHouse")
  n1_part : findIn K (.ref (ex "InvalidHouse")) "part" = some none
  e0_0 : exmOne K (.ref (ex "InvalidText")) (.ref (ex "InvalidText")) = some true
  e1_0 : exmOne K (.ref (ex "InvalidHouse")) (.ref (ex "InvalidText")) = some false
  e1_1 : exmOne K (.ref (ex "InvalidHouse")) (.ref (ex "InvalidHouse")) = some true
theorem tryw__law_place {K : PySem.W.Frag} {mg : Str → Option Value} {ex : String → Addr} (T : TryK__law_place K mg ex) {D : Ends} {cls : Value} {d : Option Addr} {σ : L2.St} {H : Hp} (hl : σ.length = 2) (z : WdOf2 ex tryl__law_place cls d H D.rt) : (∃ b, PySem.W.exmOne K cls (.ref (ex "InvalidText")) = some b ∧ (b = true → ∀ a, H a = none → wOne (some 1) (fun (a : Addr) (cls : Value) (d : Option Addr) => tRet (tTupF (tiT a cls d (ex "InvalidText") 1 [.f "row", .f "word"]))) a cls d D σ H) ∧ (b = false → (∃ b, PySem.W.exmOne K cls (.ref (ex "InvalidHouse")) = some b ∧ (b = true → ∀ a, H a = none → wOne (some 1) (fun (a : Addr) (cls : Value) (d : Option Addr) => tRet (tTupF (tiT a cls d (ex "InvalidHouse") 1 [.c "house", .f "part"]))) a cls d D σ H) ∧ (b = false → False)))) := by
  rcases z with ⟨rfl, z⟩ | ⟨rfl, z⟩ | z
  · refine ⟨true, T.e0_0, fun _ a na => ?_, fun z => nomatch z⟩
    obtain ⟨dd, fs, vs, rfl, hd, hl2, z⟩ := z
    exact tiT_run (List.getElem?_set_self (by rw [hl]; decide)) hd hl2 ⟨tiV_len hl2 (by decide), z _ (Same.refl _)⟩
  · refine ⟨false, T.e1_0, fun z => (nomatch z), fun _ => ⟨true, T.e1_1, fun _ a na => ?_, fun z => nomatch z⟩⟩
    obtain ⟨dd, fs, vs, rfl, hd, hl2, z⟩ := z
    exact tiT_run (List.getElem?_set_self (by rw [hl]; decide)) hd hl2 ⟨tiV_len hl2 (by decide), z _ (Same.refl _)⟩
  · exact z.elim
abbrev stVLawPlace : Stmt := top 31
theorem scVLawPlace : FnScope ["_law_rows", "e"] ["_law_rows"] (C8.fnScope stVLawPlace) := ⟨rfl, rfl, rfl, by decide +kernel, rfl, by decide +kernel, by decide +kernel⟩
def b__law_place : MS :=
  (mSeq (mTry tryl__law_place (mCallE 1 fe_parse_house (mCons (mJoin (mC (.str "
")) (mVar 0)) mNil)))
  (mSeq (mRet (mC .non))
  mNext))
def f__law_place : List PV → M Rs := fnV 2 1 b__law_place
theorem cv__law_place {f : Addr} {fd : FuncData} (F : Def K mg "_law_place" stVLawPlace f fd) (b : Binds K fd ["_law_rows"] []) (ce_parse_house : CalE P w K mg base 7 "parse_house" (spE w K C ex 1 fe_parse_house)) (TK__law_place : TryK__law_place K mg ex) : Cal P w K mg base 8 "_law_place" (spVX w K C ex 1 f__law_place) [] := by
  refine cal_VX F b scVLawPlace (fun cdv A outer s H E Z hC hX hr => ?_)
  have nd := scVLawPlace.nd
  have hu := hu_of hr
  have hu66 := hu66_of hr
  exact (vs_cons (vs_try (l := tryl__law_place) hX rfl rfl (fun W pn xe F tk hW => (v_ce hC hX tk hW ce_parse_house hr (by decide) rfl (va_cons (v_join v_str (v_var (pv 0))) va_nil))) (fun _ _ => rfl) (by_cons ⟨rfl, by decide, .inl TK__law_place.g0⟩ (.inr ⟨1, _, rfl, rfl, nd, rfl, rfl⟩) (fun a oe cls d pn hz hf => pss_one (ps_ret (pe_tupF (pa_cons (pe_xf (X := (cxOf C8.CX0 P w K mg base ["_law_rows", "e"] "_law_place" (C8.fnScope stVLawPlace) f cdv A outer s H E).nox) (a := a) (pn := pn) TK__law_place.x0 TK__law_place.n0_row hz hf (pv 1)) (pa_cons (pe_xf (X := (cxOf C8.CX0 P w K mg base ["_law_rows", "e"] "_law_place" (C8.fnScope stVLawPlace) f cdv A outer s H E).nox) (a := a) (pn := pn) TK__law_place.x0 TK__law_place.n0_word hz hf (pv 1)) pa_nil))))) (by_cons ⟨rfl, by decide, .inl TK__law_place.g1⟩ (.inr ⟨1, _, rfl, rfl, nd, rfl, rfl⟩) (fun a oe cls d pn hz hf => pss_one (ps_ret (pe_tupF (pa_cons pe_str (pa_cons (pe_xf (X := (cxOf C8.CX0 P w K mg base ["_law_rows", "e"] "_law_place" (C8.fnScope stVLawPlace) f cdv A outer s H E).nox) (a := a) (pn := pn) TK__law_place.x1 TK__law_place.n1_part hz hf (pv 1)) pa_nil))))) by_nil)) (fun D cls d σ H hl z => tryw__law_place TK__law_place hl z))
      (vs_cons (vs_ret v_non)
      vs_nil))
abbrev stVLaw : Stmt := top 32
theorem scVLaw : FnScope ["_law_script", "_law_row", "_law_good", "_law_first", "_law_second", "_law_third", "_law_turn", "_law_line", "_law_word", "_law_many", "_law_rows", "_law_letter"] ["_law_script"] (C8.fnScope stVLaw) := ⟨rfl, rfl, rfl, by decide +kernel, rfl, by decide +kernel, by decide +kernel⟩
abbrev lawHead : Stmt := (C8.fnBody stVLaw).headD (.Pass ⟨0, 0, 0, 0⟩)
abbrev lawTail : List Stmt := (C8.fnBody stVLaw).tail
def b_law : MS :=
  (mSeq (mSet 2 (mFz (mLst (mCons (mC (.str "plates - b.. -")) (mCons (mC (.str "guess ant - 2")) (mCons (mC (.str "back bee")) mNil))))))
  (mSeq (mIfS (mTst (mBin (isNP true) (mCall0 1 f__law_place (mCons (mVar 2) mNil)) (mC .non))) (mSeq (mRet (mC (.bl false)))
  mNext) mNext)
  (mSeq (mSet 3 (mFz (mLst (mCons (mTup (mCons (mC (.str "")) (mCons (mC (.int 0)) mNil))) (mCons (mTup (mCons (mC (.str "plate -")) (mCons (mC (.int 0)) mNil))) (mCons (mTup (mCons (mC (.str "plates")) (mCons (mC (.int 1)) mNil))) (mCons (mTup (mCons (mC (.str "plates B")) (mCons (mC (.int 1)) mNil))) (mCons (mTup (mCons (mC (.str "plates - --")) (mCons (mC (.int 2)) mNil))) (mCons (mTup (mCons (mC (.str "plates - - abcdefghi")) (mCons (mC (.int 3)) mNil))) mNil)))))))))
  (mSeq (mSet 3 (mFz (mBin addSP (mVar 3) (mLst (mCons (mTup (mCons (mC (.str "plates  -")) (mCons (mC (.int 1)) mNil))) (mCons (mTup (mCons (mC (.str "plates - ")) (mCons (mC (.int 2)) mNil))) (mCons (mTup (mCons (mC (.str "plates - - - - - - -")) (mCons (mC (.int 7)) mNil))) (mCons (mTup (mCons (mC (.str "back ant")) (mCons (mC (.int 0)) mNil))) (mCons (mTup (mCons (mC (.str "plates a,")) (mCons (mC (.int 1)) mNil))) mNil)))))))))
  (mSeq (mSet 4 (mFz (mLst (mCons (mTup (mCons (mC (.str "")) (mCons (mC (.int 0)) mNil))) (mCons (mTup (mCons (mC (.str "guess")) (mCons (mC (.int 1)) mNil))) (mCons (mTup (mCons (mC (.str "guess Ant - 2")) (mCons (mC (.int 1)) mNil))) (mCons (mTup (mCons (mC (.str "guess ant")) (mCons (mC (.int 2)) mNil))) (mCons (mTup (mCons (mC (.str "guess ant -")) (mCons (mC (.int 3)) mNil))) (mCons (mTup (mCons (mC (.str "guess ant - 2 0")) (mCons (mC (.int 4)) mNil))) mNil)))))))))
  (mSeq (mSet 4 (mFz (mBin addSP (mVar 4) (mLst (mCons (mTup (mCons (mC (.str "guess ant - 10")) (mCons (mC (.int 3)) mNil))) (mCons (mTup (mCons (mC (.str "guess ant x -")) (mCons (mC (.int 2)) mNil))) (mCons (mTup (mCons (mC (.str "guess ant --")) (mCons (mC (.int 2)) mNil))) (mCons (mTup (mCons (mC (.str "back")) (mCons (mC (.int 1)) mNil))) (mCons (mTup (mCons (mC (.str "back ant 1")) (mCons (mC (.int 2)) mNil))) mNil)))))))))
  (mSeq (mSet 4 (mFz (mBin addSP (mVar 4) (mLst (mCons (mTup (mCons (mC (.str "keeps ant")) (mCons (mC (.int 0)) mNil))) (mCons (mTup (mCons (mC (.str "keep ant ")) (mCons (mC (.int 2)) mNil))) (mCons (mTup (mCons (mC (.str "keep")) (mCons (mC (.int 1)) mNil))) (mCons (mTup (mCons (mC (.str "plates -")) (mCons (mC (.int 0)) mNil))) (mCons (mTup (mCons (mC (.str "guess  ant - 2")) (mCons (mC (.int 1)) mNil))) mNil)))))))))
  (mSeq (mSet 5 (mFz (mLst (mCons (mTup (mCons (mC (.str "back ant")) (mCons (mC (.int 1)) mNil))) (mCons (mTup (mCons (mC (.str "back aaa")) (mCons (mC (.int 1)) mNil))) (mCons (mTup (mCons (mC (.str "keep bee -")) (mCons (mC (.int 2)) mNil))) (mCons (mTup (mCons (mC (.str "guess bee 1")) (mCons (mC (.int 3)) mNil))) (mCons (mTup (mCons (mC (.str "back BEE")) (mCons (mC (.int 1)) mNil))) (mCons (mTup (mCons (mC (.str "")) (mCons (mC (.int 0)) mNil))) mNil)))))))))
  (mSeq (mFor (itCall (one rangeP) (pCons (mC (.int 8)) pNil)) (.nm 6) (mSeq (mUnp (.tp [7, 8]) (mBin ixP (mVar 3) (mCall0 2 f__law_taken (mCons (mVar 1) (mCons (mCall (one lenP0) (pCons (mVar 3) pNil)) mNil)))))
  (mSeq (mIfS (mTst (mBin (eqP true) (mCall0 1 f__law_place (mCons (mBin addSP (mLst (mCons (mVar 7) mNil)) (mSl (mVar 2) (mPt (mC (.int 1))) mNo)) mNil)) (mTup (mCons (mC (.int 0)) (mCons (mVar 8) mNil))))) (mSeq (mRet (mC (.bl false)))
  mNext) mNext)
  (mSeq (mUnp (.tp [7, 8]) (mBin ixP (mVar 4) (mCall0 2 f__law_taken (mCons (mVar 1) (mCons (mCall (one lenP0) (pCons (mVar 4) pNil)) mNil)))))
  (mSeq (mIfS (mTst (mBin (eqP true) (mCall0 1 f__law_place (mCons (mLst (mCons (mBin ixP (mVar 2) (mC (.int 0))) (mCons (mVar 7) (mCons (mBin ixP (mVar 2) (mC (.int 2))) mNil)))) mNil)) (mTup (mCons (mC (.int 1)) (mCons (mVar 8) mNil))))) (mSeq (mRet (mC (.bl false)))
  mNext) mNext)
  (mSeq (mUnp (.tp [7, 8]) (mBin ixP (mVar 5) (mCall0 2 f__law_taken (mCons (mVar 1) (mCons (mCall (one lenP0) (pCons (mVar 5) pNil)) mNil)))))
  (mSeq (mIfS (mTst (mBin (eqP true) (mCall0 1 f__law_place (mCons (mBin addSP (mSl (mVar 2) mNo (mPt (mC (.int 2)))) (mLst (mCons (mVar 7) mNil))) mNil)) (mTup (mCons (mC (.int 2)) (mCons (mVar 8) mNil))))) (mSeq (mRet (mC (.bl false)))
  mNext) mNext)
  (mSeq (mSet 9 (mFz (mBin addSP (mC (.int 1)) (mCall0 2 f__law_taken (mCons (mVar 1) (mCons (mC (.int 7)) mNil))))))
  (mSeq (mSet 10 (mFz (mBin addSP (mLst (mCons (mC (.str "plates - - - - - -")) mNil)) (mLc (itStr (mSlS (mC (.str "abcdefg")) mNo (mPt (mVar 9)))) [11] (.nm 11) mYes (mBin addSP (mC (.str "keep ")) (mVar 11))))))
  (mSeq (mIfS (mTst (mBin (eqP true) (mCall0 1 f__law_place (mCons (mVar 10) mNil)) (mIf (mTst (mBin gtP (mVar 9) (mC (.int 6)))) (mTup (mCons (mC (.int 7)) (mCons (mC (.int 0)) mNil))) (mC .non)))) (mSeq (mRet (mC (.bl false)))
  mNext) mNext)
  mNext))))))))))
  (mSeq (mIfS (mOr (mTst (mBin (eqP true) (mCall0 1 f__law_place (mCons (mLst (mCons (mC (.str "plates -")) mNil)) mNil)) (mTup (mCons (mC (.int 1)) (mCons (mC (.int 0)) mNil))))) (mTst (mBin (eqP true) (mCall0 1 f__law_place (mCons (mLst (mCons (mC (.str "")) mNil)) mNil)) (mTup (mCons (mC (.int 0)) (mCons (mC (.int 0)) mNil)))))) (mSeq (mRet (mC (.bl false)))
  mNext) mNext)
  (mSeq (mIfS (mTst (mBin (eqP true) (mCall0 1 f__law_place (mCons (mLst (mCons (mC (.str "plates -")) (mCons (mC (.str "back a")) (mCons (mC (.str "back b")) mNil)))) mNil)) (mTup (mCons (mC (.str "house")) (mCons (mC (.str "plates")) mNil))))) (mSeq (mRet (mC (.bl false)))
  mNext) mNext)
  (mSeq (mRet (mBin (eqP false) (mCall0 1 f__law_place (mCons (mLst (mCons (mC (.str "plates -")) (mCons (mC (.str "guess a 1")) mNil))) mNil)) (mTup (mCons (mC (.str "house")) (mCons (mC (.str "manners")) mNil)))))
  mNext))))))))))))
abbrev lawN : List Str := ["_law_script", "_law_row", "_law_good", "_law_first", "_law_second", "_law_third", "_law_turn", "_law_line", "_law_word", "_law_many", "_law_rows", "_law_letter"]
abbrev lawLev : Nat := 8
theorem lv_law (n_len : mg "len" = none) (n_range : mg "range" = none) (c__law_place : Cal P w K mg base 8 "_law_place" (spVX w K C ex 1 f__law_place) []) (c__law_taken : Cal P w K mg base 1 "_law_taken" (spV w K C 2 f__law_taken) []) (f : Addr) (cdv : Value) (A : Around) (outer : List Env) (s : Shared) (H : Hp) (E : XK) (Z : Zn) (hC : ZC Z C w) (hX : Z.ex = ex) (hr : Room lawLev (A.deeper (envOfC "law" (C8.fnScope stVLaw) s.heap.objs.size f cdv))) : VSs (cxOf C8.CX0 P w K mg base lawN "law" (C8.fnScope stVLaw) f cdv A outer s H E).nox Z none lawTail b_law := by
  have nd := scVLaw.nd
  have hu := hu_of hr
  have hu66 := hu66_of hr
  exact (vs_cons (vs_set (i := 2) (v_fz (v_lst (va_cons v_str (va_cons v_str (va_cons v_str va_nil))))) (pg_name (i := 2) nd rfl (Or.inl rfl)))
      (vs_cons (vs_if (vt_cmp op_notN (ok_isN fun v => (Bool.true_xor _).symm) (v_cX hC hX c__law_place hr (by decide) rfl (va_cons (v_var (pv 2)) va_nil)) v_non (nomark _)) (vs_cons (vs_ret v_bl)
      vs_nil) vs_nil)
      (vs_cons (vs_set (i := 3) (v_fz (v_lst (va_cons (v_tup (va_cons v_str (va_cons v_int va_nil))) (va_cons (v_tup (va_cons v_str (va_cons v_int va_nil))) (va_cons (v_tup (va_cons v_str (va_cons v_int va_nil))) (va_cons (v_tup (va_cons v_str (va_cons v_int va_nil))) (va_cons (v_tup (va_cons v_str (va_cons v_int va_nil))) (va_cons (v_tup (va_cons v_str (va_cons v_int va_nil))) va_nil)))))))) (pg_name (i := 3) nd rfl (Or.inl rfl)))
      (vs_cons (vs_set (i := 3) (v_fz (v_op op_addSV ok_addS (v_var (pv 3)) (v_lst (va_cons (v_tup (va_cons v_str (va_cons v_int va_nil))) (va_cons (v_tup (va_cons v_str (va_cons v_int va_nil))) (va_cons (v_tup (va_cons v_str (va_cons v_int va_nil))) (va_cons (v_tup (va_cons v_str (va_cons v_int va_nil))) (va_cons (v_tup (va_cons v_str (va_cons v_int va_nil))) va_nil)))))))) (pg_name (i := 3) nd rfl (Or.inl rfl)))
      (vs_cons (vs_set (i := 4) (v_fz (v_lst (va_cons (v_tup (va_cons v_str (va_cons v_int va_nil))) (va_cons (v_tup (va_cons v_str (va_cons v_int va_nil))) (va_cons (v_tup (va_cons v_str (va_cons v_int va_nil))) (va_cons (v_tup (va_cons v_str (va_cons v_int va_nil))) (va_cons (v_tup (va_cons v_str (va_cons v_int va_nil))) (va_cons (v_tup (va_cons v_str (va_cons v_int va_nil))) va_nil)))))))) (pg_name (i := 4) nd rfl (Or.inl rfl)))
      (vs_cons (vs_set (i := 4) (v_fz (v_op op_addSV ok_addS (v_var (pv 4)) (v_lst (va_cons (v_tup (va_cons v_str (va_cons v_int va_nil))) (va_cons (v_tup (va_cons v_str (va_cons v_int va_nil))) (va_cons (v_tup (va_cons v_str (va_cons v_int va_nil))) (va_cons (v_tup (va_cons v_str (va_cons v_int va_nil))) (va_cons (v_tup (va_cons v_str (va_cons v_int va_nil))) va_nil)))))))) (pg_name (i := 4) nd rfl (Or.inl rfl)))
      (vs_cons (vs_set (i := 4) (v_fz (v_op op_addSV ok_addS (v_var (pv 4)) (v_lst (va_cons (v_tup (va_cons v_str (va_cons v_int va_nil))) (va_cons (v_tup (va_cons v_str (va_cons v_int va_nil))) (va_cons (v_tup (va_cons v_str (va_cons v_int va_nil))) (va_cons (v_tup (va_cons v_str (va_cons v_int va_nil))) (va_cons (v_tup (va_cons v_str (va_cons v_int va_nil))) va_nil)))))))) (pg_name (i := 4) nd rfl (Or.inl rfl)))
      (vs_cons (vs_set (i := 5) (v_fz (v_lst (va_cons (v_tup (va_cons v_str (va_cons v_int va_nil))) (va_cons (v_tup (va_cons v_str (va_cons v_int va_nil))) (va_cons (v_tup (va_cons v_str (va_cons v_int va_nil))) (va_cons (v_tup (va_cons v_str (va_cons v_int va_nil))) (va_cons (v_tup (va_cons v_str (va_cons v_int va_nil))) (va_cons (v_tup (va_cons v_str (va_cons v_int va_nil))) va_nil)))))))) (pg_name (i := 5) nd rfl (Or.inl rfl)))
      (vs_cons (vs_for PassesOwn.never rfl (vi_range rfl n_range (vp_cons v_int vp_nil)) (pg_name (i := 6) nd rfl (Or.inl rfl)) tg_nm (vs_cons (vs_unp (v_ix hu66 (v_var (pv 3)) (v_c hC c__law_taken hr (by decide) rfl (va_cons (v_var (pv 1)) (va_cons (v_len0 rfl n_len (vp_cons (v_var (pv 3)) vp_nil)) va_nil))) (fun _ _ => rfl)) (pg_tup rfl (pgs_cons (pg_name (i := 7) nd rfl (Or.inl rfl)) (pgs_cons (pg_name (i := 8) nd rfl (Or.inl rfl)) pgs_nil))) (tg_tp (is := [7, 8])))
      (vs_cons (vs_if (vt_cmp (op_nePv hu66) ok_eq (v_cX hC hX c__law_place hr (by decide) rfl (va_cons (v_op op_addSV ok_addS (v_lst (va_cons (v_var (pv 7)) va_nil)) (v_sl (v_var (pv 2)) (vo_pt v_int) vo_no)) va_nil)) (v_tup (va_cons v_int (va_cons (v_var (pv 8)) va_nil))) (nomark _)) (vs_cons (vs_ret v_bl)
      vs_nil) vs_nil)
      (vs_cons (vs_unp (v_ix hu66 (v_var (pv 4)) (v_c hC c__law_taken hr (by decide) rfl (va_cons (v_var (pv 1)) (va_cons (v_len0 rfl n_len (vp_cons (v_var (pv 4)) vp_nil)) va_nil))) (fun _ _ => rfl)) (pg_tup rfl (pgs_cons (pg_name (i := 7) nd rfl (Or.inl rfl)) (pgs_cons (pg_name (i := 8) nd rfl (Or.inl rfl)) pgs_nil))) (tg_tp (is := [7, 8])))
      (vs_cons (vs_if (vt_cmp (op_nePv hu66) ok_eq (v_cX hC hX c__law_place hr (by decide) rfl (va_cons (v_lst (va_cons (v_ix hu66 (v_var (pv 2)) v_int (fun _ _ => rfl)) (va_cons (v_var (pv 7)) (va_cons (v_ix hu66 (v_var (pv 2)) v_int (fun _ _ => rfl)) va_nil)))) va_nil)) (v_tup (va_cons v_int (va_cons (v_var (pv 8)) va_nil))) (nomark _)) (vs_cons (vs_ret v_bl)
      vs_nil) vs_nil)
      (vs_cons (vs_unp (v_ix hu66 (v_var (pv 5)) (v_c hC c__law_taken hr (by decide) rfl (va_cons (v_var (pv 1)) (va_cons (v_len0 rfl n_len (vp_cons (v_var (pv 5)) vp_nil)) va_nil))) (fun _ _ => rfl)) (pg_tup rfl (pgs_cons (pg_name (i := 7) nd rfl (Or.inl rfl)) (pgs_cons (pg_name (i := 8) nd rfl (Or.inl rfl)) pgs_nil))) (tg_tp (is := [7, 8])))
      (vs_cons (vs_if (vt_cmp (op_nePv hu66) ok_eq (v_cX hC hX c__law_place hr (by decide) rfl (va_cons (v_op op_addSV ok_addS (v_sl (v_var (pv 2)) vo_no (vo_pt v_int)) (v_lst (va_cons (v_var (pv 7)) va_nil))) va_nil)) (v_tup (va_cons v_int (va_cons (v_var (pv 8)) va_nil))) (nomark _)) (vs_cons (vs_ret v_bl)
      vs_nil) vs_nil)
      (vs_cons (vs_set (i := 9) (v_fz (v_op op_addSV ok_addS v_int (v_c hC c__law_taken hr (by decide) rfl (va_cons (v_var (pv 1)) (va_cons v_int va_nil))))) (pg_name (i := 9) nd rfl (Or.inl rfl)))
      (vs_cons (vs_set (i := 10) (v_fz (v_op op_addSV ok_addS (v_lst (va_cons v_str va_nil)) (v_lc (own := [("_law_letter", 11)]) rfl nd (vi_str (v_slS v_str vo_no (vo_pt (v_var (pv 9))))) (blkOk_by (N := ["_law_script", "_law_row", "_law_good", "_law_first", "_law_second", "_law_third", "_law_turn", "_law_line", "_law_word", "_law_many", "_law_rows", "_law_letter"]) (sc := C8.fnScope stVLaw) (by decide +kernel)) (fun _ _ _ _ _ => (pg_name (i := 11) nd rfl (Or.inl rfl))) (fun _ _ _ _ _ => vts_nil) (fun _ _ _ _ _ => (v_op op_addSV ok_addS v_str (v_var (pv 11)))) tg_nm (by decide)))) (pg_name (i := 10) nd rfl (Or.inl rfl)))
      (vs_cons (vs_if (vt_cmp (op_nePv hu66) ok_eq (v_cX hC hX c__law_place hr (by decide) rfl (va_cons (v_var (pv 10)) va_nil)) (v_ife (vt_cmp op_gt (ok_int fun _ _ _ => rfl) (v_var (pv 9)) v_int (nomark _)) (v_tup (va_cons v_int (va_cons v_int va_nil))) v_non) (nomark _)) (vs_cons (vs_ret v_bl)
      vs_nil) vs_nil)
      vs_nil))))))))))
      (vs_cons (vs_if (PW.pt (vw_or (vt_cmp (op_nePv hu66) ok_eq (v_cX hC hX c__law_place hr (by decide) rfl (va_cons (v_lst (va_cons v_str va_nil)) va_nil)) (v_tup (va_cons v_int (va_cons v_int va_nil))) (nomark _)) (vw_or1 (vt_cmp (op_nePv hu66) ok_eq (v_cX hC hX c__law_place hr (by decide) rfl (va_cons (v_lst (va_cons v_str va_nil)) va_nil)) (v_tup (va_cons v_int (va_cons v_int va_nil))) (nomark _))))) (vs_cons (vs_ret v_bl)
      vs_nil) vs_nil)
      (vs_cons (vs_if (vt_cmp (op_nePv hu66) ok_eq (v_cX hC hX c__law_place hr (by decide) rfl (va_cons (v_lst (va_cons v_str (va_cons v_str (va_cons v_str va_nil)))) va_nil)) (v_tup (va_cons v_str (va_cons v_str va_nil))) (nomark _)) (vs_cons (vs_ret v_bl)
      vs_nil) vs_nil)
      (vs_cons (vs_ret (v_cmp (op_eqPv hu66) ok_eq (v_cX hC hX c__law_place hr (by decide) rfl (va_cons (v_lst (va_cons v_str (va_cons v_str va_nil))) va_nil)) (v_tup (va_cons v_str (va_cons v_str va_nil))) (nomark _)))
      vs_nil))))))))))))
end

/-! ## houses that are right -/
section
def hv (ns ss : List Str) (ws : List Man) : PV := .hs ns ss (ns.zip (ws.map mdOf))
structure Hv (ns ss : List Str) (ws : List Man) : Prop where
  ok : HsOk ns ss (ns.zip (ws.map mdOf))
  nb : namesB ns = true
  pb : platesB ss ns.length = true
  wl : ws.length = ns.length
  gs : ∀ g, Man.guess g ∈ ws → g.length = ns.length ∧ ∀ b, some b ∈ g → b < ss.length
section
variable {ns ss : List Str} {ws : List Man} (h : Hv ns ss ws)
include h
theorem Hv.names : 1 ≤ ns.length ∧ ns.length ≤ 6 ∧ (∀ n ∈ ns, okSigns lettersS n = true) ∧ ascB ns = true := by
  have := h.nb
  unfold namesB at this
  simp only [Bool.and_eq_true, decide_eq_true_eq, List.all_eq_true] at this
  exact ⟨this.1, this.2.1, this.2.2.1, this.2.2.2⟩
theorem Hv.plates : ns.length ≤ ss.length ∧ ss.length ≤ 6 ∧ ∀ s ∈ ss, plateB s = true := by
  have := h.pb
  unfold platesB at this
  simp only [Bool.and_eq_true, decide_eq_true_eq, List.all_eq_true] at this
  exact ⟨this.1, this.2.1, this.2.2⟩
theorem Hv.vals : (ns.zip (ws.map mdOf)).map (fun q => pvM q.2) = ws.map mP := by
  have e : (fun q : Str × MD => pvM q.2) = pvM ∘ Prod.snd := rfl
  rw [e, ← List.map_map, List.map_snd_zip (by rw [List.length_map, h.wl]; exact Nat.le_refl _), List.map_map]
  exact List.map_congr_left fun m _ => pvM_md m
theorem hv_manners : mannersP (hv ns ss ws) = pure (.own (.dct (ns.map .inr) (ws.map mP))) := by
  show pure (Rs.own (.dct _ _)) = _
  rw [h.vals]
end
theorem okS_len {sg z : Str} (h : okSigns sg z = true) : 1 ≤ z.length ∧ z.length ≤ 8 ∧ ∀ c ∈ z.cps.toList, c ∈ sg.cps.toList := by
  unfold okSigns at h
  simp only [Bool.and_eq_true, decide_eq_true_eq, List.all_eq_true] at h
  exact h
theorem hv_names (ns ss : List Str) (ws : List Man) : namesP (hv ns ss ws) = pure (.val (.tup (ns.map .str))) := rfl
theorem hv_plates (ns ss : List Str) (ws : List Man) : platesP (hv ns ss ws) = pure (.val (.tup (ss.map .str))) := rfl
section
variable {ns ss : List Str} {ws : List Man} (h : Hv ns ss ws)
include h
theorem kd_of' : kdP (ns.map .inr) (ws.map mP) = some (ns.zip (ws.map mdOf)) := kdP_of h.wl
theorem house_hv : houseP [.tup (ns.map .str), .tup (ss.map .str), .dct (ns.map .inr) (ws.map mP)] = pure (.val (hv ns ss ws)) := by
  obtain ⟨_, n6, _⟩ := h.names
  obtain ⟨_, p6, _⟩ := h.plates
  unfold houseP
  dsimp only
  rw [strsP_map, strsP_map, kd_of' h]
  show (do M.ask _; pure _) = _
  rw [ask_true ⟨h.ok, by omega, by omega⟩]
  rfl
end
theorem hv_mem {ns : List Str} {ws : List Man} {q : Str × MD} (h : q ∈ ns.zip (ws.map mdOf)) : ∃ m ∈ ws, q.2 = mdOf m := by
  have := (List.of_mem_zip (a := q.1) (b := q.2) h).2
  obtain ⟨m, hm, e⟩ := List.mem_map.mp this
  exact ⟨m, hm, e.symm⟩
theorem nodup_asc {ns : List Str} (h : ascB ns = true) : ns.Nodup := by
  have asc : ∀ i x y, ns[i]? = some x → ns[i + 1]? = some y → x.cps.toList < y.cps.toList := fun i x y hx hy => by
    unfold ascB at h
    rw [List.all_eq_true] at h
    have hj := (List.getElem?_eq_some_iff.mp hy).1
    have := h i (List.mem_range.mpr (by omega))
    rw [List.getD_eq_getElem?_getD, List.getD_eq_getElem?_getD, hx, hy] at this
    exact of_decide_eq_true this
  have far : ∀ (k i : Nat) (x y : Str), ns[i]? = some x → ns[i + k + 1]? = some y → x.cps.toList < y.cps.toList := by
    intro k
    induction k with
    | zero => exact fun i x y hx hy => asc i x y hx hy
    | succ k ih =>
      intro i x y hx hy
      have hj := (List.getElem?_eq_some_iff.mp hy).1
      have hz := List.getElem?_eq_getElem (l := ns) (i := i + k + 1) (by omega)
      exact List.lt_trans (ih i x _ hx hz) (asc (i + k + 1) _ y hz (by rw [show i + k + 1 + 1 = i + (k + 1) + 1 by omega]; exact hy))
  rw [List.nodup_iff_pairwise_ne, List.pairwise_iff_getElem]
  intro i j hi hj hij e
  have := far (j - i - 1) i ns[i] ns[j] (List.getElem?_eq_getElem hi) (by rw [show i + (j - i - 1) + 1 = j by omega]; exact List.getElem?_eq_getElem hj)
  rw [e] at this
  exact List.lt_irrefl _ this
theorem Hv.mk' {ns ss : List Str} {ws : List Man} (nb : namesB ns = true) (pb : platesB ss ns.length = true) (wl : ws.length = ns.length) (gs : ∀ g, Man.guess g ∈ ws → g.length = ns.length ∧ ∀ b, some b ∈ g → b < ss.length) : Hv ns ss ws := by
  have nb' := nb
  unfold namesB at nb'
  simp only [Bool.and_eq_true, decide_eq_true_eq, List.all_eq_true] at nb'
  obtain ⟨n1, n6, on, asc⟩ := nb'
  have pb' := pb
  unfold platesB at pb'
  simp only [Bool.and_eq_true, decide_eq_true_eq, List.all_eq_true] at pb'
  obtain ⟨np, p6, pl⟩ := pb'
  have nd := nodup_asc asc
  have keys : (ns.zip (ws.map mdOf)).map (·.1) = ns := List.map_fst_zip (by rw [List.length_map]; omega)
  have klen : (ns.zip (ws.map mdOf)).length = ns.length := by
    have := congrArg List.length keys
    rw [List.length_map] at this
    exact this
  have man : ∀ q ∈ ns.zip (ws.map mdOf), mannerB ns.length ss.length q.2 = true := fun q hq => by
    obtain ⟨mn, hm, e⟩ := hv_mem hq
    rw [e]
    cases mn with
    | back => rfl
    | keep => rfl
    | guess g =>
      obtain ⟨hl, hb⟩ := gs g hm
      show (decide ((g.map optV).length = ns.length) && (g.map optV).all (itemB ss.length)) = true
      rw [decide_eq_true (by rw [List.length_map]; exact hl), Bool.true_and, List.all_eq_true]
      intro x hx
      obtain ⟨o, ho, rfl⟩ := List.mem_map.mp hx
      cases o with
      | none => rfl
      | some b =>
        have := hb b ho
        show (decide (V.int (b : Int) = .non) || (decide (0 ≤ (b : Int)) && decide ((b : Int) < (ss.length : Int)))) = true
        rw [decide_eq_true (by omega : 0 ≤ (b : Int)), decide_eq_true (by omega : (b : Int) < (ss.length : Int))]
        simp
  have look : ∀ n ∈ ns, ∃ d, (ns.zip (ws.map mdOf)).lookup n = some d ∧ (n, d) ∈ ns.zip (ws.map mdOf) := fun n hn => by
    obtain ⟨j, hj, rfl⟩ := List.getElem_of_mem hn
    have hj' : j < (ns.zip (ws.map mdOf)).length := by rw [klen]; exact hj
    have e : (ns.zip (ws.map mdOf))[j].1 = ns[j] := by
      have q : ((ns.zip (ws.map mdOf)).map (·.1))[j]? = ns[j]? := by rw [keys]
      rw [List.getElem?_map, List.getElem?_eq_getElem hj', List.getElem?_eq_getElem hj] at q
      exact Option.some.inj q
    refine ⟨(ns.zip (ws.map mdOf))[j].2, ?_, ?_⟩
    · rw [← e]
      exact lookup_nd hj' (by rw [keys]; exact nd)
    · rw [← e]
      exact List.getElem_mem hj'
  have mb : mannersB (ns.zip (ws.map mdOf)) ns ss.length = true := by
    unfold mannersB
    rw [decide_eq_true klen, Bool.true_and, Bool.and_eq_true]
    constructor
    · rw [List.all_eq_true]
      intro n hn
      obtain ⟨d, e, _⟩ := look n hn
      rw [e]
      rfl
    · rw [List.all_eq_true]
      intro n hn
      obtain ⟨d, e, hd⟩ := look n hn
      rw [e]
      exact man _ hd
  refine ⟨⟨?_, fun q hq => ?_, keys, nd, fun z hz => ?_, fun z hz => ?_⟩, nb, pb, wl, gs⟩
  · unfold housePart
    rw [if_pos nb, if_pos pb, if_pos mb]
  · obtain ⟨mn, hm, e⟩ := hv_mem hq
    rw [e]
    cases mn with
    | back => trivial
    | keep => trivial
    | guess g =>
      obtain ⟨hl, _⟩ := gs g hm
      refine ⟨by rw [List.length_map]; omega, fun x hx => ?_⟩
      obtain ⟨o, _, rfl⟩ := List.mem_map.mp hx
      exact optV_itm o
  · have := (okS_len (on z hz)).2.1
    omega
  · have := pl z hz
    unfold plateB at this
    by_cases c : z = Str.ofString ""
    · rw [c]
      decide +kernel
    · rw [decide_eq_false c, Bool.false_or] at this
      have := (okS_len this).2.1
      omega
theorem eqH_self {ns ss : List Str} {ws : List Man} (h : Hv ns ss ws) (neg : Bool) : eqHP neg (hv ns ss ws) (hv ns ss ws) = pure (.val (.bl (neg ^^ true))) := by
  have e : houEq ns ns ss ss (ns.zip (ws.map mdOf)) (ns.zip (ws.map mdOf)) = true := by
    unfold houEq
    rw [kdEq_refl (by rw [h.ok.keys]; exact h.ok.nd), decide_eq_true rfl, decide_eq_true rfl]
    rfl
  show pure (Rs.val (.bl (neg ^^ houEq _ _ _ _ _ _))) = _
  rw [e]
theorem addS_tt {a b : List PV} (h : a.length + b.length ≤ 100000) : addSP (.tup a) (.tup b) = pure (.val (.tup (a ++ b))) := by
  show (do M.ask _; pure _) = _
  rw [ask_true h]
  rfl
end

/-! ## law_k46: what the program's defs come to -/
section
theorem w_consists (z sg : Str) (h : z.length ≤ 1000) : f_consists_of [.str z, .str sg] = pure (.val (.bl (okSigns sg z))) := by
  have hl : z.cps.toList.length = z.length := Array.length_toList
  have hc : (mLc (itStr (mVar 0)) [2] (.nm 2) mYes (mBin (inP false) (mVar 2) (mVar 1))) [.val (.str z), .val (.str sg), .un] = pure (.own (.lst ((z.cps.toList.map fun c => decide (c ∈ sg.cps.toList)).map .bl))) := by
    have := mLc_of (mi := itStr (mVar 0)) (i := 2) (vs := [2]) (tt := mYes) (el := mBin (inP false) (mVar 2) (mVar 1)) (e := [.val (.str z), .val (.str sg), .un]) (xs := signsP z) (fun _ => true) (fun x => .bl (match x with | .str c => decide (c.cps.toList.headD 0 ∈ sg.cps.toList) | _ => false))
      (by unfold itStr; simp only [fnV, mSeq, mNext, mRet, mRetN, mRetV, mSet, mDo, mIfS, mIf, mFz, mVar, mC, mBin, mUn, mTup, mLst, mNil, mCons, pNil, pCons, mCall, one_1, two_2, mTst, asB_bl, mAnd, mOr, mNot, mAndV, mOrV, mNotV, mChain, mCall0, safe_pure, mTM, Rs.pv, pure_bind, map_pureM, bind_pure_comp, bind_assoc, List.map_cons, List.map_nil, List.replicate, List.cons_append, List.nil_append, List.append_nil, List.getElem?_cons_succ, List.getElem?_cons_zero, List.set_cons_succ, List.set_cons_zero, List.length_cons, List.length_nil, Nat.reduceAdd, Nat.reduceSub, Nat.reduceLeDiff, ask_true, if_true, if_false, Bool.false_eq_true, reduceIte, int_ii, addP, isiP, PV.tyN, kit_ii, kit_bi, kit_bb, kit_ib, kit_ni, kit_si, kit_ss, kit_tt, kit_dd, kit_st, Bool.not_false, Bool.not_true, Bool.true_and, Bool.false_and, xor_false', xor_true', eq_ii, eq_ss, eq_ni, eq_ns, eq_nn, eq_in, isN_non, isN_int, isN_str, neg_int, itCall, itSeq, tup_lst, tgSet, mApp, mUnp, eq_self, setAll, decide_true, bind_map_left, mHouse, mPar, mPut, slotOf, mNo, mPt, mSl, mNewD, mKeep, isNt_non, isNt_int, isNt_str, addS_ii, addS_sn, mParN, putL, mFs, mFmt, mJs, mRetV, dsl0]) (by unfold signsP; rw [List.length_map]; omega) (by
        intro x hx
        refine ⟨rfl, fun _ => ?_⟩
        obtain ⟨c, hc, rfl⟩ := List.mem_map.mp hx
        unfold wipeE wipeE
        simp only [fnV, mSeq, mNext, mRet, mRetN, mRetV, mSet, mDo, mIfS, mIf, mFz, mVar, mC, mBin, mUn, mTup, mLst, mNil, mCons, pNil, pCons, mCall, one_1, two_2, mTst, asB_bl, mAnd, mOr, mNot, mAndV, mOrV, mNotV, mChain, mCall0, safe_pure, mTM, Rs.pv, pure_bind, map_pureM, bind_pure_comp, bind_assoc, List.map_cons, List.map_nil, List.replicate, List.cons_append, List.nil_append, List.append_nil, List.getElem?_cons_succ, List.getElem?_cons_zero, List.set_cons_succ, List.set_cons_zero, List.length_cons, List.length_nil, Nat.reduceAdd, Nat.reduceSub, Nat.reduceLeDiff, ask_true, if_true, if_false, Bool.false_eq_true, reduceIte, int_ii, addP, isiP, PV.tyN, kit_ii, kit_bi, kit_bb, kit_ib, kit_ni, kit_si, kit_ss, kit_tt, kit_dd, kit_st, Bool.not_false, Bool.not_true, Bool.true_and, Bool.false_and, xor_false', xor_true', eq_ii, eq_ss, eq_ni, eq_ns, eq_nn, eq_in, isN_non, isN_int, isN_str, neg_int, itCall, itSeq, tup_lst, tgSet, mApp, mUnp, eq_self, setAll, decide_true, bind_map_left, mHouse, mPar, mPut, slotOf, mNo, mPt, mSl, mNewD, mKeep, isNt_non, isNt_int, isNt_str, addS_ii, addS_sn, mParN, putL, mFs, mFmt, mJs, mRetV, dsl0]
        have e : inP false (.str ⟨#[c]⟩) (.str sg) = pure (.val (.bl (decide (c ∈ sg.cps.toList)))) := by
          show (do M.ask ((⟨#[c]⟩ : Str).cps.size = 1); pure _) = _
          rw [ask_true (show (⟨#[c]⟩ : Str).cps.size = 1 from rfl), pure_bind, xor_false']
          rfl
        rw [e]
        rfl)
    rw [this, List.filter_eq_self.mpr (fun _ _ => rfl)]
    unfold signsP
    rw [List.map_map, List.map_map]
    rfl
  unfold f_consists_of b_consists_of okSigns
  simp only [fnV, mSeq, mNext, mRet, mRetN, mRetV, mSet, mDo, mIfS, mIf, mFz, mVar, mC, mBin, mUn, mTup, mLst, mNil, mCons, pNil, pCons, mCall, one_1, two_2, mTst, asB_bl, mAnd, mOr, mNot, mAndV, mOrV, mNotV, mChain, mCall0, safe_pure, mTM, Rs.pv, pure_bind, map_pureM, bind_pure_comp, bind_assoc, List.map_cons, List.map_nil, List.replicate, List.cons_append, List.nil_append, List.append_nil, List.getElem?_cons_succ, List.getElem?_cons_zero, List.set_cons_succ, List.set_cons_zero, List.length_cons, List.length_nil, Nat.reduceAdd, Nat.reduceSub, Nat.reduceLeDiff, ask_true, if_true, if_false, Bool.false_eq_true, reduceIte, int_ii, addP, isiP, PV.tyN, kit_ii, kit_bi, kit_bb, kit_ib, kit_ni, kit_si, kit_ss, kit_tt, kit_dd, kit_st, Bool.not_false, Bool.not_true, Bool.true_and, Bool.false_and, xor_false', xor_true', eq_ii, eq_ss, eq_ni, eq_ns, eq_nn, eq_in, isN_non, isN_int, isN_str, neg_int, itCall, itSeq, tup_lst, tgSet, mApp, mUnp, eq_self, setAll, decide_true, bind_map_left, mHouse, mPar, mPut, slotOf, mNo, mPt, mSl, mNewD, mKeep, isNt_non, isNt_int, isNt_str, addS_ii, addS_sn, mParN, putL, mFs, mFmt, mJs, mRetV, dsl0, lenS_of h, hc, quant_bls]
  by_cases h1 : 1 ≤ z.length
  · have h1' : (1 : Int) ≤ (z.length : Int) := by omega
    rw [decide_eq_true h1', decide_eq_true h1]
    simp only [fnV, mSeq, mNext, mRet, mRetN, mRetV, mSet, mDo, mIfS, mIf, mFz, mVar, mC, mBin, mUn, mTup, mLst, mNil, mCons, pNil, pCons, mCall, one_1, two_2, mTst, asB_bl, mAnd, mOr, mNot, mAndV, mOrV, mNotV, mChain, mCall0, safe_pure, mTM, Rs.pv, pure_bind, map_pureM, bind_pure_comp, bind_assoc, List.map_cons, List.map_nil, List.replicate, List.cons_append, List.nil_append, List.append_nil, List.getElem?_cons_succ, List.getElem?_cons_zero, List.set_cons_succ, List.set_cons_zero, List.length_cons, List.length_nil, Nat.reduceAdd, Nat.reduceSub, Nat.reduceLeDiff, ask_true, if_true, if_false, Bool.false_eq_true, reduceIte, int_ii, addP, isiP, PV.tyN, kit_ii, kit_bi, kit_bb, kit_ib, kit_ni, kit_si, kit_ss, kit_tt, kit_dd, kit_st, Bool.not_false, Bool.not_true, Bool.true_and, Bool.false_and, xor_false', xor_true', eq_ii, eq_ss, eq_ni, eq_ns, eq_nn, eq_in, isN_non, isN_int, isN_str, neg_int, itCall, itSeq, tup_lst, tgSet, mApp, mUnp, eq_self, setAll, decide_true, bind_map_left, mHouse, mPar, mPut, slotOf, mNo, mPt, mSl, mNewD, mKeep, isNt_non, isNt_int, isNt_str, addS_ii, addS_sn, mParN, putL, mFs, mFmt, mJs, mRetV, dsl0]
    by_cases h8 : z.length ≤ 8
    · have h8' : (z.length : Int) ≤ 8 := by omega
      rw [decide_eq_true h8', decide_eq_true h8]
      simp only [fnV, mSeq, mNext, mRet, mRetN, mRetV, mSet, mDo, mIfS, mIf, mFz, mVar, mC, mBin, mUn, mTup, mLst, mNil, mCons, pNil, pCons, mCall, one_1, two_2, mTst, asB_bl, mAnd, mOr, mNot, mAndV, mOrV, mNotV, mChain, mCall0, safe_pure, mTM, Rs.pv, pure_bind, map_pureM, bind_pure_comp, bind_assoc, List.map_cons, List.map_nil, List.replicate, List.cons_append, List.nil_append, List.append_nil, List.getElem?_cons_succ, List.getElem?_cons_zero, List.set_cons_succ, List.set_cons_zero, List.length_cons, List.length_nil, Nat.reduceAdd, Nat.reduceSub, Nat.reduceLeDiff, ask_true, if_true, if_false, Bool.false_eq_true, reduceIte, int_ii, addP, isiP, PV.tyN, kit_ii, kit_bi, kit_bb, kit_ib, kit_ni, kit_si, kit_ss, kit_tt, kit_dd, kit_st, Bool.not_false, Bool.not_true, Bool.true_and, Bool.false_and, xor_false', xor_true', eq_ii, eq_ss, eq_ni, eq_ns, eq_nn, eq_in, isN_non, isN_int, isN_str, neg_int, itCall, itSeq, tup_lst, tgSet, mApp, mUnp, eq_self, setAll, decide_true, bind_map_left, mHouse, mPar, mPut, slotOf, mNo, mPt, mSl, mNewD, mKeep, isNt_non, isNt_int, isNt_str, addS_ii, addS_sn, mParN, putL, mFs, mFmt, mJs, mRetV, dsl0]
      rw [List.all_map]
      rfl
    · have h8' : ¬ (z.length : Int) ≤ 8 := by omega
      rw [decide_eq_false h8', decide_eq_false h8]
      simp only [fnV, mSeq, mNext, mRet, mRetN, mRetV, mSet, mDo, mIfS, mIf, mFz, mVar, mC, mBin, mUn, mTup, mLst, mNil, mCons, pNil, pCons, mCall, one_1, two_2, mTst, asB_bl, mAnd, mOr, mNot, mAndV, mOrV, mNotV, mChain, mCall0, safe_pure, mTM, Rs.pv, pure_bind, map_pureM, bind_pure_comp, bind_assoc, List.map_cons, List.map_nil, List.replicate, List.cons_append, List.nil_append, List.append_nil, List.getElem?_cons_succ, List.getElem?_cons_zero, List.set_cons_succ, List.set_cons_zero, List.length_cons, List.length_nil, Nat.reduceAdd, Nat.reduceSub, Nat.reduceLeDiff, ask_true, if_true, if_false, Bool.false_eq_true, reduceIte, int_ii, addP, isiP, PV.tyN, kit_ii, kit_bi, kit_bb, kit_ib, kit_ni, kit_si, kit_ss, kit_tt, kit_dd, kit_st, Bool.not_false, Bool.not_true, Bool.true_and, Bool.false_and, xor_false', xor_true', eq_ii, eq_ss, eq_ni, eq_ns, eq_nn, eq_in, isN_non, isN_int, isN_str, neg_int, itCall, itSeq, tup_lst, tgSet, mApp, mUnp, eq_self, setAll, decide_true, bind_map_left, mHouse, mPar, mPut, slotOf, mNo, mPt, mSl, mNewD, mKeep, isNt_non, isNt_int, isNt_str, addS_ii, addS_sn, mParN, putL, mFs, mFmt, mJs, mRetV, dsl0]
  · have h1' : ¬ (1 : Int) ≤ (z.length : Int) := by omega
    rw [decide_eq_false h1', decide_eq_false h1]
    simp only [fnV, mSeq, mNext, mRet, mRetN, mRetV, mSet, mDo, mIfS, mIf, mFz, mVar, mC, mBin, mUn, mTup, mLst, mNil, mCons, pNil, pCons, mCall, one_1, two_2, mTst, asB_bl, mAnd, mOr, mNot, mAndV, mOrV, mNotV, mChain, mCall0, safe_pure, mTM, Rs.pv, pure_bind, map_pureM, bind_pure_comp, bind_assoc, List.map_cons, List.map_nil, List.replicate, List.cons_append, List.nil_append, List.append_nil, List.getElem?_cons_succ, List.getElem?_cons_zero, List.set_cons_succ, List.set_cons_zero, List.length_cons, List.length_nil, Nat.reduceAdd, Nat.reduceSub, Nat.reduceLeDiff, ask_true, if_true, if_false, Bool.false_eq_true, reduceIte, int_ii, addP, isiP, PV.tyN, kit_ii, kit_bi, kit_bb, kit_ib, kit_ni, kit_si, kit_ss, kit_tt, kit_dd, kit_st, Bool.not_false, Bool.not_true, Bool.true_and, Bool.false_and, xor_false', xor_true', eq_ii, eq_ss, eq_ni, eq_ns, eq_nn, eq_in, isN_non, isN_int, isN_str, neg_int, itCall, itSeq, tup_lst, tgSet, mApp, mUnp, eq_self, setAll, decide_true, bind_map_left, mHouse, mPar, mPut, slotOf, mNo, mPt, mSl, mNewD, mKeep, isNt_non, isNt_int, isNt_str, addS_ii, addS_sn, mParN, putL, mFs, mFmt, mJs, mRetV, dsl0]
theorem w_is_word {z : Str} (h : z.length ≤ 1000) : f_is_word [.str z] = pure (.val (.bl (okSigns lettersS z))) := by
  unfold f_is_word b_is_word
  have := w_consists z lettersS h
  unfold lettersS at this
  simp only [fnV, mSeq, mNext, mRet, mRetN, mRetV, mSet, mDo, mIfS, mIf, mFz, mVar, mC, mBin, mUn, mTup, mLst, mNil, mCons, pNil, pCons, mCall, one_1, two_2, mTst, asB_bl, mAnd, mOr, mNot, mAndV, mOrV, mNotV, mChain, mCall0, safe_pure, mTM, Rs.pv, pure_bind, map_pureM, bind_pure_comp, bind_assoc, List.map_cons, List.map_nil, List.replicate, List.cons_append, List.nil_append, List.append_nil, List.getElem?_cons_succ, List.getElem?_cons_zero, List.set_cons_succ, List.set_cons_zero, List.length_cons, List.length_nil, Nat.reduceAdd, Nat.reduceSub, Nat.reduceLeDiff, ask_true, if_true, if_false, Bool.false_eq_true, reduceIte, int_ii, addP, isiP, PV.tyN, kit_ii, kit_bi, kit_bb, kit_ib, kit_ni, kit_si, kit_ss, kit_tt, kit_dd, kit_st, Bool.not_false, Bool.not_true, Bool.true_and, Bool.false_and, xor_false', xor_true', eq_ii, eq_ss, eq_ni, eq_ns, eq_nn, eq_in, isN_non, isN_int, isN_str, neg_int, itCall, itSeq, tup_lst, tgSet, mApp, mUnp, eq_self, setAll, decide_true, bind_map_left, mHouse, mPar, mPut, slotOf, mNo, mPt, mSl, mNewD, mKeep, isNt_non, isNt_int, isNt_str, addS_ii, addS_sn, mParN, putL, mFs, mFmt, mJs, mRetV, dsl0, this]
  rfl
theorem w_is_pattern {z : Str} (h : z.length ≤ 1000) : f_is_pattern [.str z] = pure (.val (.bl (okSigns patternS z))) := by
  unfold f_is_pattern b_is_pattern
  have := w_consists z patternS h
  unfold patternS at this
  simp only [fnV, mSeq, mNext, mRet, mRetN, mRetV, mSet, mDo, mIfS, mIf, mFz, mVar, mC, mBin, mUn, mTup, mLst, mNil, mCons, pNil, pCons, mCall, one_1, two_2, mTst, asB_bl, mAnd, mOr, mNot, mAndV, mOrV, mNotV, mChain, mCall0, safe_pure, mTM, Rs.pv, pure_bind, map_pureM, bind_pure_comp, bind_assoc, List.map_cons, List.map_nil, List.replicate, List.cons_append, List.nil_append, List.append_nil, List.getElem?_cons_succ, List.getElem?_cons_zero, List.set_cons_succ, List.set_cons_zero, List.length_cons, List.length_nil, Nat.reduceAdd, Nat.reduceSub, Nat.reduceLeDiff, ask_true, if_true, if_false, Bool.false_eq_true, reduceIte, int_ii, addP, isiP, PV.tyN, kit_ii, kit_bi, kit_bb, kit_ib, kit_ni, kit_si, kit_ss, kit_tt, kit_dd, kit_st, Bool.not_false, Bool.not_true, Bool.true_and, Bool.false_and, xor_false', xor_true', eq_ii, eq_ss, eq_ni, eq_ns, eq_nn, eq_in, isN_non, isN_int, isN_str, neg_int, itCall, itSeq, tup_lst, tgSet, mApp, mUnp, eq_self, setAll, decide_true, bind_map_left, mHouse, mPar, mPut, slotOf, mNo, mPt, mSl, mNewD, mKeep, isNt_non, isNt_int, isNt_str, addS_ii, addS_sn, mParN, putL, mFs, mFmt, mJs, mRetV, dsl0, this]
  rfl
end

/-! ## law_k47: the words of a text, checked -/
section
open PySem.W PyProof.Rows PySem.Calls
theorem seq_nx {m n : MS} {e e' : En} (h : m e = pure (.nx e')) : mSeq m n e = n e' := by
  unfold mSeq
  rw [h]
  rfl
theorem seq_rt {m n : MS} {e : En} {r : Rs} (h : m e = pure (.rt r)) : mSeq m n e = pure (.rt r) := by
  unfold mSeq
  rw [h]
  rfl
theorem ixL_0 (x : PV) (r : List PV) : ixP (.lst (x :: r)) (.int 0) = pure (.val x) := ixL_of (i := 0) rfl
theorem range2_1 {n : Nat} (h : n ≤ 1000) : range2P (.int 1) (.int ((n + 1 : Nat) : Int)) = pure ((List.range n).map fun k => nI (k + 1)) := by
  rw [range2_of (by omega), show (((n + 1 : Nat) : Int) - 1).toNat = n by omega]
  congr 1
  refine List.map_congr_left fun k _ => ?_
  show PV.int (1 + (k : Int)) = PV.int ((k + 1 : Nat) : Int)
  congr 1
  omega
theorem getZ {l : List Str} {k : Nat} {z : Str} (h : l[k]? = some z) : (l.map PV.str)[k]? = some (.str z) := by
  rw [List.getElem?_map, h]
  rfl
/-- a loop over 1, 2, .. that ends at the first bad one -/
theorem forL_bad {t : Tg} {body : MS} (I : Nat → En → Prop) (bad : Nat → Bool) (stop : Nat → M Fl) (hstop : ∀ j, (∃ r, stop j = pure (.rt r)) ∨ ∃ x, stop j = M.throw x) : ∀ (n i : Nat) (e : En), I i e →
    (∀ (j : Nat) (e : En), i ≤ j → j < i + n → I j e → (bad j = true → (tgSet t (nI j) e >>= body) = stop j) ∧ (bad j = false → ∃ e2, (tgSet t (nI j) e >>= body) = pure (.nx e2) ∧ I (j + 1) e2)) →
    (match (List.range' i n).find? bad with
      | some j => forL t body ((List.range' i n).map nI) e = stop j
      | none => ∃ e2, I (i + n) e2 ∧ forL t body ((List.range' i n).map nI) e = pure (.nx e2))
  | 0, i, e, h, _ => ⟨e, h, rfl⟩
  | n + 1, i, e, h, hs => by
    obtain ⟨h1, h2⟩ := hs i e (Nat.le_refl _) (by omega) h
    rw [List.range'_succ, List.find?_cons]
    cases c : bad i with
    | true =>
      have h1 := h1 c
      dsimp only
      rw [List.map_cons, forL, ← bind_assoc, h1]
      rcases hstop i with ⟨r, e1⟩ | ⟨x, e1⟩
      · rw [e1]
        rfl
      · rw [e1, throw_bind]
    | false =>
      obtain ⟨e2, h3, h4⟩ := h2 c
      have ih := forL_bad I bad stop hstop n (i + 1) e2 h4 fun j e hj hj2 => hs j e (by omega) (by omega)
      dsimp only
      rw [List.map_cons, forL, ← bind_assoc, h3]
      rw [show i + (n + 1) = i + 1 + n by omega]
      exact ih
theorem range_shift (n : Nat) : ((List.range n).map fun k => nI (k + 1)) = (List.range' 1 n).map nI := by
  rw [List.range'_eq_map_range, List.map_map]
  refine List.map_congr_left fun k _ => ?_
  show nI (k + 1) = nI (1 + k)
  rw [Nat.add_comm]
abbrev wz (ws : List Str) (j : Nat) : Str := ws.getD j (Str.ofString "")
theorem ix_w {ws : List Str} {j : Nat} (h : j < ws.length) : ixP (.lst (ws.map .str)) (nI j) = pure (.val (.str (wz ws j))) := ixL_of (i := j) (getZ (by rw [List.getElem?_eq_getElem h, wz, List.getD_eq_getElem?_getD, List.getElem?_eq_getElem h]; rfl))
/-! the row of the plates -/
def bP (ws : List Str) (j : Nat) : Bool := decide (6 < j) || !(decide (wz ws j = Str.ofString "-") || okSigns patternS (wz ws j))
def wP (ws : List Str) : Option Nat := if wz ws 0 = Str.ofString "plates" then (match (List.range' 1 (ws.length - 1)).find? (bP ws) with | some j => some j | none => if ws.length = 1 then some 1 else none) else some 0
theorem w_plates {ws : List Str} (h0 : ws ≠ []) (hl : ws.length ≤ 1000) (hz : ∀ z ∈ ws, z.length ≤ 1000) : f_wrong_in_plates [.lst (ws.map .str)] = pure (.val (oP (wP ws))) := by
  have hpos : 0 < ws.length := List.length_pos_iff.mpr h0
  obtain ⟨n, hn⟩ : ∃ n, ws.length = n + 1 := ⟨ws.length - 1, by omega⟩
  have el : (ws.map PV.str).length = n + 1 := by rw [List.length_map, hn]
  have le := len_lst (xs := ws.map PV.str) (by omega)
  rw [el] at le
  have i0 : ixP (.lst (ws.map .str)) (.int 0) = pure (.val (.str (wz ws 0))) := ix_w (j := 0) hpos
  have hx : ∀ j, j < ws.length → (wz ws j).length ≤ 1000 := fun j hj => by
    rw [wz, List.getD_eq_getElem?_getD, List.getElem?_eq_getElem hj]
    exact hz _ (List.getElem_mem hj)
  have ixw := fun j (h : j < ws.length) => ix_w h
  unfold wP
  rw [hn, Nat.add_sub_cancel]
  have lp := forL_bad (t := .nm 1) (body := (mSeq (mIfS (mOr (mTst (mBin gtP (mVar 1) (mC (.int 6)))) (mNot (mOr (mTst (mBin (eqP false) (mBin ixP (mVar 0) (mVar 1)) (mC (.str "-")))) (mTst (mCall0 1 f_is_pattern (mCons (mBin ixP (mVar 0) (mVar 1)) mNil)))))) (mSeq (mRet (mVar 1))
  mNext) mNext)
  mNext)) (fun _ e => ∃ s, e = [.val (.lst (ws.map .str)), s]) (bP ws) (fun j => pure (.rt (.val (nI j)))) (fun j => .inl ⟨_, rfl⟩) n 1 [.val (.lst (ws.map .str)), .un] ⟨_, rfl⟩ (fun j e hj hj2 he => by
    obtain ⟨s, rfl⟩ := he
    have ix := ixw j (by omega)
    have px := w_is_pattern (hx j (by omega))
    unfold bP
    generalize wz ws j = z at *
    generalize ws.map PV.str = xs at *
    by_cases c6 : 6 < j
    · have d6 : decide ((6 : Int) < (j : Int)) = true := decide_eq_true (by omega)
      rw [decide_eq_true c6, Bool.true_or]
      refine ⟨fun _ => ?_, fun h => by cases h⟩
      simp only [fnV, mSeq, mNext, mRet, mRetN, mRetV, mSet, mDo, mIfS, mIf, mFz, mVar, mC, mBin, mUn, mTup, mLst, mNil, mCons, pNil, pCons, mCall, one_1, two_2, mTst, asB_bl, mAnd, mOr, mNot, mAndV, mOrV, mNotV, mChain, mCall0, safe_pure, mTM, Rs.pv, pure_bind, map_pureM, bind_pure_comp, bind_assoc, List.map_cons, List.map_nil, List.replicate, List.cons_append, List.nil_append, List.append_nil, List.getElem?_cons_succ, List.getElem?_cons_zero, List.set_cons_succ, List.set_cons_zero, List.length_cons, List.length_nil, Nat.reduceAdd, Nat.reduceSub, Nat.reduceLeDiff, ask_true, if_true, if_false, Bool.false_eq_true, reduceIte, int_ii, addP, isiP, PV.tyN, kit_ii, kit_bi, kit_bb, kit_ib, kit_ni, kit_si, kit_ss, kit_tt, kit_dd, kit_st, Bool.not_false, Bool.not_true, Bool.true_and, Bool.false_and, xor_false', xor_true', eq_ii, eq_ss, eq_ni, eq_ns, eq_nn, eq_in, isN_non, isN_int, isN_str, neg_int, itCall, itSeq, tup_lst, tgSet, mApp, mUnp, eq_self, setAll, decide_true, bind_map_left, mHouse, mPar, mPut, slotOf, mNo, mPt, mSl, mNewD, mKeep, isNt_non, isNt_int, isNt_str, addS_ii, addS_sn, mParN, putL, mFs, mFmt, mJs, mRetV, dsl0, d6]
    · have d6 : decide ((6 : Int) < (j : Int)) = false := decide_eq_false (by omega)
      rw [decide_eq_false c6, Bool.false_or]
      by_cases cd : z = Str.ofString "-"
      · rw [decide_eq_true cd, Bool.true_or]
        refine ⟨fun h => (by cases h), fun _ => ⟨[.val (.lst xs), .val (nI j)], ?_, _, rfl⟩⟩
        simp only [fnV, mSeq, mNext, mRet, mRetN, mRetV, mSet, mDo, mIfS, mIf, mFz, mVar, mC, mBin, mUn, mTup, mLst, mNil, mCons, pNil, pCons, mCall, one_1, two_2, mTst, asB_bl, mAnd, mOr, mNot, mAndV, mOrV, mNotV, mChain, mCall0, safe_pure, mTM, Rs.pv, pure_bind, map_pureM, bind_pure_comp, bind_assoc, List.map_cons, List.map_nil, List.replicate, List.cons_append, List.nil_append, List.append_nil, List.getElem?_cons_succ, List.getElem?_cons_zero, List.set_cons_succ, List.set_cons_zero, List.length_cons, List.length_nil, Nat.reduceAdd, Nat.reduceSub, Nat.reduceLeDiff, ask_true, if_true, if_false, Bool.false_eq_true, reduceIte, int_ii, addP, isiP, PV.tyN, kit_ii, kit_bi, kit_bb, kit_ib, kit_ni, kit_si, kit_ss, kit_tt, kit_dd, kit_st, Bool.not_false, Bool.not_true, Bool.true_and, Bool.false_and, xor_false', xor_true', eq_ii, eq_ss, eq_ni, eq_ns, eq_nn, eq_in, isN_non, isN_int, isN_str, neg_int, itCall, itSeq, tup_lst, tgSet, mApp, mUnp, eq_self, setAll, decide_true, bind_map_left, mHouse, mPar, mPut, slotOf, mNo, mPt, mSl, mNewD, mKeep, isNt_non, isNt_int, isNt_str, addS_ii, addS_sn, mParN, putL, mFs, mFmt, mJs, mRetV, dsl0, d6, ix, decide_eq_true cd]
      · rw [decide_eq_false cd, Bool.false_or]
        cases cp : okSigns patternS z with
        | true =>
          rw [cp] at px
          refine ⟨fun h => (by cases h), fun _ => ⟨[.val (.lst xs), .val (nI j)], ?_, _, rfl⟩⟩
          simp only [fnV, mSeq, mNext, mRet, mRetN, mRetV, mSet, mDo, mIfS, mIf, mFz, mVar, mC, mBin, mUn, mTup, mLst, mNil, mCons, pNil, pCons, mCall, one_1, two_2, mTst, asB_bl, mAnd, mOr, mNot, mAndV, mOrV, mNotV, mChain, mCall0, safe_pure, mTM, Rs.pv, pure_bind, map_pureM, bind_pure_comp, bind_assoc, List.map_cons, List.map_nil, List.replicate, List.cons_append, List.nil_append, List.append_nil, List.getElem?_cons_succ, List.getElem?_cons_zero, List.set_cons_succ, List.set_cons_zero, List.length_cons, List.length_nil, Nat.reduceAdd, Nat.reduceSub, Nat.reduceLeDiff, ask_true, if_true, if_false, Bool.false_eq_true, reduceIte, int_ii, addP, isiP, PV.tyN, kit_ii, kit_bi, kit_bb, kit_ib, kit_ni, kit_si, kit_ss, kit_tt, kit_dd, kit_st, Bool.not_false, Bool.not_true, Bool.true_and, Bool.false_and, xor_false', xor_true', eq_ii, eq_ss, eq_ni, eq_ns, eq_nn, eq_in, isN_non, isN_int, isN_str, neg_int, itCall, itSeq, tup_lst, tgSet, mApp, mUnp, eq_self, setAll, decide_true, bind_map_left, mHouse, mPar, mPut, slotOf, mNo, mPt, mSl, mNewD, mKeep, isNt_non, isNt_int, isNt_str, addS_ii, addS_sn, mParN, putL, mFs, mFmt, mJs, mRetV, dsl0, d6, ix, decide_eq_false cd, px]
        | false =>
          rw [cp] at px
          refine ⟨fun _ => ?_, fun h => by cases h⟩
          simp only [fnV, mSeq, mNext, mRet, mRetN, mRetV, mSet, mDo, mIfS, mIf, mFz, mVar, mC, mBin, mUn, mTup, mLst, mNil, mCons, pNil, pCons, mCall, one_1, two_2, mTst, asB_bl, mAnd, mOr, mNot, mAndV, mOrV, mNotV, mChain, mCall0, safe_pure, mTM, Rs.pv, pure_bind, map_pureM, bind_pure_comp, bind_assoc, List.map_cons, List.map_nil, List.replicate, List.cons_append, List.nil_append, List.append_nil, List.getElem?_cons_succ, List.getElem?_cons_zero, List.set_cons_succ, List.set_cons_zero, List.length_cons, List.length_nil, Nat.reduceAdd, Nat.reduceSub, Nat.reduceLeDiff, ask_true, if_true, if_false, Bool.false_eq_true, reduceIte, int_ii, addP, isiP, PV.tyN, kit_ii, kit_bi, kit_bb, kit_ib, kit_ni, kit_si, kit_ss, kit_tt, kit_dd, kit_st, Bool.not_false, Bool.not_true, Bool.true_and, Bool.false_and, xor_false', xor_true', eq_ii, eq_ss, eq_ni, eq_ns, eq_nn, eq_in, isN_non, isN_int, isN_str, neg_int, itCall, itSeq, tup_lst, tgSet, mApp, mUnp, eq_self, setAll, decide_true, bind_map_left, mHouse, mPar, mPut, slotOf, mNo, mPt, mSl, mNewD, mKeep, isNt_non, isNt_int, isNt_str, addS_ii, addS_sn, mParN, putL, mFs, mFmt, mJs, mRetV, dsl0, d6, ix, decide_eq_false cd, px])
  have ht : itCall (two range2P) (pCons (mC (.int 1)) (pCons (mCall (one lenP0) (pCons (mVar 0) pNil)) pNil)) [.val (.lst (ws.map .str)), .un] = pure ((List.range' 1 n).map nI) := by
    generalize ws.map PV.str = xs at *
    simp only [fnV, mSeq, mNext, mRet, mRetN, mRetV, mSet, mDo, mIfS, mIf, mFz, mVar, mC, mBin, mUn, mTup, mLst, mNil, mCons, pNil, pCons, mCall, one_1, two_2, mTst, asB_bl, mAnd, mOr, mNot, mAndV, mOrV, mNotV, mChain, mCall0, safe_pure, mTM, Rs.pv, pure_bind, map_pureM, bind_pure_comp, bind_assoc, List.map_cons, List.map_nil, List.replicate, List.cons_append, List.nil_append, List.append_nil, List.getElem?_cons_succ, List.getElem?_cons_zero, List.set_cons_succ, List.set_cons_zero, List.length_cons, List.length_nil, Nat.reduceAdd, Nat.reduceSub, Nat.reduceLeDiff, ask_true, if_true, if_false, Bool.false_eq_true, reduceIte, int_ii, addP, isiP, PV.tyN, kit_ii, kit_bi, kit_bb, kit_ib, kit_ni, kit_si, kit_ss, kit_tt, kit_dd, kit_st, Bool.not_false, Bool.not_true, Bool.true_and, Bool.false_and, xor_false', xor_true', eq_ii, eq_ss, eq_ni, eq_ns, eq_nn, eq_in, isN_non, isN_int, isN_str, neg_int, itCall, itSeq, tup_lst, tgSet, mApp, mUnp, eq_self, setAll, decide_true, bind_map_left, mHouse, mPar, mPut, slotOf, mNo, mPt, mSl, mNewD, mKeep, isNt_non, isNt_int, isNt_str, addS_ii, addS_sn, mParN, putL, mFs, mFmt, mJs, mRetV, dsl0, le, range2_1 (show n ≤ 1000 by omega), range_shift]
  have fo : mFor (itCall (two range2P) (pCons (mC (.int 1)) (pCons (mCall (one lenP0) (pCons (mVar 0) pNil)) pNil))) (.nm 1) (mSeq (mIfS (mOr (mTst (mBin gtP (mVar 1) (mC (.int 6)))) (mNot (mOr (mTst (mBin (eqP false) (mBin ixP (mVar 0) (mVar 1)) (mC (.str "-")))) (mTst (mCall0 1 f_is_pattern (mCons (mBin ixP (mVar 0) (mVar 1)) mNil)))))) (mSeq (mRet (mVar 1))
  mNext) mNext)
  mNext) [.val (.lst (ws.map .str)), .un] = forL (.nm 1) (mSeq (mIfS (mOr (mTst (mBin gtP (mVar 1) (mC (.int 6)))) (mNot (mOr (mTst (mBin (eqP false) (mBin ixP (mVar 0) (mVar 1)) (mC (.str "-")))) (mTst (mCall0 1 f_is_pattern (mCons (mBin ixP (mVar 0) (mVar 1)) mNil)))))) (mSeq (mRet (mVar 1))
  mNext) mNext)
  mNext) ((List.range' 1 n).map nI) [.val (.lst (ws.map .str)), .un] := by
    rw [mFor_eq, ht, pure_bind]
  generalize ws.map PV.str = xs at *
  unfold f_wrong_in_plates b_wrong_in_plates
  by_cases c0 : wz ws 0 = Str.ofString "plates"
  · rw [if_pos c0]
    cases q : (List.range' 1 n).find? (bP ws) with
    | some j =>
      rw [q] at lp
      simp only [fnV, mSeq, mNext, mRet, mRetN, mRetV, mSet, mDo, mIfS, mIf, mFz, mVar, mC, mBin, mUn, mTup, mLst, mNil, mCons, pNil, pCons, mCall, one_1, two_2, mTst, asB_bl, mAnd, mOr, mNot, mAndV, mOrV, mNotV, mChain, mCall0, safe_pure, mTM, Rs.pv, pure_bind, map_pureM, bind_pure_comp, bind_assoc, List.map_cons, List.map_nil, List.replicate, List.cons_append, List.nil_append, List.append_nil, List.getElem?_cons_succ, List.getElem?_cons_zero, List.set_cons_succ, List.set_cons_zero, List.length_cons, List.length_nil, Nat.reduceAdd, Nat.reduceSub, Nat.reduceLeDiff, ask_true, if_true, if_false, Bool.false_eq_true, reduceIte, int_ii, addP, isiP, PV.tyN, kit_ii, kit_bi, kit_bb, kit_ib, kit_ni, kit_si, kit_ss, kit_tt, kit_dd, kit_st, Bool.not_false, Bool.not_true, Bool.true_and, Bool.false_and, xor_false', xor_true', eq_ii, eq_ss, eq_ni, eq_ns, eq_nn, eq_in, isN_non, isN_int, isN_str, neg_int, itCall, itSeq, tup_lst, tgSet, mApp, mUnp, eq_self, setAll, decide_true, bind_map_left, mHouse, mPar, mPut, slotOf, mNo, mPt, mSl, mNewD, mKeep, isNt_non, isNt_int, isNt_str, addS_ii, addS_sn, mParN, putL, mFs, mFmt, mJs, mRetV, dsl0, i0, decide_eq_true c0, fo, lp]
      rfl
    | none =>
      rw [q] at lp
      obtain ⟨_, ⟨s, rfl⟩, lp⟩ := lp
      by_cases c1 : n = 0
      · rw [if_pos (by omega)]
        simp only [fnV, mSeq, mNext, mRet, mRetN, mRetV, mSet, mDo, mIfS, mIf, mFz, mVar, mC, mBin, mUn, mTup, mLst, mNil, mCons, pNil, pCons, mCall, one_1, two_2, mTst, asB_bl, mAnd, mOr, mNot, mAndV, mOrV, mNotV, mChain, mCall0, safe_pure, mTM, Rs.pv, pure_bind, map_pureM, bind_pure_comp, bind_assoc, List.map_cons, List.map_nil, List.replicate, List.cons_append, List.nil_append, List.append_nil, List.getElem?_cons_succ, List.getElem?_cons_zero, List.set_cons_succ, List.set_cons_zero, List.length_cons, List.length_nil, Nat.reduceAdd, Nat.reduceSub, Nat.reduceLeDiff, ask_true, if_true, if_false, Bool.false_eq_true, reduceIte, int_ii, addP, isiP, PV.tyN, kit_ii, kit_bi, kit_bb, kit_ib, kit_ni, kit_si, kit_ss, kit_tt, kit_dd, kit_st, Bool.not_false, Bool.not_true, Bool.true_and, Bool.false_and, xor_false', xor_true', eq_ii, eq_ss, eq_ni, eq_ns, eq_nn, eq_in, isN_non, isN_int, isN_str, neg_int, itCall, itSeq, tup_lst, tgSet, mApp, mUnp, eq_self, setAll, decide_true, bind_map_left, mHouse, mPar, mPut, slotOf, mNo, mPt, mSl, mNewD, mKeep, isNt_non, isNt_int, isNt_str, addS_ii, addS_sn, mParN, putL, mFs, mFmt, mJs, mRetV, dsl0, i0, decide_eq_true c0, fo, lp, le, decide_eq_true (show ((n + 1 : Nat) : Int) = 1 by omega)]
        rfl
      · rw [if_neg (by omega)]
        simp only [fnV, mSeq, mNext, mRet, mRetN, mRetV, mSet, mDo, mIfS, mIf, mFz, mVar, mC, mBin, mUn, mTup, mLst, mNil, mCons, pNil, pCons, mCall, one_1, two_2, mTst, asB_bl, mAnd, mOr, mNot, mAndV, mOrV, mNotV, mChain, mCall0, safe_pure, mTM, Rs.pv, pure_bind, map_pureM, bind_pure_comp, bind_assoc, List.map_cons, List.map_nil, List.replicate, List.cons_append, List.nil_append, List.append_nil, List.getElem?_cons_succ, List.getElem?_cons_zero, List.set_cons_succ, List.set_cons_zero, List.length_cons, List.length_nil, Nat.reduceAdd, Nat.reduceSub, Nat.reduceLeDiff, ask_true, if_true, if_false, Bool.false_eq_true, reduceIte, int_ii, addP, isiP, PV.tyN, kit_ii, kit_bi, kit_bb, kit_ib, kit_ni, kit_si, kit_ss, kit_tt, kit_dd, kit_st, Bool.not_false, Bool.not_true, Bool.true_and, Bool.false_and, xor_false', xor_true', eq_ii, eq_ss, eq_ni, eq_ns, eq_nn, eq_in, isN_non, isN_int, isN_str, neg_int, itCall, itSeq, tup_lst, tgSet, mApp, mUnp, eq_self, setAll, decide_true, bind_map_left, mHouse, mPar, mPut, slotOf, mNo, mPt, mSl, mNewD, mKeep, isNt_non, isNt_int, isNt_str, addS_ii, addS_sn, mParN, putL, mFs, mFmt, mJs, mRetV, dsl0, i0, decide_eq_true c0, fo, lp, le, decide_eq_false (show ¬ ((n + 1 : Nat) : Int) = 1 by omega)]
        rfl
  · rw [if_neg c0]
    simp only [fnV, mSeq, mNext, mRet, mRetN, mRetV, mSet, mDo, mIfS, mIf, mFz, mVar, mC, mBin, mUn, mTup, mLst, mNil, mCons, pNil, pCons, mCall, one_1, two_2, mTst, asB_bl, mAnd, mOr, mNot, mAndV, mOrV, mNotV, mChain, mCall0, safe_pure, mTM, Rs.pv, pure_bind, map_pureM, bind_pure_comp, bind_assoc, List.map_cons, List.map_nil, List.replicate, List.cons_append, List.nil_append, List.append_nil, List.getElem?_cons_succ, List.getElem?_cons_zero, List.set_cons_succ, List.set_cons_zero, List.length_cons, List.length_nil, Nat.reduceAdd, Nat.reduceSub, Nat.reduceLeDiff, ask_true, if_true, if_false, Bool.false_eq_true, reduceIte, int_ii, addP, isiP, PV.tyN, kit_ii, kit_bi, kit_bb, kit_ib, kit_ni, kit_si, kit_ss, kit_tt, kit_dd, kit_st, Bool.not_false, Bool.not_true, Bool.true_and, Bool.false_and, xor_false', xor_true', eq_ii, eq_ss, eq_ni, eq_ns, eq_nn, eq_in, isN_non, isN_int, isN_str, neg_int, itCall, itSeq, tup_lst, tgSet, mApp, mUnp, eq_self, setAll, decide_true, bind_map_left, mHouse, mPar, mPut, slotOf, mNo, mPt, mSl, mNewD, mKeep, isNt_non, isNt_int, isNt_str, addS_ii, addS_sn, mParN, putL, mFs, mFmt, mJs, mRetV, dsl0, i0, decide_eq_false c0]
    rfl
/-! the row of a household -/
def boxW : List Str := [Str.ofString "-", Str.ofString "0", Str.ofString "1", Str.ofString "2", Str.ofString "3", Str.ofString "4", Str.ofString "5", Str.ofString "6", Str.ofString "7", Str.ofString "8", Str.ofString "9"]
def firstW3 : List Str := [Str.ofString "back", Str.ofString "keep", Str.ofString "guess"]
def rightH (ws : List Str) (before : Str) (j : Nat) : Bool := if 1 < j then decide (wz ws j ∈ boxW) else okSigns lettersS (wz ws j) && decide (before.cps.toList < (wz ws j).cps.toList)
def wantH (ws : List Str) (many : Nat) : Nat := if wz ws 0 = Str.ofString "guess" then 2 + many else 2
def bH (ws : List Str) (before : Str) (many j : Nat) : Bool := decide (wantH ws many ≤ j) || !(rightH ws before j)
def wH (ws : List Str) (before : Str) (many : Nat) : Option Nat := if wz ws 0 ∈ firstW3 then (match (List.range' 1 (ws.length - 1)).find? (bH ws before many) with | some j => some j | none => if ws.length < wantH ws many then some ws.length else none) else some 0
theorem inG_str {m : ME} {e : En} {z : Str} {l : List Str} {neg : Bool} (h : m e = pure (.val (.str z))) : mInG neg (l.map .str) m e = pure (.val (.bl (neg ^^ decide (z ∈ l)))) := by
  have key : (l.map PV.str).any (fun x => eqF x (.str z)) = decide (z ∈ l) := by
    rw [List.any_map]
    induction l with
    | nil => rfl
    | cons a r ih =>
      rw [List.any_cons, ih]
      have e1 : ((fun x => eqF x (.str z)) ∘ PV.str) a = decide (a = z) := rfl
      rw [e1]
      by_cases c : a = z
      · subst c
        simp
      · have c' : ¬ z = a := fun q => c q.symm
        simp [c, c', List.mem_cons]
  have := inG_of (neg := neg) (ss := l.map PV.str) h rfl
  rw [this]
  show pure (Rs.val (.bl (neg ^^ (l.map PV.str).any fun x => eqF x (.str z)))) = _
  rw [key]
theorem w_household {ws : List Str} {before : Str} {many : Nat} (h0 : ws ≠ []) (hl : ws.length ≤ 1000) (hz : ∀ z ∈ ws, z.length ≤ 1000) : f_wrong_in_household [.lst (ws.map .str), .str before, nI many] = pure (.val (oP (wH ws before many))) := by
  have hpos : 0 < ws.length := List.length_pos_iff.mpr h0
  obtain ⟨n, hn⟩ : ∃ n, ws.length = n + 1 := ⟨ws.length - 1, by omega⟩
  have el : (ws.map PV.str).length = n + 1 := by rw [List.length_map, hn]
  have le := len_lst (xs := ws.map PV.str) (by omega)
  rw [el] at le
  have i0 : ixP (.lst (ws.map .str)) (.int 0) = pure (.val (.str (wz ws 0))) := ix_w (j := 0) hpos
  have hx : ∀ j, j < ws.length → (wz ws j).length ≤ 1000 := fun j hj => by
    rw [wz, List.getD_eq_getElem?_getD, List.getElem?_eq_getElem hj]
    exact hz _ (List.getElem_mem hj)
  have ixw := fun j (h : j < ws.length) => ix_w h
  unfold wH
  rw [hn, Nat.add_sub_cancel]
  have lp := forL_bad (t := .nm 4) (body := (mSeq (mSet 5 (mFz (mIf (mTst (mBin gtP (mVar 4) (mC (.int 1)))) (mInG false [.str "-", .str "0", .str "1", .str "2", .str "3", .str "4", .str "5", .str "6", .str "7", .str "8", .str "9"] (mBin ixP (mVar 0) (mVar 4))) (mAndV (mCall0 1 f_is_word (mCons (mBin ixP (mVar 0) (mVar 4)) mNil)) (mBin gtSP (mBin ixP (mVar 0) (mVar 4)) (mVar 1))))))
  (mSeq (mIfS (mOr (mTst (mBin geP (mVar 4) (mVar 3))) (mNot (mTst (mVar 5)))) (mSeq (mRet (mVar 4))
  mNext) mNext)
  mNext))) (fun _ e => ∃ s4 s5, e = [.val (.lst (ws.map .str)), .val (.str before), .val (nI many), .val (nI (wantH ws many)), s4, s5]) (bH ws before many) (fun j => pure (.rt (.val (nI j)))) (fun j => .inl ⟨_, rfl⟩) n 1 [.val (.lst (ws.map .str)), .val (.str before), .val (nI many), .val (nI (wantH ws many)), .un, .un] ⟨_, _, rfl⟩ (fun j e hj hj2 he => by
    obtain ⟨s4, s5, rfl⟩ := he
    have ix := ixw j (by omega)
    have px := w_is_word (hx j (by omega))
    have rt : mSet 5 (mFz (mIf (mTst (mBin gtP (mVar 4) (mC (.int 1)))) (mInG false [.str "-", .str "0", .str "1", .str "2", .str "3", .str "4", .str "5", .str "6", .str "7", .str "8", .str "9"] (mBin ixP (mVar 0) (mVar 4))) (mAndV (mCall0 1 f_is_word (mCons (mBin ixP (mVar 0) (mVar 4)) mNil)) (mBin gtSP (mBin ixP (mVar 0) (mVar 4)) (mVar 1))))) [.val (.lst (ws.map .str)), .val (.str before), .val (nI many), .val (nI (wantH ws many)), .val (nI j), s5] = pure (.nx [.val (.lst (ws.map .str)), .val (.str before), .val (nI many), .val (nI (wantH ws many)), .val (nI j), .val (.bl (rightH ws before j))]) := by
      have ig := inG_str (m := mBin ixP (mVar 0) (mVar 4)) (e := [.val (.lst (ws.map .str)), .val (.str before), .val (nI many), .val (nI (wantH ws many)), .val (nI j), s5]) (z := wz ws j) (l := boxW) (neg := false) (by
        generalize wz ws j = z at *
        generalize ws.map PV.str = xs at *
        simp only [fnV, mSeq, mNext, mRet, mRetN, mRetV, mSet, mDo, mIfS, mIf, mFz, mVar, mC, mBin, mUn, mTup, mLst, mNil, mCons, pNil, pCons, mCall, one_1, two_2, mTst, asB_bl, mAnd, mOr, mNot, mAndV, mOrV, mNotV, mChain, mCall0, safe_pure, mTM, Rs.pv, pure_bind, map_pureM, bind_pure_comp, bind_assoc, List.map_cons, List.map_nil, List.replicate, List.cons_append, List.nil_append, List.append_nil, List.getElem?_cons_succ, List.getElem?_cons_zero, List.set_cons_succ, List.set_cons_zero, List.length_cons, List.length_nil, Nat.reduceAdd, Nat.reduceSub, Nat.reduceLeDiff, ask_true, if_true, if_false, Bool.false_eq_true, reduceIte, int_ii, addP, isiP, PV.tyN, kit_ii, kit_bi, kit_bb, kit_ib, kit_ni, kit_si, kit_ss, kit_tt, kit_dd, kit_st, Bool.not_false, Bool.not_true, Bool.true_and, Bool.false_and, xor_false', xor_true', eq_ii, eq_ss, eq_ni, eq_ns, eq_nn, eq_in, isN_non, isN_int, isN_str, neg_int, itCall, itSeq, tup_lst, tgSet, mApp, mUnp, eq_self, setAll, decide_true, bind_map_left, mHouse, mPar, mPut, slotOf, mNo, mPt, mSl, mNewD, mKeep, isNt_non, isNt_int, isNt_str, addS_ii, addS_sn, mParN, putL, mFs, mFmt, mJs, mRetV, dsl0, ix])
      have ig : mInG false [.str "-", .str "0", .str "1", .str "2", .str "3", .str "4", .str "5", .str "6", .str "7", .str "8", .str "9"] (mBin ixP (mVar 0) (mVar 4)) [.val (.lst (ws.map .str)), .val (.str before), .val (nI many), .val (nI (wantH ws many)), .val (nI j), s5] = pure (.val (.bl (decide (wz ws j ∈ boxW)))) := by
        rw [Bool.false_xor] at ig
        exact ig
      unfold rightH
      generalize decide (wz ws j ∈ boxW) = bx at *
      generalize wz ws j = z at *
      generalize ws.map PV.str = xs at *
      generalize wantH ws many = wt at *
      by_cases c1 : 1 < j
      · rw [if_pos c1]
        unfold mSet mFz mIf
        have t1 : mTst (mBin gtP (mVar 4) (mC (.int 1))) [.val (.lst xs), .val (.str before), .val (nI many), .val (nI wt), .val (nI j), s5] = pure true := by
          simp only [fnV, mSeq, mNext, mRet, mRetN, mRetV, mSet, mDo, mIfS, mIf, mFz, mVar, mC, mBin, mUn, mTup, mLst, mNil, mCons, pNil, pCons, mCall, one_1, two_2, mTst, asB_bl, mAnd, mOr, mNot, mAndV, mOrV, mNotV, mChain, mCall0, safe_pure, mTM, Rs.pv, pure_bind, map_pureM, bind_pure_comp, bind_assoc, List.map_cons, List.map_nil, List.replicate, List.cons_append, List.nil_append, List.append_nil, List.getElem?_cons_succ, List.getElem?_cons_zero, List.set_cons_succ, List.set_cons_zero, List.length_cons, List.length_nil, Nat.reduceAdd, Nat.reduceSub, Nat.reduceLeDiff, ask_true, if_true, if_false, Bool.false_eq_true, reduceIte, int_ii, addP, isiP, PV.tyN, kit_ii, kit_bi, kit_bb, kit_ib, kit_ni, kit_si, kit_ss, kit_tt, kit_dd, kit_st, Bool.not_false, Bool.not_true, Bool.true_and, Bool.false_and, xor_false', xor_true', eq_ii, eq_ss, eq_ni, eq_ns, eq_nn, eq_in, isN_non, isN_int, isN_str, neg_int, itCall, itSeq, tup_lst, tgSet, mApp, mUnp, eq_self, setAll, decide_true, bind_map_left, mHouse, mPar, mPut, slotOf, mNo, mPt, mSl, mNewD, mKeep, isNt_non, isNt_int, isNt_str, addS_ii, addS_sn, mParN, putL, mFs, mFmt, mJs, mRetV, dsl0, decide_eq_true (show (1 : Int) < (j : Int) by omega)]
        rw [t1]
        simp only [pure_bind, if_true, ig]
        rfl
      · rw [if_neg c1]
        simp only [fnV, mSeq, mNext, mRet, mRetN, mRetV, mSet, mDo, mIfS, mIf, mFz, mVar, mC, mBin, mUn, mTup, mLst, mNil, mCons, pNil, pCons, mCall, one_1, two_2, mTst, asB_bl, mAnd, mOr, mNot, mAndV, mOrV, mNotV, mChain, mCall0, safe_pure, mTM, Rs.pv, pure_bind, map_pureM, bind_pure_comp, bind_assoc, List.map_cons, List.map_nil, List.replicate, List.cons_append, List.nil_append, List.append_nil, List.getElem?_cons_succ, List.getElem?_cons_zero, List.set_cons_succ, List.set_cons_zero, List.length_cons, List.length_nil, Nat.reduceAdd, Nat.reduceSub, Nat.reduceLeDiff, ask_true, if_true, if_false, Bool.false_eq_true, reduceIte, int_ii, addP, isiP, PV.tyN, kit_ii, kit_bi, kit_bb, kit_ib, kit_ni, kit_si, kit_ss, kit_tt, kit_dd, kit_st, Bool.not_false, Bool.not_true, Bool.true_and, Bool.false_and, xor_false', xor_true', eq_ii, eq_ss, eq_ni, eq_ns, eq_nn, eq_in, isN_non, isN_int, isN_str, neg_int, itCall, itSeq, tup_lst, tgSet, mApp, mUnp, eq_self, setAll, decide_true, bind_map_left, mHouse, mPar, mPut, slotOf, mNo, mPt, mSl, mNewD, mKeep, isNt_non, isNt_int, isNt_str, addS_ii, addS_sn, mParN, putL, mFs, mFmt, mJs, mRetV, dsl0, decide_eq_false (show ¬ (1 : Int) < (j : Int) by omega), ix, px, gtS_ss]
        cases okSigns lettersS z with
        | true => rfl
        | false => rfl
    have wj : mIfS (mOr (mTst (mBin geP (mVar 4) (mVar 3))) (mNot (mTst (mVar 5)))) (mSeq (mRet (mVar 4)) mNext) mNext [.val (.lst (ws.map .str)), .val (.str before), .val (nI many), .val (nI (wantH ws many)), .val (nI j), .val (.bl (rightH ws before j))] = (if bH ws before many j = true then pure (.rt (.val (nI j))) else pure (.nx [.val (.lst (ws.map .str)), .val (.str before), .val (nI many), .val (nI (wantH ws many)), .val (nI j), .val (.bl (rightH ws before j))])) := by
      unfold bH
      generalize rightH ws before j = rr
      generalize ws.map PV.str = xs
      generalize wantH ws many = wt
      by_cases c : wt ≤ j
      · rw [decide_eq_true c, Bool.true_or, if_pos rfl]
        simp only [fnV, mSeq, mNext, mRet, mRetN, mRetV, mSet, mDo, mIfS, mIf, mFz, mVar, mC, mBin, mUn, mTup, mLst, mNil, mCons, pNil, pCons, mCall, one_1, two_2, mTst, asB_bl, mAnd, mOr, mNot, mAndV, mOrV, mNotV, mChain, mCall0, safe_pure, mTM, Rs.pv, pure_bind, map_pureM, bind_pure_comp, bind_assoc, List.map_cons, List.map_nil, List.replicate, List.cons_append, List.nil_append, List.append_nil, List.getElem?_cons_succ, List.getElem?_cons_zero, List.set_cons_succ, List.set_cons_zero, List.length_cons, List.length_nil, Nat.reduceAdd, Nat.reduceSub, Nat.reduceLeDiff, ask_true, if_true, if_false, Bool.false_eq_true, reduceIte, int_ii, addP, isiP, PV.tyN, kit_ii, kit_bi, kit_bb, kit_ib, kit_ni, kit_si, kit_ss, kit_tt, kit_dd, kit_st, Bool.not_false, Bool.not_true, Bool.true_and, Bool.false_and, xor_false', xor_true', eq_ii, eq_ss, eq_ni, eq_ns, eq_nn, eq_in, isN_non, isN_int, isN_str, neg_int, itCall, itSeq, tup_lst, tgSet, mApp, mUnp, eq_self, setAll, decide_true, bind_map_left, mHouse, mPar, mPut, slotOf, mNo, mPt, mSl, mNewD, mKeep, isNt_non, isNt_int, isNt_str, addS_ii, addS_sn, mParN, putL, mFs, mFmt, mJs, mRetV, dsl0, decide_eq_true (show (wt : Int) ≤ (j : Int) by omega)]
      · rw [decide_eq_false c, Bool.false_or]
        cases rr with
        | true =>
          rw [if_neg (by decide)]
          simp only [fnV, mSeq, mNext, mRet, mRetN, mRetV, mSet, mDo, mIfS, mIf, mFz, mVar, mC, mBin, mUn, mTup, mLst, mNil, mCons, pNil, pCons, mCall, one_1, two_2, mTst, asB_bl, mAnd, mOr, mNot, mAndV, mOrV, mNotV, mChain, mCall0, safe_pure, mTM, Rs.pv, pure_bind, map_pureM, bind_pure_comp, bind_assoc, List.map_cons, List.map_nil, List.replicate, List.cons_append, List.nil_append, List.append_nil, List.getElem?_cons_succ, List.getElem?_cons_zero, List.set_cons_succ, List.set_cons_zero, List.length_cons, List.length_nil, Nat.reduceAdd, Nat.reduceSub, Nat.reduceLeDiff, ask_true, if_true, if_false, Bool.false_eq_true, reduceIte, int_ii, addP, isiP, PV.tyN, kit_ii, kit_bi, kit_bb, kit_ib, kit_ni, kit_si, kit_ss, kit_tt, kit_dd, kit_st, Bool.not_false, Bool.not_true, Bool.true_and, Bool.false_and, xor_false', xor_true', eq_ii, eq_ss, eq_ni, eq_ns, eq_nn, eq_in, isN_non, isN_int, isN_str, neg_int, itCall, itSeq, tup_lst, tgSet, mApp, mUnp, eq_self, setAll, decide_true, bind_map_left, mHouse, mPar, mPut, slotOf, mNo, mPt, mSl, mNewD, mKeep, isNt_non, isNt_int, isNt_str, addS_ii, addS_sn, mParN, putL, mFs, mFmt, mJs, mRetV, dsl0, decide_eq_false (show ¬ (wt : Int) ≤ (j : Int) by omega)]
        | false =>
          rw [if_pos (show (!false) = true from rfl)]
          simp only [fnV, mSeq, mNext, mRet, mRetN, mRetV, mSet, mDo, mIfS, mIf, mFz, mVar, mC, mBin, mUn, mTup, mLst, mNil, mCons, pNil, pCons, mCall, one_1, two_2, mTst, asB_bl, mAnd, mOr, mNot, mAndV, mOrV, mNotV, mChain, mCall0, safe_pure, mTM, Rs.pv, pure_bind, map_pureM, bind_pure_comp, bind_assoc, List.map_cons, List.map_nil, List.replicate, List.cons_append, List.nil_append, List.append_nil, List.getElem?_cons_succ, List.getElem?_cons_zero, List.set_cons_succ, List.set_cons_zero, List.length_cons, List.length_nil, Nat.reduceAdd, Nat.reduceSub, Nat.reduceLeDiff, ask_true, if_true, if_false, Bool.false_eq_true, reduceIte, int_ii, addP, isiP, PV.tyN, kit_ii, kit_bi, kit_bb, kit_ib, kit_ni, kit_si, kit_ss, kit_tt, kit_dd, kit_st, Bool.not_false, Bool.not_true, Bool.true_and, Bool.false_and, xor_false', xor_true', eq_ii, eq_ss, eq_ni, eq_ns, eq_nn, eq_in, isN_non, isN_int, isN_str, neg_int, itCall, itSeq, tup_lst, tgSet, mApp, mUnp, eq_self, setAll, decide_true, bind_map_left, mHouse, mPar, mPut, slotOf, mNo, mPt, mSl, mNewD, mKeep, isNt_non, isNt_int, isNt_str, addS_ii, addS_sn, mParN, putL, mFs, mFmt, mJs, mRetV, dsl0, decide_eq_false (show ¬ (wt : Int) ≤ (j : Int) by omega)]
    have st : (tgSet (.nm 4) (nI j) [.val (.lst (ws.map .str)), .val (.str before), .val (nI many), .val (nI (wantH ws many)), s4, s5] >>= (mSeq (mSet 5 (mFz (mIf (mTst (mBin gtP (mVar 4) (mC (.int 1)))) (mInG false [.str "-", .str "0", .str "1", .str "2", .str "3", .str "4", .str "5", .str "6", .str "7", .str "8", .str "9"] (mBin ixP (mVar 0) (mVar 4))) (mAndV (mCall0 1 f_is_word (mCons (mBin ixP (mVar 0) (mVar 4)) mNil)) (mBin gtSP (mBin ixP (mVar 0) (mVar 4)) (mVar 1))))))
  (mSeq (mIfS (mOr (mTst (mBin geP (mVar 4) (mVar 3))) (mNot (mTst (mVar 5)))) (mSeq (mRet (mVar 4))
  mNext) mNext)
  mNext))) = (mSeq (mIfS (mOr (mTst (mBin geP (mVar 4) (mVar 3))) (mNot (mTst (mVar 5)))) (mSeq (mRet (mVar 4)) mNext) mNext) mNext [.val (.lst (ws.map .str)), .val (.str before), .val (nI many), .val (nI (wantH ws many)), .val (nI j), .val (.bl (rightH ws before j))]) := by
      rw [show tgSet (.nm 4) (nI j) [.val (.lst (ws.map .str)), .val (.str before), .val (nI many), .val (nI (wantH ws many)), s4, s5] = pure [.val (.lst (ws.map .str)), .val (.str before), .val (nI many), .val (nI (wantH ws many)), .val (nI j), s5] from rfl, pure_bind]
      unfold mSeq
      rw [rt]
      rfl
    rw [st]
    refine ⟨fun h => ?_, fun h => ⟨[.val (.lst (ws.map .str)), .val (.str before), .val (nI many), .val (nI (wantH ws many)), .val (nI j), .val (.bl (rightH ws before j))], ?_, _, _, rfl⟩⟩
    · rw [if_pos h] at wj
      exact seq_rt wj
    · rw [if_neg (by rw [h]; decide)] at wj
      rw [seq_nx wj]
      rfl)
  have ht : ∀ w3, itCall (two range2P) (pCons (mC (.int 1)) (pCons (mCall (one lenP0) (pCons (mVar 0) pNil)) pNil)) [.val (.lst (ws.map .str)), .val (.str before), .val (nI many), w3, .un, .un] = pure ((List.range' 1 n).map nI) := by
    intro w3
    generalize ws.map PV.str = xs at *
    simp only [fnV, mSeq, mNext, mRet, mRetN, mRetV, mSet, mDo, mIfS, mIf, mFz, mVar, mC, mBin, mUn, mTup, mLst, mNil, mCons, pNil, pCons, mCall, one_1, two_2, mTst, asB_bl, mAnd, mOr, mNot, mAndV, mOrV, mNotV, mChain, mCall0, safe_pure, mTM, Rs.pv, pure_bind, map_pureM, bind_pure_comp, bind_assoc, List.map_cons, List.map_nil, List.replicate, List.cons_append, List.nil_append, List.append_nil, List.getElem?_cons_succ, List.getElem?_cons_zero, List.set_cons_succ, List.set_cons_zero, List.length_cons, List.length_nil, Nat.reduceAdd, Nat.reduceSub, Nat.reduceLeDiff, ask_true, if_true, if_false, Bool.false_eq_true, reduceIte, int_ii, addP, isiP, PV.tyN, kit_ii, kit_bi, kit_bb, kit_ib, kit_ni, kit_si, kit_ss, kit_tt, kit_dd, kit_st, Bool.not_false, Bool.not_true, Bool.true_and, Bool.false_and, xor_false', xor_true', eq_ii, eq_ss, eq_ni, eq_ns, eq_nn, eq_in, isN_non, isN_int, isN_str, neg_int, itCall, itSeq, tup_lst, tgSet, mApp, mUnp, eq_self, setAll, decide_true, bind_map_left, mHouse, mPar, mPut, slotOf, mNo, mPt, mSl, mNewD, mKeep, isNt_non, isNt_int, isNt_str, addS_ii, addS_sn, mParN, putL, mFs, mFmt, mJs, mRetV, dsl0, le, range2_1 (show n ≤ 1000 by omega), range_shift]
  have fo : mFor (itCall (two range2P) (pCons (mC (.int 1)) (pCons (mCall (one lenP0) (pCons (mVar 0) pNil)) pNil))) (.nm 4) (mSeq (mSet 5 (mFz (mIf (mTst (mBin gtP (mVar 4) (mC (.int 1)))) (mInG false [.str "-", .str "0", .str "1", .str "2", .str "3", .str "4", .str "5", .str "6", .str "7", .str "8", .str "9"] (mBin ixP (mVar 0) (mVar 4))) (mAndV (mCall0 1 f_is_word (mCons (mBin ixP (mVar 0) (mVar 4)) mNil)) (mBin gtSP (mBin ixP (mVar 0) (mVar 4)) (mVar 1))))))
  (mSeq (mIfS (mOr (mTst (mBin geP (mVar 4) (mVar 3))) (mNot (mTst (mVar 5)))) (mSeq (mRet (mVar 4))
  mNext) mNext)
  mNext)) [.val (.lst (ws.map .str)), .val (.str before), .val (nI many), .val (nI (wantH ws many)), .un, .un] = forL (.nm 4) (mSeq (mSet 5 (mFz (mIf (mTst (mBin gtP (mVar 4) (mC (.int 1)))) (mInG false [.str "-", .str "0", .str "1", .str "2", .str "3", .str "4", .str "5", .str "6", .str "7", .str "8", .str "9"] (mBin ixP (mVar 0) (mVar 4))) (mAndV (mCall0 1 f_is_word (mCons (mBin ixP (mVar 0) (mVar 4)) mNil)) (mBin gtSP (mBin ixP (mVar 0) (mVar 4)) (mVar 1))))))
  (mSeq (mIfS (mOr (mTst (mBin geP (mVar 4) (mVar 3))) (mNot (mTst (mVar 5)))) (mSeq (mRet (mVar 4))
  mNext) mNext)
  mNext)) ((List.range' 1 n).map nI) [.val (.lst (ws.map .str)), .val (.str before), .val (nI many), .val (nI (wantH ws many)), .un, .un] := by
    rw [mFor_eq, ht, pure_bind]
  have ig := inG_str (m := mBin ixP (mVar 0) (mC (.int 0))) (e := [.val (.lst (ws.map .str)), .val (.str before), .val (nI many), .un, .un, .un]) (z := wz ws 0) (l := firstW3) (neg := true) (by
    generalize wz ws 0 = z at *
    generalize ws.map PV.str = xs at *
    simp only [fnV, mSeq, mNext, mRet, mRetN, mRetV, mSet, mDo, mIfS, mIf, mFz, mVar, mC, mBin, mUn, mTup, mLst, mNil, mCons, pNil, pCons, mCall, one_1, two_2, mTst, asB_bl, mAnd, mOr, mNot, mAndV, mOrV, mNotV, mChain, mCall0, safe_pure, mTM, Rs.pv, pure_bind, map_pureM, bind_pure_comp, bind_assoc, List.map_cons, List.map_nil, List.replicate, List.cons_append, List.nil_append, List.append_nil, List.getElem?_cons_succ, List.getElem?_cons_zero, List.set_cons_succ, List.set_cons_zero, List.length_cons, List.length_nil, Nat.reduceAdd, Nat.reduceSub, Nat.reduceLeDiff, ask_true, if_true, if_false, Bool.false_eq_true, reduceIte, int_ii, addP, isiP, PV.tyN, kit_ii, kit_bi, kit_bb, kit_ib, kit_ni, kit_si, kit_ss, kit_tt, kit_dd, kit_st, Bool.not_false, Bool.not_true, Bool.true_and, Bool.false_and, xor_false', xor_true', eq_ii, eq_ss, eq_ni, eq_ns, eq_nn, eq_in, isN_non, isN_int, isN_str, neg_int, itCall, itSeq, tup_lst, tgSet, mApp, mUnp, eq_self, setAll, decide_true, bind_map_left, mHouse, mPar, mPut, slotOf, mNo, mPt, mSl, mNewD, mKeep, isNt_non, isNt_int, isNt_str, addS_ii, addS_sn, mParN, putL, mFs, mFmt, mJs, mRetV, dsl0, i0])
  have ig : mInG true [.str "back", .str "keep", .str "guess"] (mBin ixP (mVar 0) (mC (.int 0))) [.val (.lst (ws.map .str)), .val (.str before), .val (nI many), .un, .un, .un] = pure (.val (.bl (!decide (wz ws 0 ∈ firstW3)))) := by
    rw [Bool.true_xor] at ig
    exact ig
  have s3 : mSet 3 (mFz (mIf (mTst (mBin (eqP false) (mBin ixP (mVar 0) (mC (.int 0))) (mC (.str "guess")))) (mBin addSP (mC (.int 2)) (mVar 2)) (mC (.int 2)))) [.val (.lst (ws.map .str)), .val (.str before), .val (nI many), .un, .un, .un] = pure (.nx [.val (.lst (ws.map .str)), .val (.str before), .val (nI many), .val (nI (wantH ws many)), .un, .un]) := by
    unfold wantH
    generalize wz ws 0 = z at *
    generalize ws.map PV.str = xs at *
    by_cases c : z = Str.ofString "guess"
    · rw [if_pos c]
      simp only [fnV, mSeq, mNext, mRet, mRetN, mRetV, mSet, mDo, mIfS, mIf, mFz, mVar, mC, mBin, mUn, mTup, mLst, mNil, mCons, pNil, pCons, mCall, one_1, two_2, mTst, asB_bl, mAnd, mOr, mNot, mAndV, mOrV, mNotV, mChain, mCall0, safe_pure, mTM, Rs.pv, pure_bind, map_pureM, bind_pure_comp, bind_assoc, List.map_cons, List.map_nil, List.replicate, List.cons_append, List.nil_append, List.append_nil, List.getElem?_cons_succ, List.getElem?_cons_zero, List.set_cons_succ, List.set_cons_zero, List.length_cons, List.length_nil, Nat.reduceAdd, Nat.reduceSub, Nat.reduceLeDiff, ask_true, if_true, if_false, Bool.false_eq_true, reduceIte, int_ii, addP, isiP, PV.tyN, kit_ii, kit_bi, kit_bb, kit_ib, kit_ni, kit_si, kit_ss, kit_tt, kit_dd, kit_st, Bool.not_false, Bool.not_true, Bool.true_and, Bool.false_and, xor_false', xor_true', eq_ii, eq_ss, eq_ni, eq_ns, eq_nn, eq_in, isN_non, isN_int, isN_str, neg_int, itCall, itSeq, tup_lst, tgSet, mApp, mUnp, eq_self, setAll, decide_true, bind_map_left, mHouse, mPar, mPut, slotOf, mNo, mPt, mSl, mNewD, mKeep, isNt_non, isNt_int, isNt_str, addS_ii, addS_sn, mParN, putL, mFs, mFmt, mJs, mRetV, dsl0, i0, decide_eq_true c]
      rfl
    · rw [if_neg c]
      simp only [fnV, mSeq, mNext, mRet, mRetN, mRetV, mSet, mDo, mIfS, mIf, mFz, mVar, mC, mBin, mUn, mTup, mLst, mNil, mCons, pNil, pCons, mCall, one_1, two_2, mTst, asB_bl, mAnd, mOr, mNot, mAndV, mOrV, mNotV, mChain, mCall0, safe_pure, mTM, Rs.pv, pure_bind, map_pureM, bind_pure_comp, bind_assoc, List.map_cons, List.map_nil, List.replicate, List.cons_append, List.nil_append, List.append_nil, List.getElem?_cons_succ, List.getElem?_cons_zero, List.set_cons_succ, List.set_cons_zero, List.length_cons, List.length_nil, Nat.reduceAdd, Nat.reduceSub, Nat.reduceLeDiff, ask_true, if_true, if_false, Bool.false_eq_true, reduceIte, int_ii, addP, isiP, PV.tyN, kit_ii, kit_bi, kit_bb, kit_ib, kit_ni, kit_si, kit_ss, kit_tt, kit_dd, kit_st, Bool.not_false, Bool.not_true, Bool.true_and, Bool.false_and, xor_false', xor_true', eq_ii, eq_ss, eq_ni, eq_ns, eq_nn, eq_in, isN_non, isN_int, isN_str, neg_int, itCall, itSeq, tup_lst, tgSet, mApp, mUnp, eq_self, setAll, decide_true, bind_map_left, mHouse, mPar, mPut, slotOf, mNo, mPt, mSl, mNewD, mKeep, isNt_non, isNt_int, isNt_str, addS_ii, addS_sn, mParN, putL, mFs, mFmt, mJs, mRetV, dsl0, i0, decide_eq_false c]
      rfl
  have ret : ∀ s4 s5, mSeq (mRet (mIf (mTst (mBin ltP (mCall (one lenP0) (pCons (mVar 0) pNil)) (mVar 3))) (mCall (one lenP0) (pCons (mVar 0) pNil)) (mC .non))) mNext [.val (.lst (ws.map .str)), .val (.str before), .val (nI many), .val (nI (wantH ws many)), s4, s5] = pure (.rt (.val (oP (if n + 1 < wantH ws many then some (n + 1) else none)))) := by
    intro s4 s5
    generalize ws.map PV.str = xs at *
    generalize wantH ws many = wt at *
    by_cases c : n + 1 < wt
    · rw [if_pos c]
      simp only [fnV, mSeq, mNext, mRet, mRetN, mRetV, mSet, mDo, mIfS, mIf, mFz, mVar, mC, mBin, mUn, mTup, mLst, mNil, mCons, pNil, pCons, mCall, one_1, two_2, mTst, asB_bl, mAnd, mOr, mNot, mAndV, mOrV, mNotV, mChain, mCall0, safe_pure, mTM, Rs.pv, pure_bind, map_pureM, bind_pure_comp, bind_assoc, List.map_cons, List.map_nil, List.replicate, List.cons_append, List.nil_append, List.append_nil, List.getElem?_cons_succ, List.getElem?_cons_zero, List.set_cons_succ, List.set_cons_zero, List.length_cons, List.length_nil, Nat.reduceAdd, Nat.reduceSub, Nat.reduceLeDiff, ask_true, if_true, if_false, Bool.false_eq_true, reduceIte, int_ii, addP, isiP, PV.tyN, kit_ii, kit_bi, kit_bb, kit_ib, kit_ni, kit_si, kit_ss, kit_tt, kit_dd, kit_st, Bool.not_false, Bool.not_true, Bool.true_and, Bool.false_and, xor_false', xor_true', eq_ii, eq_ss, eq_ni, eq_ns, eq_nn, eq_in, isN_non, isN_int, isN_str, neg_int, itCall, itSeq, tup_lst, tgSet, mApp, mUnp, eq_self, setAll, decide_true, bind_map_left, mHouse, mPar, mPut, slotOf, mNo, mPt, mSl, mNewD, mKeep, isNt_non, isNt_int, isNt_str, addS_ii, addS_sn, mParN, putL, mFs, mFmt, mJs, mRetV, dsl0, le, decide_eq_true (show ((n + 1 : Nat) : Int) < (wt : Int) by omega)]
      rfl
    · rw [if_neg c]
      simp only [fnV, mSeq, mNext, mRet, mRetN, mRetV, mSet, mDo, mIfS, mIf, mFz, mVar, mC, mBin, mUn, mTup, mLst, mNil, mCons, pNil, pCons, mCall, one_1, two_2, mTst, asB_bl, mAnd, mOr, mNot, mAndV, mOrV, mNotV, mChain, mCall0, safe_pure, mTM, Rs.pv, pure_bind, map_pureM, bind_pure_comp, bind_assoc, List.map_cons, List.map_nil, List.replicate, List.cons_append, List.nil_append, List.append_nil, List.getElem?_cons_succ, List.getElem?_cons_zero, List.set_cons_succ, List.set_cons_zero, List.length_cons, List.length_nil, Nat.reduceAdd, Nat.reduceSub, Nat.reduceLeDiff, ask_true, if_true, if_false, Bool.false_eq_true, reduceIte, int_ii, addP, isiP, PV.tyN, kit_ii, kit_bi, kit_bb, kit_ib, kit_ni, kit_si, kit_ss, kit_tt, kit_dd, kit_st, Bool.not_false, Bool.not_true, Bool.true_and, Bool.false_and, xor_false', xor_true', eq_ii, eq_ss, eq_ni, eq_ns, eq_nn, eq_in, isN_non, isN_int, isN_str, neg_int, itCall, itSeq, tup_lst, tgSet, mApp, mUnp, eq_self, setAll, decide_true, bind_map_left, mHouse, mPar, mPut, slotOf, mNo, mPt, mSl, mNewD, mKeep, isNt_non, isNt_int, isNt_str, addS_ii, addS_sn, mParN, putL, mFs, mFmt, mJs, mRetV, dsl0, le, decide_eq_false (show ¬ ((n + 1 : Nat) : Int) < (wt : Int) by omega)]
      rfl
  have body : b_wrong_in_household [.val (.lst (ws.map .str)), .val (.str before), .val (nI many), .un, .un, .un] = pure (.rt (.val (oP (if wz ws 0 ∈ firstW3 then (match (List.range' 1 n).find? (bH ws before many) with | some j => some j | none => if n + 1 < wantH ws many then some (n + 1) else none) else some 0)))) := by
    unfold b_wrong_in_household
    by_cases c0 : wz ws 0 ∈ firstW3
    · rw [if_pos c0]
      rw [decide_eq_true c0] at ig
      have z1 : mIfS (mTst (mInG true [.str "back", .str "keep", .str "guess"] (mBin ixP (mVar 0) (mC (.int 0))))) (mSeq (mRet (mC (.int 0))) mNext) mNext [.val (.lst (ws.map .str)), .val (.str before), .val (nI many), .un, .un, .un] = pure (.nx [.val (.lst (ws.map .str)), .val (.str before), .val (nI many), .un, .un, .un]) := by
        unfold mIfS mTst
        rw [ig]
        rfl
      rw [seq_nx z1, seq_nx s3]
      cases q : (List.range' 1 n).find? (bH ws before many) with
      | some j =>
        rw [q] at lp
        exact seq_rt (fo.trans lp)
      | none =>
        rw [q] at lp
        obtain ⟨_, ⟨s4, s5, rfl⟩, lp⟩ := lp
        rw [seq_nx (fo.trans lp), ret]
    · rw [if_neg c0]
      rw [decide_eq_false c0] at ig
      unfold mSeq mIfS mTst
      rw [ig]
      rfl
  unfold f_wrong_in_household fnV
  rw [show ([.lst (ws.map .str), .str before, nI many] : List PV).map Sl.val ++ List.replicate (6 - 3) Sl.un = [.val (.lst (ws.map .str)), .val (.str before), .val (nI many), .un, .un, .un] from rfl, body]
  rfl
end

/-! ## law_k47: all rows checked -/
section
open PySem.W PyProof.Rows PySem.Calls
abbrev rz (rows : List (List Str)) (j : Nat) : List Str := rows.getD j []
def rP (rows : List (List Str)) : List PV := rows.map fun r => .lst (r.map .str)
def befR (rows : List (List Str)) (j : Nat) : Str := if j ≤ 1 then Str.ofString "" else wz (rz rows (j - 1)) 1
def wR (rows : List (List Str)) (j : Nat) : Option Nat := if 6 < j then some 0 else wH (rz rows j) (befR rows j) (rows.length - 1)
def chk (rows : List (List Str)) : Option (Nat × Nat) := match wP (rz rows 0) with
  | some w => some (0, w)
  | none => if rows.length = 1 then some (1, 0) else match (List.range' 1 (rows.length - 1)).find? (fun j => (wR rows j).isSome) with
    | some j => some (j, (wR rows j).getD 0)
    | none => none
def xTxt (r w : Nat) : Ex := ⟨"InvalidText", [("word", .int (w : Int)), ("row", .int (r : Int))]⟩
theorem fld_ok {r w : Nat} (hr : r < 1000) (hw : w < 1000) : fldII "InvalidText" "row" "word" (.int (r : Int)) (.int (w : Int)) = pure (xTxt r w) := by
  show (do M.ask _; pure _) = _
  rw [ask_true ⟨⟨by omega, by omega⟩, by omega, by omega⟩]
  rfl
theorem find_le {p : Nat → Bool} {n j : Nat} (h : (List.range' 1 n).find? p = some j) : p j = true ∧ j ≤ n := by
  have h1 := List.find?_some h
  have h2 := List.mem_of_find?_eq_some h
  rw [List.mem_range'_1] at h2
  exact ⟨h1, by omega⟩
theorem wP_le {ws : List Str} {k : Nat} (h0 : ws ≠ []) (h : wP ws = some k) : k ≤ ws.length := by
  have hp : 0 < ws.length := List.length_pos_iff.mpr h0
  unfold wP at h
  split at h
  · split at h
    · rename_i j q
      cases h
      have := (find_le q).2
      omega
    · split at h
      · cases h
        omega
      · cases h
  · cases h
    omega
theorem wH_le {ws : List Str} {before : Str} {many k : Nat} (h : wH ws before many = some k) : k ≤ ws.length := by
  unfold wH at h
  split at h
  · split at h
    · rename_i j q
      cases h
      have := (find_le q).2
      omega
    · split at h
      · cases h
        exact Nat.le_refl _
      · cases h
  · cases h
    omega
theorem wH_two {ws : List Str} {before : Str} {many : Nat} (h : wH ws before many = none) : 2 ≤ ws.length := by
  unfold wH at h
  split at h
  · split at h
    · cases h
    · split at h
      · cases h
      · rename_i q
        have : 2 ≤ wantH ws many := by
          unfold wantH
          split <;> omega
        omega
  · cases h
structure OkR (rows : List (List Str)) : Prop where
  ne : rows ≠ []
  len : rows.length ≤ 900
  row : ∀ r ∈ rows, r ≠ [] ∧ r.length ≤ 900 ∧ ∀ z ∈ r, z.length ≤ 900
theorem isN_oP (o : Option Nat) : isNP true (oP o) .non = pure (.val (.bl o.isSome)) := by
  cases o <;> rfl
theorem e_check {rows : List (List Str)} (h : OkR rows) : fe_check_words [.lst (rP rows)] = (match chk rows with
    | some (r, w) => M.throw (xTxt r w)
    | none => pure (.val .non)) := by
  have hpos : 0 < rows.length := List.length_pos_iff.mpr h.ne
  have h900 := h.len
  obtain ⟨n, hn⟩ : ∃ n, rows.length = n + 1 := ⟨rows.length - 1, by omega⟩
  have el : (rP rows).length = n + 1 := by unfold rP; rw [List.length_map, hn]
  have le := len_lst (xs := rP rows) (by omega)
  rw [el] at le
  have ixr : ∀ j, j < rows.length → ixP (.lst (rP rows)) (nI j) = pure (.val (.lst ((rz rows j).map .str))) := fun j hj => by
    have e : (rP rows)[j]? = some (.lst ((rz rows j).map .str)) := by
      unfold rP
      rw [List.getElem?_map, rz, List.getD_eq_getElem?_getD, List.getElem?_eq_getElem hj]
      rfl
    exact ixL_of e
  have hrow : ∀ j, j < rows.length → rz rows j ≠ [] ∧ (rz rows j).length ≤ 900 ∧ ∀ z ∈ rz rows j, z.length ≤ 900 := fun j hj => by
    rw [rz, List.getD_eq_getElem?_getD, List.getElem?_eq_getElem hj]
    exact h.row _ (List.getElem_mem hj)
  have i0 : ixP (.lst (rP rows)) (.int 0) = pure (.val (.lst ((rz rows 0).map .str))) := ixr 0 hpos
  obtain ⟨p1, p2, p3⟩ := hrow 0 hpos
  have wp := w_plates p1 (by omega) (fun z hz => by have := p3 z hz; omega)
  have lp := forL_bad (t := .nm 3) (body := mSeq (mSet 1 (mFz (mIf (mTst (mBin gtP (mVar 3) (mC (.int 6)))) (mC (.int 0)) (mCall0 3 f_wrong_in_household (mCons (mBin ixP (mVar 0) (mVar 3)) (mCons (mVar 2) (mCons (mBin subP (mCall (one lenP0) (pCons (mVar 0) pNil)) (mC (.int 1))) mNil)))))))
      (mSeq (mIfS (mTst (mBin (isNP true) (mVar 1) (mC .non))) (mSeq (mRaise (mFldII "InvalidText" "row" "word" (mVar 3) (mVar 1))) mNext) mNext) (mSeq (mSet 2 (mFz (mBin ixP (mBin ixP (mVar 0) (mVar 3)) (mC (.int 1))))) mNext)))
      (fun j e => ∃ s1 s3, e = [.val (.lst (rP rows)), s1, .val (.str (befR rows j)), s3]) (fun j => (wR rows j).isSome) (fun j => M.throw (xTxt j ((wR rows j).getD 0))) (fun j => .inr ⟨_, rfl⟩) n 1 [.val (.lst (rP rows)), .val .non, .val (.str (Str.ofString "")), .un] ⟨_, _, rfl⟩ (fun j e hj hj2 he => by
    obtain ⟨s1, s3, rfl⟩ := he
    have ix := ixr j (by omega)
    obtain ⟨r1, r2, r3⟩ := hrow j (by omega)
    have wh := w_household (before := befR rows j) (many := n) r1 (by omega) (fun z hz => by have := r3 z hz; omega)
    have wr : wR rows j = if 6 < j then some 0 else wH (rz rows j) (befR rows j) n := by
      unfold wR
      rw [hn, Nat.add_sub_cancel]
    have en : ((n + 1 : Nat) : Int) - 1 = (n : Int) := by omega
    have st1 : mSet 1 (mFz (mIf (mTst (mBin gtP (mVar 3) (mC (.int 6)))) (mC (.int 0)) (mCall0 3 f_wrong_in_household (mCons (mBin ixP (mVar 0) (mVar 3)) (mCons (mVar 2) (mCons (mBin subP (mCall (one lenP0) (pCons (mVar 0) pNil)) (mC (.int 1))) mNil)))))) [.val (.lst (rP rows)), s1, .val (.str (befR rows j)), .val (nI j)] = pure (.nx [.val (.lst (rP rows)), .val (oP (wR rows j)), .val (.str (befR rows j)), .val (nI j)]) := by
      rw [wr]
      generalize befR rows j = bf at *
      generalize (rz rows j).map PV.str = rj at *
      generalize wH (rz rows j) bf n = ww at *
      generalize rP rows = xs at *
      by_cases c6 : 6 < j
      · rw [if_pos c6]
        simp only [fnV, mSeq, mNext, mRet, mRetN, mRetV, mSet, mDo, mIfS, mIf, mFz, mVar, mC, mBin, mUn, mTup, mLst, mNil, mCons, pNil, pCons, mCall, one_1, two_2, mTst, asB_bl, mAnd, mOr, mNot, mAndV, mOrV, mNotV, mChain, mCall0, safe_pure, mTM, Rs.pv, pure_bind, map_pureM, bind_pure_comp, bind_assoc, List.map_cons, List.map_nil, List.replicate, List.cons_append, List.nil_append, List.append_nil, List.getElem?_cons_succ, List.getElem?_cons_zero, List.set_cons_succ, List.set_cons_zero, List.length_cons, List.length_nil, Nat.reduceAdd, Nat.reduceSub, Nat.reduceLeDiff, ask_true, if_true, if_false, Bool.false_eq_true, reduceIte, int_ii, addP, isiP, PV.tyN, kit_ii, kit_bi, kit_bb, kit_ib, kit_ni, kit_si, kit_ss, kit_tt, kit_dd, kit_st, Bool.not_false, Bool.not_true, Bool.true_and, Bool.false_and, xor_false', xor_true', eq_ii, eq_ss, eq_ni, eq_ns, eq_nn, eq_in, isN_non, isN_int, isN_str, neg_int, itCall, itSeq, tup_lst, tgSet, mApp, mUnp, eq_self, setAll, decide_true, bind_map_left, mHouse, mPar, mPut, slotOf, mNo, mPt, mSl, mNewD, mKeep, isNt_non, isNt_int, isNt_str, addS_ii, addS_sn, mParN, putL, mFs, mFmt, mJs, mRetV, dsl0, decide_eq_true (show (6 : Int) < (j : Int) by omega)]
        rfl
      · rw [if_neg c6]
        simp only [fnV, mSeq, mNext, mRet, mRetN, mRetV, mSet, mDo, mIfS, mIf, mFz, mVar, mC, mBin, mUn, mTup, mLst, mNil, mCons, pNil, pCons, mCall, one_1, two_2, mTst, asB_bl, mAnd, mOr, mNot, mAndV, mOrV, mNotV, mChain, mCall0, safe_pure, mTM, Rs.pv, pure_bind, map_pureM, bind_pure_comp, bind_assoc, List.map_cons, List.map_nil, List.replicate, List.cons_append, List.nil_append, List.append_nil, List.getElem?_cons_succ, List.getElem?_cons_zero, List.set_cons_succ, List.set_cons_zero, List.length_cons, List.length_nil, Nat.reduceAdd, Nat.reduceSub, Nat.reduceLeDiff, ask_true, if_true, if_false, Bool.false_eq_true, reduceIte, int_ii, addP, isiP, PV.tyN, kit_ii, kit_bi, kit_bb, kit_ib, kit_ni, kit_si, kit_ss, kit_tt, kit_dd, kit_st, Bool.not_false, Bool.not_true, Bool.true_and, Bool.false_and, xor_false', xor_true', eq_ii, eq_ss, eq_ni, eq_ns, eq_nn, eq_in, isN_non, isN_int, isN_str, neg_int, itCall, itSeq, tup_lst, tgSet, mApp, mUnp, eq_self, setAll, decide_true, bind_map_left, mHouse, mPar, mPut, slotOf, mNo, mPt, mSl, mNewD, mKeep, isNt_non, isNt_int, isNt_str, addS_ii, addS_sn, mParN, putL, mFs, mFmt, mJs, mRetV, dsl0, decide_eq_false (show ¬ (6 : Int) < (j : Int) by omega), ix, le, en, wh]
    have tg : tgSet (.nm 3) (nI j) [.val (.lst (rP rows)), s1, .val (.str (befR rows j)), s3] = pure [.val (.lst (rP rows)), s1, .val (.str (befR rows j)), .val (nI j)] := rfl
    rw [tg, pure_bind, seq_nx st1]
    cases q : wR rows j with
    | some k =>
      refine ⟨fun _ => ?_, fun z => (by cases z)⟩
      have kl : k < 1000 := by
        rw [wr] at q
        split at q
        · cases q
          decide
        · have := wH_le q
          omega
      have f := fld_ok (r := j) (w := k) (by omega) kl
      generalize befR rows j = bf
      generalize rP rows = xs
      simp only [fnV, mSeq, mNext, mRet, mRetN, mRetV, mSet, mDo, mIfS, mIf, mFz, mVar, mC, mBin, mUn, mTup, mLst, mNil, mCons, pNil, pCons, mCall, one_1, two_2, mTst, asB_bl, mAnd, mOr, mNot, mAndV, mOrV, mNotV, mChain, mCall0, safe_pure, mTM, Rs.pv, pure_bind, map_pureM, bind_pure_comp, bind_assoc, List.map_cons, List.map_nil, List.replicate, List.cons_append, List.nil_append, List.append_nil, List.getElem?_cons_succ, List.getElem?_cons_zero, List.set_cons_succ, List.set_cons_zero, List.length_cons, List.length_nil, Nat.reduceAdd, Nat.reduceSub, Nat.reduceLeDiff, ask_true, if_true, if_false, Bool.false_eq_true, reduceIte, int_ii, addP, isiP, PV.tyN, kit_ii, kit_bi, kit_bb, kit_ib, kit_ni, kit_si, kit_ss, kit_tt, kit_dd, kit_st, Bool.not_false, Bool.not_true, Bool.true_and, Bool.false_and, xor_false', xor_true', eq_ii, eq_ss, eq_ni, eq_ns, eq_nn, eq_in, isN_non, isN_int, isN_str, neg_int, itCall, itSeq, tup_lst, tgSet, mApp, mUnp, eq_self, setAll, decide_true, bind_map_left, mHouse, mPar, mPut, slotOf, mNo, mPt, mSl, mNewD, mKeep, isNt_non, isNt_int, isNt_str, addS_ii, addS_sn, mParN, putL, mFs, mFmt, mJs, mRetV, dsl0, isN_oP, mRaise, mFldII, throw_bind, oP, f]
      rfl
    | none =>
      have two : 2 ≤ (rz rows j).length := by
        rw [wr] at q
        split at q
        · cases q
        · exact wH_two q
      refine ⟨fun z => (by cases z), fun _ => ⟨[.val (.lst (rP rows)), .val .non, .val (.str (befR rows (j + 1))), .val (nI j)], ?_, _, _, rfl⟩⟩
      have x1 : ixP (.lst ((rz rows j).map .str)) (.int 1) = pure (.val (.str (wz (rz rows j) 1))) := ix_w (j := 1) (by omega)
      have bf1 : befR rows (j + 1) = wz (rz rows j) 1 := by
        unfold befR
        rw [if_neg (by omega), Nat.add_sub_cancel]
      rw [bf1]
      generalize befR rows j = bf
      generalize wz (rz rows j) 1 = z1 at *
      generalize (rz rows j).map PV.str = rj at *
      generalize rP rows = xs at *
      simp only [fnV, mSeq, mNext, mRet, mRetN, mRetV, mSet, mDo, mIfS, mIf, mFz, mVar, mC, mBin, mUn, mTup, mLst, mNil, mCons, pNil, pCons, mCall, one_1, two_2, mTst, asB_bl, mAnd, mOr, mNot, mAndV, mOrV, mNotV, mChain, mCall0, safe_pure, mTM, Rs.pv, pure_bind, map_pureM, bind_pure_comp, bind_assoc, List.map_cons, List.map_nil, List.replicate, List.cons_append, List.nil_append, List.append_nil, List.getElem?_cons_succ, List.getElem?_cons_zero, List.set_cons_succ, List.set_cons_zero, List.length_cons, List.length_nil, Nat.reduceAdd, Nat.reduceSub, Nat.reduceLeDiff, ask_true, if_true, if_false, Bool.false_eq_true, reduceIte, int_ii, addP, isiP, PV.tyN, kit_ii, kit_bi, kit_bb, kit_ib, kit_ni, kit_si, kit_ss, kit_tt, kit_dd, kit_st, Bool.not_false, Bool.not_true, Bool.true_and, Bool.false_and, xor_false', xor_true', eq_ii, eq_ss, eq_ni, eq_ns, eq_nn, eq_in, isN_non, isN_int, isN_str, neg_int, itCall, itSeq, tup_lst, tgSet, mApp, mUnp, eq_self, setAll, decide_true, bind_map_left, mHouse, mPar, mPut, slotOf, mNo, mPt, mSl, mNewD, mKeep, isNt_non, isNt_int, isNt_str, addS_ii, addS_sn, mParN, putL, mFs, mFmt, mJs, mRetV, dsl0, oP, ix, x1])
  have ht : ∀ s1 s2, itCall (two range2P) (pCons (mC (.int 1)) (pCons (mCall (one lenP0) (pCons (mVar 0) pNil)) pNil)) [.val (.lst (rP rows)), s1, s2, .un] = pure ((List.range' 1 n).map nI) := by
    intro s1 s2
    generalize rP rows = xs at *
    simp only [fnV, mSeq, mNext, mRet, mRetN, mRetV, mSet, mDo, mIfS, mIf, mFz, mVar, mC, mBin, mUn, mTup, mLst, mNil, mCons, pNil, pCons, mCall, one_1, two_2, mTst, asB_bl, mAnd, mOr, mNot, mAndV, mOrV, mNotV, mChain, mCall0, safe_pure, mTM, Rs.pv, pure_bind, map_pureM, bind_pure_comp, bind_assoc, List.map_cons, List.map_nil, List.replicate, List.cons_append, List.nil_append, List.append_nil, List.getElem?_cons_succ, List.getElem?_cons_zero, List.set_cons_succ, List.set_cons_zero, List.length_cons, List.length_nil, Nat.reduceAdd, Nat.reduceSub, Nat.reduceLeDiff, ask_true, if_true, if_false, Bool.false_eq_true, reduceIte, int_ii, addP, isiP, PV.tyN, kit_ii, kit_bi, kit_bb, kit_ib, kit_ni, kit_si, kit_ss, kit_tt, kit_dd, kit_st, Bool.not_false, Bool.not_true, Bool.true_and, Bool.false_and, xor_false', xor_true', eq_ii, eq_ss, eq_ni, eq_ns, eq_nn, eq_in, isN_non, isN_int, isN_str, neg_int, itCall, itSeq, tup_lst, tgSet, mApp, mUnp, eq_self, setAll, decide_true, bind_map_left, mHouse, mPar, mPut, slotOf, mNo, mPt, mSl, mNewD, mKeep, isNt_non, isNt_int, isNt_str, addS_ii, addS_sn, mParN, putL, mFs, mFmt, mJs, mRetV, dsl0, le, range2_1 (show n ≤ 1000 by omega), range_shift]
  unfold chk
  rw [hn, Nat.add_sub_cancel]
  unfold fe_check_words fnV
  rw [show ([.lst (rP rows)] : List PV).map Sl.val ++ List.replicate (4 - 1) Sl.un = [.val (.lst (rP rows)), .un, .un, .un] from rfl]
  unfold be_check_words
  have s0 : mSet 1 (mFz (mCall0 1 f_wrong_in_plates (mCons (mBin ixP (mVar 0) (mC (.int 0))) mNil))) [.val (.lst (rP rows)), .un, .un, .un] = pure (.nx [.val (.lst (rP rows)), .val (oP (wP (rz rows 0))), .un, .un]) := by
    generalize wP (rz rows 0) = w0 at *
    generalize (rz rows 0).map PV.str = r0 at *
    generalize rP rows = xs at *
    simp only [fnV, mSeq, mNext, mRet, mRetN, mRetV, mSet, mDo, mIfS, mIf, mFz, mVar, mC, mBin, mUn, mTup, mLst, mNil, mCons, pNil, pCons, mCall, one_1, two_2, mTst, asB_bl, mAnd, mOr, mNot, mAndV, mOrV, mNotV, mChain, mCall0, safe_pure, mTM, Rs.pv, pure_bind, map_pureM, bind_pure_comp, bind_assoc, List.map_cons, List.map_nil, List.replicate, List.cons_append, List.nil_append, List.append_nil, List.getElem?_cons_succ, List.getElem?_cons_zero, List.set_cons_succ, List.set_cons_zero, List.length_cons, List.length_nil, Nat.reduceAdd, Nat.reduceSub, Nat.reduceLeDiff, ask_true, if_true, if_false, Bool.false_eq_true, reduceIte, int_ii, addP, isiP, PV.tyN, kit_ii, kit_bi, kit_bb, kit_ib, kit_ni, kit_si, kit_ss, kit_tt, kit_dd, kit_st, Bool.not_false, Bool.not_true, Bool.true_and, Bool.false_and, xor_false', xor_true', eq_ii, eq_ss, eq_ni, eq_ns, eq_nn, eq_in, isN_non, isN_int, isN_str, neg_int, itCall, itSeq, tup_lst, tgSet, mApp, mUnp, eq_self, setAll, decide_true, bind_map_left, mHouse, mPar, mPut, slotOf, mNo, mPt, mSl, mNewD, mKeep, isNt_non, isNt_int, isNt_str, addS_ii, addS_sn, mParN, putL, mFs, mFmt, mJs, mRetV, dsl0, i0, wp]
  rw [seq_nx s0]
  cases q : wP (rz rows 0) with
  | some k =>
    have kl := wP_le p1 q
    have f := fld_ok (r := 0) (w := k) (by omega) (by omega)
    dsimp only
    generalize rP rows = xs
    simp only [fnV, mSeq, mNext, mRet, mRetN, mRetV, mSet, mDo, mIfS, mIf, mFz, mVar, mC, mBin, mUn, mTup, mLst, mNil, mCons, pNil, pCons, mCall, one_1, two_2, mTst, asB_bl, mAnd, mOr, mNot, mAndV, mOrV, mNotV, mChain, mCall0, safe_pure, mTM, Rs.pv, pure_bind, map_pureM, bind_pure_comp, bind_assoc, List.map_cons, List.map_nil, List.replicate, List.cons_append, List.nil_append, List.append_nil, List.getElem?_cons_succ, List.getElem?_cons_zero, List.set_cons_succ, List.set_cons_zero, List.length_cons, List.length_nil, Nat.reduceAdd, Nat.reduceSub, Nat.reduceLeDiff, ask_true, if_true, if_false, Bool.false_eq_true, reduceIte, int_ii, addP, isiP, PV.tyN, kit_ii, kit_bi, kit_bb, kit_ib, kit_ni, kit_si, kit_ss, kit_tt, kit_dd, kit_st, Bool.not_false, Bool.not_true, Bool.true_and, Bool.false_and, xor_false', xor_true', eq_ii, eq_ss, eq_ni, eq_ns, eq_nn, eq_in, isN_non, isN_int, isN_str, neg_int, itCall, itSeq, tup_lst, tgSet, mApp, mUnp, eq_self, setAll, decide_true, bind_map_left, mHouse, mPar, mPut, slotOf, mNo, mPt, mSl, mNewD, mKeep, isNt_non, isNt_int, isNt_str, addS_ii, addS_sn, mParN, putL, mFs, mFmt, mJs, mRetV, dsl0, isN_oP, mRaise, mFldII, throw_bind, oP, show fldII "InvalidText" "row" "word" (.int 0) (.int (k : Int)) = pure (xTxt 0 k) from f]
  | none =>
    dsimp only
    have s1 : mIfS (mTst (mBin (isNP true) (mVar 1) (mC .non))) (mSeq (mRaise (mFldII "InvalidText" "row" "word" (mC (.int 0)) (mVar 1))) mNext) mNext [.val (.lst (rP rows)), .val (oP none), .un, .un] = pure (.nx [.val (.lst (rP rows)), .val .non, .un, .un]) := by
      generalize rP rows = xs
      simp only [fnV, mSeq, mNext, mRet, mRetN, mRetV, mSet, mDo, mIfS, mIf, mFz, mVar, mC, mBin, mUn, mTup, mLst, mNil, mCons, pNil, pCons, mCall, one_1, two_2, mTst, asB_bl, mAnd, mOr, mNot, mAndV, mOrV, mNotV, mChain, mCall0, safe_pure, mTM, Rs.pv, pure_bind, map_pureM, bind_pure_comp, bind_assoc, List.map_cons, List.map_nil, List.replicate, List.cons_append, List.nil_append, List.append_nil, List.getElem?_cons_succ, List.getElem?_cons_zero, List.set_cons_succ, List.set_cons_zero, List.length_cons, List.length_nil, Nat.reduceAdd, Nat.reduceSub, Nat.reduceLeDiff, ask_true, if_true, if_false, Bool.false_eq_true, reduceIte, int_ii, addP, isiP, PV.tyN, kit_ii, kit_bi, kit_bb, kit_ib, kit_ni, kit_si, kit_ss, kit_tt, kit_dd, kit_st, Bool.not_false, Bool.not_true, Bool.true_and, Bool.false_and, xor_false', xor_true', eq_ii, eq_ss, eq_ni, eq_ns, eq_nn, eq_in, isN_non, isN_int, isN_str, neg_int, itCall, itSeq, tup_lst, tgSet, mApp, mUnp, eq_self, setAll, decide_true, bind_map_left, mHouse, mPar, mPut, slotOf, mNo, mPt, mSl, mNewD, mKeep, isNt_non, isNt_int, isNt_str, addS_ii, addS_sn, mParN, putL, mFs, mFmt, mJs, mRetV, dsl0, oP]
    rw [seq_nx s1]
    by_cases c1 : n = 0
    · rw [if_pos (by omega)]
      have f := fld_ok (r := 1) (w := 0) (by omega) (by omega)
      generalize rP rows = xs at *
      simp only [fnV, mSeq, mNext, mRet, mRetN, mRetV, mSet, mDo, mIfS, mIf, mFz, mVar, mC, mBin, mUn, mTup, mLst, mNil, mCons, pNil, pCons, mCall, one_1, two_2, mTst, asB_bl, mAnd, mOr, mNot, mAndV, mOrV, mNotV, mChain, mCall0, safe_pure, mTM, Rs.pv, pure_bind, map_pureM, bind_pure_comp, bind_assoc, List.map_cons, List.map_nil, List.replicate, List.cons_append, List.nil_append, List.append_nil, List.getElem?_cons_succ, List.getElem?_cons_zero, List.set_cons_succ, List.set_cons_zero, List.length_cons, List.length_nil, Nat.reduceAdd, Nat.reduceSub, Nat.reduceLeDiff, ask_true, if_true, if_false, Bool.false_eq_true, reduceIte, int_ii, addP, isiP, PV.tyN, kit_ii, kit_bi, kit_bb, kit_ib, kit_ni, kit_si, kit_ss, kit_tt, kit_dd, kit_st, Bool.not_false, Bool.not_true, Bool.true_and, Bool.false_and, xor_false', xor_true', eq_ii, eq_ss, eq_ni, eq_ns, eq_nn, eq_in, isN_non, isN_int, isN_str, neg_int, itCall, itSeq, tup_lst, tgSet, mApp, mUnp, eq_self, setAll, decide_true, bind_map_left, mHouse, mPar, mPut, slotOf, mNo, mPt, mSl, mNewD, mKeep, isNt_non, isNt_int, isNt_str, addS_ii, addS_sn, mParN, putL, mFs, mFmt, mJs, mRetV, dsl0, le, decide_eq_true (show ((n + 1 : Nat) : Int) = 1 by omega), mRaise, mFldII, throw_bind, show fldII "InvalidText" "row" "word" (.int 1) (.int 0) = pure (xTxt 1 0) from f]
    · rw [if_neg (by omega)]
      have s2 : mIfS (mTst (mBin (eqP false) (mCall (one lenP0) (pCons (mVar 0) pNil)) (mC (.int 1)))) (mSeq (mRaise (mFldII "InvalidText" "row" "word" (mC (.int 1)) (mC (.int 0)))) mNext) mNext [.val (.lst (rP rows)), .val .non, .un, .un] = pure (.nx [.val (.lst (rP rows)), .val .non, .un, .un]) := by
        generalize rP rows = xs at *
        simp only [fnV, mSeq, mNext, mRet, mRetN, mRetV, mSet, mDo, mIfS, mIf, mFz, mVar, mC, mBin, mUn, mTup, mLst, mNil, mCons, pNil, pCons, mCall, one_1, two_2, mTst, asB_bl, mAnd, mOr, mNot, mAndV, mOrV, mNotV, mChain, mCall0, safe_pure, mTM, Rs.pv, pure_bind, map_pureM, bind_pure_comp, bind_assoc, List.map_cons, List.map_nil, List.replicate, List.cons_append, List.nil_append, List.append_nil, List.getElem?_cons_succ, List.getElem?_cons_zero, List.set_cons_succ, List.set_cons_zero, List.length_cons, List.length_nil, Nat.reduceAdd, Nat.reduceSub, Nat.reduceLeDiff, ask_true, if_true, if_false, Bool.false_eq_true, reduceIte, int_ii, addP, isiP, PV.tyN, kit_ii, kit_bi, kit_bb, kit_ib, kit_ni, kit_si, kit_ss, kit_tt, kit_dd, kit_st, Bool.not_false, Bool.not_true, Bool.true_and, Bool.false_and, xor_false', xor_true', eq_ii, eq_ss, eq_ni, eq_ns, eq_nn, eq_in, isN_non, isN_int, isN_str, neg_int, itCall, itSeq, tup_lst, tgSet, mApp, mUnp, eq_self, setAll, decide_true, bind_map_left, mHouse, mPar, mPut, slotOf, mNo, mPt, mSl, mNewD, mKeep, isNt_non, isNt_int, isNt_str, addS_ii, addS_sn, mParN, putL, mFs, mFmt, mJs, mRetV, dsl0, le, decide_eq_false (show ¬ ((n + 1 : Nat) : Int) = 1 by omega)]
      have s3 : mSet 2 (mFz (mC (.str ""))) [.val (.lst (rP rows)), .val .non, .un, .un] = pure (.nx [.val (.lst (rP rows)), .val .non, .val (.str (Str.ofString "")), .un]) := rfl
      rw [seq_nx s2, seq_nx s3]
      unfold mSeq
      rw [mFor_eq, ht, pure_bind]
      cases q2 : (List.range' 1 n).find? (fun j => (wR rows j).isSome) with
      | some j =>
        rw [q2] at lp
        have lp : forL _ _ _ _ = _ := lp
        erw [lp]
        rfl
      | none =>
        rw [q2] at lp
        obtain ⟨_, ⟨s1, s3, rfl⟩, lp⟩ := lp
        erw [lp]
        rfl
end

/-! ## law_k47: parse_house, _law_place -/
section
open PySem.W PyProof.Rows PySem.Calls
theorem cut_drop (xs : List PV) (n : Nat) : cutP xs (some (n : Int)) none = xs.drop n := by
  unfold cutP
  rw [HT.sIx_none, HT.sIx_nat]
  by_cases c : n ≤ xs.length
  · rw [Nat.min_eq_left c, List.take_of_length_le (by rw [List.length_drop]; omega)]
  · rw [Nat.min_eq_right (by omega), List.drop_eq_nil_of_le (Nat.le_refl _), List.drop_eq_nil_of_le (by omega), List.take_nil]
theorem sl_dropL (xs : List PV) (n : Nat) : slP (some (n : Int)) none (.lst xs) = pure (.own (.lst (xs.drop n))) := by
  show pure (Rs.own (.lst (cutP xs (some (n : Int)) none))) = _
  rw [cut_drop]
def bxV (w : Str) : Int := (PySem.intText? w).getD 0
def bxP (w : Str) : PV := if w = Str.ofString "-" then .non else .int (bxV w)
def rdP (ws : List Str) : PV := if wz ws 0 = Str.ofString "guess" then .tup ((ws.drop 2).map bxP) else .str (wz ws 0)
theorem int_box {w : Str} (h : w ∈ boxW) (n : w ≠ Str.ofString "-") : intTP (.str w) = pure (.val (.int (bxV w))) := by
  have key : ∀ w ∈ boxW, w = Str.ofString "-" ∨ (w.length ≤ 640 ∧ (PySem.intText? w).isSome = true) := by decide +kernel
  rcases key w h with e | ⟨l, e⟩
  · exact absurd e n
  · obtain ⟨k, hk⟩ := Option.isSome_iff_exists.mp e
    have : bxV w = k := by unfold bxV; rw [hk]; rfl
    rw [this]
    show (match PySem.intText? w with | some n => (do M.ask (w.length ≤ 640); pure (Rs.val (.int n))) | none => M.fail) = _
    rw [hk]
    dsimp only
    rw [ask_true l]
    rfl
theorem w_read {ws : List Str} (h0 : ws ≠ []) (hl : ws.length ≤ 1000) (hb : ∀ w ∈ ws.drop 2, w ∈ boxW) : f_read_manner [.lst (ws.map .str)] = pure (.val (rdP ws)) := by
  have hpos : 0 < ws.length := List.length_pos_iff.mpr h0
  have i0 : ixP (.lst (ws.map .str)) (.int 0) = pure (.val (.str (wz ws 0))) := ix_w (j := 0) hpos
  have hc : (mLc (itSeq (mSl (mVar 0) (mPt (mC (.int 2))) mNo)) [1] (.nm 1) mYes (mIf (mTst (mBin (eqP false) (mVar 1) (mC (.str "-")))) (mC .non) (mCall (one intTP) (pCons (mVar 1) pNil)))) [.val (.lst (ws.map .str)), .un] = pure (.own (.lst ((ws.drop 2).map bxP))) := by
    refine mLc_map (α := Str) .str bxP (ws.drop 2) ?_ (by rw [List.length_drop]; omega) fun w hw => ⟨_, rfl, rfl, ?_⟩
    · have s2 : slP (some 2) none (.lst (ws.map .str)) = pure (.own (.lst ((ws.drop 2).map .str))) := by
        rw [List.map_drop]
        exact sl_dropL _ 2
      generalize (ws.drop 2).map PV.str = r2 at *
      generalize ws.map PV.str = xs at *
      unfold itSeq
      simp only [fnV, mSeq, mNext, mRet, mRetN, mRetV, mSet, mDo, mIfS, mIf, mFz, mVar, mC, mBin, mUn, mTup, mLst, mNil, mCons, pNil, pCons, mCall, one_1, two_2, mTst, asB_bl, mAnd, mOr, mNot, mAndV, mOrV, mNotV, mChain, mCall0, safe_pure, mTM, Rs.pv, pure_bind, map_pureM, bind_pure_comp, bind_assoc, List.map_cons, List.map_nil, List.replicate, List.cons_append, List.nil_append, List.append_nil, List.getElem?_cons_succ, List.getElem?_cons_zero, List.set_cons_succ, List.set_cons_zero, List.length_cons, List.length_nil, Nat.reduceAdd, Nat.reduceSub, Nat.reduceLeDiff, ask_true, if_true, if_false, Bool.false_eq_true, reduceIte, int_ii, addP, isiP, PV.tyN, kit_ii, kit_bi, kit_bb, kit_ib, kit_ni, kit_si, kit_ss, kit_tt, kit_dd, kit_st, Bool.not_false, Bool.not_true, Bool.true_and, Bool.false_and, xor_false', xor_true', eq_ii, eq_ss, eq_ni, eq_ns, eq_nn, eq_in, isN_non, isN_int, isN_str, neg_int, itCall, itSeq, tup_lst, tgSet, mApp, mUnp, eq_self, setAll, decide_true, bind_map_left, mHouse, mPar, mPut, slotOf, mNo, mPt, mSl, mNewD, mKeep, isNt_non, isNt_int, isNt_str, addS_ii, addS_sn, mParN, putL, mFs, mFmt, mJs, mRetV, dsl0, s2]
    · have := hb w hw
      unfold bxP wipeE wipeE
      by_cases c : w = Str.ofString "-"
      · rw [if_pos c]
        simp only [fnV, mSeq, mNext, mRet, mRetN, mRetV, mSet, mDo, mIfS, mIf, mFz, mVar, mC, mBin, mUn, mTup, mLst, mNil, mCons, pNil, pCons, mCall, one_1, two_2, mTst, asB_bl, mAnd, mOr, mNot, mAndV, mOrV, mNotV, mChain, mCall0, safe_pure, mTM, Rs.pv, pure_bind, map_pureM, bind_pure_comp, bind_assoc, List.map_cons, List.map_nil, List.replicate, List.cons_append, List.nil_append, List.append_nil, List.getElem?_cons_succ, List.getElem?_cons_zero, List.set_cons_succ, List.set_cons_zero, List.length_cons, List.length_nil, Nat.reduceAdd, Nat.reduceSub, Nat.reduceLeDiff, ask_true, if_true, if_false, Bool.false_eq_true, reduceIte, int_ii, addP, isiP, PV.tyN, kit_ii, kit_bi, kit_bb, kit_ib, kit_ni, kit_si, kit_ss, kit_tt, kit_dd, kit_st, Bool.not_false, Bool.not_true, Bool.true_and, Bool.false_and, xor_false', xor_true', eq_ii, eq_ss, eq_ni, eq_ns, eq_nn, eq_in, isN_non, isN_int, isN_str, neg_int, itCall, itSeq, tup_lst, tgSet, mApp, mUnp, eq_self, setAll, decide_true, bind_map_left, mHouse, mPar, mPut, slotOf, mNo, mPt, mSl, mNewD, mKeep, isNt_non, isNt_int, isNt_str, addS_ii, addS_sn, mParN, putL, mFs, mFmt, mJs, mRetV, dsl0, decide_eq_true c]
      · rw [if_neg c]
        simp only [fnV, mSeq, mNext, mRet, mRetN, mRetV, mSet, mDo, mIfS, mIf, mFz, mVar, mC, mBin, mUn, mTup, mLst, mNil, mCons, pNil, pCons, mCall, one_1, two_2, mTst, asB_bl, mAnd, mOr, mNot, mAndV, mOrV, mNotV, mChain, mCall0, safe_pure, mTM, Rs.pv, pure_bind, map_pureM, bind_pure_comp, bind_assoc, List.map_cons, List.map_nil, List.replicate, List.cons_append, List.nil_append, List.append_nil, List.getElem?_cons_succ, List.getElem?_cons_zero, List.set_cons_succ, List.set_cons_zero, List.length_cons, List.length_nil, Nat.reduceAdd, Nat.reduceSub, Nat.reduceLeDiff, ask_true, if_true, if_false, Bool.false_eq_true, reduceIte, int_ii, addP, isiP, PV.tyN, kit_ii, kit_bi, kit_bb, kit_ib, kit_ni, kit_si, kit_ss, kit_tt, kit_dd, kit_st, Bool.not_false, Bool.not_true, Bool.true_and, Bool.false_and, xor_false', xor_true', eq_ii, eq_ss, eq_ni, eq_ns, eq_nn, eq_in, isN_non, isN_int, isN_str, neg_int, itCall, itSeq, tup_lst, tgSet, mApp, mUnp, eq_self, setAll, decide_true, bind_map_left, mHouse, mPar, mPut, slotOf, mNo, mPt, mSl, mNewD, mKeep, isNt_non, isNt_int, isNt_str, addS_ii, addS_sn, mParN, putL, mFs, mFmt, mJs, mRetV, dsl0, decide_eq_false c, int_box this c]
  unfold f_read_manner b_read_manner rdP
  generalize (ws.drop 2).map bxP = r2 at *
  generalize wz ws 0 = z at *
  generalize ws.map PV.str = xs at *
  by_cases c : z = Str.ofString "guess"
  · rw [if_pos c]
    simp only [fnV, mSeq, mNext, mRet, mRetN, mRetV, mSet, mDo, mIfS, mIf, mFz, mVar, mC, mBin, mUn, mTup, mLst, mNil, mCons, pNil, pCons, mCall, one_1, two_2, mTst, asB_bl, mAnd, mOr, mNot, mAndV, mOrV, mNotV, mChain, mCall0, safe_pure, mTM, Rs.pv, pure_bind, map_pureM, bind_pure_comp, bind_assoc, List.map_cons, List.map_nil, List.replicate, List.cons_append, List.nil_append, List.append_nil, List.getElem?_cons_succ, List.getElem?_cons_zero, List.set_cons_succ, List.set_cons_zero, List.length_cons, List.length_nil, Nat.reduceAdd, Nat.reduceSub, Nat.reduceLeDiff, ask_true, if_true, if_false, Bool.false_eq_true, reduceIte, int_ii, addP, isiP, PV.tyN, kit_ii, kit_bi, kit_bb, kit_ib, kit_ni, kit_si, kit_ss, kit_tt, kit_dd, kit_st, Bool.not_false, Bool.not_true, Bool.true_and, Bool.false_and, xor_false', xor_true', eq_ii, eq_ss, eq_ni, eq_ns, eq_nn, eq_in, isN_non, isN_int, isN_str, neg_int, itCall, itSeq, tup_lst, tgSet, mApp, mUnp, eq_self, setAll, decide_true, bind_map_left, mHouse, mPar, mPut, slotOf, mNo, mPt, mSl, mNewD, mKeep, isNt_non, isNt_int, isNt_str, addS_ii, addS_sn, mParN, putL, mFs, mFmt, mJs, mRetV, dsl0, i0, decide_eq_true c, hc]
  · rw [if_neg c]
    simp only [fnV, mSeq, mNext, mRet, mRetN, mRetV, mSet, mDo, mIfS, mIf, mFz, mVar, mC, mBin, mUn, mTup, mLst, mNil, mCons, pNil, pCons, mCall, one_1, two_2, mTst, asB_bl, mAnd, mOr, mNot, mAndV, mOrV, mNotV, mChain, mCall0, safe_pure, mTM, Rs.pv, pure_bind, map_pureM, bind_pure_comp, bind_assoc, List.map_cons, List.map_nil, List.replicate, List.cons_append, List.nil_append, List.append_nil, List.getElem?_cons_succ, List.getElem?_cons_zero, List.set_cons_succ, List.set_cons_zero, List.length_cons, List.length_nil, Nat.reduceAdd, Nat.reduceSub, Nat.reduceLeDiff, ask_true, if_true, if_false, Bool.false_eq_true, reduceIte, int_ii, addP, isiP, PV.tyN, kit_ii, kit_bi, kit_bb, kit_ib, kit_ni, kit_si, kit_ss, kit_tt, kit_dd, kit_st, Bool.not_false, Bool.not_true, Bool.true_and, Bool.false_and, xor_false', xor_true', eq_ii, eq_ss, eq_ni, eq_ns, eq_nn, eq_in, isN_non, isN_int, isN_str, neg_int, itCall, itSeq, tup_lst, tgSet, mApp, mUnp, eq_self, setAll, decide_true, bind_map_left, mHouse, mPar, mPut, slotOf, mNo, mPt, mSl, mNewD, mKeep, isNt_non, isNt_int, isNt_str, addS_ii, addS_sn, mParN, putL, mFs, mFmt, mJs, mRetV, dsl0, i0, decide_eq_false c]
def sgOf (rows : List (List Str)) : List Str := (rz rows 0).tail.map fun w => if w = Str.ofString "-" then Str.ofString "" else w
def nmOf (rows : List (List Str)) : List Str := rows.tail.map fun r => wz r 1
def mnOf (rows : List (List Str)) : List PV := rows.tail.map rdP
def spJ (r : List Str) : Str := Txt.join (Str.ofString " ") r
def txtOf (rows : List (List Str)) : Str := Txt.join (Str.ofString "\n") (rows.map spJ)
structure OkT (rows : List (List Str)) : Prop where
  ok : OkR rows
  sp : ∀ r ∈ rows, ∀ w ∈ r, 32 ∉ w.cps.toList
  nl : ∀ r ∈ rows, 10 ∉ (spJ r).cps.toList
  l1 : ∀ r ∈ rows, (spJ r).length ≤ 1000
theorem txt_len {rows : List (List Str)} (h : OkT rows) : ((rows.map spJ).map (·.length)).sum + (rows.map spJ).length * (Str.ofString "\n").length ≤ 16777216 ∧ (txtOf rows).length ≤ 16777216 := by
  have s := sum_le (B := 1000) (l := rows.map spJ) fun x hx => by
    obtain ⟨r, hr, rfl⟩ := List.mem_map.mp hx
    exact h.l1 r hr
  have := h.ok.len
  have l1 : (Str.ofString "\n").length = 1 := by decide +kernel
  rw [List.length_map] at s
  have e : ((rows.map spJ).map (·.length)).sum + (rows.map spJ).length * (Str.ofString "\n").length ≤ 16777216 := by
    rw [l1, List.length_map]
    omega
  exact ⟨e, Nat.le_trans (join_len _ _) e⟩
theorem splitT {rows : List (List Str)} (h : OkT rows) : Txt.split (txtOf rows) (Str.ofString "\n") = rows.map spJ := by
  unfold txtOf
  rw [feed]
  exact split_join1 (by decide) (by simp [h.ok.ne]) fun p hp => by
    obtain ⟨r, hr, rfl⟩ := List.mem_map.mp hp
    exact h.nl r hr
theorem splitR {rows : List (List Str)} (h : OkT rows) {r : List Str} (hr : r ∈ rows) : Txt.split (spJ r) (Str.ofString " ") = r := by
  unfold spJ
  rw [blank]
  exact split_join1 (by decide) (h.ok.row r hr).1 (h.sp r hr)
theorem s_rows {rows : List (List Str)} (h : OkT rows) (ht : (txtOf rows).length ≤ 100000) : mSet 1 (mLc (itSeq (mSplit (mVar 0) "\n")) [4] (.nm 4) mYes (mSplit (mVar 4) " ")) [.val (.str (txtOf rows)), .un, .un, .un, .un, .un, .un] = pure (.nx [.val (.str (txtOf rows)), .own (.lst (rP rows)), .un, .un, .un, .un, .un]) := by
  have hc : mLc (itSeq (mSplit (mVar 0) "\n")) [4] (.nm 4) mYes (mSplit (mVar 4) " ") [.val (.str (txtOf rows)), .un, .un, .un, .un, .un, .un] = pure (.own (.lst (rP rows))) := by
    refine mLc_map (α := List Str) (fun r => .str (spJ r)) (fun r => .lst (r.map .str)) rows ?_ (by have := h.ok.len; omega) fun r hr => ⟨_, rfl, rfl, ?_⟩
    · have e := splitT h
      generalize txtOf rows = z at *
      have e2 : rows.map (fun r => PV.str (spJ r)) = (rows.map spJ).map PV.str := by rw [List.map_map]; rfl
      rw [e2, ← e]
      unfold itSeq
      simp only [fnV, mSeq, mNext, mRet, mRetN, mRetV, mSet, mDo, mIfS, mIf, mFz, mVar, mC, mBin, mUn, mTup, mLst, mNil, mCons, pNil, pCons, mCall, one_1, two_2, mTst, asB_bl, mAnd, mOr, mNot, mAndV, mOrV, mNotV, mChain, mCall0, safe_pure, mTM, Rs.pv, pure_bind, map_pureM, bind_pure_comp, bind_assoc, List.map_cons, List.map_nil, List.replicate, List.cons_append, List.nil_append, List.append_nil, List.getElem?_cons_succ, List.getElem?_cons_zero, List.set_cons_succ, List.set_cons_zero, List.length_cons, List.length_nil, Nat.reduceAdd, Nat.reduceSub, Nat.reduceLeDiff, ask_true, if_true, if_false, Bool.false_eq_true, reduceIte, int_ii, addP, isiP, PV.tyN, kit_ii, kit_bi, kit_bb, kit_ib, kit_ni, kit_si, kit_ss, kit_tt, kit_dd, kit_st, Bool.not_false, Bool.not_true, Bool.true_and, Bool.false_and, xor_false', xor_true', eq_ii, eq_ss, eq_ni, eq_ns, eq_nn, eq_in, isN_non, isN_int, isN_str, neg_int, itCall, itSeq, tup_lst, tgSet, mApp, mUnp, eq_self, setAll, decide_true, bind_map_left, mHouse, mPar, mPut, slotOf, mNo, mPt, mSl, mNewD, mKeep, isNt_non, isNt_int, isNt_str, addS_ii, addS_sn, mParN, putL, mFs, mFmt, mJs, mRetV, dsl0, mSplit, ask_true ht]
    · have e := splitR h hr
      have l := h.l1 r hr
      generalize txtOf rows = z at *
      unfold wipeE wipeE
      simp only [fnV, mSeq, mNext, mRet, mRetN, mRetV, mSet, mDo, mIfS, mIf, mFz, mVar, mC, mBin, mUn, mTup, mLst, mNil, mCons, pNil, pCons, mCall, one_1, two_2, mTst, asB_bl, mAnd, mOr, mNot, mAndV, mOrV, mNotV, mChain, mCall0, safe_pure, mTM, Rs.pv, pure_bind, map_pureM, bind_pure_comp, bind_assoc, List.map_cons, List.map_nil, List.replicate, List.cons_append, List.nil_append, List.append_nil, List.getElem?_cons_succ, List.getElem?_cons_zero, List.set_cons_succ, List.set_cons_zero, List.length_cons, List.length_nil, Nat.reduceAdd, Nat.reduceSub, Nat.reduceLeDiff, ask_true, if_true, if_false, Bool.false_eq_true, reduceIte, int_ii, addP, isiP, PV.tyN, kit_ii, kit_bi, kit_bb, kit_ib, kit_ni, kit_si, kit_ss, kit_tt, kit_dd, kit_st, Bool.not_false, Bool.not_true, Bool.true_and, Bool.false_and, xor_false', xor_true', eq_ii, eq_ss, eq_ni, eq_ns, eq_nn, eq_in, isN_non, isN_int, isN_str, neg_int, itCall, itSeq, tup_lst, tgSet, mApp, mUnp, eq_self, setAll, decide_true, bind_map_left, mHouse, mPar, mPut, slotOf, mNo, mPt, mSl, mNewD, mKeep, isNt_non, isNt_int, isNt_str, addS_ii, addS_sn, mParN, putL, mFs, mFmt, mJs, mRetV, dsl0, mSplit, ask_true (show (spJ r).length ≤ 100000 by omega), e]
  unfold mSet
  rw [hc]
  rfl
theorem e_parse_bad {rows : List (List Str)} (h : OkT rows) (ht : (txtOf rows).length ≤ 100000) {r w : Nat} (hc : chk rows = some (r, w)) : fe_parse_house [.str (txtOf rows)] = M.throw (xTxt r w) := by
  have ec := e_check h.ok
  rw [hc] at ec
  unfold fe_parse_house fnV
  rw [show ([.str (txtOf rows)] : List PV).map Sl.val ++ List.replicate (7 - 1) Sl.un = [.val (.str (txtOf rows)), .un, .un, .un, .un, .un, .un] from rfl]
  unfold be_parse_house
  rw [seq_nx (s_rows h ht)]
  generalize txtOf rows = z
  generalize rP rows = xs at *
  simp only [fnV, mSeq, mNext, mRet, mRetN, mRetV, mSet, mDo, mIfS, mIf, mFz, mVar, mC, mBin, mUn, mTup, mLst, mNil, mCons, pNil, pCons, mCall, one_1, two_2, mTst, asB_bl, mAnd, mOr, mNot, mAndV, mOrV, mNotV, mChain, mCall0, safe_pure, mTM, Rs.pv, pure_bind, map_pureM, bind_pure_comp, bind_assoc, List.map_cons, List.map_nil, List.replicate, List.cons_append, List.nil_append, List.append_nil, List.getElem?_cons_succ, List.getElem?_cons_zero, List.set_cons_succ, List.set_cons_zero, List.length_cons, List.length_nil, Nat.reduceAdd, Nat.reduceSub, Nat.reduceLeDiff, ask_true, if_true, if_false, Bool.false_eq_true, reduceIte, int_ii, addP, isiP, PV.tyN, kit_ii, kit_bi, kit_bb, kit_ib, kit_ni, kit_si, kit_ss, kit_tt, kit_dd, kit_st, Bool.not_false, Bool.not_true, Bool.true_and, Bool.false_and, xor_false', xor_true', eq_ii, eq_ss, eq_ni, eq_ns, eq_nn, eq_in, isN_non, isN_int, isN_str, neg_int, itCall, itSeq, tup_lst, tgSet, mApp, mUnp, eq_self, setAll, decide_true, bind_map_left, mHouse, mPar, mPut, slotOf, mNo, mPt, mSl, mNewD, mKeep, isNt_non, isNt_int, isNt_str, addS_ii, addS_sn, mParN, putL, mFs, mFmt, mJs, mRetV, dsl0, mCallE, ec, throw_bind]
theorem e_parse_ok {rows : List (List Str)} (h : OkT rows) (ht : (txtOf rows).length ≤ 100000) (hc : chk rows = none) (hb : ∀ r ∈ rows.tail, 2 ≤ r.length ∧ ∀ w ∈ r.drop 2, w ∈ boxW) (nd : (nmOf rows).Nodup) (hE : (∃ p, houseEP [.tup ((nmOf rows).map .str), .tup ((sgOf rows).map .str), .dct ((nmOf rows).map .inr) (mnOf rows)] = pure (.val p)) ∨ ∃ x, houseEP [.tup ((nmOf rows).map .str), .tup ((sgOf rows).map .str), .dct ((nmOf rows).map .inr) (mnOf rows)] = M.throw x) : fe_parse_house [.str (txtOf rows)] = houseEP [.tup ((nmOf rows).map .str), .tup ((sgOf rows).map .str), .dct ((nmOf rows).map .inr) (mnOf rows)] := by
  have ec := e_check h.ok
  rw [hc] at ec
  have ec : fe_check_words [.lst (rP rows)] = pure (.val .non) := ec
  have hpos : 0 < rows.length := List.length_pos_iff.mpr h.ok.ne
  have h900 := h.ok.len
  obtain ⟨r0, rs, hrows⟩ : ∃ r0 rs, rows = r0 :: rs := by
    cases e : rows with
    | nil => exact absurd e h.ok.ne
    | cons a b => exact ⟨a, b, rfl⟩
  obtain ⟨q1, q2, q3⟩ := h.ok.row r0 (by rw [hrows]; exact List.mem_cons_self)
  have rs900 : rs.length ≤ 900 := by rw [hrows, List.length_cons] at h900; omega
  have i0 : ixP (.lst (rP rows)) (.int 0) = pure (.val (.lst (r0.map .str))) := by rw [hrows]; exact ixL_0 _ _
  have sl1 : slP (some 1) none (.lst (rP rows)) = pure (.own (.lst (rP rs))) := by
    rw [hrows]
    exact sl_dropL _ 1
  have sl0 : slP (some 1) none (.lst (r0.map .str)) = pure (.own (.lst (r0.tail.map .str))) := by
    rw [← List.drop_one, List.map_drop]
    exact sl_dropL _ 1
  have hb' : ∀ r ∈ rs, 2 ≤ r.length ∧ ∀ w ∈ r.drop 2, w ∈ boxW := fun r hr => hb r (by rw [hrows]; exact hr)
  have hrow : ∀ r ∈ rs, r ≠ [] ∧ r.length ≤ 900 := fun r hr => by
    have := h.ok.row r (by rw [hrows]; exact List.mem_cons_of_mem _ hr)
    exact ⟨this.1, this.2.1⟩
  have esg : sgOf rows = r0.tail.map fun w => if w = Str.ofString "-" then Str.ofString "" else w := by unfold sgOf; rw [hrows]; rfl
  have enm : nmOf rows = rs.map fun r => wz r 1 := by unfold nmOf; rw [hrows]; rfl
  have emn : mnOf rows = rs.map rdP := by unfold mnOf; rw [hrows]; rfl
  have c0 : ∀ s2 s3 s4 s5 s6, (mLc (itSeq (mSl (mBin ixP (mVar 1) (mC (.int 0))) (mPt (mC (.int 1))) mNo)) [5] (.nm 5) mYes (mIf (mTst (mBin (eqP false) (mVar 5) (mC (.str "-")))) (mC (.str "")) (mVar 5))) [.val (.str (txtOf rows)), .val (.lst (rP rows)), s2, s3, s4, s5, s6] = pure (.own (.lst ((sgOf rows).map .str))) := by
    intro s2 s3 s4 s5 s6
    rw [esg, List.map_map]
    refine mLc_map (α := Str) .str (PV.str ∘ fun w => if w = Str.ofString "-" then Str.ofString "" else w) r0.tail ?_ (by rw [List.length_tail]; omega) fun w hw => ⟨_, rfl, rfl, ?_⟩
    · generalize r0.tail.map PV.str = r2 at *
      generalize r0.map PV.str = r1 at *
      generalize rP rows = xs at *
      unfold itSeq
      simp only [fnV, mSeq, mNext, mRet, mRetN, mRetV, mSet, mDo, mIfS, mIf, mFz, mVar, mC, mBin, mUn, mTup, mLst, mNil, mCons, pNil, pCons, mCall, one_1, two_2, mTst, asB_bl, mAnd, mOr, mNot, mAndV, mOrV, mNotV, mChain, mCall0, safe_pure, mTM, Rs.pv, pure_bind, map_pureM, bind_pure_comp, bind_assoc, List.map_cons, List.map_nil, List.replicate, List.cons_append, List.nil_append, List.append_nil, List.getElem?_cons_succ, List.getElem?_cons_zero, List.set_cons_succ, List.set_cons_zero, List.length_cons, List.length_nil, Nat.reduceAdd, Nat.reduceSub, Nat.reduceLeDiff, ask_true, if_true, if_false, Bool.false_eq_true, reduceIte, int_ii, addP, isiP, PV.tyN, kit_ii, kit_bi, kit_bb, kit_ib, kit_ni, kit_si, kit_ss, kit_tt, kit_dd, kit_st, Bool.not_false, Bool.not_true, Bool.true_and, Bool.false_and, xor_false', xor_true', eq_ii, eq_ss, eq_ni, eq_ns, eq_nn, eq_in, isN_non, isN_int, isN_str, neg_int, itCall, itSeq, tup_lst, tgSet, mApp, mUnp, eq_self, setAll, decide_true, bind_map_left, mHouse, mPar, mPut, slotOf, mNo, mPt, mSl, mNewD, mKeep, isNt_non, isNt_int, isNt_str, addS_ii, addS_sn, mParN, putL, mFs, mFmt, mJs, mRetV, dsl0, i0, sl0]
    · generalize rP rows = xs at *
      unfold wipeE wipeE Function.comp
      by_cases c : w = Str.ofString "-"
      · simp only [fnV, mSeq, mNext, mRet, mRetN, mRetV, mSet, mDo, mIfS, mIf, mFz, mVar, mC, mBin, mUn, mTup, mLst, mNil, mCons, pNil, pCons, mCall, one_1, two_2, mTst, asB_bl, mAnd, mOr, mNot, mAndV, mOrV, mNotV, mChain, mCall0, safe_pure, mTM, Rs.pv, pure_bind, map_pureM, bind_pure_comp, bind_assoc, List.map_cons, List.map_nil, List.replicate, List.cons_append, List.nil_append, List.append_nil, List.getElem?_cons_succ, List.getElem?_cons_zero, List.set_cons_succ, List.set_cons_zero, List.length_cons, List.length_nil, Nat.reduceAdd, Nat.reduceSub, Nat.reduceLeDiff, ask_true, if_true, if_false, Bool.false_eq_true, reduceIte, int_ii, addP, isiP, PV.tyN, kit_ii, kit_bi, kit_bb, kit_ib, kit_ni, kit_si, kit_ss, kit_tt, kit_dd, kit_st, Bool.not_false, Bool.not_true, Bool.true_and, Bool.false_and, xor_false', xor_true', eq_ii, eq_ss, eq_ni, eq_ns, eq_nn, eq_in, isN_non, isN_int, isN_str, neg_int, itCall, itSeq, tup_lst, tgSet, mApp, mUnp, eq_self, setAll, decide_true, bind_map_left, mHouse, mPar, mPut, slotOf, mNo, mPt, mSl, mNewD, mKeep, isNt_non, isNt_int, isNt_str, addS_ii, addS_sn, mParN, putL, mFs, mFmt, mJs, mRetV, dsl0, decide_eq_true c]
        rw [if_pos c]
      · simp only [fnV, mSeq, mNext, mRet, mRetN, mRetV, mSet, mDo, mIfS, mIf, mFz, mVar, mC, mBin, mUn, mTup, mLst, mNil, mCons, pNil, pCons, mCall, one_1, two_2, mTst, asB_bl, mAnd, mOr, mNot, mAndV, mOrV, mNotV, mChain, mCall0, safe_pure, mTM, Rs.pv, pure_bind, map_pureM, bind_pure_comp, bind_assoc, List.map_cons, List.map_nil, List.replicate, List.cons_append, List.nil_append, List.append_nil, List.getElem?_cons_succ, List.getElem?_cons_zero, List.set_cons_succ, List.set_cons_zero, List.length_cons, List.length_nil, Nat.reduceAdd, Nat.reduceSub, Nat.reduceLeDiff, ask_true, if_true, if_false, Bool.false_eq_true, reduceIte, int_ii, addP, isiP, PV.tyN, kit_ii, kit_bi, kit_bb, kit_ib, kit_ni, kit_si, kit_ss, kit_tt, kit_dd, kit_st, Bool.not_false, Bool.not_true, Bool.true_and, Bool.false_and, xor_false', xor_true', eq_ii, eq_ss, eq_ni, eq_ns, eq_nn, eq_in, isN_non, isN_int, isN_str, neg_int, itCall, itSeq, tup_lst, tgSet, mApp, mUnp, eq_self, setAll, decide_true, bind_map_left, mHouse, mPar, mPut, slotOf, mNo, mPt, mSl, mNewD, mKeep, isNt_non, isNt_int, isNt_str, addS_ii, addS_sn, mParN, putL, mFs, mFmt, mJs, mRetV, dsl0, decide_eq_false c]
        rw [if_neg c]
  have x1 : ∀ r ∈ rs, ixP (.lst (r.map .str)) (.int 1) = pure (.val (.str (wz r 1))) := fun r hr => ix_w (j := 1) (by have := (hb' r hr).1; omega)
  have c1 : ∀ s2 s3 s4 s5 s6, (mLc (itSeq (mSl (mVar 1) (mPt (mC (.int 1))) mNo)) [6] (.nm 6) mYes (mBin ixP (mVar 6) (mC (.int 1)))) [.val (.str (txtOf rows)), .val (.lst (rP rows)), s2, s3, s4, s5, s6] = pure (.own (.lst ((nmOf rows).map .str))) := by
    intro s2 s3 s4 s5 s6
    rw [enm, List.map_map]
    refine mLc_map (α := List Str) (fun r => .lst (r.map .str)) (PV.str ∘ fun r => wz r 1) rs ?_ (by omega) fun r hr => ⟨_, rfl, rfl, ?_⟩
    · have e : rs.map (fun r => PV.lst (r.map .str)) = rP rs := rfl
      rw [e]
      generalize rP rs = r2 at *
      generalize rP rows = xs at *
      unfold itSeq
      simp only [fnV, mSeq, mNext, mRet, mRetN, mRetV, mSet, mDo, mIfS, mIf, mFz, mVar, mC, mBin, mUn, mTup, mLst, mNil, mCons, pNil, pCons, mCall, one_1, two_2, mTst, asB_bl, mAnd, mOr, mNot, mAndV, mOrV, mNotV, mChain, mCall0, safe_pure, mTM, Rs.pv, pure_bind, map_pureM, bind_pure_comp, bind_assoc, List.map_cons, List.map_nil, List.replicate, List.cons_append, List.nil_append, List.append_nil, List.getElem?_cons_succ, List.getElem?_cons_zero, List.set_cons_succ, List.set_cons_zero, List.length_cons, List.length_nil, Nat.reduceAdd, Nat.reduceSub, Nat.reduceLeDiff, ask_true, if_true, if_false, Bool.false_eq_true, reduceIte, int_ii, addP, isiP, PV.tyN, kit_ii, kit_bi, kit_bb, kit_ib, kit_ni, kit_si, kit_ss, kit_tt, kit_dd, kit_st, Bool.not_false, Bool.not_true, Bool.true_and, Bool.false_and, xor_false', xor_true', eq_ii, eq_ss, eq_ni, eq_ns, eq_nn, eq_in, isN_non, isN_int, isN_str, neg_int, itCall, itSeq, tup_lst, tgSet, mApp, mUnp, eq_self, setAll, decide_true, bind_map_left, mHouse, mPar, mPut, slotOf, mNo, mPt, mSl, mNewD, mKeep, isNt_non, isNt_int, isNt_str, addS_ii, addS_sn, mParN, putL, mFs, mFmt, mJs, mRetV, dsl0, sl1]
    · have := x1 r hr
      generalize r.map PV.str = r2 at *
      generalize rP rows = xs at *
      unfold wipeE wipeE Function.comp
      simp only [fnV, mSeq, mNext, mRet, mRetN, mRetV, mSet, mDo, mIfS, mIf, mFz, mVar, mC, mBin, mUn, mTup, mLst, mNil, mCons, pNil, pCons, mCall, one_1, two_2, mTst, asB_bl, mAnd, mOr, mNot, mAndV, mOrV, mNotV, mChain, mCall0, safe_pure, mTM, Rs.pv, pure_bind, map_pureM, bind_pure_comp, bind_assoc, List.map_cons, List.map_nil, List.replicate, List.cons_append, List.nil_append, List.append_nil, List.getElem?_cons_succ, List.getElem?_cons_zero, List.set_cons_succ, List.set_cons_zero, List.length_cons, List.length_nil, Nat.reduceAdd, Nat.reduceSub, Nat.reduceLeDiff, ask_true, if_true, if_false, Bool.false_eq_true, reduceIte, int_ii, addP, isiP, PV.tyN, kit_ii, kit_bi, kit_bb, kit_ib, kit_ni, kit_si, kit_ss, kit_tt, kit_dd, kit_st, Bool.not_false, Bool.not_true, Bool.true_and, Bool.false_and, xor_false', xor_true', eq_ii, eq_ss, eq_ni, eq_ns, eq_nn, eq_in, isN_non, isN_int, isN_str, neg_int, itCall, itSeq, tup_lst, tgSet, mApp, mUnp, eq_self, setAll, decide_true, bind_map_left, mHouse, mPar, mPut, slotOf, mNo, mPt, mSl, mNewD, mKeep, isNt_non, isNt_int, isNt_str, addS_ii, addS_sn, mParN, putL, mFs, mFmt, mJs, mRetV, dsl0, this]
  have c2 : ∀ s2 s3 s4 s5 s6, mDc (itSeq (mSl (mVar 1) (mPt (mC (.int 1))) mNo)) [6] (.nm 6) mYes (mBin ixP (mVar 6) (mC (.int 1))) (mCall0 1 f_read_manner (mCons (mVar 6) mNil)) [.val (.str (txtOf rows)), .val (.lst (rP rows)), s2, s3, s4, s5, s6] = pure (.own (.dct ((nmOf rows).map .inr) (mnOf rows))) := by
    intro s2 s3 s4 s5 s6
    have ek : (nmOf rows).map Sum.inr = rs.map fun r => (Sum.inr (wz r 1) : Key) := by rw [enm, List.map_map]; rfl
    rw [ek, emn]
    refine mDc_map (α := List Str) (fun r => .lst (r.map .str)) (fun r => .inr (wz r 1)) rdP rs ?_ ?_ (by omega) fun r hr => ⟨_, rfl, rfl, ⟨.str (wz r 1), ?_, rfl⟩, ?_⟩
    · have e : rs.map (fun r => PV.lst (r.map .str)) = rP rs := rfl
      rw [e]
      generalize rP rs = r2 at *
      generalize rP rows = xs at *
      unfold itSeq
      simp only [fnV, mSeq, mNext, mRet, mRetN, mRetV, mSet, mDo, mIfS, mIf, mFz, mVar, mC, mBin, mUn, mTup, mLst, mNil, mCons, pNil, pCons, mCall, one_1, two_2, mTst, asB_bl, mAnd, mOr, mNot, mAndV, mOrV, mNotV, mChain, mCall0, safe_pure, mTM, Rs.pv, pure_bind, map_pureM, bind_pure_comp, bind_assoc, List.map_cons, List.map_nil, List.replicate, List.cons_append, List.nil_append, List.append_nil, List.getElem?_cons_succ, List.getElem?_cons_zero, List.set_cons_succ, List.set_cons_zero, List.length_cons, List.length_nil, Nat.reduceAdd, Nat.reduceSub, Nat.reduceLeDiff, ask_true, if_true, if_false, Bool.false_eq_true, reduceIte, int_ii, addP, isiP, PV.tyN, kit_ii, kit_bi, kit_bb, kit_ib, kit_ni, kit_si, kit_ss, kit_tt, kit_dd, kit_st, Bool.not_false, Bool.not_true, Bool.true_and, Bool.false_and, xor_false', xor_true', eq_ii, eq_ss, eq_ni, eq_ns, eq_nn, eq_in, isN_non, isN_int, isN_str, neg_int, itCall, itSeq, tup_lst, tgSet, mApp, mUnp, eq_self, setAll, decide_true, bind_map_left, mHouse, mPar, mPut, slotOf, mNo, mPt, mSl, mNewD, mKeep, isNt_non, isNt_int, isNt_str, addS_ii, addS_sn, mParN, putL, mFs, mFmt, mJs, mRetV, dsl0, sl1]
    · rw [enm] at nd
      have e : (rs.map fun r => (Sum.inr (wz r 1) : Key)) = (rs.map fun r => wz r 1).map Sum.inr := by rw [List.map_map]; rfl
      rw [e]
      exact List.Pairwise.map _ (fun a b hab z => hab (Sum.inr.inj z)) nd
    · have := x1 r hr
      generalize r.map PV.str = r2 at *
      generalize rP rows = xs at *
      unfold wipeE wipeE
      simp only [fnV, mSeq, mNext, mRet, mRetN, mRetV, mSet, mDo, mIfS, mIf, mFz, mVar, mC, mBin, mUn, mTup, mLst, mNil, mCons, pNil, pCons, mCall, one_1, two_2, mTst, asB_bl, mAnd, mOr, mNot, mAndV, mOrV, mNotV, mChain, mCall0, safe_pure, mTM, Rs.pv, pure_bind, map_pureM, bind_pure_comp, bind_assoc, List.map_cons, List.map_nil, List.replicate, List.cons_append, List.nil_append, List.append_nil, List.getElem?_cons_succ, List.getElem?_cons_zero, List.set_cons_succ, List.set_cons_zero, List.length_cons, List.length_nil, Nat.reduceAdd, Nat.reduceSub, Nat.reduceLeDiff, ask_true, if_true, if_false, Bool.false_eq_true, reduceIte, int_ii, addP, isiP, PV.tyN, kit_ii, kit_bi, kit_bb, kit_ib, kit_ni, kit_si, kit_ss, kit_tt, kit_dd, kit_st, Bool.not_false, Bool.not_true, Bool.true_and, Bool.false_and, xor_false', xor_true', eq_ii, eq_ss, eq_ni, eq_ns, eq_nn, eq_in, isN_non, isN_int, isN_str, neg_int, itCall, itSeq, tup_lst, tgSet, mApp, mUnp, eq_self, setAll, decide_true, bind_map_left, mHouse, mPar, mPut, slotOf, mNo, mPt, mSl, mNewD, mKeep, isNt_non, isNt_int, isNt_str, addS_ii, addS_sn, mParN, putL, mFs, mFmt, mJs, mRetV, dsl0, this]
    · have := w_read (hrow r hr).1 (by have := (hrow r hr).2; omega) (hb' r hr).2
      generalize r.map PV.str = r2 at *
      generalize rP rows = xs at *
      unfold wipeE wipeE
      simp only [fnV, mSeq, mNext, mRet, mRetN, mRetV, mSet, mDo, mIfS, mIf, mFz, mVar, mC, mBin, mUn, mTup, mLst, mNil, mCons, pNil, pCons, mCall, one_1, two_2, mTst, asB_bl, mAnd, mOr, mNot, mAndV, mOrV, mNotV, mChain, mCall0, safe_pure, mTM, Rs.pv, pure_bind, map_pureM, bind_pure_comp, bind_assoc, List.map_cons, List.map_nil, List.replicate, List.cons_append, List.nil_append, List.append_nil, List.getElem?_cons_succ, List.getElem?_cons_zero, List.set_cons_succ, List.set_cons_zero, List.length_cons, List.length_nil, Nat.reduceAdd, Nat.reduceSub, Nat.reduceLeDiff, ask_true, if_true, if_false, Bool.false_eq_true, reduceIte, int_ii, addP, isiP, PV.tyN, kit_ii, kit_bi, kit_bb, kit_ib, kit_ni, kit_si, kit_ss, kit_tt, kit_dd, kit_st, Bool.not_false, Bool.not_true, Bool.true_and, Bool.false_and, xor_false', xor_true', eq_ii, eq_ss, eq_ni, eq_ns, eq_nn, eq_in, isN_non, isN_int, isN_str, neg_int, itCall, itSeq, tup_lst, tgSet, mApp, mUnp, eq_self, setAll, decide_true, bind_map_left, mHouse, mPar, mPut, slotOf, mNo, mPt, mSl, mNewD, mKeep, isNt_non, isNt_int, isNt_str, addS_ii, addS_sn, mParN, putL, mFs, mFmt, mJs, mRetV, dsl0, this]
  unfold fe_parse_house fnV
  rw [show ([.str (txtOf rows)] : List PV).map Sl.val ++ List.replicate (7 - 1) Sl.un = [.val (.str (txtOf rows)), .un, .un, .un, .un, .un, .un] from rfl]
  unfold be_parse_house
  rw [seq_nx (s_rows h ht)]
  generalize txtOf rows = z at *
  generalize rP rows = xs at *
  generalize (nmOf rows).map PV.str = n1 at *
  generalize (sgOf rows).map PV.str = n2 at *
  rcases hE with ⟨p, hE⟩ | ⟨x, hE⟩
  · rw [hE]
    simp only [fnV, mSeq, mNext, mRet, mRetN, mRetV, mSet, mDo, mIfS, mIf, mFz, mVar, mC, mBin, mUn, mTup, mLst, mNil, mCons, pNil, pCons, mCall, one_1, two_2, mTst, asB_bl, mAnd, mOr, mNot, mAndV, mOrV, mNotV, mChain, mCall0, safe_pure, mTM, Rs.pv, pure_bind, map_pureM, bind_pure_comp, bind_assoc, List.map_cons, List.map_nil, List.replicate, List.cons_append, List.nil_append, List.append_nil, List.getElem?_cons_succ, List.getElem?_cons_zero, List.set_cons_succ, List.set_cons_zero, List.length_cons, List.length_nil, Nat.reduceAdd, Nat.reduceSub, Nat.reduceLeDiff, ask_true, if_true, if_false, Bool.false_eq_true, reduceIte, int_ii, addP, isiP, PV.tyN, kit_ii, kit_bi, kit_bb, kit_ib, kit_ni, kit_si, kit_ss, kit_tt, kit_dd, kit_st, Bool.not_false, Bool.not_true, Bool.true_and, Bool.false_and, xor_false', xor_true', eq_ii, eq_ss, eq_ni, eq_ns, eq_nn, eq_in, isN_non, isN_int, isN_str, neg_int, itCall, itSeq, tup_lst, tgSet, mApp, mUnp, eq_self, setAll, decide_true, bind_map_left, mHouse, mPar, mPut, slotOf, mNo, mPt, mSl, mNewD, mKeep, isNt_non, isNt_int, isNt_str, addS_ii, addS_sn, mParN, putL, mFs, mFmt, mJs, mRetV, dsl0, mCallE, ec, c0, c1, c2, mHouseE, hE]
  · rw [hE]
    simp only [fnV, mSeq, mNext, mRet, mRetN, mRetV, mSet, mDo, mIfS, mIf, mFz, mVar, mC, mBin, mUn, mTup, mLst, mNil, mCons, pNil, pCons, mCall, one_1, two_2, mTst, asB_bl, mAnd, mOr, mNot, mAndV, mOrV, mNotV, mChain, mCall0, safe_pure, mTM, Rs.pv, pure_bind, map_pureM, bind_pure_comp, bind_assoc, List.map_cons, List.map_nil, List.replicate, List.cons_append, List.nil_append, List.append_nil, List.getElem?_cons_succ, List.getElem?_cons_zero, List.set_cons_succ, List.set_cons_zero, List.length_cons, List.length_nil, Nat.reduceAdd, Nat.reduceSub, Nat.reduceLeDiff, ask_true, if_true, if_false, Bool.false_eq_true, reduceIte, int_ii, addP, isiP, PV.tyN, kit_ii, kit_bi, kit_bb, kit_ib, kit_ni, kit_si, kit_ss, kit_tt, kit_dd, kit_st, Bool.not_false, Bool.not_true, Bool.true_and, Bool.false_and, xor_false', xor_true', eq_ii, eq_ss, eq_ni, eq_ns, eq_nn, eq_in, isN_non, isN_int, isN_str, neg_int, itCall, itSeq, tup_lst, tgSet, mApp, mUnp, eq_self, setAll, decide_true, bind_map_left, mHouse, mPar, mPut, slotOf, mNo, mPt, mSl, mNewD, mKeep, isNt_non, isNt_int, isNt_str, addS_ii, addS_sn, mParN, putL, mFs, mFmt, mJs, mRetV, dsl0, mCallE, ec, c0, c1, c2, mHouseE, hE, throw_bind]
/-- what becomes of a text -/
theorem place_of {rows : List (List Str)} (h : OkT rows) {r : Rs} {x : Ex} {p : PV} (hp : (fe_parse_house [.str (txtOf rows)] = pure r ∧ p = .non) ∨ (fe_parse_house [.str (txtOf rows)] = M.throw x ∧ tld2 tryl__law_place x = some p)) : f__law_place [.lst ((rows.map spJ).map .str)] = pure (.val p) := by
  have jn := join_of (m := mC (.str (Str.ofString "\n"))) (n := mVar 0) (e := [.val (.lst ((rows.map spJ).map .str)), .un]) (z := Str.ofString "\n") (ss := rows.map spJ) (r := .val (.lst ((rows.map spJ).map .str))) rfl rfl rfl (txt_len h).1
  have jn : mJoin (mC (.str (Str.ofString "\n"))) (mVar 0) [.val (.lst ((rows.map spJ).map .str)), .un] = pure (.val (.str (txtOf rows))) := jn
  have ca : mCallE 1 fe_parse_house (mCons (mJoin (mC (.str (Str.ofString "\n"))) (mVar 0)) mNil) [.val (.lst ((rows.map spJ).map .str)), .un] = fe_parse_house [.str (txtOf rows)] := by
    generalize (rows.map spJ).map PV.str = xs at *
    simp only [fnV, mSeq, mNext, mRet, mRetN, mRetV, mSet, mDo, mIfS, mIf, mFz, mVar, mC, mBin, mUn, mTup, mLst, mNil, mCons, pNil, pCons, mCall, one_1, two_2, mTst, asB_bl, mAnd, mOr, mNot, mAndV, mOrV, mNotV, mChain, mCall0, safe_pure, mTM, Rs.pv, pure_bind, map_pureM, bind_pure_comp, bind_assoc, List.map_cons, List.map_nil, List.replicate, List.cons_append, List.nil_append, List.append_nil, List.getElem?_cons_succ, List.getElem?_cons_zero, List.set_cons_succ, List.set_cons_zero, List.length_cons, List.length_nil, Nat.reduceAdd, Nat.reduceSub, Nat.reduceLeDiff, ask_true, if_true, if_false, Bool.false_eq_true, reduceIte, int_ii, addP, isiP, PV.tyN, kit_ii, kit_bi, kit_bb, kit_ib, kit_ni, kit_si, kit_ss, kit_tt, kit_dd, kit_st, Bool.not_false, Bool.not_true, Bool.true_and, Bool.false_and, xor_false', xor_true', eq_ii, eq_ss, eq_ni, eq_ns, eq_nn, eq_in, isN_non, isN_int, isN_str, neg_int, itCall, itSeq, tup_lst, tgSet, mApp, mUnp, eq_self, setAll, decide_true, bind_map_left, mHouse, mPar, mPut, slotOf, mNo, mPt, mSl, mNewD, mKeep, isNt_non, isNt_int, isNt_str, addS_ii, addS_sn, mParN, putL, mFs, mFmt, mJs, mRetV, dsl0, mCallE, jn]
  unfold f__law_place fnV
  rw [show ([.lst ((rows.map spJ).map .str)] : List PV).map Sl.val ++ List.replicate (2 - 1) Sl.un = [.val (.lst ((rows.map spJ).map .str)), .un] from rfl]
  unfold b__law_place
  rcases hp with ⟨hp, rfl⟩ | ⟨hp, ht⟩
  · have t := try_ok (l := tryl__law_place) (ca.trans hp)
    rw [seq_nx t]
    rfl
  · have t := try_throw (ca.trans hp) ht
    rw [seq_rt t]
    rfl
theorem place_bad {rows : List (List Str)} (h : OkT rows) (ht : (txtOf rows).length ≤ 100000) {r w : Nat} (hc : chk rows = some (r, w)) : f__law_place [.lst ((rows.map spJ).map .str)] = pure (.val (.tup [nI r, nI w])) :=
  place_of h (r := .val .non) (.inr ⟨e_parse_bad h ht hc, rfl⟩)
end

/-! ## law_k47: the texts of the law -/
section
open PySem.W PyProof.Rows PySem.Calls
def wd (l : List String) : List Str := l.map Str.ofString
def okTB (rows : List (List Str)) : Bool := !rows.isEmpty && (decide (rows.length ≤ 900) && (rows.all (fun r => !r.isEmpty && (decide (r.length ≤ 900) && (r.all (fun z => decide (z.length ≤ 900) && !z.cps.toList.contains 32) && (!(spJ r).cps.toList.contains 10 && decide ((spJ r).length ≤ 1000))))) && decide ((txtOf rows).length ≤ 100000)))
theorem okT_of {rows : List (List Str)} (h : okTB rows = true) : OkT rows ∧ (txtOf rows).length ≤ 100000 := by
  unfold okTB at h
  simp only [Bool.and_eq_true, Bool.not_eq_true', List.all_eq_true, decide_eq_true_eq] at h
  obtain ⟨h1, h2, h3, h4⟩ := h
  have ne : ∀ {α : Type} {l : List α}, l.isEmpty = false → l ≠ [] := fun {α l} e z => by rw [z] at e; cases e
  have nc : ∀ {c : Nat} {l : List Nat}, l.contains c = false → c ∉ l := fun {c l} e z => by rw [List.contains_iff_mem.mpr z] at e; cases e
  refine ⟨⟨⟨ne h1, h2, fun r hr => ?_⟩, fun r hr w hw => ?_, fun r hr => ?_, fun r hr => ?_⟩, h4⟩
  · obtain ⟨a, b, c, d⟩ := h3 r hr
    exact ⟨ne a, b, fun z hz => (c z hz).1⟩
  · obtain ⟨a, b, c, d⟩ := h3 r hr
    exact nc (c w hw).2
  · obtain ⟨a, b, c, d⟩ := h3 r hr
    exact nc d.1
  · obtain ⟨a, b, c, d⟩ := h3 r hr
    exact d.2
abbrev g0 : List Str := wd ["plates", "-", "b..", "-"]
abbrev g1 : List Str := wd ["guess", "ant", "-", "2"]
abbrev g2 : List Str := wd ["back", "bee"]
def tab1 : List (List String × Nat) := [([""], 0), (["plate", "-"], 0), (["plates"], 1), (["plates", "B"], 1), (["plates", "-", "--"], 2), (["plates", "-", "-", "abcdefghi"], 3), (["plates", "", "-"], 1), (["plates", "-", ""], 2), (["plates", "-", "-", "-", "-", "-", "-", "-"], 7), (["back", "ant"], 0), (["plates", "a,"], 1)]
def tab2 : List (List String × Nat) := [([""], 0), (["guess"], 1), (["guess", "Ant", "-", "2"], 1), (["guess", "ant"], 2), (["guess", "ant", "-"], 3), (["guess", "ant", "-", "2", "0"], 4), (["guess", "ant", "-", "10"], 3), (["guess", "ant", "x", "-"], 2), (["guess", "ant", "--"], 2), (["back"], 1), (["back", "ant", "1"], 2), (["keeps", "ant"], 0), (["keep", "ant", ""], 2), (["keep"], 1), (["plates", "-"], 0), (["guess", "", "ant", "-", "2"], 1)]
def tab3 : List (List String × Nat) := [(["back", "ant"], 1), (["back", "aaa"], 1), (["keep", "bee", "-"], 2), (["guess", "bee", "1"], 3), (["back", "BEE"], 1), ([""], 0)]
theorem tab1_ok : tab1.all (fun x => okTB [wd x.1, g1, g2] && decide (chk [wd x.1, g1, g2] = some (0, x.2))) = true := by decide +kernel
theorem tab2_ok : tab2.all (fun x => okTB [g0, wd x.1, g2] && decide (chk [g0, wd x.1, g2] = some (1, x.2))) = true := by decide +kernel
theorem tab3_ok : tab3.all (fun x => okTB [g0, g1, wd x.1] && decide (chk [g0, g1, wd x.1] = some (2, x.2))) = true := by decide +kernel
def rowP (x : List String × Nat) : PV := .tup [.str (spJ (wd x.1)), nI x.2]
theorem bad_of {rows : List (List Str)} {r w : Nat} (h : (okTB rows && decide (chk rows = some (r, w))) = true) : f__law_place [.lst ((rows.map spJ).map .str)] = pure (.val (.tup [nI r, nI w])) := by
  rw [Bool.and_eq_true] at h
  obtain ⟨h1, h2⟩ := okT_of h.1
  exact place_bad h1 h2 (of_decide_eq_true h.2)
theorem eqs (n : List String × Nat) : True := trivial
/-! houses -/
theorem houseE_hv {ns ss : List Str} {ws : List Man} (h : Hv ns ss ws) : houseEP [.tup (ns.map .str), .tup (ss.map .str), .dct (ns.map .inr) (ws.map mP)] = pure (.val (hv ns ss ws)) := by
  unfold houseEP
  dsimp only
  rw [strsP_map, strsP_map, kd_of' h]
  dsimp only
  rw [h.ok.part]
  exact house_hv h
theorem houseE_bad {ns ss : List Str} {ws : List Man} {part : Str} (wl : ws.length = ns.length) (hp : housePart ns ss (ns.zip (ws.map mdOf)) = some part) (z1 : (ns.all (fun z => decide (z.length ≤ 1000)) && (decide (ns.length ≤ 1000) && (ss.all (fun z => decide (z.length ≤ 1000)) && decide (ss.length ≤ 1000)))) = true) (gs : ∀ g, Man.guess g ∈ ws → g.length ≤ 1000) :
    houseEP [.tup (ns.map .str), .tup (ss.map .str), .dct (ns.map .inr) (ws.map mP)] = M.throw ⟨"InvalidHouse", [("part", .str part)]⟩ := by
  simp only [Bool.and_eq_true, List.all_eq_true, decide_eq_true_eq] at z1
  obtain ⟨a, b, c, d⟩ := z1
  have fn : ∀ q ∈ ns.zip (ws.map mdOf), q.2.fine := fun q hq => by
    obtain ⟨mn, hm, e⟩ := hv_mem hq
    rw [e]
    cases mn with
    | back => trivial
    | keep => trivial
    | guess g =>
      refine ⟨by rw [List.length_map]; have := gs g hm; omega, fun x hx => ?_⟩
      obtain ⟨o, _, rfl⟩ := List.mem_map.mp hx
      exact optV_itm o
  unfold houseEP
  dsimp only
  rw [strsP_map, strsP_map, kdP_of wl]
  dsimp only
  rw [hp]
  dsimp only
  rw [ask_true ⟨a, b, c, d, fn⟩]
  rfl
theorem place_good {rows : List (List Str)} {ns ss : List Str} {ws : List Man} (h : okTB rows = true) (hc : chk rows = none) (hb : rows.tail.all (fun r => decide (2 ≤ r.length) && (r.drop 2).all (fun w => decide (w ∈ boxW))) = true) (nd : (nmOf rows).Nodup) (en : nmOf rows = ns) (es : sgOf rows = ss) (em : mnOf rows = ws.map mP) (hv' : Hv ns ss ws) :
    f__law_place [.lst ((rows.map spJ).map .str)] = pure (.val .non) := by
  obtain ⟨h1, h2⟩ := okT_of h
  simp only [List.all_eq_true, Bool.and_eq_true, decide_eq_true_eq] at hb
  have hE := houseE_hv hv'
  have e := e_parse_ok h1 h2 hc hb nd (.inl ⟨_, by rw [en, es, em]; exact hE⟩)
  rw [en, es, em, hE] at e
  exact place_of h1 (x := xTxt 0 0) (.inl ⟨e, rfl⟩)
theorem place_house {rows : List (List Str)} {ns ss : List Str} {ws : List Man} {part : Str} (h : okTB rows = true) (hc : chk rows = none) (hb : rows.tail.all (fun r => decide (2 ≤ r.length) && (r.drop 2).all (fun w => decide (w ∈ boxW))) = true) (nd : (nmOf rows).Nodup) (en : nmOf rows = ns) (es : sgOf rows = ss) (em : mnOf rows = ws.map mP)
    (wl : ws.length = ns.length) (hp : housePart ns ss (ns.zip (ws.map mdOf)) = some part) (z1 : (ns.all (fun z => decide (z.length ≤ 1000)) && (decide (ns.length ≤ 1000) && (ss.all (fun z => decide (z.length ≤ 1000)) && decide (ss.length ≤ 1000)))) = true) (gs : ∀ g, Man.guess g ∈ ws → g.length ≤ 1000) :
    f__law_place [.lst ((rows.map spJ).map .str)] = pure (.val (.tup [.str "house", .str part])) := by
  obtain ⟨h1, h2⟩ := okT_of h
  simp only [List.all_eq_true, Bool.and_eq_true, decide_eq_true_eq] at hb
  have hE := houseE_bad wl hp z1 gs
  have e := e_parse_ok h1 h2 hc hb nd (.inr ⟨_, by rw [en, es, em]; exact hE⟩)
  rw [en, es, em, hE] at e
  exact place_of h1 (r := .val .non) (.inr ⟨e, rfl⟩)
theorem pl_good : f__law_place [.lst [.str "plates - b.. -", .str "guess ant - 2", .str "back bee"]] = pure (.val .non) := by
  have e : ([g0, g1, g2].map spJ) = [Str.ofString "plates - b.. -", Str.ofString "guess ant - 2", Str.ofString "back bee"] := by decide +kernel
  have p := place_good (rows := [g0, g1, g2]) (ns := wd ["ant", "bee"]) (ss := wd ["", "b..", ""]) (ws := [.guess [none, some 2], .back]) (by decide +kernel) (by decide +kernel) (by decide +kernel) (by decide +kernel) (by decide +kernel) (by decide +kernel) (by with_unfolding_all rfl) (Hv.mk' (by decide +kernel) (by decide +kernel) rfl (by
    intro g hg
    simp only [List.mem_cons, List.not_mem_nil, or_false, reduceCtorEq, Man.guess.injEq] at hg
    subst hg
    refine ⟨rfl, fun b hb => ?_⟩
    simp only [List.mem_cons, List.not_mem_nil, or_false, Option.some.injEq, reduceCtorEq, false_or] at hb
    show b < 3
    omega))
  rw [e] at p
  exact p
theorem pl_plates : f__law_place [.lst [.str "plates -", .str "back a", .str "back b"]] = pure (.val (.tup [.str "house", .str "plates"])) := by
  have e : ([wd ["plates", "-"], wd ["back", "a"], wd ["back", "b"]].map spJ) = [Str.ofString "plates -", Str.ofString "back a", Str.ofString "back b"] := by decide +kernel
  have p := place_house (rows := [wd ["plates", "-"], wd ["back", "a"], wd ["back", "b"]]) (ns := wd ["a", "b"]) (ss := wd [""]) (ws := [.back, .back]) (part := Str.ofString "plates") (by decide +kernel) (by decide +kernel) (by decide +kernel) (by decide +kernel) (by decide +kernel) (by decide +kernel) (by with_unfolding_all rfl) rfl (by decide +kernel) (by decide +kernel) (by simp)
  rw [e] at p
  exact p
theorem pl_manners : f__law_place [.lst [.str "plates -", .str "guess a 1"]] = pure (.val (.tup [.str "house", .str "manners"])) := by
  have e : ([wd ["plates", "-"], wd ["guess", "a", "1"]].map spJ) = [Str.ofString "plates -", Str.ofString "guess a 1"] := by decide +kernel
  have p := place_house (rows := [wd ["plates", "-"], wd ["guess", "a", "1"]]) (ns := wd ["a"]) (ss := wd [""]) (ws := [.guess [some 1]]) (part := Str.ofString "manners") (by decide +kernel) (by decide +kernel) (by decide +kernel) (by decide +kernel) (by decide +kernel) (by decide +kernel) (by with_unfolding_all rfl) rfl (by decide +kernel) (by decide +kernel) (by
    intro g hg
    simp only [List.mem_cons, List.not_mem_nil, or_false, Man.guess.injEq] at hg
    subst hg
    decide)
  rw [e] at p
  exact p
theorem pl_one : f__law_place [.lst [.str "plates -"]] = pure (.val (.tup [.int 1, .int 0])) := by
  have p := bad_of (rows := [wd ["plates", "-"]]) (r := 1) (w := 0) (by decide +kernel)
  rw [show ([wd ["plates", "-"]].map spJ) = [Str.ofString "plates -"] by decide +kernel] at p
  exact p
theorem pl_none : f__law_place [.lst [.str ""]] = pure (.val (.tup [.int 0, .int 0])) := by
  have p := bad_of (rows := [wd [""]]) (r := 0) (w := 0) (by decide +kernel)
  rw [show ([wd [""]].map spJ) = [Str.ofString ""] by decide +kernel] at p
  exact p
/-! keeps -/
def keepR (m : Nat) : List (List Str) := wd ["plates", "-", "-", "-", "-", "-", "-"] :: ((wd ["a", "b", "c", "d", "e", "f", "g"]).take m).map fun z => [Str.ofString "keep", z]
theorem pl_keep7 : f__law_place [.lst (((keepR 7).map spJ).map .str)] = pure (.val (.tup [.int 7, .int 0])) := bad_of (r := 7) (w := 0) (by decide +kernel)
theorem pl_keep {m : Nat} (h1 : 1 ≤ m) (h6 : m ≤ 6) : f__law_place [.lst (((keepR m).map spJ).map .str)] = pure (.val .non) := by
  have gsk : ∀ g, Man.guess g ∈ List.replicate m Man.keep → g.length = ((wd ["a", "b", "c", "d", "e", "f", "g"]).take m).length ∧ ∀ b, some b ∈ g → b < (wd ["", "", "", "", "", ""]).length := fun g hg => by
    cases List.eq_of_mem_replicate hg
  have : m = 1 ∨ m = 2 ∨ m = 3 ∨ m = 4 ∨ m = 5 ∨ m = 6 := by omega
  rcases this with rfl | rfl | rfl | rfl | rfl | rfl <;>
    exact place_good (ns := (wd ["a", "b", "c", "d", "e", "f", "g"]).take _) (ss := wd ["", "", "", "", "", ""]) (ws := List.replicate _ .keep) (by decide +kernel) (by decide +kernel) (by decide +kernel) (by decide +kernel) (by decide +kernel) (by decide +kernel) (by with_unfolding_all rfl) (Hv.mk' (by decide +kernel) (by decide +kernel) rfl gsk)
end

/-! ## law_k47: a turn, all turns -/
section
open PySem.W PyProof.Rows PySem.Calls
theorem run_seq {m n : MS} {e : En} {P : En → Prop} {Q : Fl → Prop} {F : Ex → Prop} (h : (m e).run (fun fl => ∃ e', fl = .nx e' ∧ P e') NoX) (k : ∀ e', P e' → (n e').run Q F) : (mSeq m n e).run Q F := by
  unfold mSeq
  refine run_of' h ?_
  rintro _ ⟨e', rfl, p⟩
  exact k e' p
def goodL : PV := .lst [.str "plates - b.. -", .str "guess ant - 2", .str "back bee"]
def st0 (s6 s7 s8 s9 s10 s11 : Sl) : En := [.un, .val .orc, .val goodL, .val (.lst (tab1.map rowP)), .val (.lst (tab2.map rowP)), .val (.lst (tab3.map rowP)), s6, s7, s8, s9, s10, s11]
theorem bin_of {op : PV → PV → M Rs} {ma mb : ME} {e : En} {a b : Rs} (h1 : ma e = pure a) (h2 : mb e = pure b) : mBin op ma mb e = op a.pv b.pv := by
  unfold mBin
  rw [h1, pure_bind, h2, pure_bind]
theorem eq_tt {a b : Nat} : eqP true (.tup [nI a, nI b]) (.tup [nI a, nI b]) = pure (.val (.bl false)) := eq_self true rfl (Nat.le_of_ble_eq_true rfl)
theorem addL1 (a : PV) (l : List PV) (h : l.length ≤ 1000) : addSP (.lst [a]) (.lst l) = pure (.own (.lst (a :: l))) := addS_ll (a := [a]) (b := l) (by rw [List.length_singleton]; omega)
theorem addL3 (a b c : PV) : addSP (.lst [a, b]) (.lst [c]) = pure (.own (.lst [a, b, c])) := addS_ll (a := [a, b]) (b := [c]) (by show 3 ≤ 100000; decide)
theorem sl_good1 : slP (some 1) none goodL = pure (.own (.lst [.str "guess ant - 2", .str "back bee"])) := sl_dropL _ 1
theorem sl_good2 : slP none (some 2) goodL = pure (.own (.lst [.str "plates - b.. -", .str "guess ant - 2"])) := sl_take _ 2
theorem ix_good0 : ixP goodL (.int 0) = pure (.val (.str "plates - b.. -")) := ixL_of (i := 0) rfl
theorem ix_good2 : ixP goodL (.int 2) = pure (.val (.str "back bee")) := ixL_of (i := 2) rfl
theorem rows_g : spJ g0 = Str.ofString "plates - b.. -" ∧ spJ g1 = Str.ofString "guess ant - 2" ∧ spJ g2 = Str.ofString "back bee" := by decide +kernel
theorem pl1 {x : List String × Nat} (h : x ∈ tab1) : f__law_place [.lst [.str (spJ (wd x.1)), .str "guess ant - 2", .str "back bee"]] = pure (.val (.tup [nI 0, nI x.2])) := by
  have p := bad_of (List.all_eq_true.mp tab1_ok x h)
  rw [show ([wd x.1, g1, g2].map spJ) = [spJ (wd x.1), spJ g1, spJ g2] from rfl, rows_g.2.1, rows_g.2.2] at p
  exact p
theorem pl2 {x : List String × Nat} (h : x ∈ tab2) : f__law_place [.lst [.str "plates - b.. -", .str (spJ (wd x.1)), .str "back bee"]] = pure (.val (.tup [nI 1, nI x.2])) := by
  have p := bad_of (List.all_eq_true.mp tab2_ok x h)
  rw [show ([g0, wd x.1, g2].map spJ) = [spJ g0, spJ (wd x.1), spJ g2] from rfl, rows_g.1, rows_g.2.2] at p
  exact p
theorem pl3 {x : List String × Nat} (h : x ∈ tab3) : f__law_place [.lst [.str "plates - b.. -", .str "guess ant - 2", .str (spJ (wd x.1))]] = pure (.val (.tup [nI 2, nI x.2])) := by
  have p := bad_of (List.all_eq_true.mp tab3_ok x h)
  rw [show ([g0, g1, wd x.1].map spJ) = [spJ g0, spJ g1, spJ (wd x.1)] from rfl, rows_g.1, rows_g.2.1] at p
  exact p
theorem s_draw {i : Nat} {tab : List (List String × Nat)} {e : En} (hp : 0 < tab.length) (hl : tab.length < 1000) (h1 : e[1]? = some (.val .orc)) (hi : e[i]? = some (.val (.lst (tab.map rowP)))) :
    (mUnp (.tp [7, 8]) (mBin ixP (mVar i) (mCall0 2 f__law_taken (mCons (mVar 1) (mCons (mCall (one lenP0) (pCons (mVar i) pNil)) mNil)))) e).run (fun fl => ∃ x ∈ tab, fl = .nx ((e.set 7 (.val (.str (spJ (wd x.1))))).set 8 (.val (nI x.2)))) NoX := by
  have le := len_lst (xs := tab.map rowP) (by rw [List.length_map]; omega)
  rw [List.length_map] at le
  simp only [fnV, mSeq, mNext, mRet, mRetN, mRetV, mSet, mDo, mIfS, mIf, mFz, mVar, mC, mBin, mUn, mTup, mLst, mNil, mCons, pNil, pCons, mCall, one_1, two_2, mTst, asB_bl, mAnd, mOr, mNot, mAndV, mOrV, mNotV, mChain, mCall0, safe_pure, mTM, Rs.pv, pure_bind, map_pureM, bind_pure_comp, bind_assoc, List.map_cons, List.map_nil, List.replicate, List.cons_append, List.nil_append, List.append_nil, List.getElem?_cons_succ, List.getElem?_cons_zero, List.set_cons_succ, List.set_cons_zero, List.length_cons, List.length_nil, Nat.reduceAdd, Nat.reduceSub, Nat.reduceLeDiff, ask_true, if_true, if_false, Bool.false_eq_true, reduceIte, int_ii, addP, isiP, PV.tyN, kit_ii, kit_bi, kit_bb, kit_ib, kit_ni, kit_si, kit_ss, kit_tt, kit_dd, kit_st, Bool.not_false, Bool.not_true, Bool.true_and, Bool.false_and, xor_false', xor_true', eq_ii, eq_ss, eq_ni, eq_ns, eq_nn, eq_in, isN_non, isN_int, isN_str, neg_int, itCall, itSeq, tup_lst, tgSet, mApp, mUnp, eq_self, setAll, decide_true, bind_map_left, mHouse, mPar, mPut, slotOf, mNo, mPt, mSl, mNewD, mKeep, isNt_non, isNt_int, isNt_str, addS_ii, addS_sn, mParN, putL, mFs, mFmt, mJs, mRetV, dsl0, hi, h1, le]
  refine run_of (s_taken (by omega) (by omega)) ?_
  rintro _ ⟨k, hk, rfl⟩
  have hk : k < tab.length := by omega
  have xk : (tab.map rowP)[k]? = some (rowP tab[k]) := by rw [List.getElem?_map, List.getElem?_eq_getElem hk]; rfl
  simp only [fnV, mSeq, mNext, mRet, mRetN, mRetV, mSet, mDo, mIfS, mIf, mFz, mVar, mC, mBin, mUn, mTup, mLst, mNil, mCons, pNil, pCons, mCall, one_1, two_2, mTst, asB_bl, mAnd, mOr, mNot, mAndV, mOrV, mNotV, mChain, mCall0, safe_pure, mTM, Rs.pv, pure_bind, map_pureM, bind_pure_comp, bind_assoc, List.map_cons, List.map_nil, List.replicate, List.cons_append, List.nil_append, List.append_nil, List.getElem?_cons_succ, List.getElem?_cons_zero, List.set_cons_succ, List.set_cons_zero, List.length_cons, List.length_nil, Nat.reduceAdd, Nat.reduceSub, Nat.reduceLeDiff, ask_true, if_true, if_false, Bool.false_eq_true, reduceIte, int_ii, addP, isiP, PV.tyN, kit_ii, kit_bi, kit_bb, kit_ib, kit_ni, kit_si, kit_ss, kit_tt, kit_dd, kit_st, Bool.not_false, Bool.not_true, Bool.true_and, Bool.false_and, xor_false', xor_true', eq_ii, eq_ss, eq_ni, eq_ns, eq_nn, eq_in, isN_non, isN_int, isN_str, neg_int, itCall, itSeq, tup_lst, tgSet, mApp, mUnp, eq_self, setAll, decide_true, bind_map_left, mHouse, mPar, mPut, slotOf, mNo, mPt, mSl, mNewD, mKeep, isNt_non, isNt_int, isNt_str, addS_ii, addS_sn, mParN, putL, mFs, mFmt, mJs, mRetV, dsl0, ixL_of xk]
  exact ⟨tab[k], List.getElem_mem hk, rfl⟩
theorem s_turn {x : PV} {b6 b7 b8 b9 b10 b11 : Sl} : (tgSet (.nm 6) x (st0 b6 b7 b8 b9 b10 b11) >>= (mSeq (mUnp (.tp [7, 8]) (mBin ixP (mVar 3) (mCall0 2 f__law_taken (mCons (mVar 1) (mCons (mCall (one lenP0) (pCons (mVar 3) pNil)) mNil)))))
  (mSeq (mIfS (mTst (mBin (eqP true) (mCall0 1 f__law_place (mCons (mBin addSP (mLst (mCons (mVar 7) mNil)) (mSl (mVar 2) (mPt (mC (.int 1))) mNo)) mNil)) (mTup (mCons (mC (.int 0)) (mCons (mVar 8) mNil))))) (mSeq (mRet (mC (.bl false)))
  mNext) mNext)
  (mSeq (mUnp (.tp [7, 8]) (mBin ixP (mVar 4) (mCall0 2 f__law_taken (mCons (mVar 1) (mCons (mCall (one lenP0) (pCons (mVar 4) pNil)) mNil)))))
  (mSeq (mIfS (mTst (mBin (eqP true) (mCall0 1 f__law_place (mCons (mLst (mCons (mBin ixP (mVar 2) (mC (.int 0))) (mCons (mVar 7) (mCons (mBin ixP (mVar 2) (mC (.int 2))) mNil)))) mNil)) (mTup (mCons (mC (.int 1)) (mCons (mVar 8) mNil))))) (mSeq (mRet (mC (.bl false)))
  mNext) mNext)
  (mSeq (mUnp (.tp [7, 8]) (mBin ixP (mVar 5) (mCall0 2 f__law_taken (mCons (mVar 1) (mCons (mCall (one lenP0) (pCons (mVar 5) pNil)) mNil)))))
  (mSeq (mIfS (mTst (mBin (eqP true) (mCall0 1 f__law_place (mCons (mBin addSP (mSl (mVar 2) mNo (mPt (mC (.int 2)))) (mLst (mCons (mVar 7) mNil))) mNil)) (mTup (mCons (mC (.int 2)) (mCons (mVar 8) mNil))))) (mSeq (mRet (mC (.bl false)))
  mNext) mNext)
  (mSeq (mSet 9 (mFz (mBin addSP (mC (.int 1)) (mCall0 2 f__law_taken (mCons (mVar 1) (mCons (mC (.int 7)) mNil))))))
  (mSeq (mSet 10 (mFz (mBin addSP (mLst (mCons (mC (.str "plates - - - - - -")) mNil)) (mLc (itStr (mSlS (mC (.str "abcdefg")) mNo (mPt (mVar 9)))) [11] (.nm 11) mYes (mBin addSP (mC (.str "keep ")) (mVar 11))))))
  (mSeq (mIfS (mTst (mBin (eqP true) (mCall0 1 f__law_place (mCons (mVar 10) mNil)) (mIf (mTst (mBin gtP (mVar 9) (mC (.int 6)))) (mTup (mCons (mC (.int 7)) (mCons (mC (.int 0)) mNil))) (mC .non)))) (mSeq (mRet (mC (.bl false)))
  mNext) mNext)
  mNext)))))))))).run (fun fl => ∃ e2, fl = .nx e2 ∧ ∃ s6 s7 s8 s9 s10 s11, e2 = st0 s6 s7 s8 s9 s10 s11) NoX := by
  rw [show tgSet (.nm 6) x (st0 b6 b7 b8 b9 b10 b11) = pure (st0 (.val x) b7 b8 b9 b10 b11) from rfl, pure_bind]
  refine run_seq (P := fun e => ∃ y ∈ tab1, e = st0 (.val x) (.val (.str (spJ (wd y.1)))) (.val (nI y.2)) b9 b10 b11) ?_ ?_
  · refine M.mono _ ?_ (fun _ z => z) (s_draw (i := 3) (tab := tab1) (e := st0 (.val x) b7 b8 b9 b10 b11) (by decide) (by decide) rfl rfl)
    rintro _ ⟨y, hy, rfl⟩
    exact ⟨_, rfl, y, hy, rfl⟩
  rintro _ ⟨y, hy, rfl⟩
  have c1 : mIfS (mTst (mBin (eqP true) (mCall0 1 f__law_place (mCons (mBin addSP (mLst (mCons (mVar 7) mNil)) (mSl (mVar 2) (mPt (mC (.int 1))) mNo)) mNil)) (mTup (mCons (mC (.int 0)) (mCons (mVar 8) mNil))))) (mSeq (mRet (mC (.bl false))) mNext) mNext (st0 (.val x) (.val (.str (spJ (wd y.1)))) (.val (nI y.2)) b9 b10 b11) = pure (.nx (st0 (.val x) (.val (.str (spJ (wd y.1)))) (.val (nI y.2)) b9 b10 b11)) := by
    have p := pl1 hy
    have ad := addL1 (.str (spJ (wd y.1))) [.str "guess ant - 2", .str "back bee"] (by decide)
    have eq : eqP true (.tup [nI 0, nI y.2]) (.tup [.int 0, nI y.2]) = pure (.val (.bl false)) := eq_tt
    unfold st0
    have sg := sl_good1
    generalize goodL = gl at *
    generalize spJ (wd y.1) = z at *
    generalize tab1.map rowP = t1
    generalize tab2.map rowP = t2
    generalize tab3.map rowP = t3
    simp only [fnV, mSeq, mNext, mRet, mRetN, mRetV, mSet, mDo, mIfS, mIf, mFz, mVar, mC, mBin, mUn, mTup, mLst, mNil, mCons, pNil, pCons, mCall, one_1, two_2, mTst, asB_bl, mAnd, mOr, mNot, mAndV, mOrV, mNotV, mChain, mCall0, safe_pure, mTM, Rs.pv, pure_bind, map_pureM, bind_pure_comp, bind_assoc, List.map_cons, List.map_nil, List.replicate, List.cons_append, List.nil_append, List.append_nil, List.getElem?_cons_succ, List.getElem?_cons_zero, List.set_cons_succ, List.set_cons_zero, List.length_cons, List.length_nil, Nat.reduceAdd, Nat.reduceSub, Nat.reduceLeDiff, ask_true, if_true, if_false, Bool.false_eq_true, reduceIte, int_ii, addP, isiP, PV.tyN, kit_ii, kit_bi, kit_bb, kit_ib, kit_ni, kit_si, kit_ss, kit_tt, kit_dd, kit_st, Bool.not_false, Bool.not_true, Bool.true_and, Bool.false_and, xor_false', xor_true', eq_ii, eq_ss, eq_ni, eq_ns, eq_nn, eq_in, isN_non, isN_int, isN_str, neg_int, itCall, itSeq, tup_lst, tgSet, mApp, mUnp, eq_self, setAll, decide_true, bind_map_left, mHouse, mPar, mPut, slotOf, mNo, mPt, mSl, mNewD, mKeep, isNt_non, isNt_int, isNt_str, addS_ii, addS_sn, mParN, putL, mFs, mFmt, mJs, mRetV, dsl0, sg, ad, p, eq]
  rw [seq_nx c1]
  refine run_seq (P := fun e => ∃ y ∈ tab2, e = st0 (.val x) (.val (.str (spJ (wd y.1)))) (.val (nI y.2)) b9 b10 b11) ?_ ?_
  · refine M.mono _ ?_ (fun _ z => z) (s_draw (i := 4) (tab := tab2) (e := st0 (.val x) (.val (.str (spJ (wd y.1)))) (.val (nI y.2)) b9 b10 b11) (by decide) (by decide) rfl rfl)
    rintro _ ⟨y, hy, rfl⟩
    exact ⟨_, rfl, y, hy, rfl⟩
  clear c1 hy y
  rintro _ ⟨y, hy, rfl⟩
  have c2 : mIfS (mTst (mBin (eqP true) (mCall0 1 f__law_place (mCons (mLst (mCons (mBin ixP (mVar 2) (mC (.int 0))) (mCons (mVar 7) (mCons (mBin ixP (mVar 2) (mC (.int 2))) mNil)))) mNil)) (mTup (mCons (mC (.int 1)) (mCons (mVar 8) mNil))))) (mSeq (mRet (mC (.bl false))) mNext) mNext (st0 (.val x) (.val (.str (spJ (wd y.1)))) (.val (nI y.2)) b9 b10 b11) = pure (.nx (st0 (.val x) (.val (.str (spJ (wd y.1)))) (.val (nI y.2)) b9 b10 b11)) := by
    have p := pl2 hy
    have eq : eqP true (.tup [nI 1, nI y.2]) (.tup [.int 1, nI y.2]) = pure (.val (.bl false)) := eq_tt
    unfold st0
    have i0 := ix_good0
    have i2 := ix_good2
    generalize goodL = gl at *
    generalize spJ (wd y.1) = z at *
    generalize tab1.map rowP = t1
    generalize tab2.map rowP = t2
    generalize tab3.map rowP = t3
    simp only [fnV, mSeq, mNext, mRet, mRetN, mRetV, mSet, mDo, mIfS, mIf, mFz, mVar, mC, mBin, mUn, mTup, mLst, mNil, mCons, pNil, pCons, mCall, one_1, two_2, mTst, asB_bl, mAnd, mOr, mNot, mAndV, mOrV, mNotV, mChain, mCall0, safe_pure, mTM, Rs.pv, pure_bind, map_pureM, bind_pure_comp, bind_assoc, List.map_cons, List.map_nil, List.replicate, List.cons_append, List.nil_append, List.append_nil, List.getElem?_cons_succ, List.getElem?_cons_zero, List.set_cons_succ, List.set_cons_zero, List.length_cons, List.length_nil, Nat.reduceAdd, Nat.reduceSub, Nat.reduceLeDiff, ask_true, if_true, if_false, Bool.false_eq_true, reduceIte, int_ii, addP, isiP, PV.tyN, kit_ii, kit_bi, kit_bb, kit_ib, kit_ni, kit_si, kit_ss, kit_tt, kit_dd, kit_st, Bool.not_false, Bool.not_true, Bool.true_and, Bool.false_and, xor_false', xor_true', eq_ii, eq_ss, eq_ni, eq_ns, eq_nn, eq_in, isN_non, isN_int, isN_str, neg_int, itCall, itSeq, tup_lst, tgSet, mApp, mUnp, eq_self, setAll, decide_true, bind_map_left, mHouse, mPar, mPut, slotOf, mNo, mPt, mSl, mNewD, mKeep, isNt_non, isNt_int, isNt_str, addS_ii, addS_sn, mParN, putL, mFs, mFmt, mJs, mRetV, dsl0, i0, i2, p, eq]
  rw [seq_nx c2]
  refine run_seq (P := fun e => ∃ y ∈ tab3, e = st0 (.val x) (.val (.str (spJ (wd y.1)))) (.val (nI y.2)) b9 b10 b11) ?_ ?_
  · refine M.mono _ ?_ (fun _ z => z) (s_draw (i := 5) (tab := tab3) (e := st0 (.val x) (.val (.str (spJ (wd y.1)))) (.val (nI y.2)) b9 b10 b11) (by decide) (by decide) rfl rfl)
    rintro _ ⟨y, hy, rfl⟩
    exact ⟨_, rfl, y, hy, rfl⟩
  clear c2 hy y
  rintro _ ⟨y, hy, rfl⟩
  have c3 : mIfS (mTst (mBin (eqP true) (mCall0 1 f__law_place (mCons (mBin addSP (mSl (mVar 2) mNo (mPt (mC (.int 2)))) (mLst (mCons (mVar 7) mNil))) mNil)) (mTup (mCons (mC (.int 2)) (mCons (mVar 8) mNil))))) (mSeq (mRet (mC (.bl false))) mNext) mNext (st0 (.val x) (.val (.str (spJ (wd y.1)))) (.val (nI y.2)) b9 b10 b11) = pure (.nx (st0 (.val x) (.val (.str (spJ (wd y.1)))) (.val (nI y.2)) b9 b10 b11)) := by
    have p := pl3 hy
    have ad := addL3 (.str "plates - b.. -") (.str "guess ant - 2") (.str (spJ (wd y.1)))
    have eq : eqP true (.tup [nI 2, nI y.2]) (.tup [.int 2, nI y.2]) = pure (.val (.bl false)) := eq_tt
    unfold st0
    have sg := sl_good2
    generalize goodL = gl at *
    generalize spJ (wd y.1) = z at *
    generalize tab1.map rowP = t1
    generalize tab2.map rowP = t2
    generalize tab3.map rowP = t3
    simp only [fnV, mSeq, mNext, mRet, mRetN, mRetV, mSet, mDo, mIfS, mIf, mFz, mVar, mC, mBin, mUn, mTup, mLst, mNil, mCons, pNil, pCons, mCall, one_1, two_2, mTst, asB_bl, mAnd, mOr, mNot, mAndV, mOrV, mNotV, mChain, mCall0, safe_pure, mTM, Rs.pv, pure_bind, map_pureM, bind_pure_comp, bind_assoc, List.map_cons, List.map_nil, List.replicate, List.cons_append, List.nil_append, List.append_nil, List.getElem?_cons_succ, List.getElem?_cons_zero, List.set_cons_succ, List.set_cons_zero, List.length_cons, List.length_nil, Nat.reduceAdd, Nat.reduceSub, Nat.reduceLeDiff, ask_true, if_true, if_false, Bool.false_eq_true, reduceIte, int_ii, addP, isiP, PV.tyN, kit_ii, kit_bi, kit_bb, kit_ib, kit_ni, kit_si, kit_ss, kit_tt, kit_dd, kit_st, Bool.not_false, Bool.not_true, Bool.true_and, Bool.false_and, xor_false', xor_true', eq_ii, eq_ss, eq_ni, eq_ns, eq_nn, eq_in, isN_non, isN_int, isN_str, neg_int, itCall, itSeq, tup_lst, tgSet, mApp, mUnp, eq_self, setAll, decide_true, bind_map_left, mHouse, mPar, mPut, slotOf, mNo, mPt, mSl, mNewD, mKeep, isNt_non, isNt_int, isNt_str, addS_ii, addS_sn, mParN, putL, mFs, mFmt, mJs, mRetV, dsl0, sg, ad, p, eq]
  rw [seq_nx c3]
  refine run_seq (P := fun e => ∃ m, 1 ≤ m ∧ m ≤ 7 ∧ e = st0 (.val x) (.val (.str (spJ (wd y.1)))) (.val (nI y.2)) (.val (nI m)) b10 b11) ?_ ?_
  · unfold st0
    generalize goodL = gl
    generalize spJ (wd y.1) = z
    generalize tab1.map rowP = t1
    generalize tab2.map rowP = t2
    generalize tab3.map rowP = t3
    simp only [fnV, mSeq, mNext, mRet, mRetN, mRetV, mSet, mDo, mIfS, mIf, mFz, mVar, mC, mBin, mUn, mTup, mLst, mNil, mCons, pNil, pCons, mCall, one_1, two_2, mTst, asB_bl, mAnd, mOr, mNot, mAndV, mOrV, mNotV, mChain, mCall0, safe_pure, mTM, Rs.pv, pure_bind, map_pureM, bind_pure_comp, bind_assoc, List.map_cons, List.map_nil, List.replicate, List.cons_append, List.nil_append, List.append_nil, List.getElem?_cons_succ, List.getElem?_cons_zero, List.set_cons_succ, List.set_cons_zero, List.length_cons, List.length_nil, Nat.reduceAdd, Nat.reduceSub, Nat.reduceLeDiff, ask_true, if_true, if_false, Bool.false_eq_true, reduceIte, int_ii, addP, isiP, PV.tyN, kit_ii, kit_bi, kit_bb, kit_ib, kit_ni, kit_si, kit_ss, kit_tt, kit_dd, kit_st, Bool.not_false, Bool.not_true, Bool.true_and, Bool.false_and, xor_false', xor_true', eq_ii, eq_ss, eq_ni, eq_ns, eq_nn, eq_in, isN_non, isN_int, isN_str, neg_int, itCall, itSeq, tup_lst, tgSet, mApp, mUnp, eq_self, setAll, decide_true, bind_map_left, mHouse, mPar, mPut, slotOf, mNo, mPt, mSl, mNewD, mKeep, isNt_non, isNt_int, isNt_str, addS_ii, addS_sn, mParN, putL, mFs, mFmt, mJs, mRetV, dsl0]
    refine run_of (s_taken (by decide) (by decide)) ?_
    rintro _ ⟨k, hk, rfl⟩
    have e1 : (1 : Int) + (k : Int) = ((1 + k : Nat) : Int) := by omega
    simp only [fnV, mSeq, mNext, mRet, mRetN, mRetV, mSet, mDo, mIfS, mIf, mFz, mVar, mC, mBin, mUn, mTup, mLst, mNil, mCons, pNil, pCons, mCall, one_1, two_2, mTst, asB_bl, mAnd, mOr, mNot, mAndV, mOrV, mNotV, mChain, mCall0, safe_pure, mTM, Rs.pv, pure_bind, map_pureM, bind_pure_comp, bind_assoc, List.map_cons, List.map_nil, List.replicate, List.cons_append, List.nil_append, List.append_nil, List.getElem?_cons_succ, List.getElem?_cons_zero, List.set_cons_succ, List.set_cons_zero, List.length_cons, List.length_nil, Nat.reduceAdd, Nat.reduceSub, Nat.reduceLeDiff, ask_true, if_true, if_false, Bool.false_eq_true, reduceIte, int_ii, addP, isiP, PV.tyN, kit_ii, kit_bi, kit_bb, kit_ib, kit_ni, kit_si, kit_ss, kit_tt, kit_dd, kit_st, Bool.not_false, Bool.not_true, Bool.true_and, Bool.false_and, xor_false', xor_true', eq_ii, eq_ss, eq_ni, eq_ns, eq_nn, eq_in, isN_non, isN_int, isN_str, neg_int, itCall, itSeq, tup_lst, tgSet, mApp, mUnp, eq_self, setAll, decide_true, bind_map_left, mHouse, mPar, mPut, slotOf, mNo, mPt, mSl, mNewD, mKeep, isNt_non, isNt_int, isNt_str, addS_ii, addS_sn, mParN, putL, mFs, mFmt, mJs, mRetV, dsl0, e1]
    exact ⟨_, rfl, 1 + k, by omega, by omega, rfl⟩
  rintro _ ⟨m, hm1, hm7, rfl⟩
  have key : ∀ m : Nat, 1 ≤ m → m ≤ 7 → signsP (Txt.slice (Str.ofString "abcdefg") none (some (m : Int))) = ((wd ["a", "b", "c", "d", "e", "f", "g"]).take m).map .str ∧ (keepR m).map spJ = Str.ofString "plates - - - - - -" :: ((wd ["a", "b", "c", "d", "e", "f", "g"]).take m).map fun z => Str.ofString "keep " ++ z := by
    have k2 : ∀ m : Nat, m ≤ 7 → (Txt.slice (Str.ofString "abcdefg") none (some (m : Int))).cps.toList.map (fun c => (⟨#[c]⟩ : Str)) = (wd ["a", "b", "c", "d", "e", "f", "g"]).take m ∧ (keepR m).map spJ = Str.ofString "plates - - - - - -" :: ((wd ["a", "b", "c", "d", "e", "f", "g"]).take m).map fun z => Str.ofString "keep " ++ z := by decide +kernel
    intro m h1 h7
    obtain ⟨q1, q2⟩ := k2 m h7
    refine ⟨?_, q2⟩
    rw [← q1, List.map_map]
    rfl
  obtain ⟨key1, key2⟩ := key m hm1 hm7
  have c4 : mSet 10 (mFz (mBin addSP (mLst (mCons (mC (.str "plates - - - - - -")) mNil)) (mLc (itStr (mSlS (mC (.str "abcdefg")) mNo (mPt (mVar 9)))) [11] (.nm 11) mYes (mBin addSP (mC (.str "keep ")) (mVar 11))))) (st0 (.val x) (.val (.str (spJ (wd y.1)))) (.val (nI y.2)) (.val (nI m)) b10 b11) = pure (.nx (st0 (.val x) (.val (.str (spJ (wd y.1)))) (.val (nI y.2)) (.val (nI m)) (.val (.lst (((keepR m).map spJ).map .str))) b11)) := by
    have tl : ((wd ["a", "b", "c", "d", "e", "f", "g"]).take m).length ≤ 7 := by
      rw [List.length_take]
      show min m 7 ≤ 7
      omega
    have zl : ∀ z ∈ (wd ["a", "b", "c", "d", "e", "f", "g"]).take m, (Str.ofString "keep ").length + z.length ≤ 100000 := by
      have : ∀ z ∈ wd ["a", "b", "c", "d", "e", "f", "g"], (Str.ofString "keep ").length + z.length ≤ 100000 := by decide +kernel
      exact fun z hz => this z (List.mem_of_mem_take hz)
    have l7 : (Str.ofString "abcdefg").length ≤ 100000 := by decide +kernel
    have hc : mLc (itStr (mSlS (mC (.str "abcdefg")) mNo (mPt (mVar 9)))) [11] (.nm 11) mYes (mBin addSP (mC (.str "keep ")) (mVar 11)) (st0 (.val x) (.val (.str (spJ (wd y.1)))) (.val (nI y.2)) (.val (nI m)) b10 b11) = pure (.own (.lst ((((wd ["a", "b", "c", "d", "e", "f", "g"]).take m).map fun z => Str.ofString "keep " ++ z).map .str))) := by
      rw [List.map_map]
      refine mLc_map (α := Str) .str (PV.str ∘ fun z => Str.ofString "keep " ++ z) _ ?_ (by omega) fun z hz => ⟨_, rfl, rfl, ?_⟩
      · unfold st0 itStr
        generalize goodL = gl
        generalize spJ (wd y.1) = z
        generalize tab1.map rowP = t1
        generalize tab2.map rowP = t2
        generalize tab3.map rowP = t3
        simp only [fnV, mSeq, mNext, mRet, mRetN, mRetV, mSet, mDo, mIfS, mIf, mFz, mVar, mC, mBin, mUn, mTup, mLst, mNil, mCons, pNil, pCons, mCall, one_1, two_2, mTst, asB_bl, mAnd, mOr, mNot, mAndV, mOrV, mNotV, mChain, mCall0, safe_pure, mTM, Rs.pv, pure_bind, map_pureM, bind_pure_comp, bind_assoc, List.map_cons, List.map_nil, List.replicate, List.cons_append, List.nil_append, List.append_nil, List.getElem?_cons_succ, List.getElem?_cons_zero, List.set_cons_succ, List.set_cons_zero, List.length_cons, List.length_nil, Nat.reduceAdd, Nat.reduceSub, Nat.reduceLeDiff, ask_true, if_true, if_false, Bool.false_eq_true, reduceIte, int_ii, addP, isiP, PV.tyN, kit_ii, kit_bi, kit_bb, kit_ib, kit_ni, kit_si, kit_ss, kit_tt, kit_dd, kit_st, Bool.not_false, Bool.not_true, Bool.true_and, Bool.false_and, xor_false', xor_true', eq_ii, eq_ss, eq_ni, eq_ns, eq_nn, eq_in, isN_non, isN_int, isN_str, neg_int, itCall, itSeq, tup_lst, tgSet, mApp, mUnp, eq_self, setAll, decide_true, bind_map_left, mHouse, mPar, mPut, slotOf, mNo, mPt, mSl, mNewD, mKeep, isNt_non, isNt_int, isNt_str, addS_ii, addS_sn, mParN, putL, mFs, mFmt, mJs, mRetV, dsl0, mSlS, slSP, ask_true l7]
        rw [key1]
      · have := zl z hz
        unfold st0
        generalize goodL = gl
        generalize spJ (wd y.1) = z2
        generalize tab1.map rowP = t1
        generalize tab2.map rowP = t2
        generalize tab3.map rowP = t3
        unfold wipeE wipeE Function.comp
        simp only [fnV, mSeq, mNext, mRet, mRetN, mRetV, mSet, mDo, mIfS, mIf, mFz, mVar, mC, mBin, mUn, mTup, mLst, mNil, mCons, pNil, pCons, mCall, one_1, two_2, mTst, asB_bl, mAnd, mOr, mNot, mAndV, mOrV, mNotV, mChain, mCall0, safe_pure, mTM, Rs.pv, pure_bind, map_pureM, bind_pure_comp, bind_assoc, List.map_cons, List.map_nil, List.replicate, List.cons_append, List.nil_append, List.append_nil, List.getElem?_cons_succ, List.getElem?_cons_zero, List.set_cons_succ, List.set_cons_zero, List.length_cons, List.length_nil, Nat.reduceAdd, Nat.reduceSub, Nat.reduceLeDiff, ask_true, if_true, if_false, Bool.false_eq_true, reduceIte, int_ii, addP, isiP, PV.tyN, kit_ii, kit_bi, kit_bb, kit_ib, kit_ni, kit_si, kit_ss, kit_tt, kit_dd, kit_st, Bool.not_false, Bool.not_true, Bool.true_and, Bool.false_and, xor_false', xor_true', eq_ii, eq_ss, eq_ni, eq_ns, eq_nn, eq_in, isN_non, isN_int, isN_str, neg_int, itCall, itSeq, tup_lst, tgSet, mApp, mUnp, eq_self, setAll, decide_true, bind_map_left, mHouse, mPar, mPut, slotOf, mNo, mPt, mSl, mNewD, mKeep, isNt_non, isNt_int, isNt_str, addS_ii, addS_sn, mParN, putL, mFs, mFmt, mJs, mRetV, dsl0, addS_sn this]
    have ad := addL1 (.str "plates - - - - - -") ((((wd ["a", "b", "c", "d", "e", "f", "g"]).take m).map fun z => Str.ofString "keep " ++ z).map .str) (by rw [List.length_map, List.length_map]; omega)
    rw [key2, List.map_cons]
    generalize (((wd ["a", "b", "c", "d", "e", "f", "g"]).take m).map fun z => Str.ofString "keep " ++ z).map PV.str = L at *
    generalize hst : st0 (.val x) (.val (.str (spJ (wd y.1)))) (.val (nI y.2)) (.val (nI m)) b10 b11 = e0 at *
    have r1 : (mBin addSP (mLst (mCons (mC (.str "plates - - - - - -")) mNil)) (mLc (itStr (mSlS (mC (.str "abcdefg")) mNo (mPt (mVar 9)))) [11] (.nm 11) mYes (mBin addSP (mC (.str "keep ")) (mVar 11)))) e0 = pure (.own (.lst (.str "plates - - - - - -" :: L))) := by
      exact (bin_of (show mLst (mCons (mC (.str "plates - - - - - -")) mNil) e0 = pure (.own (.lst [.str "plates - - - - - -"])) by simp only [fnV, mSeq, mNext, mRet, mRetN, mRetV, mSet, mDo, mIfS, mIf, mFz, mVar, mC, mBin, mUn, mTup, mLst, mNil, mCons, pNil, pCons, mCall, one_1, two_2, mTst, asB_bl, mAnd, mOr, mNot, mAndV, mOrV, mNotV, mChain, mCall0, safe_pure, mTM, Rs.pv, pure_bind, map_pureM, bind_pure_comp, bind_assoc, List.map_cons, List.map_nil, List.replicate, List.cons_append, List.nil_append, List.append_nil, List.getElem?_cons_succ, List.getElem?_cons_zero, List.set_cons_succ, List.set_cons_zero, List.length_cons, List.length_nil, Nat.reduceAdd, Nat.reduceSub, Nat.reduceLeDiff, ask_true, if_true, if_false, Bool.false_eq_true, reduceIte, int_ii, addP, isiP, PV.tyN, kit_ii, kit_bi, kit_bb, kit_ib, kit_ni, kit_si, kit_ss, kit_tt, kit_dd, kit_st, Bool.not_false, Bool.not_true, Bool.true_and, Bool.false_and, xor_false', xor_true', eq_ii, eq_ss, eq_ni, eq_ns, eq_nn, eq_in, isN_non, isN_int, isN_str, neg_int, itCall, itSeq, tup_lst, tgSet, mApp, mUnp, eq_self, setAll, decide_true, bind_map_left, mHouse, mPar, mPut, slotOf, mNo, mPt, mSl, mNewD, mKeep, isNt_non, isNt_int, isNt_str, addS_ii, addS_sn, mParN, putL, mFs, mFmt, mJs, mRetV, dsl0]) hc).trans ad
    unfold mSet mFz
    rw [r1]
    rw [← hst]
    rfl
  rw [seq_nx c4]
  have c5 : mIfS (mTst (mBin (eqP true) (mCall0 1 f__law_place (mCons (mVar 10) mNil)) (mIf (mTst (mBin gtP (mVar 9) (mC (.int 6)))) (mTup (mCons (mC (.int 7)) (mCons (mC (.int 0)) mNil))) (mC .non)))) (mSeq (mRet (mC (.bl false))) mNext) mNext (st0 (.val x) (.val (.str (spJ (wd y.1)))) (.val (nI y.2)) (.val (nI m)) (.val (.lst (((keepR m).map spJ).map .str))) b11) = pure (.nx (st0 (.val x) (.val (.str (spJ (wd y.1)))) (.val (nI y.2)) (.val (nI m)) (.val (.lst (((keepR m).map spJ).map .str))) b11)) := by
    have e0 : eqP true .non .non = pure (.val (.bl false)) := eq_self true rfl (Nat.le_of_ble_eq_true rfl)
    have e7 : eqP true (.tup [.int 7, .int 0]) (.tup [.int 7, .int 0]) = pure (.val (.bl false)) := eq_self true rfl (Nat.le_of_ble_eq_true rfl)
    by_cases c : m ≤ 6
    · have p := pl_keep hm1 c
      unfold st0
      generalize ((keepR m).map spJ).map PV.str = L at *
      generalize goodL = gl
      generalize spJ (wd y.1) = z2
      generalize tab1.map rowP = t1
      generalize tab2.map rowP = t2
      generalize tab3.map rowP = t3
      simp only [fnV, mSeq, mNext, mRet, mRetN, mRetV, mSet, mDo, mIfS, mIf, mFz, mVar, mC, mBin, mUn, mTup, mLst, mNil, mCons, pNil, pCons, mCall, one_1, two_2, mTst, asB_bl, mAnd, mOr, mNot, mAndV, mOrV, mNotV, mChain, mCall0, safe_pure, mTM, Rs.pv, pure_bind, map_pureM, bind_pure_comp, bind_assoc, List.map_cons, List.map_nil, List.replicate, List.cons_append, List.nil_append, List.append_nil, List.getElem?_cons_succ, List.getElem?_cons_zero, List.set_cons_succ, List.set_cons_zero, List.length_cons, List.length_nil, Nat.reduceAdd, Nat.reduceSub, Nat.reduceLeDiff, ask_true, if_true, if_false, Bool.false_eq_true, reduceIte, int_ii, addP, isiP, PV.tyN, kit_ii, kit_bi, kit_bb, kit_ib, kit_ni, kit_si, kit_ss, kit_tt, kit_dd, kit_st, Bool.not_false, Bool.not_true, Bool.true_and, Bool.false_and, xor_false', xor_true', eq_ii, eq_ss, eq_ni, eq_ns, eq_nn, eq_in, isN_non, isN_int, isN_str, neg_int, itCall, itSeq, tup_lst, tgSet, mApp, mUnp, eq_self, setAll, decide_true, bind_map_left, mHouse, mPar, mPut, slotOf, mNo, mPt, mSl, mNewD, mKeep, isNt_non, isNt_int, isNt_str, addS_ii, addS_sn, mParN, putL, mFs, mFmt, mJs, mRetV, dsl0, p, decide_eq_false (show ¬ (6 : Int) < (m : Int) by omega), e0]
    · obtain rfl : m = 7 := by omega
      have p := pl_keep7
      unfold st0
      generalize ((keepR 7).map spJ).map PV.str = L at *
      generalize goodL = gl
      generalize spJ (wd y.1) = z2
      generalize tab1.map rowP = t1
      generalize tab2.map rowP = t2
      generalize tab3.map rowP = t3
      simp only [fnV, mSeq, mNext, mRet, mRetN, mRetV, mSet, mDo, mIfS, mIf, mFz, mVar, mC, mBin, mUn, mTup, mLst, mNil, mCons, pNil, pCons, mCall, one_1, two_2, mTst, asB_bl, mAnd, mOr, mNot, mAndV, mOrV, mNotV, mChain, mCall0, safe_pure, mTM, Rs.pv, pure_bind, map_pureM, bind_pure_comp, bind_assoc, List.map_cons, List.map_nil, List.replicate, List.cons_append, List.nil_append, List.append_nil, List.getElem?_cons_succ, List.getElem?_cons_zero, List.set_cons_succ, List.set_cons_zero, List.length_cons, List.length_nil, Nat.reduceAdd, Nat.reduceSub, Nat.reduceLeDiff, ask_true, if_true, if_false, Bool.false_eq_true, reduceIte, int_ii, addP, isiP, PV.tyN, kit_ii, kit_bi, kit_bb, kit_ib, kit_ni, kit_si, kit_ss, kit_tt, kit_dd, kit_st, Bool.not_false, Bool.not_true, Bool.true_and, Bool.false_and, xor_false', xor_true', eq_ii, eq_ss, eq_ni, eq_ns, eq_nn, eq_in, isN_non, isN_int, isN_str, neg_int, itCall, itSeq, tup_lst, tgSet, mApp, mUnp, eq_self, setAll, decide_true, bind_map_left, mHouse, mPar, mPut, slotOf, mNo, mPt, mSl, mNewD, mKeep, isNt_non, isNt_int, isNt_str, addS_ii, addS_sn, mParN, putL, mFs, mFmt, mJs, mRetV, dsl0, p, decide_eq_true (show (6 : Int) < ((7 : Nat) : Int) by omega), e7]
  rw [seq_nx c5]
  exact ⟨_, rfl, _, _, _, _, _, _, rfl⟩
theorem s_law : (b_law [.un, .val .orc, .un, .un, .un, .un, .un, .un, .un, .un, .un, .un]).run (fun fl => fl = .rt (.val (.bl true))) NoX := by
  have tabs : tab1.map (fun y => (spJ (wd y.1), y.2)) = ([("", 0), ("plate -", 0), ("plates", 1), ("plates B", 1), ("plates - --", 2), ("plates - - abcdefghi", 3), ("plates  -", 1), ("plates - ", 2), ("plates - - - - - - -", 7), ("back ant", 0), ("plates a,", 1)] : List (Str × Nat)) ∧
      tab2.map (fun y => (spJ (wd y.1), y.2)) = ([("", 0), ("guess", 1), ("guess Ant - 2", 1), ("guess ant", 2), ("guess ant -", 3), ("guess ant - 2 0", 4), ("guess ant - 10", 3), ("guess ant x -", 2), ("guess ant --", 2), ("back", 1), ("back ant 1", 2), ("keeps ant", 0), ("keep ant ", 2), ("keep", 1), ("plates -", 0), ("guess  ant - 2", 1)] : List (Str × Nat)) ∧
      tab3.map (fun y => (spJ (wd y.1), y.2)) = ([("back ant", 1), ("back aaa", 1), ("keep bee -", 2), ("guess bee 1", 3), ("back BEE", 1), ("", 0)] : List (Str × Nat)) := by decide +kernel
  have rr : ∀ t : List (List String × Nat), t.map rowP = (t.map (fun y => (spJ (wd y.1), y.2))).map fun q => .tup [.str q.1, nI q.2] := fun t => by rw [List.map_map]; rfl
  have t1 : PV.lst ([.tup [.str "", .int 0], .tup [.str "plate -", .int 0], .tup [.str "plates", .int 1], .tup [.str "plates B", .int 1], .tup [.str "plates - --", .int 2], .tup [.str "plates - - abcdefghi", .int 3]] ++ [.tup [.str "plates  -", .int 1], .tup [.str "plates - ", .int 2], .tup [.str "plates - - - - - - -", .int 7], .tup [.str "back ant", .int 0], .tup [.str "plates a,", .int 1]]) = .lst (tab1.map rowP) := by
    rw [rr, tabs.1]
    rfl
  have t2 : PV.lst (([.tup [.str "", .int 0], .tup [.str "guess", .int 1], .tup [.str "guess Ant - 2", .int 1], .tup [.str "guess ant", .int 2], .tup [.str "guess ant -", .int 3], .tup [.str "guess ant - 2 0", .int 4]] ++ [.tup [.str "guess ant - 10", .int 3], .tup [.str "guess ant x -", .int 2], .tup [.str "guess ant --", .int 2], .tup [.str "back", .int 1], .tup [.str "back ant 1", .int 2]]) ++ [.tup [.str "keeps ant", .int 0], .tup [.str "keep ant ", .int 2], .tup [.str "keep", .int 1], .tup [.str "plates -", .int 0], .tup [.str "guess  ant - 2", .int 1]]) = .lst (tab2.map rowP) := by
    rw [rr, tabs.2.1]
    rfl
  have t3 : PV.lst [.tup [.str "back ant", .int 1], .tup [.str "back aaa", .int 1], .tup [.str "keep bee -", .int 2], .tup [.str "guess bee 1", .int 3], .tup [.str "back BEE", .int 1], .tup [.str "", .int 0]] = .lst (tab3.map rowP) := by
    rw [rr, tabs.2.2]
    rfl
  have a1 := addS_ll (a := [.tup [.str "", .int 0], .tup [.str "plate -", .int 0], .tup [.str "plates", .int 1], .tup [.str "plates B", .int 1], .tup [.str "plates - --", .int 2], .tup [.str "plates - - abcdefghi", .int 3]]) (b := [.tup [.str "plates  -", .int 1], .tup [.str "plates - ", .int 2], .tup [.str "plates - - - - - - -", .int 7], .tup [.str "back ant", .int 0], .tup [.str "plates a,", .int 1]]) (by show 11 ≤ 100000; decide)
  have a2 := addS_ll (a := [.tup [.str "", .int 0], .tup [.str "guess", .int 1], .tup [.str "guess Ant - 2", .int 1], .tup [.str "guess ant", .int 2], .tup [.str "guess ant -", .int 3], .tup [.str "guess ant - 2 0", .int 4]]) (b := [.tup [.str "guess ant - 10", .int 3], .tup [.str "guess ant x -", .int 2], .tup [.str "guess ant --", .int 2], .tup [.str "back", .int 1], .tup [.str "back ant 1", .int 2]]) (by show 11 ≤ 100000; decide)
  have a3 := addS_ll (a := [.tup [.str "", .int 0], .tup [.str "guess", .int 1], .tup [.str "guess Ant - 2", .int 1], .tup [.str "guess ant", .int 2], .tup [.str "guess ant -", .int 3], .tup [.str "guess ant - 2 0", .int 4]] ++ [.tup [.str "guess ant - 10", .int 3], .tup [.str "guess ant x -", .int 2], .tup [.str "guess ant --", .int 2], .tup [.str "back", .int 1], .tup [.str "back ant 1", .int 2]]) (b := [.tup [.str "keeps ant", .int 0], .tup [.str "keep ant ", .int 2], .tup [.str "keep", .int 1], .tup [.str "plates -", .int 0], .tup [.str "guess  ant - 2", .int 1]]) (by show 16 ≤ 100000; decide)
  rw [t1] at a1
  rw [t2] at a3
  have g : PV.lst [.str "plates - b.. -", .str "guess ant - 2", .str "back bee"] = goodL := rfl
  have pg : f__law_place [goodL] = pure (.val .non) := pl_good
  unfold b_law
  have q1 : mSet 2 (mFz (mLst (mCons (mC (.str "plates - b.. -")) (mCons (mC (.str "guess ant - 2")) (mCons (mC (.str "back bee")) mNil))))) [.un, .val .orc, .un, .un, .un, .un, .un, .un, .un, .un, .un, .un] = pure (.nx [.un, .val .orc, .val goodL, .un, .un, .un, .un, .un, .un, .un, .un, .un]) := by
    rw [← g]
    simp only [fnV, mSeq, mNext, mRet, mRetN, mRetV, mSet, mDo, mIfS, mIf, mFz, mVar, mC, mBin, mUn, mTup, mLst, mNil, mCons, pNil, pCons, mCall, one_1, two_2, mTst, asB_bl, mAnd, mOr, mNot, mAndV, mOrV, mNotV, mChain, mCall0, safe_pure, mTM, Rs.pv, pure_bind, map_pureM, bind_pure_comp, bind_assoc, List.map_cons, List.map_nil, List.replicate, List.cons_append, List.nil_append, List.append_nil, List.getElem?_cons_succ, List.getElem?_cons_zero, List.set_cons_succ, List.set_cons_zero, List.length_cons, List.length_nil, Nat.reduceAdd, Nat.reduceSub, Nat.reduceLeDiff, ask_true, if_true, if_false, Bool.false_eq_true, reduceIte, int_ii, addP, isiP, PV.tyN, kit_ii, kit_bi, kit_bb, kit_ib, kit_ni, kit_si, kit_ss, kit_tt, kit_dd, kit_st, Bool.not_false, Bool.not_true, Bool.true_and, Bool.false_and, xor_false', xor_true', eq_ii, eq_ss, eq_ni, eq_ns, eq_nn, eq_in, isN_non, isN_int, isN_str, neg_int, itCall, itSeq, tup_lst, tgSet, mApp, mUnp, eq_self, setAll, decide_true, bind_map_left, mHouse, mPar, mPut, slotOf, mNo, mPt, mSl, mNewD, mKeep, isNt_non, isNt_int, isNt_str, addS_ii, addS_sn, mParN, putL, mFs, mFmt, mJs, mRetV, dsl0]
  rw [seq_nx q1]
  have q2 : mIfS (mTst (mBin (isNP true) (mCall0 1 f__law_place (mCons (mVar 2) mNil)) (mC .non))) (mSeq (mRet (mC (.bl false))) mNext) mNext [.un, .val .orc, .val goodL, .un, .un, .un, .un, .un, .un, .un, .un, .un] = pure (.nx [.un, .val .orc, .val goodL, .un, .un, .un, .un, .un, .un, .un, .un, .un]) := by
    generalize goodL = gl at *
    simp only [fnV, mSeq, mNext, mRet, mRetN, mRetV, mSet, mDo, mIfS, mIf, mFz, mVar, mC, mBin, mUn, mTup, mLst, mNil, mCons, pNil, pCons, mCall, one_1, two_2, mTst, asB_bl, mAnd, mOr, mNot, mAndV, mOrV, mNotV, mChain, mCall0, safe_pure, mTM, Rs.pv, pure_bind, map_pureM, bind_pure_comp, bind_assoc, List.map_cons, List.map_nil, List.replicate, List.cons_append, List.nil_append, List.append_nil, List.getElem?_cons_succ, List.getElem?_cons_zero, List.set_cons_succ, List.set_cons_zero, List.length_cons, List.length_nil, Nat.reduceAdd, Nat.reduceSub, Nat.reduceLeDiff, ask_true, if_true, if_false, Bool.false_eq_true, reduceIte, int_ii, addP, isiP, PV.tyN, kit_ii, kit_bi, kit_bb, kit_ib, kit_ni, kit_si, kit_ss, kit_tt, kit_dd, kit_st, Bool.not_false, Bool.not_true, Bool.true_and, Bool.false_and, xor_false', xor_true', eq_ii, eq_ss, eq_ni, eq_ns, eq_nn, eq_in, isN_non, isN_int, isN_str, neg_int, itCall, itSeq, tup_lst, tgSet, mApp, mUnp, eq_self, setAll, decide_true, bind_map_left, mHouse, mPar, mPut, slotOf, mNo, mPt, mSl, mNewD, mKeep, isNt_non, isNt_int, isNt_str, addS_ii, addS_sn, mParN, putL, mFs, mFmt, mJs, mRetV, dsl0, pg]
  rw [seq_nx q2]
  generalize hl1 : PV.lst (tab1.map rowP) = l1 at *
  generalize hl2 : PV.lst (tab2.map rowP) = l2 at *
  generalize hl3 : PV.lst (tab3.map rowP) = l3 at *
  generalize hgl : goodL = gl at *
  refine run_seq (P := fun e => e = ([.un, .val .orc, .val gl, .val (.lst [.tup [.str "", .int 0], .tup [.str "plate -", .int 0], .tup [.str "plates", .int 1], .tup [.str "plates B", .int 1], .tup [.str "plates - --", .int 2], .tup [.str "plates - - abcdefghi", .int 3]]), .un, .un, .un, .un, .un, .un, .un, .un] : List Sl)) ?_ ?_
  · simp only [fnV, mSeq, mNext, mRet, mRetN, mRetV, mSet, mDo, mIfS, mIf, mFz, mVar, mC, mBin, mUn, mTup, mLst, mNil, mCons, pNil, pCons, mCall, one_1, two_2, mTst, asB_bl, mAnd, mOr, mNot, mAndV, mOrV, mNotV, mChain, mCall0, safe_pure, mTM, Rs.pv, pure_bind, map_pureM, bind_pure_comp, bind_assoc, List.map_cons, List.map_nil, List.replicate, List.cons_append, List.nil_append, List.append_nil, List.getElem?_cons_succ, List.getElem?_cons_zero, List.set_cons_succ, List.set_cons_zero, List.length_cons, List.length_nil, Nat.reduceAdd, Nat.reduceSub, Nat.reduceLeDiff, ask_true, if_true, if_false, Bool.false_eq_true, reduceIte, int_ii, addP, isiP, PV.tyN, kit_ii, kit_bi, kit_bb, kit_ib, kit_ni, kit_si, kit_ss, kit_tt, kit_dd, kit_st, Bool.not_false, Bool.not_true, Bool.true_and, Bool.false_and, xor_false', xor_true', eq_ii, eq_ss, eq_ni, eq_ns, eq_nn, eq_in, isN_non, isN_int, isN_str, neg_int, itCall, itSeq, tup_lst, tgSet, mApp, mUnp, eq_self, setAll, decide_true, bind_map_left, mHouse, mPar, mPut, slotOf, mNo, mPt, mSl, mNewD, mKeep, isNt_non, isNt_int, isNt_str, addS_ii, addS_sn, mParN, putL, mFs, mFmt, mJs, mRetV, dsl0]
    exact ⟨_, rfl, rfl⟩
  rintro _ rfl
  refine run_seq (P := fun e => e = ([.un, .val .orc, .val gl, .val l1, .un, .un, .un, .un, .un, .un, .un, .un] : List Sl)) ?_ ?_
  · simp only [fnV, mSeq, mNext, mRet, mRetN, mRetV, mSet, mDo, mIfS, mIf, mFz, mVar, mC, mBin, mUn, mTup, mLst, mNil, mCons, pNil, pCons, mCall, one_1, two_2, mTst, asB_bl, mAnd, mOr, mNot, mAndV, mOrV, mNotV, mChain, mCall0, safe_pure, mTM, Rs.pv, pure_bind, map_pureM, bind_pure_comp, bind_assoc, List.map_cons, List.map_nil, List.replicate, List.cons_append, List.nil_append, List.append_nil, List.getElem?_cons_succ, List.getElem?_cons_zero, List.set_cons_succ, List.set_cons_zero, List.length_cons, List.length_nil, Nat.reduceAdd, Nat.reduceSub, Nat.reduceLeDiff, ask_true, if_true, if_false, Bool.false_eq_true, reduceIte, int_ii, addP, isiP, PV.tyN, kit_ii, kit_bi, kit_bb, kit_ib, kit_ni, kit_si, kit_ss, kit_tt, kit_dd, kit_st, Bool.not_false, Bool.not_true, Bool.true_and, Bool.false_and, xor_false', xor_true', eq_ii, eq_ss, eq_ni, eq_ns, eq_nn, eq_in, isN_non, isN_int, isN_str, neg_int, itCall, itSeq, tup_lst, tgSet, mApp, mUnp, eq_self, setAll, decide_true, bind_map_left, mHouse, mPar, mPut, slotOf, mNo, mPt, mSl, mNewD, mKeep, isNt_non, isNt_int, isNt_str, addS_ii, addS_sn, mParN, putL, mFs, mFmt, mJs, mRetV, dsl0, a1]
    exact ⟨_, rfl, rfl⟩
  rintro _ rfl
  refine run_seq (P := fun e => e = ([.un, .val .orc, .val gl, .val l1, .val (.lst [.tup [.str "", .int 0], .tup [.str "guess", .int 1], .tup [.str "guess Ant - 2", .int 1], .tup [.str "guess ant", .int 2], .tup [.str "guess ant -", .int 3], .tup [.str "guess ant - 2 0", .int 4]]), .un, .un, .un, .un, .un, .un, .un] : List Sl)) ?_ ?_
  · simp only [fnV, mSeq, mNext, mRet, mRetN, mRetV, mSet, mDo, mIfS, mIf, mFz, mVar, mC, mBin, mUn, mTup, mLst, mNil, mCons, pNil, pCons, mCall, one_1, two_2, mTst, asB_bl, mAnd, mOr, mNot, mAndV, mOrV, mNotV, mChain, mCall0, safe_pure, mTM, Rs.pv, pure_bind, map_pureM, bind_pure_comp, bind_assoc, List.map_cons, List.map_nil, List.replicate, List.cons_append, List.nil_append, List.append_nil, List.getElem?_cons_succ, List.getElem?_cons_zero, List.set_cons_succ, List.set_cons_zero, List.length_cons, List.length_nil, Nat.reduceAdd, Nat.reduceSub, Nat.reduceLeDiff, ask_true, if_true, if_false, Bool.false_eq_true, reduceIte, int_ii, addP, isiP, PV.tyN, kit_ii, kit_bi, kit_bb, kit_ib, kit_ni, kit_si, kit_ss, kit_tt, kit_dd, kit_st, Bool.not_false, Bool.not_true, Bool.true_and, Bool.false_and, xor_false', xor_true', eq_ii, eq_ss, eq_ni, eq_ns, eq_nn, eq_in, isN_non, isN_int, isN_str, neg_int, itCall, itSeq, tup_lst, tgSet, mApp, mUnp, eq_self, setAll, decide_true, bind_map_left, mHouse, mPar, mPut, slotOf, mNo, mPt, mSl, mNewD, mKeep, isNt_non, isNt_int, isNt_str, addS_ii, addS_sn, mParN, putL, mFs, mFmt, mJs, mRetV, dsl0]
    exact ⟨_, rfl, rfl⟩
  rintro _ rfl
  refine run_seq (P := fun e => e = ([.un, .val .orc, .val gl, .val l1, .val (.lst ([.tup [.str "", .int 0], .tup [.str "guess", .int 1], .tup [.str "guess Ant - 2", .int 1], .tup [.str "guess ant", .int 2], .tup [.str "guess ant -", .int 3], .tup [.str "guess ant - 2 0", .int 4]] ++ [.tup [.str "guess ant - 10", .int 3], .tup [.str "guess ant x -", .int 2], .tup [.str "guess ant --", .int 2], .tup [.str "back", .int 1], .tup [.str "back ant 1", .int 2]])), .un, .un, .un, .un, .un, .un, .un] : List Sl)) ?_ ?_
  · simp only [fnV, mSeq, mNext, mRet, mRetN, mRetV, mSet, mDo, mIfS, mIf, mFz, mVar, mC, mBin, mUn, mTup, mLst, mNil, mCons, pNil, pCons, mCall, one_1, two_2, mTst, asB_bl, mAnd, mOr, mNot, mAndV, mOrV, mNotV, mChain, mCall0, safe_pure, mTM, Rs.pv, pure_bind, map_pureM, bind_pure_comp, bind_assoc, List.map_cons, List.map_nil, List.replicate, List.cons_append, List.nil_append, List.append_nil, List.getElem?_cons_succ, List.getElem?_cons_zero, List.set_cons_succ, List.set_cons_zero, List.length_cons, List.length_nil, Nat.reduceAdd, Nat.reduceSub, Nat.reduceLeDiff, ask_true, if_true, if_false, Bool.false_eq_true, reduceIte, int_ii, addP, isiP, PV.tyN, kit_ii, kit_bi, kit_bb, kit_ib, kit_ni, kit_si, kit_ss, kit_tt, kit_dd, kit_st, Bool.not_false, Bool.not_true, Bool.true_and, Bool.false_and, xor_false', xor_true', eq_ii, eq_ss, eq_ni, eq_ns, eq_nn, eq_in, isN_non, isN_int, isN_str, neg_int, itCall, itSeq, tup_lst, tgSet, mApp, mUnp, eq_self, setAll, decide_true, bind_map_left, mHouse, mPar, mPut, slotOf, mNo, mPt, mSl, mNewD, mKeep, isNt_non, isNt_int, isNt_str, addS_ii, addS_sn, mParN, putL, mFs, mFmt, mJs, mRetV, dsl0, a2]
    exact ⟨_, rfl, rfl⟩
  rintro _ rfl
  refine run_seq (P := fun e => e = ([.un, .val .orc, .val gl, .val l1, .val l2, .un, .un, .un, .un, .un, .un, .un] : List Sl)) ?_ ?_
  · generalize ([.tup [.str "", .int 0], .tup [.str "guess", .int 1], .tup [.str "guess Ant - 2", .int 1], .tup [.str "guess ant", .int 2], .tup [.str "guess ant -", .int 3], .tup [.str "guess ant - 2 0", .int 4]] ++ [.tup [.str "guess ant - 10", .int 3], .tup [.str "guess ant x -", .int 2], .tup [.str "guess ant --", .int 2], .tup [.str "back", .int 1], .tup [.str "back ant 1", .int 2]] : List PV) = L2 at *
    simp only [fnV, mSeq, mNext, mRet, mRetN, mRetV, mSet, mDo, mIfS, mIf, mFz, mVar, mC, mBin, mUn, mTup, mLst, mNil, mCons, pNil, pCons, mCall, one_1, two_2, mTst, asB_bl, mAnd, mOr, mNot, mAndV, mOrV, mNotV, mChain, mCall0, safe_pure, mTM, Rs.pv, pure_bind, map_pureM, bind_pure_comp, bind_assoc, List.map_cons, List.map_nil, List.replicate, List.cons_append, List.nil_append, List.append_nil, List.getElem?_cons_succ, List.getElem?_cons_zero, List.set_cons_succ, List.set_cons_zero, List.length_cons, List.length_nil, Nat.reduceAdd, Nat.reduceSub, Nat.reduceLeDiff, ask_true, if_true, if_false, Bool.false_eq_true, reduceIte, int_ii, addP, isiP, PV.tyN, kit_ii, kit_bi, kit_bb, kit_ib, kit_ni, kit_si, kit_ss, kit_tt, kit_dd, kit_st, Bool.not_false, Bool.not_true, Bool.true_and, Bool.false_and, xor_false', xor_true', eq_ii, eq_ss, eq_ni, eq_ns, eq_nn, eq_in, isN_non, isN_int, isN_str, neg_int, itCall, itSeq, tup_lst, tgSet, mApp, mUnp, eq_self, setAll, decide_true, bind_map_left, mHouse, mPar, mPut, slotOf, mNo, mPt, mSl, mNewD, mKeep, isNt_non, isNt_int, isNt_str, addS_ii, addS_sn, mParN, putL, mFs, mFmt, mJs, mRetV, dsl0, a3]
    exact ⟨_, rfl, rfl⟩
  rintro _ rfl
  refine run_seq (P := fun e => e = ([.un, .val .orc, .val gl, .val l1, .val l2, .val l3, .un, .un, .un, .un, .un, .un] : List Sl)) ?_ ?_
  · rw [← t3]
    simp only [fnV, mSeq, mNext, mRet, mRetN, mRetV, mSet, mDo, mIfS, mIf, mFz, mVar, mC, mBin, mUn, mTup, mLst, mNil, mCons, pNil, pCons, mCall, one_1, two_2, mTst, asB_bl, mAnd, mOr, mNot, mAndV, mOrV, mNotV, mChain, mCall0, safe_pure, mTM, Rs.pv, pure_bind, map_pureM, bind_pure_comp, bind_assoc, List.map_cons, List.map_nil, List.replicate, List.cons_append, List.nil_append, List.append_nil, List.getElem?_cons_succ, List.getElem?_cons_zero, List.set_cons_succ, List.set_cons_zero, List.length_cons, List.length_nil, Nat.reduceAdd, Nat.reduceSub, Nat.reduceLeDiff, ask_true, if_true, if_false, Bool.false_eq_true, reduceIte, int_ii, addP, isiP, PV.tyN, kit_ii, kit_bi, kit_bb, kit_ib, kit_ni, kit_si, kit_ss, kit_tt, kit_dd, kit_st, Bool.not_false, Bool.not_true, Bool.true_and, Bool.false_and, xor_false', xor_true', eq_ii, eq_ss, eq_ni, eq_ns, eq_nn, eq_in, isN_non, isN_int, isN_str, neg_int, itCall, itSeq, tup_lst, tgSet, mApp, mUnp, eq_self, setAll, decide_true, bind_map_left, mHouse, mPar, mPut, slotOf, mNo, mPt, mSl, mNewD, mKeep, isNt_non, isNt_int, isNt_str, addS_ii, addS_sn, mParN, putL, mFs, mFmt, mJs, mRetV, dsl0]
    exact ⟨_, rfl, rfl⟩
  rintro _ rfl
  subst hl1 hl2 hl3 hgl
  refine run_seq (P := fun e => ∃ s6 s7 s8 s9 s10 s11, e = st0 s6 s7 s8 s9 s10 s11) ?_ ?_
  · rw [mFor_eq]
    have e0 : itCall (one rangeP) (pCons (mC (.int 8)) pNil) [.un, .val .orc, .val goodL, .val (.lst (tab1.map rowP)), .val (.lst (tab2.map rowP)), .val (.lst (tab3.map rowP)), .un, .un, .un, .un, .un, .un] = pure ((List.range 8).map nI) := by
      simp only [fnV, mSeq, mNext, mRet, mRetN, mRetV, mSet, mDo, mIfS, mIf, mFz, mVar, mC, mBin, mUn, mTup, mLst, mNil, mCons, pNil, pCons, mCall, one_1, two_2, mTst, asB_bl, mAnd, mOr, mNot, mAndV, mOrV, mNotV, mChain, mCall0, safe_pure, mTM, Rs.pv, pure_bind, map_pureM, bind_pure_comp, bind_assoc, List.map_cons, List.map_nil, List.replicate, List.cons_append, List.nil_append, List.append_nil, List.getElem?_cons_succ, List.getElem?_cons_zero, List.set_cons_succ, List.set_cons_zero, List.length_cons, List.length_nil, Nat.reduceAdd, Nat.reduceSub, Nat.reduceLeDiff, ask_true, if_true, if_false, Bool.false_eq_true, reduceIte, int_ii, addP, isiP, PV.tyN, kit_ii, kit_bi, kit_bb, kit_ib, kit_ni, kit_si, kit_ss, kit_tt, kit_dd, kit_st, Bool.not_false, Bool.not_true, Bool.true_and, Bool.false_and, xor_false', xor_true', eq_ii, eq_ss, eq_ni, eq_ns, eq_nn, eq_in, isN_non, isN_int, isN_str, neg_int, itCall, itSeq, tup_lst, tgSet, mApp, mUnp, eq_self, setAll, decide_true, bind_map_left, mHouse, mPar, mPut, slotOf, mNo, mPt, mSl, mNewD, mKeep, isNt_non, isNt_int, isNt_str, addS_ii, addS_sn, mParN, putL, mFs, mFmt, mJs, mRetV, dsl0, show rangeP (.int 8) = pure ((List.range 8).map nI) from range_of 8 (by decide)]
    rw [e0, pure_bind]
    refine forL_run (fun _ e => ∃ s6 s7 s8 s9 s10 s11, e = st0 s6 s7 s8 s9 s10 s11) _ 0 _ _ ⟨_, _, _, _, _, _, rfl⟩ ?_ ?_
    · rintro j x e hx ⟨s6, s7, s8, s9, s10, s11, rfl⟩
      exact s_turn
    · rintro e2 h
      exact ⟨_, rfl, h⟩
  rintro _ ⟨s6, s7, s8, s9, s10, s11, rfl⟩
  have p1 := pl_one
  have p0 := pl_none
  have ph := pl_plates
  have pm := pl_manners
  have e10 : eqP true (.tup [.int 1, .int 0]) (.tup [.int 1, .int 0]) = pure (.val (.bl false)) := eq_self true rfl (Nat.le_of_ble_eq_true rfl)
  have e00 : eqP true (.tup [.int 0, .int 0]) (.tup [.int 0, .int 0]) = pure (.val (.bl false)) := eq_self true rfl (Nat.le_of_ble_eq_true rfl)
  have ehp : eqP true (.tup [.str "house", .str "plates"]) (.tup [.str "house", .str "plates"]) = pure (.val (.bl false)) := eq_self true rfl (Nat.le_of_ble_eq_true rfl)
  have ehm : eqP false (.tup [.str "house", .str "manners"]) (.tup [.str "house", .str "manners"]) = pure (.val (.bl true)) := eq_self false rfl (Nat.le_of_ble_eq_true rfl)
  unfold st0
  generalize PV.lst (tab1.map rowP) = l1
  generalize PV.lst (tab2.map rowP) = l2
  generalize PV.lst (tab3.map rowP) = l3
  generalize goodL = gl
  simp only [fnV, mSeq, mNext, mRet, mRetN, mRetV, mSet, mDo, mIfS, mIf, mFz, mVar, mC, mBin, mUn, mTup, mLst, mNil, mCons, pNil, pCons, mCall, one_1, two_2, mTst, asB_bl, mAnd, mOr, mNot, mAndV, mOrV, mNotV, mChain, mCall0, safe_pure, mTM, Rs.pv, pure_bind, map_pureM, bind_pure_comp, bind_assoc, List.map_cons, List.map_nil, List.replicate, List.cons_append, List.nil_append, List.append_nil, List.getElem?_cons_succ, List.getElem?_cons_zero, List.set_cons_succ, List.set_cons_zero, List.length_cons, List.length_nil, Nat.reduceAdd, Nat.reduceSub, Nat.reduceLeDiff, ask_true, if_true, if_false, Bool.false_eq_true, reduceIte, int_ii, addP, isiP, PV.tyN, kit_ii, kit_bi, kit_bb, kit_ib, kit_ni, kit_si, kit_ss, kit_tt, kit_dd, kit_st, Bool.not_false, Bool.not_true, Bool.true_and, Bool.false_and, xor_false', xor_true', eq_ii, eq_ss, eq_ni, eq_ns, eq_nn, eq_in, isN_non, isN_int, isN_str, neg_int, itCall, itSeq, tup_lst, tgSet, mApp, mUnp, eq_self, setAll, decide_true, bind_map_left, mHouse, mPar, mPut, slotOf, mNo, mPt, mSl, mNewD, mKeep, isNt_non, isNt_int, isNt_str, addS_ii, addS_sn, mParN, putL, mFs, mFmt, mJs, mRetV, dsl0, p1, p0, ph, pm, e10, e00, ehp, ehm]
  rfl
end

/-! ## the law's def -/
section
open PySem.W PyProof.Rows PySem.Calls
variable {P : Program} {w : World} {K : PySem.W.Frag} {mg : Str → Option Value} {base : Heap} {C CI : Addr} {ex : String → Addr}
def spLaw0 (K : PySem.W.Frag) : Sp := fun vs H Q _ => ∃ (a : Addr) (ns : List Int), vs = [.ref a] ∧ Scr K H a (ns.map V.int) ∧ ns.length ≤ 63 ∧ ∀ H', Q (.bl true) H'
def spLaw1 (K : PySem.W.Frag) : Sp := fun vs H Q _ => ∃ (a : Addr) (ns : List Int), vs = [.ref a] ∧ SqL K H a (ns.map V.int) ∧ ns.length ≤ 63 ∧ ∀ H', Q (.bl true) H'
theorem frz_hok0 {P : Program} {w : World} {H : Hp} {h : Heap} {a : Addr} {xs : List V} (hok : HOk P w H h) (ha : H a = some (.lst xs)) : ∃ o, HOk P w (upd H a (.frz o (.lst xs))) h := by
  obtain ⟨z, its, n, r, h1⟩ := (show ObjOk P w H h a (.lst xs) from hok a _ ha)
  refine ⟨{ cls := .type "list", data := .seq its.toArray n }, fun b u e => ?_⟩
  by_cases hb : b = a
  · subst hb
    rw [upd_same] at e
    cases e
    exact ⟨h1, z, its, n, r, h1⟩
  · rw [upd_ne hb] at e
    refine (hok b u e).stay (fun _ _ _ q => q) (fun d q => ?_) fun d ys q => ?_
    · exact (upd_ne fun z => by rw [z, ha] at q; cases q).trans q
    · exact (upd_ne fun z => by rw [z, ha] at q; cases q).trans q
theorem fn_frz0 {k : Nat} {f : Addr} {fd : FuncData} (F : FnOk P w K mg base C8.CX0 k f fd ["_law_script"] (spLaw0 K)) : FnOk P w K mg base C8.CX0 k f fd ["_law_script"] (spLaw1 K) := by
  refine ⟨fun vs H Q E h => ?_, fun A outer s H args us vs Q E hr e0 hb r h => ?_⟩
  · obtain ⟨a, ns, rfl, _⟩ := h
    rfl
  · obtain ⟨a, ns, rfl, hS, hl, k⟩ := h
    rcases hS with (ha | ha) | ha
    · obtain ⟨o, hok⟩ := frz_hok0 e0.hok ha
      have none_of : ∀ {b : Addr}, H b = none → upd H a (.frz o (.lst (ns.map V.int))) b = none := fun {b} n => (upd_ne fun z => by rw [z, ha] at n; cases n).trans n
      have e1 : Env0 P w K mg base A outer s (upd H a (.frz o (.lst (ns.map V.int)))) := ⟨e0.frames, e0.mod, fun b ob e => ⟨(e0.bs b ob e).1, none_of (e0.bs b ob e).2⟩, e0.bsz, e0.funs, fun b hb => none_of (e0.frf b hb), hok, e0.bare⟩
      refine codeAny_mono (F.run A outer s _ args us [.ref a] Q E hr e1 hb r ⟨a, ns, rfl, .inl ⟨o, upd_same⟩, hl, k⟩) fun res s' q => ?_
      cases res with
      | error e => exact (show False from q).elim
      | ok fl =>
        cases fl with
        | ret u =>
          obtain ⟨v, H', h1, h2, un, h4, h5, h6⟩ := q
          refine ⟨v, H', h1, h2, ⟨fun b ob e n => un.keep b ob e (none_of n), fun b ob e n => un.slot b ob e (none_of n), fun b ob e n => un.free b ob e (none_of n), un.there, fun b xs e => un.tups b xs ((upd_ne fun z => by rw [z, ha] at e; cases e).trans e), fun b ob u e => un.frzs b ob u ((upd_ne fun z => by rw [z, ha] at e; cases e).trans e), fun b ps e => un.tbls b ps ((upd_ne fun z => by rw [z, ha] at e; cases e).trans e)⟩, h4, h5, h6⟩
        | next => exact q
        | brk => exact q
        | cont => exact q
    · exact F.run A outer s H args us [.ref a] Q E hr e0 hb r ⟨a, ns, rfl, .inl ha, hl, k⟩
    · exact F.run A outer s H args us [.ref a] Q E hr e0 hb r ⟨a, ns, rfl, .inr ha, hl, k⟩
abbrev stLaw : Stmt := top 32
theorem scLaw : FnScope ["_law_script", "_law_row", "_law_good", "_law_first", "_law_second", "_law_third", "_law_turn", "_law_line", "_law_word", "_law_many", "_law_rows", "_law_letter"] ["_law_script"] (C8.fnScope stLaw) := ⟨rfl, rfl, rfl, by decide +kernel, rfl, by decide +kernel, by decide +kernel⟩

theorem pss_any {X : Cx} {l : List Stmt} {m : MS} (h : ∀ Z : Zn, ZC Z C w → Z.ex = ex → VSs X Z none l m) : PSs X l (fun D σ H => ∃ Z : Zn, (ZC Z C w ∧ Z.ex = ex) ∧ upS Z X.K none m D σ H) := ⟨fun pins s σ H D I ⟨Z, ⟨hC, hX⟩, q⟩ => (h Z hC hX).run pins s σ H D I q⟩
theorem row_start {p a : Addr} {ns : List Int} {H : Hp} {D : Ends} (R : Row K H p a ns) (hD : ∀ H', D.rt (.bl true) H') (n : Nat) (m : MS) (hm : (m (.un :: .val .orc :: List.replicate n .un)).run (fun fl => fl = .rt (.val (.bl true))) NoX) :
    ∃ Z : Zn, (ZC Z C w ∧ Z.ex = ex) ∧ upS Z K none m D (some (.ref a) :: some (.ref p) :: List.replicate n none) H := by
  have hr : RowOk (⟨C, ex, some (p, a, ns), w, []⟩ : Zn) K (fun _ => none) H := ⟨fun p' a' ns' e => by
    cases e
    exact ⟨R, rfl⟩, fun q hq => by cases hq⟩
  have hs : Same (fun _ => none) H := fun b o z => nomatch z
  have hun : ∀ (i : Nat) (q : PV), (Sl.un :: .val .orc :: List.replicate n .un)[i]? = some (.own q) → False := fun i q h => by
    have := List.mem_of_getElem? h
    rcases List.mem_cons.mp this with z | z
    · cases z
    · rcases List.mem_cons.mp z with z | z
      · cases z
      · cases List.eq_of_mem_replicate z
  have hsl : Paired (SlAt (⟨C, ex, some (p, a, ns), w, []⟩ : Zn) (fun _ => none) H) (Sl.un :: .val .orc :: List.replicate n .un) (some (.ref a) :: some (.ref p) :: List.replicate n none) := by
    refine .cons trivial (.cons ⟨_, rfl, p, rfl, a, ns, rfl⟩ ?_)
    have key : ∀ n : Nat, Paired (SlAt (⟨C, ex, some (p, a, ns), w, []⟩ : Zn) (fun _ => none) H) (List.replicate n .un) (List.replicate n none) := by
      intro n
      induction n with
      | zero => exact .nil
      | succ n ih => exact .cons trivial ih
    exact key n
  refine ⟨⟨C, ex, some (p, a, ns), w, []⟩, ⟨⟨rfl, rfl⟩, rfl⟩, fun _ => none, H, fun _ => none, Sl.un :: .val .orc :: List.replicate n .un, ⟨⟨hs, hsl, fun i j p q b hne h1 h2 => (hun i p h1).elim, hr⟩, .refl hs hr, hr, fun i q b h1 h2 => (hun i q h1).elim⟩, (m _).mono (fun fl e => ?_) (fun _ z => z.elim) hm⟩
  subst e
  intro B v H' st hv
  obtain rfl : v = .bl true := hv
  exact hD H'
theorem ok_lawV {f : Addr} {fd : FuncData} (F : Def K mg "law" stLaw f fd) (hv : ∀ (f : Addr) (cdv : Value) (A : Around) (outer : List Env) (s : Shared) (H : Hp) (E : XK) (Z : Zn), ZC Z C w → Z.ex = ex → Room lawLev (A.deeper (envOfC "law" (C8.fnScope stVLaw) s.heap.objs.size f cdv)) → VSs (cxOf C8.CX0 P w K mg base lawN "law" (C8.fnScope stVLaw) f cdv A outer s H E).nox Z none lawTail b_law) :
    FnOk P w K mg base C8.CX0 (lawLev + 1) f fd ["_law_script"] (spLaw0 K) := by
  refine C8.fn0 F.fn scLaw (fun vs H Q E h => ?_) (fun cdv A outer s H vs Q E hr h => ?_)
  · obtain ⟨a, ns, rfl, _⟩ := h
    rfl
  · obtain ⟨a, ns, rfl, hS, hl, k⟩ := h
    have nd := scLaw.nd
    have hu := hu_of hr
    refine ⟨_, pss_cons (rest := lawTail) (ps_set (i := 1) nd rfl (Or.inl rfl) (pe_lst (pa_cons (pv 0) (pa_cons pe_int (pa_cons pe_int (pa_cons pe_int pa_nil)))))) (pss_any fun Z hC hX => hv f cdv A outer s H E Z hC hX hr), ?_⟩
    try dsimp only [cxOf]
    wtm_at "Lrd"
    intro p np
    have R : Row K (upd H p (.lst [.ref a, .int 0, .int 0, .int 0])) p a ns := ⟨Scr.new hS np, hl, 0, 0, 0, by decide, upd_same⟩
    exact row_start R k 10 b_law s_law
end

/-! ## what the top has left -/
section
open PySem.W PyProof.Rows PySem.Calls
theorem all_mk {l : PySem.W.OpenLaw} {w : World} {K : PySem.W.Frag} {h : Heap} {mg : Str → Option Value} {fa C CI fI cda cc f0 f1 f2 f3 f4 f5 f6 f7 f8 f9 f10 f11 f12 f13 f14 f15 f16 fH0 fH1 fP0 pP0 fP1 pP1 fP2 pP2 E0 : Addr} {oc0 kV0 dc0 pm0 cd0 ct0 oc1 kV1 dc1 pm1 cd1 ct1 oc2 kV2 dc2 pm2 cd2 ct2 oc3 kV3 dc3 pm3 cd3 ct3 oc4 kV4 dc4 pm4 cd4 ct4 oc5 kV5 dc5 pm5 cd5 ct5 oc6 kV6 dc6 pm6 cd6 ct6 oc7 kV7 dc7 pm7 cd7 ct7 oc8 kV8 dc8 pm8 cd8 ct8 oc9 kV9 dc9 pm9 cd9 ct9 oc10 kV10 dc10 pm10 cd10 ct10 oc11 kV11 dc11 pm11 cd11 ct11 oc12 kV12 dc12 pm12 cd12 ct12 oc13 kV13 dc13 pm13 cd13 ct13 oc14 kV14 dc14 pm14 cd14 ct14 oc15 kV15 dc15 pm15 cd15 ct15 oc16 kV16 dc16 pm16 cd16 ct16 ocH0 kVH0 dcH0 pmH0 cdH0 ctH0 ocH1 kVH1 dcH1 pmH1 cdH1 ctH1 ocP0 kVP0 dcP0 pmP0 cdP0 ctP0 ocP1 kVP1 dcP1 pmP1 cdP1 ctP1 ocP2 kVP2 dcP2 pmP2 cdP2 ctP2 ocI kVI dcI pmI ctI cclI clI : Value} {od0 an0 od1 an1 od2 an2 od3 an3 od4 an4 od5 an5 od6 an6 od7 an7 od8 an8 od9 an9 od10 an10 od11 an11 od12 an12 od13 an13 od14 an14 od15 an15 od16 an16 odH0 anH0 odH1 anH1 odP0 anP0 odP1 anP1 odP2 anP2 odI anI cddI cldI : Option Addr} {sl0 sl1 sl2 sl3 sl4 sl5 sl6 sl7 sl8 sl9 sl10 sl11 sl12 sl13 sl14 sl15 sl16 slH0 slH1 slP0 slP1 slP2 slI ccsI cslI : Array (Option Value)} {restP0 restP1 restP2 : List Value}
    {t_LETTERS t_PATTERN_SIGNS t_LONGEST_WORD t_MOST_NAMES t_MOST_BOXES tfI : Tok} {vsI : Array Value} {fileI nmE qE : Str} {abE : Bool} {cdI : ClassData} {NE : Addr} {bsE bmE subE : List Value} {snE : List Str} {colE : Option Bool} {ddE : Option Addr} {q0 q1 q2 q3 q5 : Option Value}
    {u_BOX_WORDS u_FIRST_WORDS : Addr} {its_BOX_WORDS its_FIRST_WORDS : Array Value} {odt_BOX_WORDS odt_FIRST_WORDS : Option Addr} {slt_BOX_WORDS slt_FIRST_WORDS : Array (Option Value)} {nt_BOX_WORDS nt_FIRST_WORDS : Nat} {fI_0 cda_0 cc_0 NE_0 : Addr} {ocI_0 kVI_0 dcI_0 pmI_0 ctI_0 cclI_0 clI_0 : Value} {odI_0 anI_0 cddI_0 cldI_0 : Option Addr} {slI_0 ccsI_0 cslI_0 : Array (Option Value)} {tfI_0 : Tok} {vsI_0 : Array Value} {fileI_0 nmE_0 qE_0 : Str} {abE_0 : Bool} {cdI_0 : ClassData} {bsE_0 bmE_0 subE_0 : List Value} {snE_0 : List Str} {colE_0 : Option Bool} {ddE_0 : Option Addr} {q0_0 q1_0 q2_0 q3_0 q5_0 : Option Value} (X : K.In h) (G : h.Ns mainGlobals mg) (hfa : mg "law" = some (.ref fa))
    (a0 : PySem.W.nsIn K mainGlobals "consists_of" = some (some (.ref f0)))
    (l0 : K.lookup f0 = some ⟨oc0, od0, .func (PySem.W.fnOf "consists_of" "consists_of" (C8.fnArgs stCons) (C8.fnBody stCons) (C8.fnScope stCons) .none kV0 dc0 pm0 an0 cd0 ct0), sl0⟩)
    (c0 : PySem.W.codeIn K cd0 "consists_of" = true)
    (k0 : PySem.W.keepIn K (.ref f0) = true)
    (a1 : PySem.W.nsIn K mainGlobals "is_word" = some (some (.ref f1)))
    (l1 : K.lookup f1 = some ⟨oc1, od1, .func (PySem.W.fnOf "is_word" "is_word" (C8.fnArgs stWord) (C8.fnBody stWord) (C8.fnScope stWord) .none kV1 dc1 pm1 an1 cd1 ct1), sl1⟩)
    (c1 : PySem.W.codeIn K cd1 "is_word" = true)
    (k1 : PySem.W.keepIn K (.ref f1) = true)
    (a2 : PySem.W.nsIn K mainGlobals "is_pattern" = some (some (.ref f2)))
    (l2 : K.lookup f2 = some ⟨oc2, od2, .func (PySem.W.fnOf "is_pattern" "is_pattern" (C8.fnArgs stPat) (C8.fnBody stPat) (C8.fnScope stPat) .none kV2 dc2 pm2 an2 cd2 ct2), sl2⟩)
    (c2 : PySem.W.codeIn K cd2 "is_pattern" = true)
    (k2 : PySem.W.keepIn K (.ref f2) = true)
    (a3 : PySem.W.nsIn K mainGlobals "is_number" = some (some (.ref f3)))
    (l3 : K.lookup f3 = some ⟨oc3, od3, .func (PySem.W.fnOf "is_number" "is_number" (C8.fnArgs stNumb) (C8.fnBody stNumb) (C8.fnScope stNumb) .none kV3 dc3 pm3 an3 cd3 ct3), sl3⟩)
    (c3 : PySem.W.codeIn K cd3 "is_number" = true)
    (k3 : PySem.W.keepIn K (.ref f3) = true)
    (a4 : PySem.W.nsIn K mainGlobals "is_box" = some (some (.ref f4)))
    (l4 : K.lookup f4 = some ⟨oc4, od4, .func (PySem.W.fnOf "is_box" "is_box" (C8.fnArgs stBox) (C8.fnBody stBox) (C8.fnScope stBox) .none kV4 dc4 pm4 an4 cd4 ct4), sl4⟩)
    (c4 : PySem.W.codeIn K cd4 "is_box" = true)
    (k4 : PySem.W.keepIn K (.ref f4) = true)
    (a5 : PySem.W.nsIn K mainGlobals "are_names" = some (some (.ref f5)))
    (l5 : K.lookup f5 = some ⟨oc5, od5, .func (PySem.W.fnOf "are_names" "are_names" (C8.fnArgs stNames) (C8.fnBody stNames) (C8.fnScope stNames) .none kV5 dc5 pm5 an5 cd5 ct5), sl5⟩)
    (c5 : PySem.W.codeIn K cd5 "are_names" = true)
    (k5 : PySem.W.keepIn K (.ref f5) = true)
    (a6 : PySem.W.nsIn K mainGlobals "are_plates" = some (some (.ref f6)))
    (l6 : K.lookup f6 = some ⟨oc6, od6, .func (PySem.W.fnOf "are_plates" "are_plates" (C8.fnArgs stPlates) (C8.fnBody stPlates) (C8.fnScope stPlates) .none kV6 dc6 pm6 an6 cd6 ct6), sl6⟩)
    (c6 : PySem.W.codeIn K cd6 "are_plates" = true)
    (k6 : PySem.W.keepIn K (.ref f6) = true)
    (a7 : PySem.W.nsIn K mainGlobals "is_manner" = some (some (.ref f7)))
    (l7 : K.lookup f7 = some ⟨oc7, od7, .func (PySem.W.fnOf "is_manner" "is_manner" (C8.fnArgs stManner) (C8.fnBody stManner) (C8.fnScope stManner) .none kV7 dc7 pm7 an7 cd7 ct7), sl7⟩)
    (c7 : PySem.W.codeIn K cd7 "is_manner" = true)
    (k7 : PySem.W.keepIn K (.ref f7) = true)
    (a8 : PySem.W.nsIn K mainGlobals "are_manners" = some (some (.ref f8)))
    (l8 : K.lookup f8 = some ⟨oc8, od8, .func (PySem.W.fnOf "are_manners" "are_manners" (C8.fnArgs stManners) (C8.fnBody stManners) (C8.fnScope stManners) .none kV8 dc8 pm8 an8 cd8 ct8), sl8⟩)
    (c8 : PySem.W.codeIn K cd8 "are_manners" = true)
    (k8 : PySem.W.keepIn K (.ref f8) = true)
    (a9 : PySem.W.nsIn K mainGlobals "_law_taken" = some (some (.ref f9)))
    (l9 : K.lookup f9 = some ⟨oc9, od9, .func (PySem.W.fnOf "_law_taken" "_law_taken" (C8.fnArgs stTaken) (C8.fnBody stTaken) (C8.fnScope stTaken) .none kV9 dc9 pm9 an9 cd9 ct9), sl9⟩)
    (c9 : PySem.W.codeIn K cd9 "_law_taken" = true)
    (k9 : PySem.W.keepIn K (.ref f9) = true)
    (a10 : PySem.W.nsIn K mainGlobals "wrong_in_plates" = some (some (.ref f10)))
    (l10 : K.lookup f10 = some ⟨oc10, od10, .func (PySem.W.fnOf "wrong_in_plates" "wrong_in_plates" (C8.fnArgs stVWrongInPlates) (C8.fnBody stVWrongInPlates) (C8.fnScope stVWrongInPlates) .none kV10 dc10 pm10 an10 cd10 ct10), sl10⟩)
    (c10 : PySem.W.codeIn K cd10 "wrong_in_plates" = true)
    (k10 : PySem.W.keepIn K (.ref f10) = true)
    (a11 : PySem.W.nsIn K mainGlobals "wrong_in_household" = some (some (.ref f11)))
    (l11 : K.lookup f11 = some ⟨oc11, od11, .func (PySem.W.fnOf "wrong_in_household" "wrong_in_household" (C8.fnArgs stVWrongInHousehold) (C8.fnBody stVWrongInHousehold) (C8.fnScope stVWrongInHousehold) .none kV11 dc11 pm11 an11 cd11 ct11), sl11⟩)
    (c11 : PySem.W.codeIn K cd11 "wrong_in_household" = true)
    (k11 : PySem.W.keepIn K (.ref f11) = true)
    (a12 : PySem.W.nsIn K mainGlobals "check_words" = some (some (.ref f12)))
    (l12 : K.lookup f12 = some ⟨oc12, od12, .func (PySem.W.fnOf "check_words" "check_words" (C8.fnArgs stVCheckWords) (C8.fnBody stVCheckWords) (C8.fnScope stVCheckWords) .none kV12 dc12 pm12 an12 cd12 ct12), sl12⟩)
    (c12 : PySem.W.codeIn K cd12 "check_words" = true)
    (k12 : PySem.W.keepIn K (.ref f12) = true)
    (a13 : PySem.W.nsIn K mainGlobals "read_manner" = some (some (.ref f13)))
    (l13 : K.lookup f13 = some ⟨oc13, od13, .func (PySem.W.fnOf "read_manner" "read_manner" (C8.fnArgs stVReadManner) (C8.fnBody stVReadManner) (C8.fnScope stVReadManner) .none kV13 dc13 pm13 an13 cd13 ct13), sl13⟩)
    (c13 : PySem.W.codeIn K cd13 "read_manner" = true)
    (k13 : PySem.W.keepIn K (.ref f13) = true)
    (a14 : PySem.W.nsIn K mainGlobals "parse_house" = some (some (.ref f14)))
    (l14 : K.lookup f14 = some ⟨oc14, od14, .func (PySem.W.fnOf "parse_house" "parse_house" (C8.fnArgs stVParseHouse) (C8.fnBody stVParseHouse) (C8.fnScope stVParseHouse) .none kV14 dc14 pm14 an14 cd14 ct14), sl14⟩)
    (c14 : PySem.W.codeIn K cd14 "parse_house" = true)
    (k14 : PySem.W.keepIn K (.ref f14) = true)
    (a15 : PySem.W.nsIn K mainGlobals "_law_place" = some (some (.ref f15)))
    (l15 : K.lookup f15 = some ⟨oc15, od15, .func (PySem.W.fnOf "_law_place" "_law_place" (C8.fnArgs stVLawPlace) (C8.fnBody stVLawPlace) (C8.fnScope stVLawPlace) .none kV15 dc15 pm15 an15 cd15 ct15), sl15⟩)
    (c15 : PySem.W.codeIn K cd15 "_law_place" = true)
    (k15 : PySem.W.keepIn K (.ref f15) = true)
    (a16 : PySem.W.nsIn K mainGlobals "law" = some (some (.ref f16)))
    (l16 : K.lookup f16 = some ⟨oc16, od16, .func (PySem.W.fnOf "law" "law" (C8.fnArgs stLaw) (C8.fnBody stLaw) (C8.fnScope stLaw) .none kV16 dc16 pm16 an16 cd16 ct16), sl16⟩)
    (c16 : PySem.W.codeIn K cd16 "law" = true)
    (k16 : PySem.W.keepIn K (.ref f16) = true)
    (z_all : PySem.W.nsIn K mainGlobals "all" = some none)
    (z_bool : PySem.W.nsIn K mainGlobals "bool" = some none)
    (z_dict : PySem.W.nsIn K mainGlobals "dict" = some none)
    (z_int : PySem.W.nsIn K mainGlobals "int" = some none)
    (z_isinstance : PySem.W.nsIn K mainGlobals "isinstance" = some none)
    (z_len : PySem.W.nsIn K mainGlobals "len" = some none)
    (z_list : PySem.W.nsIn K mainGlobals "list" = some none)
    (z_range : PySem.W.nsIn K mainGlobals "range" = some none)
    (z_str : PySem.W.nsIn K mainGlobals "str" = some none)
    (z_super : PySem.W.nsIn K mainGlobals "super" = some none)
    (z_tuple : PySem.W.nsIn K mainGlobals "tuple" = some none)
    (gg_LETTERS : PySem.W.nsIn K mainGlobals "LETTERS" = some (some (.str (Str.ofString "abcdefghijklmnopqrstuvwxyz") t_LETTERS)))
    (gg_PATTERN_SIGNS : PySem.W.nsIn K mainGlobals "PATTERN_SIGNS" = some (some (.str (Str.ofString "abcdefghijklmnopqrstuvwxyz.") t_PATTERN_SIGNS)))
    (gg_LONGEST_WORD : PySem.W.nsIn K mainGlobals "LONGEST_WORD" = some (some (.int 8 t_LONGEST_WORD)))
    (gg_MOST_NAMES : PySem.W.nsIn K mainGlobals "MOST_NAMES" = some (some (.int 6 t_MOST_NAMES)))
    (gg_MOST_BOXES : PySem.W.nsIn K mainGlobals "MOST_BOXES" = some (some (.int 6 t_MOST_BOXES)))
    (aC : PySem.W.nsIn K mainGlobals "House" = some (some (.ref C)))
    (aH0 : PySem.W.findIn K (.ref C) "__init__" = some (some (.ref fH0)))
    (iH0 : PySem.W.isFn K (.ref fH0) = true)
    (lH0 : K.lookup fH0 = some ⟨ocH0, odH0, .func (PySem.W.fnOf "__init__" "House.__init__" (defArgs stHI) (defBody stHI) (defScope stHI) .none kVH0 dcH0 pmH0 anH0 cdH0 ctH0), slH0⟩)
    (cH0 : PySem.W.codeIn K cdH0 "House.__init__" = true)
    (kH0 : PySem.W.keepIn K (.ref fH0) = true)
    (aH1 : PySem.W.findIn K (.ref C) "__len__" = some (some (.ref fH1)))
    (iH1 : PySem.W.isFn K (.ref fH1) = true)
    (lH1 : K.lookup fH1 = some ⟨ocH1, odH1, .func (PySem.W.fnOf "__len__" "House.__len__" (defArgs stHLn) (defBody stHLn) (defScope stHLn) .none kVH1 dcH1 pmH1 anH1 cdH1 ctH1), slH1⟩)
    (cH1 : PySem.W.codeIn K cdH1 "House.__len__" = true)
    (kH1 : PySem.W.keepIn K (.ref fH1) = true)
    (aP0 : PySem.W.findIn K (.ref C) "names" = some (some (.ref pP0)))
    (sP0 : PySem.W.specialIn K (.ref pP0) "__get__" = some (some (.builtin "property.__get__")))
    (tP0 : PySem.W.takesIn K (.ref pP0) = some true)
    (rP0 : PySem.W.recIn K pP0 "property" = some (.ref fP0 :: restP0))
    (lP0 : K.lookup fP0 = some ⟨ocP0, odP0, .func (PySem.W.fnOf "names" "House.names" (defArgs stHNm) (defBody stHNm) (defScope stHNm) .none kVP0 dcP0 pmP0 anP0 cdP0 ctP0), slP0⟩)
    (cP0 : PySem.W.codeIn K cdP0 "House.names" = true)
    (kP0 : PySem.W.keepIn K (.ref fP0) = true)
    (aP1 : PySem.W.findIn K (.ref C) "plates" = some (some (.ref pP1)))
    (sP1 : PySem.W.specialIn K (.ref pP1) "__get__" = some (some (.builtin "property.__get__")))
    (tP1 : PySem.W.takesIn K (.ref pP1) = some true)
    (rP1 : PySem.W.recIn K pP1 "property" = some (.ref fP1 :: restP1))
    (lP1 : K.lookup fP1 = some ⟨ocP1, odP1, .func (PySem.W.fnOf "plates" "House.plates" (defArgs stHPl) (defBody stHPl) (defScope stHPl) .none kVP1 dcP1 pmP1 anP1 cdP1 ctP1), slP1⟩)
    (cP1 : PySem.W.codeIn K cdP1 "House.plates" = true)
    (kP1 : PySem.W.keepIn K (.ref fP1) = true)
    (aP2 : PySem.W.findIn K (.ref C) "manners" = some (some (.ref pP2)))
    (sP2 : PySem.W.specialIn K (.ref pP2) "__get__" = some (some (.builtin "property.__get__")))
    (tP2 : PySem.W.takesIn K (.ref pP2) = some true)
    (rP2 : PySem.W.recIn K pP2 "property" = some (.ref fP2 :: restP2))
    (lP2 : K.lookup fP2 = some ⟨ocP2, odP2, .func (PySem.W.fnOf "manners" "House.manners" (defArgs stHMn) (defBody stHMn) (defScope stHMn) .none kVP2 dcP2 pmP2 anP2 cdP2 ctP2), slP2⟩)
    (cP2 : PySem.W.codeIn K cdP2 "House.manners" = true)
    (kP2 : PySem.W.keepIn K (.ref fP2) = true)
    (pg : PySem.W.plainGet K C Str.empty = true)
    (hd : PySem.W.hasDictIn K C = true)
    (po : PySem.W.plainOver K C = true)
    (sa : PySem.W.findIn K (.ref C) "__setattr__" = some (some (.builtin "object.__setattr__")))
    (mk : PySem.W.makesIn K C = true)
    (kc : PySem.W.keepIn K (.ref C) = true)
    (x1 : PySem.W.findIn K (.ref C) "_names" = some none)
    (x2 : PySem.W.findIn K (.ref C) "_plates" = some none)
    (x3 : PySem.W.findIn K (.ref C) "_manners" = some none)
    (y1_BOX_WORDS : PySem.W.nsIn K mainGlobals "BOX_WORDS" = some (some (.ref u_BOX_WORDS)))
    (y2_BOX_WORDS : K.lookup u_BOX_WORDS = some ⟨.type "tuple", odt_BOX_WORDS, .seq its_BOX_WORDS nt_BOX_WORDS, slt_BOX_WORDS⟩)
    (y3_BOX_WORDS : its_BOX_WORDS.size ≤ sizeLine)
    (y4_BOX_WORDS : Vals (([.str "-", .str "0", .str "1", .str "2", .str "3", .str "4", .str "5", .str "6", .str "7", .str "8", .str "9"] : List PV).map pvF) its_BOX_WORDS.toList)
    (y1_FIRST_WORDS : PySem.W.nsIn K mainGlobals "FIRST_WORDS" = some (some (.ref u_FIRST_WORDS)))
    (y2_FIRST_WORDS : K.lookup u_FIRST_WORDS = some ⟨.type "tuple", odt_FIRST_WORDS, .seq its_FIRST_WORDS nt_FIRST_WORDS, slt_FIRST_WORDS⟩)
    (y3_FIRST_WORDS : its_FIRST_WORDS.size ≤ sizeLine)
    (y4_FIRST_WORDS : Vals (([.str "back", .str "keep", .str "guess"] : List PV).map pvF) its_FIRST_WORDS.toList)
    (aI : PySem.W.nsIn K mainGlobals "InvalidHouse" = some (some (.ref CI)))
    (fI1 : PySem.W.findIn K (.ref CI) "__init__" = some (some (.ref fI)))
    (fI2 : PySem.W.typeIn K (.ref fI) = some (.type "function"))
    (fI3 : K.lookup fI = some ⟨ocI, odI, .func (ksFn "__init__" "InvalidHouse.__init__" (defArgs stInvH) (defBody stInvH) (defScope stInvH) .none kVI dcI pmI anI (.ref cda) ctI cc), slI⟩)
    (fI4 : PySem.W.codeIn K (.ref cda) "InvalidHouse.__init__" = true)
    (fI5 : K.lookup cda = some ⟨cclI, cddI, .fields vsI, ccsI⟩)
    (fI6 : vsI[2]? = some (.str fileI tfI))
    (fI7 : ((l.prog.main.file : Str) == fileI) = true)
    (fI8 : K.lookup cc = some ⟨clI, cldI, .cell (some (.ref CI)), cslI⟩)
    (e1 : PySem.W.clsIn K CI = some cdI)
    (e2 : ks_superIn K CI CI "__init__" = some (some (.builtin "ValueError.__init__")))
    (e3 : PySem.W.subIn K (.ref CI) (.type "ValueError") = some true)
    (e4 : PySem.W.mroIn K CI (.ref CI) = some true)
    (e5 : PySem.W.nsIn K PySem.cStatics "thirdparty.any" = some none)
    (e6 : (l.prog.main.scope.names.lookup ("super" : Str)).isSome = false)
    (e7 : K.lookup CI = some (excClassObj nmE qE CI NE bsE bmE true snE subE abE colE ddE q0 q1 q2 q3 q5 "ValueError.__new__"))
    (e8 : PySem.HandSPX.refsVE bmE = true)
    (e9 : PySem.W.findIn K (.ref CI) "__setattr__" = some (some (.builtin "object.__setattr__")))
    (e10 : PySem.W.subIn K (.ref CI) (.type "BaseException") = some true)
    (e11 : PySem.W.typeIn K (.ref CI) = some (.type "type"))
    (e12 : PySem.W.keepIn K (.ref CI) = true)
    (e13 : PySem.W.findIn K (.ref CI) "part" = some none)
    (aE0 : PySem.W.nsIn K mainGlobals "InvalidText" = some (some (.ref E0)))
    (sE0 : PySem.W.subIn K (.ref E0) (.type "BaseException") = some true)
    (kE0 : PySem.W.keepIn K (.ref E0) = true)
    (tE0 : PySem.W.typeIn K (.ref E0) = some (.type "type"))
    (ga0 : PySem.W.findIn K (.ref E0) "__getattribute__" = some (some (.builtin "BaseException.__getattribute__")))
    (gb0 : PySem.W.findIn K (.ref E0) "__getattr__" = some none)
    (gd0 : PySem.W.hasDictIn K E0 = true)
    (gn0_row : PySem.W.findIn K (.ref E0) "row" = some none)
    (gn0_word : PySem.W.findIn K (.ref E0) "word" = some none)
    (fI1_0 : PySem.W.findIn K (.ref E0) "__init__" = some (some (.ref fI_0)))
    (fI2_0 : PySem.W.typeIn K (.ref fI_0) = some (.type "function"))
    (fI3_0 : K.lookup fI_0 = some ⟨ocI_0, odI_0, .func (ksFn "__init__" "InvalidText.__init__" (defArgs stI_InvalidText) (defBody stI_InvalidText) (defScope stI_InvalidText) .none kVI_0 dcI_0 pmI_0 anI_0 (.ref cda_0) ctI_0 cc_0), slI_0⟩)
    (fI4_0 : PySem.W.codeIn K (.ref cda_0) "InvalidText.__init__" = true)
    (fI5_0 : K.lookup cda_0 = some ⟨cclI_0, cddI_0, .fields vsI_0, ccsI_0⟩)
    (fI6_0 : vsI_0[2]? = some (.str fileI_0 tfI_0))
    (fI7_0 : ((l.prog.main.file : Str) == fileI_0) = true)
    (fI8_0 : K.lookup cc_0 = some ⟨clI_0, cldI_0, .cell (some (.ref E0)), cslI_0⟩)
    (e1_0 : PySem.W.clsIn K E0 = some cdI_0)
    (e2_0 : ks_superIn K E0 E0 "__init__" = some (some (.builtin "ValueError.__init__")))
    (e3_0 : PySem.W.subIn K (.ref E0) (.type "ValueError") = some true)
    (e4_0 : PySem.W.mroIn K E0 (.ref E0) = some true)
    (e7_0 : K.lookup E0 = some (excClassObj nmE_0 qE_0 E0 NE_0 bsE_0 bmE_0 true snE_0 subE_0 abE_0 colE_0 ddE_0 q0_0 q1_0 q2_0 q3_0 q5_0 "ValueError.__new__"))
    (e8_0 : PySem.HandSPX.refsVE bmE_0 = true)
    (e9_0 : PySem.W.findIn K (.ref E0) "__setattr__" = some (some (.builtin "object.__setattr__")))
    (ga1 : PySem.W.findIn K (.ref CI) "__getattribute__" = some (some (.builtin "BaseException.__getattribute__")))
    (gb1 : PySem.W.findIn K (.ref CI) "__getattr__" = some none)
    (gd1 : PySem.W.hasDictIn K CI = true)
    (gn1_part : PySem.W.findIn K (.ref CI) "part" = some none)
    (ee0_0 : PySem.W.exmOne K (.ref E0) (.ref E0) = some true)
    (ee1_0 : PySem.W.exmOne K (.ref CI) (.ref E0) = some false)
    (ee1_1 : PySem.W.exmOne K (.ref CI) (.ref CI) = some true) : ∃ fd : FuncData, (∀ (s : Shared) (u : Value), BindsTo s fd ⟨[u], []⟩ [(("_law_script" : Str), u)]) ∧
        ∀ base : Heap, K.In base → base.Ns mainGlobals mg → FnOk l.prog w K mg base C8.CX0 (lawLev + 1) fa fd ["_law_script"] (spLaw1 K) := by
  have e := hfa.symm.trans (PySem.W.mg_of X G a16)
  cases e
  have FCons : Def K mg "consists_of" stCons f0 _ := ⟨⟨_, _, _, _, _, _, _, _, _, _, rfl, l0, c0⟩, PySem.W.mg_of X G a0, k0⟩
  have FVConsistsOf : Def K mg "consists_of" stVConsistsOf f0 _ := ⟨⟨_, _, _, _, _, _, _, _, _, _, rfl, l0, c0⟩, PySem.W.mg_of X G a0, k0⟩
  have b_consists_of : Binds K _ ["text", "signs"] [] := C8.Fun.binds FCons.fn rfl fun _ _ _ _ _ _ us hl => match us, hl with | [_, _], _ => rfl
  have FWord : Def K mg "is_word" stWord f1 _ := ⟨⟨_, _, _, _, _, _, _, _, _, _, rfl, l1, c1⟩, PySem.W.mg_of X G a1, k1⟩
  have FVIsWord : Def K mg "is_word" stVIsWord f1 _ := ⟨⟨_, _, _, _, _, _, _, _, _, _, rfl, l1, c1⟩, PySem.W.mg_of X G a1, k1⟩
  have b_is_word : Binds K _ ["text"] [] := C8.Fun.binds FWord.fn rfl fun _ _ _ _ _ _ us hl => match us, hl with | [_], _ => rfl
  have FPat : Def K mg "is_pattern" stPat f2 _ := ⟨⟨_, _, _, _, _, _, _, _, _, _, rfl, l2, c2⟩, PySem.W.mg_of X G a2, k2⟩
  have FVIsPattern : Def K mg "is_pattern" stVIsPattern f2 _ := ⟨⟨_, _, _, _, _, _, _, _, _, _, rfl, l2, c2⟩, PySem.W.mg_of X G a2, k2⟩
  have b_is_pattern : Binds K _ ["text"] [] := C8.Fun.binds FPat.fn rfl fun _ _ _ _ _ _ us hl => match us, hl with | [_], _ => rfl
  have FNumb : Def K mg "is_number" stNumb f3 _ := ⟨⟨_, _, _, _, _, _, _, _, _, _, rfl, l3, c3⟩, PySem.W.mg_of X G a3, k3⟩
  have b_is_number : Binds K _ ["number", "least", "most"] [] := C8.Fun.binds FNumb.fn rfl fun _ _ _ _ _ _ us hl => match us, hl with | [_, _, _], _ => rfl
  have FBox : Def K mg "is_box" stBox f4 _ := ⟨⟨_, _, _, _, _, _, _, _, _, _, rfl, l4, c4⟩, PySem.W.mg_of X G a4, k4⟩
  have b_is_box : Binds K _ ["box", "boxes"] [] := C8.Fun.binds FBox.fn rfl fun _ _ _ _ _ _ us hl => match us, hl with | [_, _], _ => rfl
  have FNames : Def K mg "are_names" stNames f5 _ := ⟨⟨_, _, _, _, _, _, _, _, _, _, rfl, l5, c5⟩, PySem.W.mg_of X G a5, k5⟩
  have b_are_names : Binds K _ ["names"] [] := C8.Fun.binds FNames.fn rfl fun _ _ _ _ _ _ us hl => match us, hl with | [_], _ => rfl
  have FPlates : Def K mg "are_plates" stPlates f6 _ := ⟨⟨_, _, _, _, _, _, _, _, _, _, rfl, l6, c6⟩, PySem.W.mg_of X G a6, k6⟩
  have b_are_plates : Binds K _ ["plates", "many"] [] := C8.Fun.binds FPlates.fn rfl fun _ _ _ _ _ _ us hl => match us, hl with | [_, _], _ => rfl
  have FManner : Def K mg "is_manner" stManner f7 _ := ⟨⟨_, _, _, _, _, _, _, _, _, _, rfl, l7, c7⟩, PySem.W.mg_of X G a7, k7⟩
  have b_is_manner : Binds K _ ["manner", "many", "boxes"] [] := C8.Fun.binds FManner.fn rfl fun _ _ _ _ _ _ us hl => match us, hl with | [_, _, _], _ => rfl
  have FManners : Def K mg "are_manners" stManners f8 _ := ⟨⟨_, _, _, _, _, _, _, _, _, _, rfl, l8, c8⟩, PySem.W.mg_of X G a8, k8⟩
  have b_are_manners : Binds K _ ["manners", "names", "boxes"] [] := C8.Fun.binds FManners.fn rfl fun _ _ _ _ _ _ us hl => match us, hl with | [_, _, _], _ => rfl
  have FTaken : Def K mg "_law_taken" stTaken f9 _ := ⟨⟨_, _, _, _, _, _, _, _, _, _, rfl, l9, c9⟩, PySem.W.mg_of X G a9, k9⟩
  have b__law_taken : Binds K _ ["_law_row", "_law_many"] [] := C8.Fun.binds FTaken.fn rfl fun _ _ _ _ _ _ us hl => match us, hl with | [_, _], _ => rfl
  have FVWrongInPlates : Def K mg "wrong_in_plates" stVWrongInPlates f10 _ := ⟨⟨_, _, _, _, _, _, _, _, _, _, rfl, l10, c10⟩, PySem.W.mg_of X G a10, k10⟩
  have b_wrong_in_plates : Binds K _ ["words"] [] := C8.Fun.binds FVWrongInPlates.fn rfl fun _ _ _ _ _ _ us hl => match us, hl with | [_], _ => rfl
  have FVWrongInHousehold : Def K mg "wrong_in_household" stVWrongInHousehold f11 _ := ⟨⟨_, _, _, _, _, _, _, _, _, _, rfl, l11, c11⟩, PySem.W.mg_of X G a11, k11⟩
  have b_wrong_in_household : Binds K _ ["words", "before", "many"] [] := C8.Fun.binds FVWrongInHousehold.fn rfl fun _ _ _ _ _ _ us hl => match us, hl with | [_, _, _], _ => rfl
  have FVCheckWords : Def K mg "check_words" stVCheckWords f12 _ := ⟨⟨_, _, _, _, _, _, _, _, _, _, rfl, l12, c12⟩, PySem.W.mg_of X G a12, k12⟩
  have b_check_words : Binds K _ ["rows"] [] := C8.Fun.binds FVCheckWords.fn rfl fun _ _ _ _ _ _ us hl => match us, hl with | [_], _ => rfl
  have FVReadManner : Def K mg "read_manner" stVReadManner f13 _ := ⟨⟨_, _, _, _, _, _, _, _, _, _, rfl, l13, c13⟩, PySem.W.mg_of X G a13, k13⟩
  have b_read_manner : Binds K _ ["words"] [] := C8.Fun.binds FVReadManner.fn rfl fun _ _ _ _ _ _ us hl => match us, hl with | [_], _ => rfl
  have FVParseHouse : Def K mg "parse_house" stVParseHouse f14 _ := ⟨⟨_, _, _, _, _, _, _, _, _, _, rfl, l14, c14⟩, PySem.W.mg_of X G a14, k14⟩
  have b_parse_house : Binds K _ ["text"] [] := C8.Fun.binds FVParseHouse.fn rfl fun _ _ _ _ _ _ us hl => match us, hl with | [_], _ => rfl
  have FVLawPlace : Def K mg "_law_place" stVLawPlace f15 _ := ⟨⟨_, _, _, _, _, _, _, _, _, _, rfl, l15, c15⟩, PySem.W.mg_of X G a15, k15⟩
  have b__law_place : Binds K _ ["_law_rows"] [] := C8.Fun.binds FVLawPlace.fn rfl fun _ _ _ _ _ _ us hl => match us, hl with | [_], _ => rfl
  have FLaw : Def K mg "law" stLaw fa _ := ⟨⟨_, _, _, _, _, _, _, _, _, _, rfl, l16, c16⟩, PySem.W.mg_of X G a16, k16⟩
  have b_law : Binds K _ ["_law_script"] [] := C8.Fun.binds FLaw.fn rfl fun _ _ _ _ _ _ us hl => match us, hl with | [_], _ => rfl
  have n_all := PySem.W.mg_none_of X G z_all
  have n_bool := PySem.W.mg_none_of X G z_bool
  have n_dict := PySem.W.mg_none_of X G z_dict
  have n_int := PySem.W.mg_none_of X G z_int
  have n_isinstance := PySem.W.mg_none_of X G z_isinstance
  have n_len := PySem.W.mg_none_of X G z_len
  have n_list := PySem.W.mg_none_of X G z_list
  have n_range := PySem.W.mg_none_of X G z_range
  have n_str := PySem.W.mg_none_of X G z_str
  have n_super := PySem.W.mg_none_of X G z_super
  have n_tuple := PySem.W.mg_none_of X G z_tuple
  have g_LETTERS : ∃ u, mg "LETTERS" = some u ∧ RelV (.str (Str.ofString "abcdefghijklmnopqrstuvwxyz")) u := ⟨_, PySem.W.mg_of X G gg_LETTERS, _, rfl⟩
  have g_PATTERN_SIGNS : ∃ u, mg "PATTERN_SIGNS" = some u ∧ RelV (.str (Str.ofString "abcdefghijklmnopqrstuvwxyz.")) u := ⟨_, PySem.W.mg_of X G gg_PATTERN_SIGNS, _, rfl⟩
  have g_LONGEST_WORD : ∃ u, mg "LONGEST_WORD" = some u ∧ RelV (.int 8) u := ⟨_, PySem.W.mg_of X G gg_LONGEST_WORD, _, rfl⟩
  have g_MOST_NAMES : ∃ u, mg "MOST_NAMES" = some u ∧ RelV (.int 6) u := ⟨_, PySem.W.mg_of X G gg_MOST_NAMES, _, rfl⟩
  have g_MOST_BOXES : ∃ u, mg "MOST_BOXES" = some u ∧ RelV (.int 6) u := ⟨_, PySem.W.mg_of X G gg_MOST_BOXES, _, rfl⟩
  have FH0 : L2.Fun K "__init__" "House.__init__" stHI fH0 _ := fun_mk (st := stHI) lH0 cH0 kH0
  have bH0 := FH0.binds (ps := ["self", "names", "plates", "manners"]) fun _ _ _ _ _ _ us hl => match us, hl with | [_, _, _, _], _ => rfl
  have FH1 : L2.Fun K "__len__" "House.__len__" stHLn fH1 _ := fun_mk (st := stHLn) lH1 cH1 kH1
  have bH1 := FH1.binds (ps := ["self"]) fun _ _ _ _ _ _ us hl => match us, hl with | [_], _ => rfl
  have FP0 : L2.Fun K "names" "House.names" stHNm fP0 _ := fun_mk (st := stHNm) lP0 cP0 kP0
  have bP0 := FP0.binds (ps := ["self"]) fun _ _ _ _ _ _ us hl => match us, hl with | [_], _ => rfl
  have FP1 : L2.Fun K "plates" "House.plates" stHPl fP1 _ := fun_mk (st := stHPl) lP1 cP1 kP1
  have bP1 := FP1.binds (ps := ["self"]) fun _ _ _ _ _ _ us hl => match us, hl with | [_], _ => rfl
  have FP2 : L2.Fun K "manners" "House.manners" stHMn fP2 _ := fun_mk (st := stHMn) lP2 cP2 kP2
  have bP2 := FP2.binds (ps := ["self"]) fun _ _ _ _ _ _ us hl => match us, hl with | [_], _ => rfl
  have TS_0 : SupC l.prog K mg E0 fI_0 (ksFn "__init__" "InvalidText.__init__" (defArgs stI_InvalidText) (defBody stI_InvalidText) (defScope stI_InvalidText) .none kVI_0 dcI_0 pmI_0 anI_0 (.ref cda_0) ctI_0 cc_0) "InvalidText.__init__" stI_InvalidText "row" := ⟨⟨ocI_0, odI_0, slI_0, kVI_0, dcI_0, pmI_0, ctI_0, anI_0, cda_0, cc_0, rfl, fI3_0, fI4_0, ⟨cclI_0, cddI_0, vsI_0, ccsI_0, fileI_0, tfI_0, fI5_0, fI6_0, fI7_0⟩, clI_0, cldI_0, cslI_0, fI8_0⟩, ⟨cdI_0, e1_0⟩, e2_0, e3_0, e4_0, e5, n_super, e6, ⟨⟨nmE_0, qE_0, NE_0, bsE_0, bmE_0, snE_0, subE_0, abE_0, colE_0, ddE_0, q0_0, q1_0, q2_0, q3_0, q5_0, e7_0, e8_0⟩, e9_0, sE0, tE0, kE0⟩, gn0_row⟩
  have bI_0 : Binds K (ksFn "__init__" "InvalidText.__init__" (defArgs stI_InvalidText) (defBody stI_InvalidText) (defScope stI_InvalidText) .none kVI_0 dcI_0 pmI_0 anI_0 (.ref cda_0) ctI_0 cc_0) ["self", "row", "word"] [] := .all fun us hl => match us, hl with | [_, _, _], _ => rfl
  obtain ⟨ex, hx0, hx1⟩ : ∃ ex : String → Addr, ex "InvalidText" = E0 ∧ ex "InvalidHouse" = CI := ⟨fun c => if c = "InvalidText" then E0 else if c = "InvalidHouse" then CI else CI, by simp, by simp⟩
  have hexI : ex "InvalidHouse" = CI := hx1
  have TK__law_place : TryK__law_place K mg ex := ⟨by rw [hx0]; exact PySem.W.mg_of X G aE0, by rw [hx0]; exact ⟨ga0, gb0, sE0, gd0⟩, by rw [hx0]; exact gn0_row, by rw [hx0]; exact gn0_word, by rw [hx1]; exact PySem.W.mg_of X G aI, by rw [hx1]; exact ⟨ga1, gb1, e10, gd1⟩, by rw [hx1]; exact gn1_part, by rw [hx0]; exact ee0_0, by rw [hx1, hx0]; exact ee1_0, by rw [hx1]; exact ee1_1⟩
  have gL : ∃ u, mg "LETTERS" = some u ∧ RelV (.str lettersS) u := g_LETTERS
  have gPt : ∃ u, mg "PATTERN_SIGNS" = some u ∧ RelV (.str patternS) u := g_PATTERN_SIGNS
  have gW : ∃ u, mg "LONGEST_WORD" = some u ∧ RelV (.int 8) u := g_LONGEST_WORD
  have gN : ∃ u, mg "MOST_NAMES" = some u ∧ RelV (.int 6) u := g_MOST_NAMES
  have gB : ∃ u, mg "MOST_BOXES" = some u ∧ RelV (.int 6) u := g_MOST_BOXES
  have TH : HouC K C := ⟨⟨pg, hd, po, sa⟩, x1, x2, x3⟩
  have TS : SupC l.prog K mg CI fI (ksFn "__init__" "InvalidHouse.__init__" (defArgs stInvH) (defBody stInvH) (defScope stInvH) .none kVI dcI pmI anI (.ref cda) ctI cc) "InvalidHouse.__init__" stInvH "part" :=
    ⟨⟨ocI, odI, slI, kVI, dcI, pmI, ctI, anI, cda, cc, rfl, fI3, fI4, ⟨cclI, cddI, vsI, ccsI, fileI, tfI, fI5, fI6, fI7⟩, clI, cldI, cslI, fI8⟩, ⟨cdI, e1⟩, e2, e3, e4, e5, n_super, e6, ⟨⟨nmE, qE, NE, bsE, bmE, snE, subE, abE, colE, ddE, q0, q1, q2, q3, q5, e7, e8⟩, e9, e10, e11, e12⟩, e13⟩
  have bI : Binds K (ksFn "__init__" "InvalidHouse.__init__" (defArgs stInvH) (defBody stInvH) (defScope stInvH) .none kVI dcI pmI anI (.ref cda) ctI cc) ["self", "part"] [] := .all fun us hl => match us, hl with | [_, _], _ => rfl
  refine ⟨PySem.W.fnOf "law" "law" (C8.fnArgs stLaw) (C8.fnBody stLaw) (C8.fnScope stLaw) .none kV16 dc16 pm16 an16 cd16 ct16, fun s v => .of_eq rfl, fun base KB GB => fn_frz0 ?_⟩
  have C0 : Cal l.prog w K mg base 1 "consists_of" spConsists [] := cal_consists FCons b_consists_of n_len n_isinstance n_str n_all gW
  have C1 : Cal l.prog w K mg base 2 "is_word" (spText lettersS) [] := cal_word FWord b_is_word gL C0
  have C2 : Cal l.prog w K mg base 2 "is_pattern" (spText patternS) [] := cal_pattern FPat b_is_pattern gPt C0
  have CN : Cal l.prog w K mg base 1 "is_number" spNumber [] := cal_number FNumb b_is_number n_isinstance n_int n_bool
  have C3 : Cal l.prog w K mg base 2 "is_box" spBox [] := cal_box FBox b_is_box CN
  have C4 : Cal l.prog w K mg base 3 "are_names" spNames [] := cal_names FNames b_are_names n_len n_isinstance n_tuple n_all n_range gN C1
  have C5 : Cal l.prog w K mg base 3 "are_plates" spPlates [] := cal_plates FPlates b_are_plates n_len n_isinstance n_tuple n_all gB C2
  have C6 : Cal l.prog w K mg base 3 "is_manner" spManner [] := cal_manner FManner b_is_manner n_len n_isinstance n_tuple n_all C3
  have C7 : Cal l.prog w K mg base 4 "are_manners" spManners [] := cal_manners FManners b_are_manners n_len n_isinstance n_dict n_all C6
  have FH : FnOk l.prog w K mg base (L2.CX l.prog w) 5 fH0 _ ["self", "names", "plates", "manners"] (spHInit C CI) := ok_hinit FH0 TH TS fI1 fI2 bI (PySem.W.mg_of X G aI) n_len C4 C5 C7
  have MkH : Mk K C fH0 := ⟨mk, aH0, iH0, kc⟩
  have mgH := PySem.W.mg_of X G aC
  have HH : HouV l.prog w K mg base C CI := ⟨TH, mgH, ⟨pP0, fP0, _, ⟨aP0, sP0, tP0, restP0, rP0⟩, ok_names FP0 TH, bP0⟩, ⟨pP1, fP1, _, ⟨aP1, sP1, tP1, restP1, rP1⟩, ok_plates FP1 TH, bP1⟩, ⟨pP2, fP2, _, ⟨aP2, sP2, tP2, restP2, rP2⟩, ok_mnrs FP2 TH n_dict, bP2⟩,
      ⟨fH1, _, aH1, iH1, ok_hlen FH1 TH n_len, bH1⟩, ⟨fH0, _, MkH, FH, bH0⟩⟩
  have Q8 : Cal l.prog w K mg base 1 "_law_taken" (spTaken K) [] := cal_taken FTaken b__law_taken n_int n_len
  have c__law_taken : Cal l.prog w K mg base 1 "_law_taken" (spV w K C 2 f__law_taken) [] := cal_weak Q8 fun vs H Q E h => taken_V h
  have t_BOX_WORDS : KTup K mg "BOX_WORDS" [.str "-", .str "0", .str "1", .str "2", .str "3", .str "4", .str "5", .str "6", .str "7", .str "8", .str "9"] := ⟨by decide +kernel, u_BOX_WORDS, _, its_BOX_WORDS, nt_BOX_WORDS, PySem.W.mg_of X G y1_BOX_WORDS, y2_BOX_WORDS, rfl, rfl, y3_BOX_WORDS, y4_BOX_WORDS⟩
  have t_FIRST_WORDS : KTup K mg "FIRST_WORDS" [.str "back", .str "keep", .str "guess"] := ⟨by decide +kernel, u_FIRST_WORDS, _, its_FIRST_WORDS, nt_FIRST_WORDS, PySem.W.mg_of X G y1_FIRST_WORDS, y2_FIRST_WORDS, rfl, rfl, y3_FIRST_WORDS, y4_FIRST_WORDS⟩
  have eii_InvalidText : OwnErrII l.prog w K mg base "InvalidText" "row" "word" (ex "InvalidText") := by rw [hx0]; exact ⟨⟨⟨nmE_0, qE_0, NE_0, bsE_0, bmE_0, snE_0, subE_0, abE_0, colE_0, ddE_0, q0_0, q1_0, q2_0, q3_0, q5_0, e7_0, e8_0⟩, e9_0, sE0, tE0, kE0⟩, ⟨fI_0, _, fI1_0, fI2_0, fn_InvalidText TS_0 gn0_word, bI_0⟩, PySem.W.mg_of X G aE0⟩
  have c_consists_of : Cal l.prog w K mg base 1 "consists_of" (spV w K C 2 f_consists_of) [] := cv_consists_of FVConsistsOf b_consists_of n_all n_isinstance n_len n_str g_LONGEST_WORD
  have c_is_word : Cal l.prog w K mg base 2 "is_word" (spV w K C 1 f_is_word) [] := cv_is_word FVIsWord b_is_word g_LETTERS c_consists_of
  have c_is_pattern : Cal l.prog w K mg base 2 "is_pattern" (spV w K C 1 f_is_pattern) [] := cv_is_pattern FVIsPattern b_is_pattern g_PATTERN_SIGNS c_consists_of
  have c_wrong_in_plates : Cal l.prog w K mg base 3 "wrong_in_plates" (spV w K C 1 f_wrong_in_plates) [] := cv_wrong_in_plates FVWrongInPlates b_wrong_in_plates n_len n_range g_MOST_BOXES c_is_pattern
  have c_wrong_in_household : Cal l.prog w K mg base 3 "wrong_in_household" (spV w K C 3 f_wrong_in_household) [] := cv_wrong_in_household FVWrongInHousehold b_wrong_in_household n_len n_range t_BOX_WORDS t_FIRST_WORDS c_is_word
  have c_check_words : Cal l.prog w K mg base 4 "check_words" (spV w K C 1 f_check_words) [] := cv_check_words FVCheckWords b_check_words n_len n_range g_MOST_NAMES c_wrong_in_household c_wrong_in_plates
  have ce_check_words : CalE l.prog w K mg base 4 "check_words" (spE w K C ex 1 fe_check_words) := cve_check_words FVCheckWords b_check_words n_len n_range g_MOST_NAMES c_wrong_in_household c_wrong_in_plates eii_InvalidText
  have c_read_manner : Cal l.prog w K mg base 1 "read_manner" (spV w K C 1 f_read_manner) [] := cv_read_manner FVReadManner b_read_manner n_int n_tuple
  have c_parse_house : Cal l.prog w K mg base 7 "parse_house" (spV w K C 1 f_parse_house) [] := cv_parse_house FVParseHouse b_parse_house n_tuple c_check_words c_read_manner HH
  have ce_parse_house : CalE l.prog w K mg base 7 "parse_house" (spE w K C ex 1 fe_parse_house) := cve_parse_house FVParseHouse b_parse_house n_tuple c_read_manner HH ce_check_words hexI
  have c__law_place : Cal l.prog w K mg base 8 "_law_place" (spVX w K C ex 1 f__law_place) [] := cv__law_place FVLawPlace b__law_place ce_parse_house TK__law_place
  exact ok_lawV FLaw fun f cdv A outer s H E Z hC hX hr => lv_law n_len n_range c__law_place c__law_taken f cdv A outer s H E Z hC hX hr
end

end Lp
open PySem PySem.W PyProof.Rows
set_option maxRecDepth 100000 in
set_option maxHeartbeats 0 in
theorem PySem.Challenge.cw_lostplates_k47_texts_rejected_holds : PySem.Challenge.rw_lostplates_k47_texts_rejected.Holds := by
  w_on; o_law; k_head; (case hw => w_witness2)
  k_fill
  refine L2.walk_ofK (l := PySem.Challenge.rw_lostplates_k47_texts_rejected) (n := 63) (k := 9) (x := "_law_script") (CX := C8.CX0) (sp := Lp.spLaw1) rfl (by decide) rfl ⟨rfl, by decide, by decide⟩ (fun w h Y => by first | exact PySem.W.kIn_of Y | exact PySem.W.km_in_of Y) ?F (fun K H a ns hl _ hS => ⟨a, ns, rfl, hS, hl, fun _ => rfl⟩) (fun _ _ _ _ z => z)
  case F =>
    intro w mg fa h KX G hmg
    refine' Lp.all_mk KX G hmg ?a0 ?l0 ?c0 ?k0 ?a1 ?l1 ?c1 ?k1 ?a2 ?l2 ?c2 ?k2 ?a3 ?l3 ?c3 ?k3 ?a4 ?l4 ?c4 ?k4 ?a5 ?l5 ?c5 ?k5 ?a6 ?l6 ?c6 ?k6 ?a7 ?l7 ?c7 ?k7 ?a8 ?l8 ?c8 ?k8 ?a9 ?l9 ?c9 ?k9 ?a10 ?l10 ?c10 ?k10 ?a11 ?l11 ?c11 ?k11 ?a12 ?l12 ?c12 ?k12 ?a13 ?l13 ?c13 ?k13 ?a14 ?l14 ?c14 ?k14 ?a15 ?l15 ?c15 ?k15 ?a16 ?l16 ?c16 ?k16 ?z_all ?z_bool ?z_dict ?z_int ?z_isinstance ?z_len ?z_list ?z_range ?z_str ?z_super ?z_tuple ?gg_LETTERS ?gg_PATTERN_SIGNS ?gg_LONGEST_WORD ?gg_MOST_NAMES ?gg_MOST_BOXES ?aC ?aH0 ?iH0 ?lH0 ?cH0 ?kH0 ?aH1 ?iH1 ?lH1 ?cH1 ?kH1 ?aP0 ?sP0 ?tP0 ?rP0 ?lP0 ?cP0 ?kP0 ?aP1 ?sP1 ?tP1 ?rP1 ?lP1 ?cP1 ?kP1 ?aP2 ?sP2 ?tP2 ?rP2 ?lP2 ?cP2 ?kP2 ?pg ?hd ?po ?sa ?mk ?kc ?x1 ?x2 ?x3 ?y1_BOX_WORDS ?y2_BOX_WORDS ?y3_BOX_WORDS ?y4_BOX_WORDS ?y1_FIRST_WORDS ?y2_FIRST_WORDS ?y3_FIRST_WORDS ?y4_FIRST_WORDS ?aI ?fI1 ?fI2 ?fI3 ?fI4 ?fI5 ?fI6 ?fI7 ?fI8 ?e1 ?e2 ?e3 ?e4 ?e5 ?e6 ?e7 ?e8 ?e9 ?e10 ?e11 ?e12 ?e13 ?aE0 ?sE0 ?kE0 ?tE0 ?ga0 ?gb0 ?gd0 ?gn0_row ?gn0_word ?fI1_0 ?fI2_0 ?fI3_0 ?fI4_0 ?fI5_0 ?fI6_0 ?fI7_0 ?fI8_0 ?e1_0 ?e2_0 ?e3_0 ?e4_0 ?e7_0 ?e8_0 ?e9_0 ?ga1 ?gb1 ?gd1 ?gn1_part ?ee0_0 ?ee1_0 ?ee1_1
    (case a0 => k_is)
    (case l0 => k_is)
    (case c0 => k_is)
    (case k0 => k_is)
    (case a1 => k_is)
    (case l1 => k_is)
    (case c1 => k_is)
    (case k1 => k_is)
    (case a2 => k_is)
    (case l2 => k_is)
    (case c2 => k_is)
    (case k2 => k_is)
    (case a3 => k_is)
    (case l3 => k_is)
    (case c3 => k_is)
    (case k3 => k_is)
    (case a4 => k_is)
    (case l4 => k_is)
    (case c4 => k_is)
    (case k4 => k_is)
    (case a5 => k_is)
    (case l5 => k_is)
    (case c5 => k_is)
    (case k5 => k_is)
    (case a6 => k_is)
    (case l6 => k_is)
    (case c6 => k_is)
    (case k6 => k_is)
    (case a7 => k_is)
    (case l7 => k_is)
    (case c7 => k_is)
    (case k7 => k_is)
    (case a8 => k_is)
    (case l8 => k_is)
    (case c8 => k_is)
    (case k8 => k_is)
    (case a9 => k_is)
    (case l9 => k_is)
    (case c9 => k_is)
    (case k9 => k_is)
    (case a10 => k_is)
    (case l10 => k_is)
    (case c10 => k_is)
    (case k10 => k_is)
    (case a11 => k_is)
    (case l11 => k_is)
    (case c11 => k_is)
    (case k11 => k_is)
    (case a12 => k_is)
    (case l12 => k_is)
    (case c12 => k_is)
    (case k12 => k_is)
    (case a13 => k_is)
    (case l13 => k_is)
    (case c13 => k_is)
    (case k13 => k_is)
    (case a14 => k_is)
    (case l14 => k_is)
    (case c14 => k_is)
    (case k14 => k_is)
    (case a15 => k_is)
    (case l15 => k_is)
    (case c15 => k_is)
    (case k15 => k_is)
    (case a16 => k_is)
    (case l16 => k_is)
    (case c16 => k_is)
    (case k16 => k_is)
    (case z_all => k_is)
    (case z_bool => k_is)
    (case z_dict => k_is)
    (case z_int => k_is)
    (case z_isinstance => k_is)
    (case z_len => k_is)
    (case z_list => k_is)
    (case z_range => k_is)
    (case z_str => k_is)
    (case z_super => k_is)
    (case z_tuple => k_is)
    (case gg_LETTERS => k_is)
    (case gg_PATTERN_SIGNS => k_is)
    (case gg_LONGEST_WORD => k_is)
    (case gg_MOST_NAMES => k_is)
    (case gg_MOST_BOXES => k_is)
    (case aC => k_is)
    (case aH0 => k_is)
    (case iH0 => k_is)
    (case lH0 => k_is)
    (case cH0 => k_is)
    (case kH0 => k_is)
    (case aH1 => k_is)
    (case iH1 => k_is)
    (case lH1 => k_is)
    (case cH1 => k_is)
    (case kH1 => k_is)
    (case aP0 => k_is)
    (case sP0 => k_is)
    (case tP0 => k_is)
    (case rP0 => k_is)
    (case lP0 => k_is)
    (case cP0 => k_is)
    (case kP0 => k_is)
    (case aP1 => k_is)
    (case sP1 => k_is)
    (case tP1 => k_is)
    (case rP1 => k_is)
    (case lP1 => k_is)
    (case cP1 => k_is)
    (case kP1 => k_is)
    (case aP2 => k_is)
    (case sP2 => k_is)
    (case tP2 => k_is)
    (case rP2 => k_is)
    (case lP2 => k_is)
    (case cP2 => k_is)
    (case kP2 => k_is)
    (case pg => k_is)
    (case hd => k_is)
    (case po => k_is)
    (case sa => k_is)
    (case mk => k_is)
    (case kc => k_is)
    (case x1 => k_is)
    (case x2 => k_is)
    (case x3 => k_is)
    (case y1_BOX_WORDS => k_is)
    (case y2_BOX_WORDS => k_is)
    (case y3_BOX_WORDS => decide +kernel)
    (case y4_BOX_WORDS => exact .cons ⟨_, rfl⟩ (.cons ⟨_, rfl⟩ (.cons ⟨_, rfl⟩ (.cons ⟨_, rfl⟩ (.cons ⟨_, rfl⟩ (.cons ⟨_, rfl⟩ (.cons ⟨_, rfl⟩ (.cons ⟨_, rfl⟩ (.cons ⟨_, rfl⟩ (.cons ⟨_, rfl⟩ (.cons ⟨_, rfl⟩ (.nil))))))))))))
    (case y1_FIRST_WORDS => k_is)
    (case y2_FIRST_WORDS => k_is)
    (case y3_FIRST_WORDS => decide +kernel)
    (case y4_FIRST_WORDS => exact .cons ⟨_, rfl⟩ (.cons ⟨_, rfl⟩ (.cons ⟨_, rfl⟩ (.nil))))
    (case aI => k_is)
    (case fI1 => k_is)
    (case fI2 => k_is)
    (case fI3 => k_is)
    (case fI4 => k_is)
    (case fI5 => k_is)
    (case fI6 => first | k_is | rfl | decide +kernel)
    (case fI7 => first | k_is | rfl | decide +kernel)
    (case fI8 => k_is)
    (case e1 => k_is)
    (case e2 => first | kernel_rfl | rfl | decide +kernel)
    (case e3 => k_is)
    (case e4 => k_is)
    (case e5 => k_is)
    (case e6 => first | k_is | rfl | decide +kernel)
    (case e7 => k_is)
    (case e8 => first | k_is | rfl | decide +kernel)
    (case e9 => k_is)
    (case e10 => k_is)
    (case e11 => k_is)
    (case e12 => k_is)
    (case e13 => k_is)
    (case aE0 => k_is)
    (case sE0 => k_is)
    (case kE0 => k_is)
    (case tE0 => k_is)
    (case ga0 => k_is)
    (case gb0 => k_is)
    (case gd0 => k_is)
    (case gn0_row => k_is)
    (case gn0_word => k_is)
    (case fI1_0 => k_is)
    (case fI2_0 => k_is)
    (case fI3_0 => k_is)
    (case fI4_0 => k_is)
    (case fI5_0 => k_is)
    (case fI6_0 => first | k_is | rfl | decide +kernel)
    (case fI7_0 => first | k_is | rfl | decide +kernel)
    (case fI8_0 => k_is)
    (case e1_0 => k_is)
    (case e2_0 => first | kernel_rfl | rfl | decide +kernel)
    (case e3_0 => k_is)
    (case e4_0 => k_is)
    (case e7_0 => k_is)
    (case e8_0 => first | k_is | rfl | decide +kernel)
    (case e9_0 => k_is)
    (case ga1 => k_is)
    (case gb1 => k_is)
    (case gd1 => k_is)
    (case gn1_part => k_is)
    (case ee0_0 => first | kernel_rfl | rfl | decide +kernel)
    (case ee1_0 => first | kernel_rfl | rfl | decide +kernel)
    (case ee1_1 => first | kernel_rfl | rfl | decide +kernel)
