import PyProof.Rows.All
import Wide.All
import OpenK.AllK
import Wide.FinOn
import HandS.ForMost
import HandS.Codes
import HandS.Strs
import HandS.SetFor
import HandS.ExcInit
import HandS.ExcSuper
import HandS.FStr
import HandS.ForExc
import KE.KExcSuper
import HandS.IsInst
import HandS.Walk
import HandS.Conv
import HandS.DictComp
import HandS.TupAny
import HandS.More
import HandS.Property
import HandS.Finally
import HandS.DeepEq
import HandS.OwnEq
import HandS.WordsExc
import KE.DataEq
import HandS.TupMul
import HandS.Lambda
import HandS.ExcField
import HandS.ExcIs
import KE.KExcIs
import KE.DataFind
import HandS.Style
import HandS.EndTab
import HandS.EndOwn
import HandS.Dict
import PyProof.StrOps2
import PySem.Challenge.RW_lostplates_k01_houses_validated
set_option Elab.async false
set_option linter.all false
set_option maxRecDepth 100000
set_option maxHeartbeats 4000000
namespace Lp
open PySem L2
open C8 (Cal pe_c Def)
def top (i : Nat) : Stmt := PySem.Challenge.pw_lostplates_k01_houses_validated.main.body.getD i (.Pass ⟨0, 0, 0, 0⟩)
/-! ## the layer: terms by tactic, readings by tactic -/
section
variable {X : Cx} {K : PySem.W.Frag}
theorem rd_seq {t u : TS} {D : Ends} {σ : St} {H : Hp} (h : t { D with nx := u D } σ H) : tSeq t u D σ H := h
theorem rd_asg {te : TE} {g : TG} {D : Ends} {σ : St} {H : Hp} (h : te σ H fun x H1 => g x σ H1 D.nx) : tAsg te g D σ H := h
theorem rd_gName {i : Nat} {v : V} {σ : St} {H : Hp} {Q : St → Hp → Prop} (h : Q (σ.set i (some v)) H) : gName i v σ H Q := h
theorem rd_var {i : Nat} {v : V} {σ : St} {H : Hp} {Q : VK} (e : σ[i]? = some (some v)) (h : Q v H) : tVar i σ H Q := ⟨v, e, h⟩
theorem rd_c {v : V} {σ : St} {H : Hp} {Q : VK} (h : Q v H) : tC v σ H Q := h
theorem rd_op {r : R2} {ta tb : TE} {σ : St} {H : Hp} {Q : VK} (h : ta σ H fun x H1 => tb σ H1 fun y H2 => r x y H2 Q) : tOp r ta tb σ H Q := h
theorem rd_un {r : V → Hp → VK → Prop} {ta : TE} {σ : St} {H : Hp} {Q : VK} (h : ta σ H fun x H1 => r x H1 Q) : tUn r ta σ H Q := h
theorem rd_I0 {g : Int → Int → V} {i j : Int} {H : Hp} {Q : VK} (h : Q (g i j) H) : rI0 g (.int i) (.int j) H Q := ⟨i, j, rfl, rfl, h⟩
theorem rd_I {C : Int → Int → Prop} {g : Int → Int → V} {i j : Int} {H : Hp} {Q : VK} (c : C i j) (h : Q (g i j) H) : rI C g (.int i) (.int j) H Q := ⟨i, j, rfl, rfl, c, h⟩
theorem rd_U {g : Int → V} {i : Int} {H : Hp} {Q : VK} (h : Q (g i) H) : rU g (.int i) H Q := ⟨i, rfl, h⟩
theorem rd_test {t : TE} {σ : St} {H : Hp} {Q : Bool → Hp → Prop} (h : t σ H fun x H' => ∃ k, x = .bl k ∧ Q k H') : tTest t σ H Q := h
theorem rd_tB {t : TE} {σ : St} {H : Hp} {Q : Bool → Hp → Prop} (h : t σ H fun x H' => ∃ k, x = .bl k ∧ Q k H') : tB t σ H Q := h
theorem rd_bl {b : Bool} {H : Hp} {Q : Bool → Hp → Prop} (h : Q b H) : ∃ k, V.bl b = .bl k ∧ Q k H := ⟨b, rfl, h⟩
theorem rd_ifS {c : TT} {t u : TS} {D : Ends} {σ : St} {H : Hp} (h : c σ H fun b H1 => if b = true then t D σ H1 else u D σ H1) : tIfS c t u D σ H := h
theorem rd_ifE {c : TT} {ta tb : TE} {σ : St} {H : Hp} {Q : VK} (h : c σ H fun b H1 => if b = true then ta σ H1 Q else tb σ H1 Q) : tIf c ta tb σ H Q := h
theorem rd_ret {te : TE} {D : Ends} {σ : St} {H : Hp} (h : te σ H D.rt) : tRet te D σ H := h
theorem rd_drop {te : TE} {D : Ends} {σ : St} {H : Hp} (h : te σ H fun _ H1 => D.nx σ H1) : tDrop te D σ H := h
theorem rd_next {D : Ends} {σ : St} {H : Hp} (h : D.nx σ H) : tNext D σ H := h
theorem rd_nil {σ : St} {H : Hp} {Q : List V → Hp → Prop} (h : Q [] H) : tNil σ H Q := h
theorem rd_cons {te : TE} {t : TA} {σ : St} {H : Hp} {Q : List V → Hp → Prop} (h : te σ H fun x H1 => t σ H1 fun xs H2 => Q (x :: xs) H2) : tCons te t σ H Q := h
theorem rd_cb {r : List V → Hp → VK → Prop} {t : TA} {σ : St} {H : Hp} {Q : VK} (h : t σ H fun vs H1 => r vs H1 Q) : tCB r t σ H Q := h
theorem rd_call {sp : Sp} {dvs : List V} {E : XK} {t : TA} {σ : St} {H : Hp} {Q : VK} (h : t σ H fun vs H1 => sp (vs ++ dvs) H1 Q E) : tCall sp dvs E t σ H Q := h
theorem rd_eq {x y : V} {H : Hp} {Q : VK} (s : scal x y = true) (h : Q (.bl (decide (x = y))) H) : rEq x y H Q := ⟨s, h⟩
theorem rd_ne {x y : V} {H : Hp} {Q : VK} (s : scal x y = true) (h : Q (.bl (!decide (x = y))) H) : rNe x y H Q := ⟨s, h⟩
theorem rd_ixL {p : Addr} {xs : List V} {i : Int} {v : V} {H : Hp} {Q : VK} (hs : SqL K H p xs) (hv : atI xs i = some v) (h : Q v H) : rIx K (.ref p) (.int i) H Q := .inl ⟨p, xs, i, v, rfl, rfl, hs, hv, h⟩
theorem rd_ixT {p : Addr} {xs : List V} {i : Int} {v : V} {H : Hp} {Q : VK} (hs : SqT K H p xs) (hv : atI xs i = some v) (h : Q v H) : rIx K (.ref p) (.int i) H Q := .inr (.inl ⟨p, xs, i, v, rfl, rfl, hs, hv, h⟩)
theorem rd_gSub {to ti : TE} {t : TSet} {v : V} {σ : St} {H : Hp} {Q : St → Hp → Prop} (h : to σ H fun o H1 => ti σ H1 fun i H2 => t o i v H2 fun H3 => Q σ H3) : gSub to ti t v σ H Q := h
theorem rd_setL {p : Addr} {xs : List V} {k : Int} {j : Nat} {v : V} {H : Hp} {Q : Hp → Prop} (hs : H p = some (.lst xs)) (hj : ixN xs.length k = some j) (h : Q (upd H p (.lst (xs.set j v)))) : rSetL (.ref p) (.int k) v H Q := ⟨p, xs, k, j, rfl, rfl, hs, hj, h⟩
theorem rd_lenL {p : Addr} {xs : List V} {H : Hp} {Q : VK} (hs : SqL K H p xs) (h : Q (.int xs.length) H) : (fun ys H Q => ∃ x n, ys = [x] ∧ LenV K x H n ∧ Q (.int n) H) [V.ref p] H Q := ⟨_, _, rfl, .inl ⟨xs, hs, rfl⟩, h⟩
theorem rd_lenT {p : Addr} {xs : List V} {H : Hp} {Q : VK} (hs : SqT K H p xs) (h : Q (.int xs.length) H) : (fun ys H Q => ∃ x n, ys = [x] ∧ LenV K x H n ∧ Q (.int n) H) [V.ref p] H Q := ⟨_, _, rfl, .inr ⟨xs, hs, rfl⟩, h⟩
end
theorem lenL {K : PySem.W.Frag} {p : Addr} {xs : List V} {H : Hp} (h : SqL K H p xs) : LenV K (.ref p) H xs.length := .inl ⟨xs, h, rfl⟩
theorem lenT {K : PySem.W.Frag} {p : Addr} {xs : List V} {H : Hp} (h : SqT K H p xs) : LenV K (.ref p) H xs.length := .inr ⟨xs, h, rfl⟩
theorem lenS {K : PySem.W.Frag} {z : Str} {H : Hp} (h : z.length ≤ sizeLine) : LenV K (.str z) H z.length := ⟨h, rfl⟩
theorem SqL.but {K : PySem.W.Frag} {H : Hp} {a p : Addr} {o : HO} {xs : List V} (h : SqL K H a xs) (n : a ≠ p) : SqL K (upd H p o) a xs := by
  rcases h with (h | ⟨u, h⟩) | h
  · exact .inl (.inl ((upd_ne n).trans h))
  · exact .inl (.inr ⟨u, (upd_ne n).trans h⟩)
  · exact .inr h
theorem SqT.but {K : PySem.W.Frag} {H : Hp} {a p : Addr} {o : HO} {xs : List V} (h : SqT K H a xs) (n : a ≠ p) : SqT K (upd H p o) a xs := by
  rcases h with (h | ⟨u, h⟩) | h
  · exact .inl (.inl ((upd_ne n).trans h))
  · exact .inl (.inr ⟨u, (upd_ne n).trans h⟩)
  · exact .inr h
theorem small_len {n : Nat} (h : n ≤ 1000) : n ≤ sizeLine := Nat.le_trans h (by decide)
theorem small_lt {n : Nat} (h : n ≤ 1000) : n < sizeLine := Nat.lt_of_le_of_lt h (by decide)
theorem rd_lst {t : TA} {σ : St} {H : Hp} {Q : VK} (h : t σ H fun xs H1 => xs.length ≤ sizeLine ∧ ∀ p, H1 p = none → Q (.ref p) (upd H1 p (.lst xs))) : tLst t σ H Q := h
theorem rd_tup {t : TA} {σ : St} {H : Hp} {Q : VK} (h : t σ H fun xs H1 => xs.length ≤ sizeLine ∧ ∀ p, H1 p = none → Q (.ref p) (upd H1 p (.tup xs))) : tTup t σ H Q := h
theorem rd_par {i j : Nat} {ta : TA} {D : Ends} {σ : St} {H : Hp} (h : ta σ H fun vs H1 => ∃ v w, vs = [v, w] ∧ D.nx ((σ.set i (some v)).set j (some w)) H1) : tPar i j ta D σ H := h
theorem rd_bm {K : PySem.W.Frag} {T : String} {r : V → List V → Hp → VK → Prop} {to : TE} {t : TA} {σ : St} {H : Hp} {Q : VK} (h : to σ H fun x H1 => tyV K T x H1 ∧ t σ H1 fun xs H2 => r x xs H2 Q) : tBM K T r to t σ H Q := h
theorem rd_bm0 {K : PySem.W.Frag} {T : String} {r : V → List V → Hp → VK → Prop} {to : TE} {σ : St} {H : Hp} {Q : VK} (h : to σ H fun x H1 => tyV K T x H1 ∧ r x [] H1 Q) : tBM0 K T r to σ H Q := h
theorem tyL {K : PySem.W.Frag} {p : Addr} {xs : List V} {H : Hp} (h : SqL K H p xs) : tyV K "list" (.ref p) H := .inl ⟨rfl, xs, h⟩
theorem tyD {K : PySem.W.Frag} {p : Addr} {xs : List (Key × V)} {H : Hp} (h : H p = some (.dK xs)) : tyV K "dict" (.ref p) H := .inr (.inr (.inl ⟨rfl, .inl ⟨xs, h⟩⟩))
theorem tyS {K : PySem.W.Frag} {z : Str} {H : Hp} : tyV K "str" (.str z) H := rfl
theorem rd_popAt {l : Addr} {xs : List V} {j : Nat} {y : V} {H : Hp} {Q : VK} (h : H l = some (.lst xs)) (hj : xs[j]? = some y) (hz : xs.length ≤ 1000) (q : Q y (upd H l (.lst (xs.eraseIdx j)))) : rPopAt (.ref l) [.int (j : Int)] H Q := by
  have hl := (List.getElem?_eq_some_iff.mp hj).1
  exact ⟨l, xs, j, j, y, rfl, rfl, h, by omega, by omega, by rw [seqIndex_of (by omega) (by omega)]; rfl, hj, q⟩
theorem rd_append {l : Addr} {xs : List V} {y : V} {H : Hp} {Q : VK} (h : H l = some (.lst xs)) (hz : xs.length ≤ 1000) (q : Q .non (upd H l (.lst (xs ++ [y])))) : rAppend (.ref l) [y] H Q := ⟨l, xs, y, rfl, rfl, h, small_lt hz, q⟩
theorem rd_sl {r : V → Option Int → Option Int → Hp → VK → Prop} {te : TE} {tl th : TO} {σ : St} {H : Hp} {Q : VK} (h : te σ H fun x H1 => tl σ H1 fun l H2 => th σ H2 fun u H3 => r x l u H3 Q) : tSl r te tl th σ H Q := h
theorem rd_noPart {σ : St} {H : Hp} {Q : Option Int → Hp → Prop} (h : Q none H) : tNoPart σ H Q := h
theorem rd_part {t : TE} {σ : St} {H : Hp} {Q : Option Int → Hp → Prop} (h : t σ H fun x H1 => ∃ i, x = .int i ∧ Q (some i) H1) : tPart t σ H Q := h
theorem rd_slL {K : PySem.W.Frag} {a : Addr} {xs : List V} {lo hi : Option Int} {H : Hp} {Q : VK} (s : SqL K H a xs) (h : ∀ p, H p = none → Q (.ref p) (upd H p (.lst (cutV xs lo hi)))) : rSlL K (.ref a) lo hi H Q := ⟨a, xs, rfl, s, h⟩
theorem rd_dnew {σ : St} {H : Hp} {Q : VK} (h : ∀ p, H p = none → Q (.ref p) (upd H p (.dK []))) : tDNewK σ H Q := h
theorem rd_lstRg {te : St → Hp → (Int → Int → Hp → Prop) → Prop} {σ : St} {H : Hp} {Q : VK} (h : te σ H fun a b H1 => RgOk a b ∧ ∀ q, H1 q = none → Q (.ref q) (upd H1 q (.lst (rgV a b)))) : tLstRg te σ H Q := h
theorem rd_rg1 {ta : TE} {σ : St} {H : Hp} {Q : Int → Int → Hp → Prop} (h : ta σ H fun x H1 => ∃ n, x = .int n ∧ Q 0 n H1) : tRg1 ta σ H Q := h
theorem rd_for {wi : TI} {g : TG} {tb : TS} {D : Ends} {σ : St} {H : Hp} (h : wi σ H fun J H1 => ∃ Wf : Nat → Nat → St → Hp → Prop, (∃ left, Wf 0 left σ H1) ∧ ∀ i left σ H, Wf i left σ H →
  (J.stop i H ∧ D.nx σ H) ∨ (J.go i H ∧ ∃ Go : St → Hp → Prop, (∀ σ' H', Go σ' H' → ∃ left', left' < left ∧ Wf (i + 1) left' σ' H') ∧ ∀ x H', J.yld i H x H' → g x σ H' fun σ2 H2 => tb { D with nx := Go, ct := Go, bk := D.nx } σ2 H2)) : tFor wi g tb D σ H := h
theorem rd_rng1 {ta : TA} {σ : St} {H : Hp} {R : It → Hp → Prop} (h : ta σ H fun vs H1 => ∃ j : Int, vs = [.int j] ∧ -(2 ^ 62) ≤ j ∧ j < 2 ^ 62 ∧ R (Itr 0 j.toNat) H1) : iRng1 ta σ H R := h
theorem rd_ilist {K : PySem.W.Frag} {tl : TE} {σ : St} {H : Hp} {R : It → Hp → Prop} (h : tl σ H fun x H1 => ∃ a, x = .ref a ∧ (∃ xs, SqL K H1 a xs) ∧ R (Itl K a) H1) : iList K tl σ H R := h
theorem rd_itup {K : PySem.W.Frag} {tl : TE} {σ : St} {H : Hp} {R : It → Hp → Prop} (h : tl σ H fun x H1 => ∃ a, x = .ref a ∧ (∃ xs, SqT K H1 a xs) ∧ R (Itt K a) H1) : iTup K tl σ H R := h
theorem rd_istr {te : TE} {σ : St} {H : Hp} {R : It → Hp → Prop} (h : te σ H fun v H1 => ∃ x, v = .str x ∧ R (Its x) H1) : iStr te σ H R := h
theorem rd_m1 {r : V → List V → Hp → VK → Prop} {to te : TE} {σ : St} {H : Hp} {Q : VK} (h : to σ H fun x H1 => (∃ a, x = .str a) ∧ te σ H1 fun y H2 => r x [y] H2 Q) : tM1 r to te σ H Q := h
theorem rd_dput {td ty tv : TE} {D : Ends} {σ : St} {H : Hp} (h : tv σ H fun v H1 => td σ H1 fun x H2 => ty σ H2 fun y H3 => ∃ a H4, x = .ref a ∧ DPut H3 a y v H4 ∧ D.nx σ H4) : sDPut td ty tv D σ H := h
theorem rd_lc {wi : TI} {g : TG} {tt : TT} {te : TE} {vs : List Nat} {σ : St} {H : Hp} {Q : VK} (h : wi σ H fun J H1 => ∀ D, H1 D = none → ∃ Wf : Nat → Nat → Hp → Prop, (∃ left, Wf 0 left (upd H1 D (.lst []))) ∧ ∀ i left H, Wf i left H →
  (J.stop i H ∧ Q (.ref D) H) ∨ (J.go i H ∧ ∃ Go : Hp → Prop, (∀ H', Go H' → ∃ left', left' < left ∧ Wf (i + 1) left' H') ∧ ∀ x H', J.yld i H x H' → g x (wipe σ vs) H' fun σ2 H2 => wipe σ2 vs = wipe σ vs ∧ tt σ2 H2 fun b H3 =>
    if b = true then te σ2 H3 fun y H4 => ∃ sofar, H4 D = some (.lst sofar) ∧ sofar.length < sizeLine ∧ Go (upd H4 D (.lst (sofar ++ [y]))) else Go H3)) : tLc wi g tt te vs σ H Q := h
theorem rd_yes {σ : St} {H : Hp} {Q : Bool → Hp → Prop} (h : Q true H) : tYes σ H Q := h
theorem rd_iteT {A B : Prop} (h : A) : if true = true then A else B := iteT h
theorem rd_strE {z : Str} : ∃ a, V.str z = .str a := ⟨z, rfl⟩
theorem for_it2 {J : It} {n : Nat} {G : Hp → Prop} {Y : Nat → Hp → V → Hp → Prop} (w : Walk J n G Y) {g : TG} {tb : TS} {nx : St → Hp → Prop} {rt : VK} {σ : St} {H : Hp} (Pv : Nat → St → Hp → Prop) (h0 : Pv 0 σ H) (hG : ∀ i σ H, i ≤ n → Pv i σ H → G H)
    (hs : ∀ i x σ H H', i < n → Pv i σ H → Y i H x H' → g x σ H' fun σ2 H2 => tb { nx := Pv (i + 1), rt := rt, bk := nx, ct := Pv (i + 1) } σ2 H2) (hd : ∀ σ H, Pv n σ H → nx σ H) :
    ∃ W : Nat → Nat → St → Hp → Prop, (∃ m, W 0 m σ H) ∧ ∀ i m σ H, W i m σ H → (J.stop i H ∧ nx σ H) ∨ (J.go i H ∧ ∃ N : St → Hp → Prop, (∀ σ' H', N σ' H' → ∃ m', m' < m ∧ W (i + 1) m' σ' H') ∧ ∀ x H', J.yld i H x H' → g x σ H' fun σ2 H2 => tb { nx := N, rt := rt, bk := nx, ct := N } σ2 H2) :=
  for_it (D := { nx := nx, rt := rt }) w Pv h0 hG hs hd
theorem rd_andV {ta tb : TE} {σ : St} {H : Hp} {Q : VK} (h : ta σ H fun x H1 => ∃ c, x = .bl c ∧ if c = true then tb σ H1 Q else Q (.bl false) H1) : tAndV ta tb σ H Q := h
theorem rd_orV {ta tb : TE} {σ : St} {H : Hp} {Q : VK} (h : ta σ H fun x H1 => ∃ c, x = .bl c ∧ if c = true then Q (.bl true) H1 else tb σ H1 Q) : tOrV ta tb σ H Q := h
theorem rd_notV {ta : TE} {σ : St} {H : Hp} {Q : VK} (h : ta σ H fun x H1 => ∃ c, x = .bl c ∧ Q (.bl (!c)) H1) : tNotV ta σ H Q := h
theorem rd_not {t : TT} {σ : St} {H : Hp} {Q : Bool → Hp → Prop} (h : t σ H fun c H1 => Q (!c) H1) : tNot t σ H Q := h
theorem rd_and {t u : TT} {σ : St} {H : Hp} {Q : Bool → Hp → Prop} (h : t σ H fun c H1 => if c = true then u σ H1 Q else Q false H1) : tAnd t u σ H Q := h
theorem rd_or {t u : TT} {σ : St} {H : Hp} {Q : Bool → Hp → Prop} (h : t σ H fun c H1 => if c = true then Q true H1 else u σ H1 Q) : tOr t u σ H Q := h
theorem rd_chain {r r' : R2} {ta tb tc : TE} {σ : St} {H : Hp} {Q : VK} (h : ta σ H fun x H1 => tb σ H1 fun y H2 => r x y H2 fun z H3 => ∃ k, z = .bl k ∧ (if k = true then tc σ H3 fun w' H4 => r' y w' H4 Q else Q (.bl false) H3)) : tChain r r' ta tb tc σ H Q := h
theorem rd_retN {D : Ends} {σ : St} {H : Hp} (h : D.rt .non H) : tRetN D σ H := h
theorem rd_isi {K : PySem.W.Frag} {x : V} {t T : String} {b : Bool} {H : Hp} {Q : VK} (h : TyX K H x (.type t)) (hk : kitB t T = some b) (q : Q (.bl b) H) : rIsi K [x, .ty T] H Q := ⟨x, .ty T, .type t, .type T, b, rfl, .ty T, h, kit_ty hk, q⟩
theorem kit_ss : kitB "str" "str" = some true := by decide +kernel
theorem kit_tt : kitB "tuple" "tuple" = some true := by decide +kernel
theorem kit_dd : kitB "dict" "dict" = some true := by decide +kernel
theorem kit_ii : kitB "int" "int" = some true := by decide +kernel
theorem kit_bi : kitB "bool" "int" = some true := by decide +kernel
theorem kit_bb : kitB "bool" "bool" = some true := by decide +kernel
theorem kit_ib : kitB "int" "bool" = some false := by decide +kernel
theorem kit_st : kitB "str" "tuple" = some false := by decide +kernel
theorem kit_ni : kitB "NoneType" "int" = some false := by decide +kernel
theorem kit_si : kitB "str" "int" = some false := by decide +kernel
theorem rd_iteF {A B : Prop} (h : B) : if false = true then A else B := iteF h
def rLen (K : PySem.W.Frag) : List V → Hp → VK → Prop := fun xs H Q => ∃ x n, xs = [x] ∧ LenV K x H n ∧ Q (.int (n : Nat)) H
theorem call_lenK {X : Cx} : CallR X (.builtin "len") (rLen X.K) := call_len
theorem rd_rlen {K : PySem.W.Frag} {x : V} {n : Nat} {H : Hp} {Q : VK} (h : LenV K x H n) (q : Q (.int (n : Nat)) H) : rLen K [x] H Q := ⟨x, n, rfl, h, q⟩
theorem rd_din {ty td : TE} {σ : St} {H : Hp} {Q : VK} (h : ty σ H fun y H1 => td σ H1 fun x H2 => ∃ a o, x = .ref a ∧ DGet H2 a y o ∧ Q (.bl o.isSome) H2) : tDIn ty td σ H Q := h
theorem rd_dgt {ty td : TE} {σ : St} {H : Hp} {Q : VK} (h : td σ H fun x H1 => ty σ H1 fun y H2 => ∃ a v, x = .ref a ∧ DGet H2 a y (some v) ∧ Q v H2) : tDGet td ty σ H Q := h
theorem rd_fldS {K : PySem.W.Frag} {ta tv : TE} {f : Str} {D : Ends} {σ : St} {H : Hp} (h : tv σ H fun y H1 => ta σ H1 fun x H2 => ∃ a C dx fs, x = .ref a ∧ H2 a = some (.ins C dx fs) ∧ Cls K C ∧ NoAttr K C f ∧ fs.length < 1000 ∧ D.nx σ (upd H2 a (.ins C dx (putF f y fs)))) : sFld K ta tv f D σ H := h
theorem rd_fld {K : PySem.W.Frag} {ta : TE} {f : Str} {σ : St} {H : Hp} {Q : VK} (h : ta σ H fun x H1 => ∃ a C dx fs v, x = .ref a ∧ H1 a = some (.ins C dx fs) ∧ Cls K C ∧ NoAttr K C f ∧ fs.lookup f = some v ∧ Q v H1) : tFld K ta f σ H Q := h
theorem rd_mko {C : Addr} {sp : Sp} {dvs : List V} {ta : TA} {σ : St} {H : Hp} {Q : XK} (h : ta σ H fun vs H1 => vs.length ≤ 1000 ∧ ∀ a, H1 a = none → sp (.ref a :: (vs ++ dvs)) (upd H1 a (exo a C none))
  (fun v H2 => v = .non ∧ ∃ (d : Addr) (fs : List (Str × V)), H2 a = some (exo a C (some d)) ∧ H2 d = some (exd d fs) ∧ H1 d = none ∧ Q (.ref C) (some d) (upd (del H2 a) d (.xd fs))) (fun _ _ _ => False)) : tMkO C sp dvs ta σ H Q := h
theorem rd_dc {wi : TI} {g : TG} {tt : TT} {tk tv : TE} {vs : List Nat} {σ : St} {H : Hp} {Q : VK} (h : wi σ H fun J H1 => ∀ D, H1 D = none → ∃ Wf : Nat → Nat → Hp → Prop, (∃ left, Wf 0 left (upd H1 D (.dK []))) ∧ ∀ i left H, Wf i left H →
  (J.stop i H ∧ Q (.ref D) H) ∨ (J.go i H ∧ ∃ Go : Hp → Prop, (∀ H', Go H' → ∃ left', left' < left ∧ Wf (i + 1) left' H') ∧ ∀ x H', J.yld i H x H' → g x (wipe σ vs) H' fun σ2 H2 => wipe σ2 vs = wipe σ vs ∧ tt σ2 H2 fun b H3 =>
    if b = true then tk σ2 H3 fun y H4 => tv σ2 H4 fun z H5 => ∃ pairs k, y = kV k ∧ H5 D = some (.dK pairs) ∧ pairs.length < sizeLine ∧ Go (upd H5 D (.dK (putK pairs k z))) else Go H3)) : tDc wi g tt tk tv vs σ H Q := h
/-- the script: a thing known, or of the written part -/
def Scr (K : PySem.W.Frag) (H : Hp) (a : Addr) (xs : List V) : Prop := (∃ o, H a = some (.frz o (.lst xs))) ∨
  ∃ (ob : Obj) (us : Array Value) (k : Nat), K.lookup a = some ob ∧ ob.cls = .type "list" ∧ ob.dict = none ∧ ob.data = .seq us k ∧ us.size ≤ sizeLine ∧ Vals xs us.toList
theorem Scr.sql {K : PySem.W.Frag} {H : Hp} {a : Addr} {xs : List V} (h : Scr K H a xs) : SqL K H a xs := by
  rcases h with ⟨o, h⟩ | h
  · exact .inl (.inr ⟨o, h⟩)
  · exact .inr h
theorem Scr.but {K : PySem.W.Frag} {H : Hp} {a l : Addr} {xs : List V} {o : HO} (h : Scr K H a xs) (n : ∀ u v, H l ≠ some (.frz u v)) : Scr K (upd H l o) a xs := by
  rcases h with ⟨u, h⟩ | h
  · refine .inl ⟨u, (upd_ne fun e => ?_).trans h⟩
    subst e
    exact n _ _ h
  · exact .inr h
theorem Scr.lst {K : PySem.W.Frag} {H : Hp} {a l : Addr} {xs ys : List V} {o : HO} (h : Scr K H a xs) (n : H l = some (.lst ys)) : Scr K (upd H l o) a xs := h.but fun u v e => by
  rw [n] at e
  cases e
theorem Scr.dct {K : PySem.W.Frag} {H : Hp} {a l : Addr} {xs : List V} {ys : List (Key × V)} {o : HO} (h : Scr K H a xs) (n : H l = some (.dK ys)) : Scr K (upd H l o) a xs := h.but fun u v e => by
  rw [n] at e
  cases e
theorem Scr.new {K : PySem.W.Frag} {H : Hp} {a l : Addr} {xs : List V} {o : HO} (h : Scr K H a xs) (n : H l = none) : Scr K (upd H l o) a xs := h.but fun u v e => by
  rw [n] at e
  cases e
theorem SqL.new {K : PySem.W.Frag} {H : Hp} {a l : Addr} {xs : List V} {o : HO} (h : SqL K H a xs) (n : H l = none) : SqL K (upd H l o) a xs := by
  rcases h with (h | ⟨u, h⟩) | h
  · exact .inl (.inl ((upd_ne (ne_of_none h n)).trans h))
  · exact .inl (.inr ⟨u, (upd_ne (ne_of_none h n)).trans h⟩)
  · exact .inr h
theorem SqT.new {K : PySem.W.Frag} {H : Hp} {a l : Addr} {xs : List V} {o : HO} (h : SqT K H a xs) (n : H l = none) : SqT K (upd H l o) a xs := by
  rcases h with (h | ⟨u, h⟩) | h
  · exact .inl (.inl ((upd_ne (ne_of_none h n)).trans h))
  · exact .inl (.inr ⟨u, (upd_ne (ne_of_none h n)).trans h⟩)
  · exact .inr h
/-! readings -/
local macro_rules | `(tactic| wtm_at "Lhp") => `(tactic| with_reducible first
  | assumption
  | exact upd_same
  | (refine Eq.trans (upd_ne ?n) ?r; (case n => wtm_at "Lne"); (case r => wtm_at "Lhp")))
local macro_rules | `(tactic| wtm_at "Lne") => `(tactic| with_reducible first
  | assumption
  | exact ne_of_none (by assumption) (by assumption)
  | exact Ne.symm (ne_of_none (by assumption) (by assumption))
  | exact Ne.symm (by assumption))
local macro_rules | `(tactic| wtm_at "Lscr") => `(tactic| with_reducible first
  | assumption
  | (refine' Scr.lst ?h ?n; (case n => wtm_at "Lhp"); (case h => wtm_at "Lscr"))
  | (refine' Scr.new ?h ?n; (case n => assumption); (case h => wtm_at "Lscr")))
local macro_rules | `(tactic| wtm_at "Lsql") => `(tactic| with_reducible first
  | assumption
  | (refine' Scr.sql ?h; (case h => wtm_at "Lscr"))
  | (refine' SqL.new ?h ?n; (case n => assumption); (case h => wtm_at "Lsql"))
  | (refine' SqL.but ?h ?n; (case n => wtm_at "Lne"); (case h => wtm_at "Lsql"))
  | exact SqL.of (by wtm_at "Lhp"))
local macro_rules | `(tactic| wtm_at "Lsqt") => `(tactic| with_reducible first
  | assumption
  | (refine' SqT.new ?h ?n; (case n => assumption); (case h => wtm_at "Lsqt"))
  | (refine' SqT.but ?h ?n; (case n => wtm_at "Lne"); (case h => wtm_at "Lsqt"))
  | exact SqT.of (by wtm_at "Lhp"))
local macro_rules | `(tactic| wtm_at "Lar") => `(tactic| first
  | assumption | (show (0 : Int) < _; first | omega | decide) | (show CDiv _ _; exact ⟨by omega, by omega⟩) | (show CMul _ _; first | exact Or.inl ⟨by omega, by omega⟩ | exact Or.inr ⟨by omega, by omega⟩) | (show CPow _ _; exact ⟨by omega, by omega, by decide⟩))
local macro_rules | `(tactic| wtm_at "Lr1") => `(tactic| with_reducible first
  | refine rd_seq ?_ | refine rd_asg ?_ | refine rd_gName ?_ | refine rd_c ?_ | refine rd_op ?_ | refine rd_un ?_ | refine rd_I0 ?_ | refine rd_U ?_ | refine rd_test ?_ | refine rd_tB ?_ | refine rd_ifS ?_ | refine rd_ifE ?_ | refine rd_ret ?_ | refine rd_drop ?_ | refine rd_next ?_ | refine rd_nil ?_ | refine rd_cons ?_ | refine rd_cb ?_ | refine rd_call ?_ | refine rd_gSub ?_ | refine rd_lst ?_ | refine rd_tup ?_ | refine rd_par ?_ | refine rd_bm ?_ | refine rd_bm0 ?_ | refine rd_sl ?_ | refine rd_noPart ?_ | refine rd_part ?_ | refine rd_dnew ?_ | refine rd_lstRg ?_ | refine rd_rg1 ?_ | refine rd_for ?_ | refine rd_rng1 ?_ | refine rd_ilist ?_ | refine rd_itup ?_ | refine rd_istr ?_ | refine rd_m1 ?_ | refine rd_dput ?_ | refine rd_lc ?_ | refine rd_yes ?_ | refine rd_iteT ?_ | refine rd_iteF ?_ | refine And.intro rd_strE ?_ | refine rd_andV ?_ | refine rd_orV ?_ | refine rd_notV ?_ | refine rd_not ?_ | refine rd_and ?_ | refine rd_or ?_ | refine rd_chain ?_ | refine rd_retN ?_ | refine rd_din ?_ | refine rd_dgt ?_ | refine rd_fldS ?_ | refine rd_fld ?_ | refine rd_mko ?_ | refine rd_dc ?_
  | (refine' rd_var ?e ?_; (case e => with_unfolding_all rfl))
  | (refine' rd_eq ?e ?_; (case e => with_unfolding_all rfl)) | (refine' rd_ne ?e ?_; (case e => with_unfolding_all rfl))
  | (refine' rd_I ?c ?_; (case c => with_unfolding_all wtm_at "Lar"))
  | (refine' rd_ixL ?s ?v ?_; (case s => wtm_at "Lsql"); (case v => first | assumption | with_unfolding_all rfl))
  | (refine' rd_ixT ?s ?v ?_; (case s => wtm_at "Lsqt"); (case v => first | assumption | with_unfolding_all rfl))
  | (refine' rd_setL ?s ?v ?_; (case s => wtm_at "Lhp"); (case v => first | assumption | with_unfolding_all rfl))
  | (refine Exists.intro _ (And.intro (Eq.refl (V.bl _)) ?_))
  | (refine' rd_isi ?t ?k ?_; (case t => wtm_at "Ltyx"); (case k => first | exact kit_ss | exact kit_tt | exact kit_dd | exact kit_ii | exact kit_bi | exact kit_bb | exact kit_ib | exact kit_st | exact kit_ni | exact kit_si))
  | (refine' rd_rlen ?s ?_; (case s => wtm_at "Llen"))
  | (refine' rd_slL ?s ?_; (case s => wtm_at "Lsql"))
  | (refine Exists.intro _ (And.intro (Eq.refl (V.int _)) ?_)) | (refine Exists.intro _ (And.intro (Eq.refl (V.ref _)) ?_)) | (refine Exists.intro _ (And.intro (Eq.refl (V.str _)) ?_))
  | (refine Exists.intro _ (And.intro (Eq.refl [V.int _]) ?_))
  | (refine' And.intro (Exists.intro _ ?s) ?_; (case s => first | wtm_at "Lsql" | wtm_at "Lsqt"))
  | (refine Or.inl (Exists.intro _ (And.intro (Eq.refl [V.int _]) ?_)))
  | (refine' Exists.intro _ (Exists.intro _ (And.intro (Eq.refl [_]) (And.intro ?s ?_))); (case s => wtm_at "Llen"))
  | (refine And.intro (small_len (by with_unfolding_all simp)) ?_)
  | (refine' And.intro ?s ?_; (case s => wtm_at "Lty"))
  | (refine Exists.intro _ (Exists.intro _ (And.intro (Eq.refl [_, _]) ?_)))
  | dsimp only)
local macro_rules | `(tactic| wtm_at "Ltyx") => `(tactic| with_reducible first | exact .base (.str _) | exact .base (.int _) | exact .base (.bl _) | exact .base .non | exact .base (.tup (by wtm_at "Lhp")) | exact .base (.dK (by wtm_at "Lhp")))
local macro_rules | `(tactic| wtm_at "Lty") => `(tactic| with_reducible first | (refine' tyL ?h; (case h => wtm_at "Lsql")) | (refine' tyD ?h; (case h => wtm_at "Lhp")) | exact tyS)
local macro_rules | `(tactic| wtm_at "Llen") => `(tactic| with_reducible first | (refine' lenL ?h; (case h => wtm_at "Lsql")) | (refine' lenT ?h; (case h => wtm_at "Lsqt")) | (refine' lenS ?h; (case h => assumption)))
local macro_rules | `(tactic| wtm_at "Lrd") => `(tactic| repeat (wtm_at "Lr1"))
/-! ## the drawing -/
abbrev stTaken : Stmt := top 32
theorem scTaken : FnScope ["_law_row", "_law_many", "_law_found", "_law_cell"] ["_law_row", "_law_many"] (C8.fnScope stTaken) := ⟨rfl, rfl, rfl, by decide +kernel, rfl, by decide +kernel, by decide +kernel⟩
/-- the row of a law: the script, how many were taken, the seed, what is left of a great number -/
def rowO (a : Addr) (i s t : Int) : HO := .lst [.ref a, .int i, .int s, .int t]
/-- all but p stays -/
def Sb (p : Addr) (H H' : Hp) : Prop := ∀ b o, b ≠ p → H b = some o → H' b = some o
structure Row (K : PySem.W.Frag) (H : Hp) (p a : Addr) (ns : List Int) : Prop where
  sc : Scr K H a (ns.map V.int)
  small : ns.length ≤ 63
  at_ : ∃ i s t : Int, 0 ≤ i ∧ H p = some (rowO a i s t)
def spTaken (K : PySem.W.Frag) : Sp := fun vs H Q _ => ∃ (p a : Addr) (ns : List Int) (m : Int), vs = [.ref p, .int m] ∧ Row K H p a ns ∧ 0 < m ∧ m < 1000 ∧
  ∀ (r : Int) (H' : Hp), 0 ≤ r → r < m → Row K H' p a ns → Sb p H H' → Q (.int r) H'
section
variable {P : Program} {w : World} {K : PySem.W.Frag} {mg : Str → Option Value} {base : Heap}
theorem Sb.more {p : Addr} {H H1 : Hp} {o : HO} (h : Sb p H H1) : Sb p H (L2.upd H1 p o) := fun _ _ n e => (upd_ne n).trans (h _ _ n e)
theorem Sb.upd {p : Addr} {H : Hp} {o : HO} : Sb p H (upd H p o) := fun _ _ n h => (upd_ne n).trans h
theorem cal_taken {f : Addr} {fd : FuncData} (F : Def K mg "_law_taken" stTaken f fd) (b : Binds K fd ["_law_row", "_law_many"] []) (n_int : mg "int" = none) (n_len : mg "len" = none) : Cal P w K mg base 1 "_law_taken" (spTaken K) [] := by
  refine C8.cal0 F b .nil scTaken (fun vs H Q E h => ?_) (fun cdv A outer s H vs Q E hr h => ?_)
  · obtain ⟨p, a, ns, m, rfl, _⟩ := h
    rfl
  · obtain ⟨p, a, ns, m, rfl, R, m0, m1, k⟩ := h
    have nd := scTaken.nd
    refine ⟨_, (pss_cons (ps_if (pt_cmpR op_gt (pe_ix (r := rIx K) ix_seq (pv 0) pe_int (fun _ _ => rfl)) pe_int (nomark _)) (pss_cons (ps_set (i := 2) nd rfl (Or.inl rfl) (pe_op op_mod (pe_callTy call_int1 rfl n_int (by decide +kernel) (pa_cons (pe_ix (r := rIx K) ix_seq (pv 0) pe_int (fun _ _ => rfl)) pa_nil)) (pv 1)))
      (pss_cons (ps_asg (pe_op op_fdiv (pe_ix (r := rIx K) ix_seq (pv 0) pe_int (fun _ _ => rfl)) (pv 1)) (pg_sub (pv 0) pe_int set_list))
      (pss_cons (ps_ret (pv 2))
      pss_nil))) pss_nil)
      (pss_cons (ps_asg (pe_op op_add (pe_ix (r := rIx K) ix_seq (pv 0) pe_int (fun _ _ => rfl)) pe_int) (pg_sub (pv 0) pe_int set_list))
      (pss_cons (ps_if (pt_cmpR op_gt (pe_ix (r := rIx K) ix_seq (pv 0) pe_int (fun _ _ => rfl)) (pe_callB (r := rLen K) call_lenK rfl n_len (by decide +kernel) (pa_cons (pe_ix (r := rIx K) ix_seq (pv 0) pe_int (fun _ _ => rfl)) pa_nil)) (nomark _)) (pss_cons (ps_asg (pe_op op_mod (pe_callTy call_int1 rfl n_int (by decide +kernel) (pa_cons (pe_op op_add (pe_op op_mul (pe_ix (r := rIx K) ix_seq (pv 0) pe_int (fun _ _ => rfl)) pe_int) pe_int) pa_nil)) pe_int) (pg_sub (pv 0) pe_int set_list))
      (pss_cons (ps_ret (pe_op op_mod (pe_callTy call_int1 rfl n_int (by decide +kernel) (pa_cons (pe_op op_fdiv (pe_ix (r := rIx K) ix_seq (pv 0) pe_int (fun _ _ => rfl)) pe_int) pa_nil)) (pv 1)))
      pss_nil)) pss_nil)
      (pss_cons (ps_set (i := 3) nd rfl (Or.inl rfl) (pe_ix (r := rIx K) ix_seq (pe_ix (r := rIx K) ix_seq (pv 0) pe_int (fun _ _ => rfl)) (pe_op op_sub (pe_ix (r := rIx K) ix_seq (pv 0) pe_int (fun _ _ => rfl)) pe_int) (fun _ _ => rfl)))
      (pss_cons (ps_asg (pe_op op_mod (pe_callTy call_int1 rfl n_int (by decide +kernel) (pa_cons (pe_op op_add (pe_op op_add (pe_op op_mul (pe_ix (r := rIx K) ix_seq (pv 0) pe_int (fun _ _ => rfl)) pe_int) (pv 3)) pe_int) pa_nil)) pe_int) (pg_sub (pv 0) pe_int set_list))
      (pss_cons (ps_asg (pe_ifExp (pt_cmpR op_ge (pv 3) (pe_op op_pow pe_int pe_int) (nomark _)) (pe_op op_fdiv (pv 3) (pv 1)) pe_int) (pg_sub (pv 0) pe_int set_list))
      (pss_cons (ps_ret (pe_op op_mod (pe_callTy call_int1 rfl n_int (by decide +kernel) (pa_cons (pv 3) pa_nil)) (pv 1)))
      pss_nil))))))), ?_⟩
    obtain ⟨i, s0, t, i0, hp⟩ := id R.at_
    have hL : H p = some (.lst [.ref a, .int i, .int s0, .int t]) := hp
    have hS := R.sc
    try dsimp only [cxOf]
    wtm_at "Lrd"
    refine ite2 (fun c => ?_) (fun c => ?_)
    · wtm_at "Lrd"
      exact k _ _ (Int.emod_nonneg _ (by omega)) (Int.emod_lt_of_pos _ m0) ⟨Scr.lst hS hL, R.small, i, s0, t / m, i0, upd_same⟩ Sb.upd
    · wtm_at "Lrd"
      refine ite2 (fun c2 => ?_) (fun c2 => ?_)
      · wtm_at "Lrd"
        exact k _ _ (Int.emod_nonneg _ (by omega)) (Int.emod_lt_of_pos _ m0) ⟨by wtm_at "Lscr", R.small, i + 1, _, t, by omega, upd_same⟩ (Sb.more Sb.upd)
      · have c3 : ¬ ((List.map V.int ns).length : Int) < i + 1 := fun z => c2 (decide_eq_true z)
        rw [List.length_map] at c3
        obtain ⟨n, hn⟩ : ∃ n : Nat, i = (n : Int) := ⟨i.toNat, by omega⟩
        subst hn
        have hn : n < ns.length := by omega
        have hv : atI (ns.map V.int) ((n : Int) + 1 - 1) = some (.int ns[n]) := by
          rw [show (n : Int) + 1 - 1 = (n : Int) by omega]
          exact atI_nat (by rw [List.getElem?_map, List.getElem?_eq_getElem hn]; rfl)
        wtm_at "Lrd"
        refine ite2 (fun c4 => ?_) (fun c4 => ?_)
        · wtm_at "Lrd"
          exact k _ _ (Int.emod_nonneg _ (by omega)) (Int.emod_lt_of_pos _ m0) ⟨by wtm_at "Lscr", R.small, (n : Int) + 1, _, _, by omega, upd_same⟩ (Sb.more (Sb.more Sb.upd))
        · wtm_at "Lrd"
          exact k _ _ (Int.emod_nonneg _ (by omega)) (Int.emod_lt_of_pos _ m0) ⟨by wtm_at "Lscr", R.small, (n : Int) + 1, _, _, by omega, upd_same⟩ (Sb.more (Sb.more Sb.upd))
end
/-! ## picking and mixing -/
section
variable {P : Program} {w : World} {K : PySem.W.Frag} {mg : Str → Option Value} {base : Heap}
theorem Sb.refl {p : Addr} {H : Hp} : Sb p H H := fun _ _ _ h => h
theorem Sb.trans {p : Addr} {H H1 H2 : Hp} (a : Sb p H H1) (b : Sb p H1 H2) : Sb p H H2 := fun c o n h => b c o n (a c o n h)
theorem Sb.new {p l : Addr} {H H1 : Hp} {o : HO} (h : Sb p H H1) (n : H l = none) : Sb p H (L2.upd H1 l o) := fun b u q e => (upd_ne (ne_of_none e n)).trans (h b u q e)
theorem Sb.free {p l : Addr} {H H1 : Hp} (h : Sb p H H1) (np : l ≠ p) (n : H1 l = none) : H l = none := by
  cases q : H l with
  | none => rfl
  | some o =>
    have z := h l o np q
    rw [n] at z
    cases z
theorem Sb.sql {p a : Addr} {H H1 : Hp} {xs : List V} (h : Sb p H H1) (n : a ≠ p) (s : SqL K H a xs) : SqL K H1 a xs := by
  rcases s with (s | ⟨u, s⟩) | s
  · exact .inl (.inl (h _ _ n s))
  · exact .inl (.inr ⟨u, h _ _ n s⟩)
  · exact .inr s
theorem Sb.sqt {p a : Addr} {H H1 : Hp} {xs : List V} (h : Sb p H H1) (n : a ≠ p) (s : SqT K H a xs) : SqT K H1 a xs := by
  rcases s with (s | ⟨u, s⟩) | s
  · exact .inl (.inl (h _ _ n s))
  · exact .inl (.inr ⟨u, h _ _ n s⟩)
  · exact .inr s
theorem Row.there {H : Hp} {p a : Addr} {ns : List Int} (R : Row K H p a ns) {l : Addr} (n : H l = none) : l ≠ p := fun e => by
  obtain ⟨_, _, _, _, q⟩ := R.at_
  rw [e, q] at n
  cases n
theorem Row.new {H : Hp} {p a l : Addr} {ns : List Int} {o : HO} (R : Row K H p a ns) (n : H l = none) : Row K (L2.upd H l o) p a ns := by
  obtain ⟨i, s, t, i0, q⟩ := R.at_
  exact ⟨Scr.new R.sc n, R.small, i, s, t, i0, (upd_ne (R.there n).symm).trans q⟩
theorem Row.lst {H : Hp} {p a l : Addr} {ns : List Int} {xs : List V} {o : HO} (R : Row K H p a ns) (n : H l = some (.lst xs)) (np : l ≠ p) : Row K (L2.upd H l o) p a ns := by
  obtain ⟨i, s, t, i0, q⟩ := R.at_
  exact ⟨Scr.lst R.sc n, R.small, i, s, t, i0, (upd_ne np.symm).trans q⟩
theorem Row.dct {H : Hp} {p a l : Addr} {ns : List Int} {xs : List (Key × V)} {o : HO} (R : Row K H p a ns) (n : H l = some (.dK xs)) : Row K (L2.upd H l o) p a ns := by
  obtain ⟨i, s, t, i0, q⟩ := R.at_
  have np : l ≠ p := fun e => by
    rw [e, q] at n
    cases n
  exact ⟨Scr.dct R.sc n, R.small, i, s, t, i0, (upd_ne np.symm).trans q⟩
def spPick (K : PySem.W.Frag) : Sp := fun vs H Q _ => ∃ (p a l : Addr) (ns : List Int) (xs : List V), vs = [.ref p, .ref l] ∧ Row K H p a ns ∧ l ≠ p ∧ SqL K H l xs ∧ 0 < xs.length ∧ xs.length < 1000 ∧
  ∀ (v : V) (H' : Hp), v ∈ xs → Row K H' p a ns → Sb p H H' → Q v H'
abbrev stPick : Stmt := top 33
theorem scPick : FnScope ["_law_row", "_law_some"] ["_law_row", "_law_some"] (C8.fnScope stPick) := ⟨rfl, rfl, rfl, by decide +kernel, rfl, by decide +kernel, by decide +kernel⟩

theorem cal_pick {f : Addr} {fd : FuncData} (F : Def K mg "_law_pick" stPick f fd) (b : Binds K fd ["_law_row", "_law_some"] []) (n_len : mg "len" = none) (c__law_taken : Cal P w K mg base 1 "_law_taken" (spTaken K) []) : Cal P w K mg base 2 "_law_pick" (spPick K) [] := by
  refine C8.cal0 F b .nil scPick (fun vs H Q E h => ?_) (fun cdv A outer s H vs Q E hr h => ?_)
  · obtain ⟨p, a, l, ns, xs, rfl, _⟩ := h
    rfl
  · obtain ⟨p, a, l, ns, xs, rfl, R, nlp, hS, h0, h1, k⟩ := h
    have nd := scPick.nd
    refine ⟨_, (pss_cons (ps_ret (pe_ix (r := rIx K) ix_seq (pv 1) (pe_c c__law_taken hr (by decide) rfl (pa_cons (pv 0) (pa_cons (pe_callB (r := rLen K) call_lenK rfl n_len (by decide +kernel) (pa_cons (pv 1) pa_nil)) pa_nil))) (fun _ _ => rfl)))
      pss_nil), ?_⟩
    try dsimp only [cxOf]
    wtm_at "Lrd"
    refine ⟨p, a, ns, _, rfl, R, by omega, by omega, fun r H' r0 r1 R' sb => ?_⟩
    have hS' := sb.sql nlp hS
    obtain ⟨j, rfl⟩ : ∃ j : Nat, r = (j : Int) := ⟨r.toNat, by omega⟩
    have hj : j < xs.length := by omega
    have hv : atI xs (j : Int) = some xs[j] := atI_nat (List.getElem?_eq_getElem hj)
    wtm_at "Lrd"
    exact k _ _ (List.getElem_mem _) R' sb
end

/-- a value that == tells of by its data alone: an int or a text -/
def FlatOk (x : V) : Prop := (∃ i, x = .int i) ∨ ∃ z : Str, x = .str z ∧ PyData.strOk z = true
def dV : V → PyData
  | .int i => .int i
  | .str z => .str z
  | _ => .none
section
variable {P : Program} {w : World} {K : PySem.W.Frag} {mg : Str → Option Value} {base : Heap}
theorem dp_flat {H : Hp} : ∀ {xs : List V}, (∀ x ∈ xs, FlatOk x) → DpAll K H xs (xs.map dV)
  | [], _ => .nil
  | x :: xs, h => by
    refine .cons ?_ (dp_flat fun y hy => h y (List.mem_cons_of_mem _ hy))
    rcases h x List.mem_cons_self with ⟨i, rfl⟩ | ⟨z, rfl, _⟩
    · exact .int i
    · exact .str z
theorem lay_flat : ∀ {xs : List V}, (∀ x ∈ xs, FlatOk x) → PyData.canLayAll0 (xs.map dV) = true ∧ PyData.depthAll (xs.map dV) = 0
  | [], _ => ⟨rfl, rfl⟩
  | x :: xs, h => by
    obtain ⟨h1, h2⟩ := lay_flat fun y hy => h y (List.mem_cons_of_mem _ hy)
    rw [List.map_cons]
    unfold PyData.canLayAll0 PyData.depthAll
    rw [h1, h2]
    rcases h x List.mem_cons_self with ⟨i, rfl⟩ | ⟨z, rfl, hz⟩
    · exact ⟨rfl, rfl⟩
    · refine ⟨?_, rfl⟩
      show (PyData.canLay0 (.str z) && true) = true
      unfold PyData.canLay0
      rw [hz]
      rfl
theorem shaped_flat {xs : List V} (h : ∀ x ∈ xs, FlatOk x) : SeqAt.shaped (.list (xs.map dV)) = true := by
  obtain ⟨h1, h2⟩ := lay_flat h
  unfold SeqAt.shaped PyData.canLay0 PyData.depth
  rw [h1, h2]
  rfl
theorem eqv_nil : ∀ xs : List V, PyData.eqv (.list (xs.map dV)) (.list []) = xs.isEmpty
  | [] => rfl
  | x :: xs => rfl
theorem perm_erase {α : Type} : ∀ {l : List α} {j : Nat} (h : j < l.length), ([l[j]] ++ l.eraseIdx j).Perm l
  | [], _, h => absurd h (Nat.not_lt_zero _)
  | x :: r, 0, _ => List.Perm.refl _
  | x :: r, j + 1, h => by
    have hj : j < r.length := Nat.lt_of_succ_lt_succ h
    have ih := perm_erase (l := r) (j := j) hj
    show (r[j] :: x :: r.eraseIdx j).Perm (x :: r)
    exact (List.Perm.swap x r[j] _).trans (List.Perm.cons x ih)
theorem ne_new {H : Hp} {l f : Addr} {o : HO} (n : upd H l o f = none) : f ≠ l ∧ H f = none := by
  by_cases e : f = l
  · rw [e, upd_same] at n
    cases n
  · rw [upd_ne e] at n
    exact ⟨e, n⟩
def spMixed (K : PySem.W.Frag) : Sp := fun vs H Q _ => ∃ (p a l : Addr) (ns : List Int) (xs : List V), vs = [.ref p, .ref l] ∧ Row K H p a ns ∧ SqL K H l xs ∧ (∀ x ∈ xs, FlatOk x) ∧ xs.length < 100 ∧
  ∀ (r : Addr) (ys : List V) (H' : Hp), ys.Perm xs → H r = none → H' r = some (.lst ys) → Row K H' p a ns → Sb p H H' → Q (.ref r) H'
abbrev stMixed : Stmt := top 34
theorem scMixed : FnScope ["_law_row", "_law_things", "_law_left", "_law_found"] ["_law_row", "_law_things"] (C8.fnScope stMixed) := ⟨rfl, rfl, rfl, by decide +kernel, rfl, by decide +kernel, by decide +kernel⟩

theorem cal_mixed {f : Addr} {fd : FuncData} (F : Def K mg "_law_mixed" stMixed f fd) (b : Binds K fd ["_law_row", "_law_things"] []) (n_len : mg "len" = none) (n_list : mg "list" = none) (c__law_taken : Cal P w K mg base 1 "_law_taken" (spTaken K) []) : Cal P w K mg base 2 "_law_mixed" (spMixed K) [] := by
  refine C8.cal0 F b .nil scMixed (fun vs H Q E h => ?_) (fun cdv A outer s H vs Q E hr h => ?_)
  · obtain ⟨p, a, l, ns, xs, rfl, _⟩ := h
    rfl
  · obtain ⟨p, a, l, ns, xs, rfl, R, hS, hf, h1, k⟩ := h
    have nd := scMixed.nd
    refine ⟨_, (pss_cons (ps_par (i := 2) (j := 3) rfl nd rfl rfl (by decide) rfl rfl (pa_cons (pe_callTy call_list_of rfl n_list (by decide +kernel) (pa_cons (pv 1) pa_nil)) (pa_cons (pe_lst pa_nil) pa_nil)) rfl)
      (pss_cons (ps_while PassesOwn.never (pt_cmpR (op_neD hr.units) (pv 2) (pe_lst pa_nil) (nomark _)) (pss_cons (ps_expr (pe_bm PySem.F.plainAttrs_list PySem.F.slot_list_append PySem.F.type_list_append mt_append (pv 3) (pa_cons (pe_bm PySem.F.plainAttrs_list PySem.F.slot_list_pop PySem.F.type_list_pop mt_popAt (pv 2) (pa_cons (pe_c c__law_taken hr (by decide) rfl (pa_cons (pv 0) (pa_cons (pe_callB (r := rLen K) call_lenK rfl n_len (by decide +kernel) (pa_cons (pv 2) pa_nil)) pa_nil))) pa_nil)) pa_nil)))
      pss_nil))
      (pss_cons (ps_ret (pv 3))
      pss_nil))), ?_⟩
    try dsimp only [cxOf]
    wtm_at "Lrd"
    refine ⟨l, xs, rfl, Or.inl hS, fun l1 n1 => ?_⟩
    wtm_at "Lrd"
    intro f1 n2
    obtain ⟨n21, n2'⟩ := ne_new n2
    have nl1p : l1 ≠ p := R.there n1
    have nf1p : f1 ≠ p := R.there n2'
    wtm_at "Lrd"
    refine ⟨fun m σ H' => ∃ ls fs, σ = [some (.ref p), some (.ref l), some (.ref l1), some (.ref f1)] ∧ H' l1 = some (.lst ls) ∧ H' f1 = some (.lst fs) ∧ (fs ++ ls).Perm xs ∧ Row K H' p a ns ∧ Sb p H H' ∧ ls.length = m, ⟨_, xs, [], rfl, by wtm_at "Lhp", by wtm_at "Lhp", List.Perm.refl _, (R.new n1).new n2, (Sb.new (Sb.new Sb.refl n1) n2'), rfl⟩, ?_⟩
    rintro m σ H1 ⟨ls, fs, rfl, hl1, hf1, pm, R1, sb, rfl⟩
    wtm_at "Lrd"
    intro e1 n3
    have hfl : ∀ x ∈ ls, FlatOk x := fun x hx => hf x (pm.subset (List.mem_append_right _ hx))
    have hlen : fs.length + ls.length = xs.length := by
      rw [← List.length_append]
      exact pm.length_eq
    refine ⟨.list (ls.map dV), .list [], .lst (SqL.of (by wtm_at "Lhp")) (dp_flat hfl), .lst (SqL.of (by wtm_at "Lhp")) .nil, shaped_flat hfl, by decide +kernel, ?_⟩
    rw [eqv_nil]
    wtm_at "Lrd"
    have n3p : e1 ≠ p := R1.there n3
    have R2 : Row K (upd H1 e1 (.lst [])) p a ns := R1.new n3
    have sb2 : Sb p H (upd H1 e1 (.lst [])) := sb.new (sb.free n3p n3)
    have hl2 : (upd H1 e1 (.lst [])) l1 = some (.lst ls) := by wtm_at "Lhp"
    have hf2 : (upd H1 e1 (.lst [])) f1 = some (.lst fs) := by wtm_at "Lhp"
    generalize upd H1 e1 (.lst []) = H2 at R2 sb2 hl2 hf2 ⊢
    refine ite2 (fun c => ?_) (fun c => ?_)
    · have hne : ls ≠ [] := fun z => by
        rw [z] at c
        cases c
      have hpos : 0 < ls.length := List.length_pos_iff.mpr hne
      refine ⟨_, fun _ _ h => h, ?_⟩
      wtm_at "Lrd"
      refine ⟨p, a, ns, _, rfl, R2, by omega, by omega, fun r H3 r0 r1 R3 sb3 => ?_⟩
      have hl3 : H3 l1 = some (.lst ls) := sb3 _ _ nl1p hl2
      have hf3 : H3 f1 = some (.lst fs) := sb3 _ _ nf1p hf2
      obtain ⟨j, rfl⟩ : ∃ j : Nat, r = (j : Int) := ⟨r.toNat, by omega⟩
      have hj : j < ls.length := by omega
      wtm_at "Lrd"
      refine rd_popAt hl3 (List.getElem?_eq_getElem hj) (by omega) ?_
      wtm_at "Lrd"
      refine rd_append (xs := fs) (by wtm_at "Lhp") (by omega) ?_
      wtm_at "Lrd"
      refine ⟨(ls.eraseIdx j).length, by rw [List.length_eraseIdx_of_lt hj]; omega, ls.eraseIdx j, fs ++ [ls[j]], rfl, by wtm_at "Lhp", upd_same, ?_, ?_, ?_, rfl⟩
      · rw [List.append_assoc]
        refine List.Perm.trans (List.Perm.append_left _ ?_) pm
        exact perm_erase hj
      · exact (R3.lst hl3 nl1p).lst (xs := fs) (by wtm_at "Lhp") nf1p
      · exact (((sb2.trans sb3).new n1).new n2')
    · have hnil : ls = [] := by
        cases ls with
        | nil => rfl
        | cons x r => exact absurd rfl c
      subst hnil
      wtm_at "Lrd"
      rw [List.append_nil] at pm
      exact k f1 fs H2 pm n2' hf2 R2 sb2
end

/-! ## lists -/
open PyProof.Rows (sortedS risingS)
open PySem.Spec (ltCps)
theorem cut_take (xs : List V) (n : Nat) : cutV xs none (some (n : Int)) = xs.take n := by
  unfold cutV
  rw [HT.sIx_none, HT.sIx_nat, List.drop_zero, Nat.sub_zero]
  by_cases h : n ≤ xs.length
  · rw [Nat.min_eq_left h]
  · rw [Nat.min_eq_right (Nat.le_of_not_le h), List.take_length, List.take_of_length_le (Nat.le_of_not_le h)]
def getS : V → Str
  | .str x => x
  | _ => ⟨#[]⟩
def getI : V → Int
  | .int i => i
  | _ => 0
theorem map_back {α : Type} {f : α → V} {g : V → α} (e : ∀ x, g (f x) = x) {ys : List V} {zs : List α} (h : ys.Perm (zs.map f)) : ∃ ws : List α, ys = ws.map f ∧ ws.Perm zs := by
  refine ⟨ys.map g, ?_, ?_⟩
  · rw [List.map_map]
    refine (List.map_id' ys).symm.trans (List.map_congr_left fun y hy => ?_)
    obtain ⟨x, _, rfl⟩ := List.mem_map.mp (h.subset hy)
    show f x = f (g (f x))
    rw [e]
  · have q := h.map g
    rw [List.map_map] at q
    have q2 : zs.map (g ∘ f) = zs := (List.map_congr_left fun x _ => e x).trans (List.map_id' zs)
    rw [q2] at q
    exact q
theorem rep_flat (x : V) : ∀ n : Nat, (List.replicate n [x]).flatten = List.replicate n x
  | 0 => rfl
  | n + 1 => by
    rw [List.replicate_succ, List.flatten_cons, rep_flat x n, List.replicate_succ]
    rfl
theorem rg_ints (n : Nat) : rgV 0 (n : Int) = (List.range n).map fun (i : Nat) => V.int (i : Int) := by
  unfold rgV
  rw [Int.sub_zero, Int.toNat_natCast]
  refine List.map_congr_left fun i _ => ?_
  rw [Int.zero_add]
theorem join_signs : ∀ cs : List Nat, Txt.join (Str.ofString "") (cs.map fun c => (⟨#[c]⟩ : Str)) = ⟨cs.toArray⟩ := by
  have key : ∀ cs : List Nat, Str.join ⟨#[]⟩ (cs.map fun c => (⟨#[c]⟩ : Str)) = ⟨cs.toArray⟩ := by
    intro cs
    induction cs with
    | nil => rfl
    | cons c r ih =>
      cases r with
      | nil => rfl
      | cons d r =>
        show (⟨#[c]⟩ : Str) ++ ⟨#[]⟩ ++ Str.join ⟨#[]⟩ ((d :: r).map fun c => (⟨#[c]⟩ : Str)) = _
        rw [ih]
        show (⟨#[c] ++ #[] ++ (d :: r).toArray⟩ : Str) = _
        simp
  intro cs
  rw [TL.join_eq]
  have e : Str.ofString "" = (⟨#[]⟩ : Str) := by decide +kernel
  rw [e]
  exact key cs
/-- names in their order, of the pool -/
def pool : List Str := ["al", "anna", "anne", "bo", "bob", "eve"]
def Asc (l : List Str) : Prop := ∀ (i : Nat) (x y : Str), l[i]? = some x → l[i + 1]? = some y → x.cps.toList < y.cps.toList
theorem pool_lt : ∀ x ∈ pool, ∀ y ∈ pool, ltCps y.cps.toList x.cps.toList = false → x ≠ y → x.cps.toList < y.cps.toList := by
  decide +kernel
theorem rising_asc : ∀ (l : List Str) (p : Str), risingS p l = true → (p :: l).Nodup → (∀ x ∈ p :: l, x ∈ pool) → Asc (p :: l)
  | [], p, _, _, _ => by
    intro i x y _ h
    cases h
  | q :: l, p, h, nd, hm => by
    have h' : (!ltCps q.cps.toList p.cps.toList && risingS q l) = true := h
    rw [Bool.and_eq_true, Bool.not_eq_true'] at h'
    intro i x y hx hy
    cases i with
    | zero =>
      cases hx
      cases hy
      refine pool_lt _ (hm _ List.mem_cons_self) _ (hm _ (List.mem_cons_of_mem _ List.mem_cons_self)) h'.1 fun e => ?_
      rw [e] at nd
      exact (List.nodup_cons.mp nd).1 List.mem_cons_self
    | succ i => exact rising_asc l q h'.2 (List.nodup_cons.mp nd).2 (fun x hx => hm x (List.mem_cons_of_mem _ hx)) i x y hx hy
theorem sorted_asc {l : List Str} (h : sortedS l = true) (nd : l.Nodup) (hm : ∀ x ∈ l, x ∈ pool) : Asc l := by
  cases l with
  | nil =>
    intro i x y hx
    cases hx
  | cons p l => exact rising_asc l p h nd hm
theorem paired_len {α β : Type} {F : α → β → Prop} : ∀ {xs : List α} {ys : List β}, Paired F xs ys → xs.length = ys.length
  | _, _, .nil => rfl
  | _, _, .cons _ t => congrArg (· + 1) (paired_len t)
theorem paired_snoc {α β : Type} {F : α → β → Prop} : ∀ {xs : List α} {ys : List β} {x : α} {y : β}, Paired F xs ys → F x y → Paired F (xs ++ [x]) (ys ++ [y])
  | _, _, _, _, .nil, h => .cons h .nil
  | _, _, _, _, .cons r t, h => .cons r (paired_snoc t h)
theorem valV_notin {κ : Type} [DecidableEq κ] {k : κ} : ∀ {kvs : List (κ × V)}, k ∉ kvs.map (·.1) → valV kvs k = none
  | [], _ => rfl
  | p :: r, h => by
    rw [List.map_cons, List.mem_cons, not_or] at h
    rw [valV_neg (fun e => h.1 e.symm)]
    exact valV_notin h.2

/-! ## what the package asks of words, patterns, boxes -/
section
variable {P : Program} {w : World} {K : PySem.W.Frag} {mg : Str → Option Value} {base : Heap}
def okSigns (sg z : Str) : Bool := decide (1 ≤ z.length) && (decide (z.length ≤ 8) && z.cps.toList.all fun c => decide (c ∈ sg.cps.toList))
theorem same_new {H H1 : Hp} {l : Addr} {o : HO} (h : Same H H1) (n : H l = none) : Same H (L2.upd H1 l o) := fun b u e => (upd_ne (ne_of_none e n)).trans (h b u e)
def spConsists : Sp := fun vs H Q _ => ∃ (z sg : Str), vs = [.str z, .str sg] ∧ z.length ≤ sizeLine ∧ ∀ H', Same H H' → Q (.bl (okSigns sg z)) H'
abbrev stCons : Stmt := top 18
theorem scCons : FnScope ["text", "signs", "sign"] ["text", "signs"] (C8.fnScope stCons) := ⟨rfl, rfl, rfl, by decide +kernel, rfl, by decide +kernel, by decide +kernel⟩

theorem cal_consists {f : Addr} {fd : FuncData} (F : Def K mg "consists_of" stCons f fd) (b : Binds K fd ["text", "signs"] []) (n_len : mg "len" = none) (n_isinstance : mg "isinstance" = none) (n_str : mg "str" = none) (n_all : mg "all" = none) (g_LONGEST_WORD : ∃ u, mg "LONGEST_WORD" = some u ∧ RelV (.int 8) u) : Cal P w K mg base 1 "consists_of" spConsists [] := by
  refine C8.cal0 F b .nil scCons (fun vs H Q E h => ?_) (fun cdv A outer s H vs Q E hr h => ?_)
  · obtain ⟨z, sg, rfl, _⟩ := h
    rfl
  · obtain ⟨z, sg, rfl, hz, k⟩ := h
    have nd := scCons.nd
    refine ⟨_, (pss_cons (ps_ret (pe_and (pe_callB (r := rIsi K) call_isi rfl n_isinstance (by decide +kernel) (pa_cons (pv 0) (pa_cons (pe_bltn (v := .ty "str") (u := .type "str") rfl n_str (by decide +kernel) rfl) pa_nil))) (pe_and (pe_chain op_le op_le pe_int (pe_callB (r := rLen K) call_lenK rfl n_len (by decide +kernel) (pa_cons (pv 0) pa_nil)) (C8.pe_gc rfl g_LONGEST_WORD)) (pe_one (pe_callB (r := rAll K) (cr_all rfl) rfl n_all (by decide +kernel) (pa_cons (pe_lc (own := [("sign", 2)]) (g := gName 2) (tt := tYes) rfl nd (pi_str (pv 0)) (blkOk_by (N := ["text", "signs", "sign"]) (sc := C8.fnScope stCons) (by decide +kernel)) (fun _ _ _ _ _ => pg_name (i := 2) nd rfl (Or.inl rfl)) (fun _ _ _ _ _ => pts_nil) (fun _ _ _ _ _ => (pe_cmpR op_in_str (pv 2) (pv 1) (by with_unfolding_all rfl)))) pa_nil))))))
      pss_nil), ?_⟩
    try dsimp only [cxOf]
    wtm_at "Lrd"
    refine ite2 (fun c => ?_) (fun c => ?_)
    · have c1 : 1 ≤ z.length := by have := of_decide_eq_true c; omega
      wtm_at "Lrd"
      refine ite2 (fun c => ?_) (fun c => ?_)
      · have c8 : z.length ≤ 8 := by have := of_decide_eq_true c; omega
        wtm_at "Lrd"
        intro D nD
        refine lc_it walk_str (fun j H' => H' D = some (.lst (((z.cps.toList.take j).map fun c => decide (c ∈ sg.cps.toList)).map V.bl)) ∧ Same H H') ⟨upd_same, same_new (Same.refl H) nD⟩ (fun _ _ _ _ => trivial) ?lt ?le
        case lt =>
          rintro j x H1 H1' hj ⟨hD, sm⟩ ⟨rfl, c0, hc0, rfl⟩
          refine rd_gName ?_
          refine ⟨rfl, ?_⟩
          wtm_at "Lrd"
          refine ⟨_, _, rfl, rfl, ?_⟩
          have e : (!(Builtin.Str.occurrences sg ⟨#[c0]⟩ 0 sg.length 1).isEmpty) = decide (c0 ∈ sg.cps.toList) := SX.in_one sg.cps.toList c0
          rw [e]
          have ht : z.cps.toList[j]? = some c0 := by rw [Array.getElem?_toList]; exact hc0
          refine ⟨_, hD, small_lt (by rw [List.length_map, List.length_map, List.length_take]; have : z.cps.toList.length = z.length := rfl; omega), ?_, same_new sm nD⟩
          rw [List.take_succ, ht, List.map_append, List.map_append]
          exact upd_same
        case le =>
          rintro H1 ⟨hD, sm⟩
          wtm_at "Lrd"
          refine ⟨D, _, rfl, SqL.of hD, ?_⟩
          have e : okSigns sg z = ((List.take z.cps.size z.cps.toList).map fun c => decide (c ∈ sg.cps.toList)).all id := by
            unfold okSigns
            rw [decide_eq_true c1, decide_eq_true c8, List.take_of_length_le (by rw [Array.length_toList]; exact Nat.le_refl _), List.all_map]
            rfl
          rw [← e]
          exact k _ sm
      · have c8 : ¬ z.length ≤ 8 := fun h => c (decide_eq_true (by omega))
        have e : okSigns sg z = false := by
          unfold okSigns
          rw [decide_eq_false c8, Bool.false_and, Bool.and_false]
        wtm_at "Lrd"
        exact e ▸ k _ (Same.refl H)
    · have c1 : ¬ 1 ≤ z.length := fun h => c (decide_eq_true (by omega))
      have e : okSigns sg z = false := by
        unfold okSigns
        rw [decide_eq_false c1, Bool.false_and]
      wtm_at "Lrd"
      exact e ▸ k _ (Same.refl H)
def lettersS : Str := Str.ofString "abcdefghijklmnopqrstuvwxyz"
def patternS : Str := Str.ofString "abcdefghijklmnopqrstuvwxyz."
def spText (sg : Str) : Sp := fun vs H Q _ => ∃ (z : Str), vs = [.str z] ∧ z.length ≤ sizeLine ∧ ∀ H', Same H H' → Q (.bl (okSigns sg z)) H'
abbrev stWord : Stmt := top 19
theorem scWord : FnScope ["text"] ["text"] (C8.fnScope stWord) := ⟨rfl, rfl, rfl, by decide +kernel, rfl, by decide +kernel, by decide +kernel⟩

theorem cal_word {f : Addr} {fd : FuncData} (F : Def K mg "is_word" stWord f fd) (b : Binds K fd ["text"] []) (g_LETTERS : ∃ u, mg "LETTERS" = some u ∧ RelV (.str lettersS) u) (c_consists_of : Cal P w K mg base 1 "consists_of" spConsists []) : Cal P w K mg base 2 "is_word" (spText lettersS) [] := by
  refine C8.cal0 F b .nil scWord (fun vs H Q E h => ?_) (fun cdv A outer s H vs Q E hr h => ?_)
  · obtain ⟨z, rfl, _⟩ := h
    rfl
  · obtain ⟨z, rfl, hz, k⟩ := h
    have nd := scWord.nd
    refine ⟨_, (pss_cons (ps_ret (pe_c c_consists_of hr (by decide) rfl (pa_cons (pv 0) (pa_cons (C8.pe_gc rfl g_LETTERS) pa_nil))))
      pss_nil), ?_⟩
    try dsimp only [cxOf]
    wtm_at "Lrd"
    exact ⟨z, _, rfl, hz, k⟩
abbrev stPat : Stmt := top 20
theorem scPat : FnScope ["text"] ["text"] (C8.fnScope stPat) := ⟨rfl, rfl, rfl, by decide +kernel, rfl, by decide +kernel, by decide +kernel⟩

theorem cal_pattern {f : Addr} {fd : FuncData} (F : Def K mg "is_pattern" stPat f fd) (b : Binds K fd ["text"] []) (g_PATTERN_SIGNS : ∃ u, mg "PATTERN_SIGNS" = some u ∧ RelV (.str patternS) u) (c_consists_of : Cal P w K mg base 1 "consists_of" spConsists []) : Cal P w K mg base 2 "is_pattern" (spText patternS) [] := by
  refine C8.cal0 F b .nil scPat (fun vs H Q E h => ?_) (fun cdv A outer s H vs Q E hr h => ?_)
  · obtain ⟨z, rfl, _⟩ := h
    rfl
  · obtain ⟨z, rfl, hz, k⟩ := h
    have nd := scPat.nd
    refine ⟨_, (pss_cons (ps_ret (pe_c c_consists_of hr (by decide) rfl (pa_cons (pv 0) (pa_cons (C8.pe_gc rfl g_PATTERN_SIGNS) pa_nil))))
      pss_nil), ?_⟩
    try dsimp only [cxOf]
    wtm_at "Lrd"
    exact ⟨z, _, rfl, hz, k⟩
/-- a value that may stand where a box is asked for: an int, a bool, None -/
def boxB (v : V) (n : Nat) : Bool := match v with
  | .int i => decide (0 ≤ i) && decide (i < (n : Int))
  | _ => false
/-- .. for a number within limits -/
def numB (v : V) (lo hi : Int) : Bool := match v with
  | .int i => decide (lo ≤ i) && decide (i ≤ hi)
  | _ => false
def spNumber : Sp := fun vs H Q _ => ∃ (v : V) (lo hi : Int), vs = [v, .int lo, .int hi] ∧ ((∃ i, v = .int i) ∨ (∃ b, v = .bl b) ∨ v = .non) ∧ Q (.bl (numB v lo hi)) H
abbrev stNumb : Stmt := top 21
theorem scNumb : FnScope ["number", "least", "most"] ["number", "least", "most"] (C8.fnScope stNumb) := ⟨rfl, rfl, rfl, by decide +kernel, rfl, by decide +kernel, by decide +kernel⟩

theorem cal_number {f : Addr} {fd : FuncData} (F : Def K mg "is_number" stNumb f fd) (b : Binds K fd ["number", "least", "most"] []) (n_isinstance : mg "isinstance" = none) (n_int : mg "int" = none) (n_bool : mg "bool" = none) : Cal P w K mg base 1 "is_number" spNumber [] := by
  refine C8.cal0 F b .nil scNumb (fun vs H Q E h => ?_) (fun cdv A outer s H vs Q E hr h => ?_)
  · obtain ⟨v, lo, hi, rfl, _⟩ := h
    rfl
  · obtain ⟨v, lo, hi, rfl, hv, k⟩ := h
    have nd := scNumb.nd
    refine ⟨_, (pss_cons (ps_ret (pe_and (pe_callB (r := rIsi K) call_isi rfl n_isinstance (by decide +kernel) (pa_cons (pv 0) (pa_cons (pe_bltn (v := .ty "int") (u := .type "int") rfl n_int (by decide +kernel) rfl) pa_nil))) (pe_and (pe_not (pe_callB (r := rIsi K) call_isi rfl n_isinstance (by decide +kernel) (pa_cons (pv 0) (pa_cons (pe_bltn (v := .ty "bool") (u := .type "bool") rfl n_bool (by decide +kernel) rfl) pa_nil)))) (pe_one (pe_chain op_le op_le (pv 1) (pv 0) (pv 2))))))
      pss_nil), ?_⟩
    try dsimp only [cxOf]
    rcases hv with ⟨i, rfl⟩ | ⟨c, rfl⟩ | rfl
    · wtm_at "Lrd"
      have e : numB (.int i) lo hi = (decide (lo ≤ i) && decide (i ≤ hi)) := rfl
      rw [e] at k
      refine iteT ?_
      wtm_at "Lrd"
      refine ite2 (fun c => ?_) (fun c => ?_)
      · wtm_at "Lrd"
        rw [c, Bool.true_and] at k
        exact k
      · rw [Bool.eq_false_iff.mpr c, Bool.false_and] at k
        exact k
    · wtm_at "Lrd"
      exact k
    · wtm_at "Lrd"
      exact k
def spBox : Sp := fun vs H Q _ => ∃ (v : V) (n : Nat), vs = [v, .int (n : Int)] ∧ ((∃ i, v = .int i) ∨ ∃ b, v = .bl b) ∧ Q (.bl (boxB v n)) H
abbrev stBox : Stmt := top 22
theorem scBox : FnScope ["box", "boxes"] ["box", "boxes"] (C8.fnScope stBox) := ⟨rfl, rfl, rfl, by decide +kernel, rfl, by decide +kernel, by decide +kernel⟩

theorem cal_box {f : Addr} {fd : FuncData} (F : Def K mg "is_box" stBox f fd) (b : Binds K fd ["box", "boxes"] []) (c_is_number : Cal P w K mg base 1 "is_number" spNumber []) : Cal P w K mg base 2 "is_box" spBox [] := by
  refine C8.cal0 F b .nil scBox (fun vs H Q E h => ?_) (fun cdv A outer s H vs Q E hr h => ?_)
  · obtain ⟨v, n, rfl, _⟩ := h
    rfl
  · obtain ⟨v, n, rfl, hv, k⟩ := h
    have nd := scBox.nd
    refine ⟨_, (pss_cons (ps_ret (pe_c c_is_number hr (by decide) rfl (pa_cons (pv 0) (pa_cons pe_int (pa_cons (pe_op op_sub (pv 1) pe_int) pa_nil)))))
      pss_nil), ?_⟩
    try dsimp only [cxOf]
    wtm_at "Lrd"
    refine ⟨v, 0, (n : Int) - 1, rfl, hv.elim .inl fun z => .inr (.inl z), ?_⟩
    have e : numB v 0 ((n : Int) - 1) = boxB v n := by
      rcases hv with ⟨i, rfl⟩ | ⟨c, rfl⟩
      · show (decide (0 ≤ i) && decide (i ≤ (n : Int) - 1)) = (decide (0 ≤ i) && decide (i < (n : Int)))
        rw [decide_eq_decide.mpr (show i ≤ (n : Int) - 1 ↔ i < (n : Int) by omega)]
      · rfl
    rw [e]
    exact k
end

/-! ## names and plates -/
section
variable {P : Program} {w : World} {K : PySem.W.Frag} {mg : Str → Option Value} {base : Heap}
def ltS (x y : Str) : Bool := decide (x.cps.toList < y.cps.toList)
def ascB (l : List Str) : Bool := (List.range (l.length - 1)).all fun i => ltS (l.getD i ⟨#[]⟩) (l.getD (i + 1) ⟨#[]⟩)
def namesB (l : List Str) : Bool := decide (1 ≤ l.length) && (decide (l.length ≤ 6) && (l.all (okSigns lettersS) && ascB l))
def spNames : Sp := fun vs H Q _ => ∃ (a : Addr) (l : List Str), vs = [.ref a] ∧ H a = some (.tup (l.map V.str)) ∧ (∀ z ∈ l, z.length ≤ 1000) ∧ l.length ≤ 1000 ∧ ∀ H', Same H H' → Q (.bl (namesB l)) H'
abbrev stNames : Stmt := top 26
theorem scNames : FnScope ["names", "name", "at"] ["names"] (C8.fnScope stNames) := ⟨rfl, rfl, rfl, by decide +kernel, rfl, by decide +kernel, by decide +kernel⟩

theorem cal_names {f : Addr} {fd : FuncData} (F : Def K mg "are_names" stNames f fd) (b : Binds K fd ["names"] []) (n_len : mg "len" = none) (n_isinstance : mg "isinstance" = none) (n_tuple : mg "tuple" = none) (n_all : mg "all" = none) (n_range : mg "range" = none) (g_MOST_NAMES : ∃ u, mg "MOST_NAMES" = some u ∧ RelV (.int 6) u) (c_is_word : Cal P w K mg base 2 "is_word" (spText lettersS) []) : Cal P w K mg base 3 "are_names" spNames [] := by
  refine C8.cal0 F b .nil scNames (fun vs H Q E h => ?_) (fun cdv A outer s H vs Q E hr h => ?_)
  · obtain ⟨a, l, rfl, _⟩ := h
    rfl
  · obtain ⟨a, l, rfl, ha, hz, hl, k⟩ := h
    have nd := scNames.nd
    refine ⟨_, (pss_cons (ps_ret (pe_and (pe_callB (r := rIsi K) call_isi rfl n_isinstance (by decide +kernel) (pa_cons (pv 0) (pa_cons (pe_bltn (v := .ty "tuple") (u := .type "tuple") rfl n_tuple (by decide +kernel) rfl) pa_nil))) (pe_and (pe_chain op_le op_le pe_int (pe_callB (r := rLen K) call_lenK rfl n_len (by decide +kernel) (pa_cons (pv 0) pa_nil)) (C8.pe_gc rfl g_MOST_NAMES)) (pe_and (pe_callB (r := rAll K) (cr_all rfl) rfl n_all (by decide +kernel) (pa_cons (pe_lc (own := [("name", 1)]) (g := gName 1) (tt := tYes) rfl nd (pi_tup (pv 0)) (blkOk_by (N := ["names", "name", "at"]) (sc := C8.fnScope stNames) (by decide +kernel)) (fun _ _ _ _ _ => pg_name (i := 1) nd rfl (Or.inl rfl)) (fun _ _ _ _ _ => pts_nil) (fun _ _ _ _ _ => (pe_c c_is_word hr (by decide) rfl (pa_cons (pv 1) pa_nil)))) pa_nil)) (pe_one (pe_callB (r := rAll K) (cr_all rfl) rfl n_all (by decide +kernel) (pa_cons (pe_lc (own := [("at", 2)]) (g := gName 2) (tt := tYes) rfl nd (pi_range1 rfl n_range (pa_cons (pe_op op_sub (pe_callB (r := rLen K) call_lenK rfl n_len (by decide +kernel) (pa_cons (pv 0) pa_nil)) pe_int) pa_nil)) (blkOk_by (N := ["names", "name", "at"]) (sc := C8.fnScope stNames) (by decide +kernel)) (fun _ _ _ _ _ => pg_name (i := 2) nd rfl (Or.inl rfl)) (fun _ _ _ _ _ => pts_nil) (fun _ _ _ _ _ => (pe_cmpR op_lt_str (pe_ix (r := rIx K) ix_seq (pv 0) (pv 2) (fun _ _ => rfl)) (pe_ix (r := rIx K) ix_seq (pv 0) (pe_op op_add (pv 2) pe_int) (fun _ _ => rfl)) (nomark _)))) pa_nil)))))))
      pss_nil), ?_⟩
    try dsimp only [cxOf]
    wtm_at "Lrd"
    rw [List.length_map]
    have k0 : namesB l = false → Q (.bl false) H := fun e => e ▸ k _ (Same.refl H)
    refine ite2 (fun c1 => ?_) (fun c1 => ?_)
    case _ =>
      have c1' : 1 ≤ l.length := by have := of_decide_eq_true c1; omega
      wtm_at "Lrd"
      refine ite2 (fun c8 => ?_) (fun c8 => ?_)
      case _ =>
        have c8' : l.length ≤ 6 := by have := of_decide_eq_true c8; omega
        wtm_at "Lrd"
        intro D nD
        refine lc_it (walk_tup (xs := l.map V.str)) (fun j H' => H' D = some (.lst (((l.take j).map (okSigns lettersS)).map V.bl)) ∧ Same H H') ⟨upd_same, same_new (Same.refl H) nD⟩ (fun _ _ _ ⟨_, sm⟩ => SqT.of (sm _ _ ha)) ?lt ?le
        case lt =>
          rintro j x H1 H1' hj ⟨hD, sm⟩ ⟨rfl, hx⟩
          have hjl : j < l.length := by rw [List.length_map] at hj; exact hj
          obtain rfl : x = V.str l[j] := by
            rw [List.getElem?_map, List.getElem?_eq_getElem hjl] at hx
            exact (Option.some.inj hx).symm
          refine rd_gName ?_
          refine ⟨rfl, ?_⟩
          wtm_at "Lrd"
          refine ⟨l[j], rfl, small_len (hz _ (List.getElem_mem _)), fun H2 sm2 => ?_⟩
          refine ⟨_, sm2 _ _ hD, small_lt (by rw [List.length_map, List.length_map, List.length_take]; omega), ?_, same_new (sm.trans sm2) nD⟩
          rw [List.take_succ, List.getElem?_eq_getElem hjl, List.map_append, List.map_append]
          exact upd_same
        case le =>
          rintro H1 ⟨hD, sm⟩
          rw [List.length_map, List.take_length] at hD
          have ha1 := sm _ _ ha
          wtm_at "Lrd"
          refine ⟨D, _, rfl, SqL.of hD, ?_⟩
          rw [List.all_map]
          wtm_at "Lrd"
          refine ite2 (fun c2 => ?_) (fun c2 => ?_)
          case _ =>
            have c2' : l.all (okSigns lettersS) = true := c2
            wtm_at "Lrd"
            rw [List.length_map]
            refine ⟨by omega, by omega, fun D2 nD2 => ?_⟩
            have en : ((l.length : Int) - 1).toNat = l.length - 1 := by omega
            rw [en]
            refine lc_it walk_range (fun j H' => H' D2 = some (.lst (((List.range j).map fun i => ltS (l.getD i ⟨#[]⟩) (l.getD (i + 1) ⟨#[]⟩)).map V.bl)) ∧ Same H1 H') ⟨upd_same, same_new (Same.refl H1) nD2⟩ (fun _ _ _ _ => trivial) ?lt ?le
            case lt =>
              rintro j x H2 H2' hj ⟨hD2, sm2⟩ ⟨rfl, rfl⟩
              dsimp only
              rw [Int.zero_add]
              refine rd_gName ?_
              refine ⟨rfl, ?_⟩
              have h1 : j < l.length := by omega
              have h2 : j + 1 < l.length := by omega
              have ha2 := sm2 _ _ ha1
              have hv : atI (l.map V.str) (j : Int) = some (.str l[j]) := atI_nat (by rw [List.getElem?_map, List.getElem?_eq_getElem h1]; rfl)
              have hv2 : atI (l.map V.str) ((j : Int) + 1) = some (.str l[j + 1]) := by
                rw [show (j : Int) + 1 = ((j + 1 : Nat) : Int) by omega]
                exact atI_nat (by rw [List.getElem?_map, List.getElem?_eq_getElem h2]; rfl)
              wtm_at "Lrd"
              refine ⟨_, _, rfl, rfl, ?_⟩
              refine ⟨_, hD2, small_lt (by rw [List.length_map, List.length_map, List.length_range]; omega), ?_, same_new sm2 nD2⟩
              rw [List.range_succ, List.map_append, List.map_append]
              have e : ltS (l.getD j ⟨#[]⟩) (l.getD (j + 1) ⟨#[]⟩) = decide (l[j].cps.toList < l[j + 1].cps.toList) := by
                rw [List.getD_eq_getElem?_getD, List.getD_eq_getElem?_getD, List.getElem?_eq_getElem h1, List.getElem?_eq_getElem h2]
                rfl
              rw [← e]
              exact upd_same
            case le =>
              rintro H2 ⟨hD2, sm2⟩
              wtm_at "Lrd"
              refine ⟨D2, _, rfl, SqL.of hD2, ?_⟩
              have e : namesB l = ((List.range (l.length - 1)).map fun i => ltS (l.getD i ⟨#[]⟩) (l.getD (i + 1) ⟨#[]⟩)).all id := by
                unfold namesB ascB
                rw [decide_eq_true c1', decide_eq_true c8', c2', List.all_map]
                rfl
              rw [← e]
              exact k _ (sm.trans sm2)
          case _ =>
            have e : namesB l = false := by
              unfold namesB
              have c2' : l.all (okSigns lettersS) = false := Bool.eq_false_iff.mpr c2
              rw [c2', Bool.false_and, Bool.and_false, Bool.and_false]
            wtm_at "Lrd"
            exact e ▸ k _ sm
      case _ =>
        have c8' : ¬ l.length ≤ 6 := fun h => c8 (decide_eq_true (by omega))
        wtm_at "Lrd"
        exact k0 (by unfold namesB; rw [decide_eq_false c8', Bool.false_and, Bool.and_false])
    case _ =>
      have c1' : ¬ 1 ≤ l.length := fun h => c1 (decide_eq_true (by omega))
      wtm_at "Lrd"
      exact k0 (by unfold namesB; rw [decide_eq_false c1', Bool.false_and])
def plateB (z : Str) : Bool := decide (z = Str.ofString "") || okSigns patternS z
def platesB (l : List Str) (many : Nat) : Bool := decide (many ≤ l.length) && (decide (l.length ≤ 6) && l.all plateB)
def spPlates : Sp := fun vs H Q _ => ∃ (a : Addr) (l : List Str) (many : Nat), vs = [.ref a, .int (many : Int)] ∧ H a = some (.tup (l.map V.str)) ∧ (∀ z ∈ l, z.length ≤ 1000) ∧ l.length ≤ 1000 ∧ ∀ H', Same H H' → Q (.bl (platesB l many)) H'
abbrev stPlates : Stmt := top 27
theorem scPlates : FnScope ["plates", "many", "plate"] ["plates", "many"] (C8.fnScope stPlates) := ⟨rfl, rfl, rfl, by decide +kernel, rfl, by decide +kernel, by decide +kernel⟩

theorem cal_plates {f : Addr} {fd : FuncData} (F : Def K mg "are_plates" stPlates f fd) (b : Binds K fd ["plates", "many"] []) (n_len : mg "len" = none) (n_isinstance : mg "isinstance" = none) (n_tuple : mg "tuple" = none) (n_all : mg "all" = none) (g_MOST_BOXES : ∃ u, mg "MOST_BOXES" = some u ∧ RelV (.int 6) u) (c_is_pattern : Cal P w K mg base 2 "is_pattern" (spText patternS) []) : Cal P w K mg base 3 "are_plates" spPlates [] := by
  refine C8.cal0 F b .nil scPlates (fun vs H Q E h => ?_) (fun cdv A outer s H vs Q E hr h => ?_)
  · obtain ⟨a, l, many, rfl, _⟩ := h
    rfl
  · obtain ⟨a, l, many, rfl, ha, hz, hl, k⟩ := h
    have nd := scPlates.nd
    refine ⟨_, (pss_cons (ps_ret (pe_and (pe_callB (r := rIsi K) call_isi rfl n_isinstance (by decide +kernel) (pa_cons (pv 0) (pa_cons (pe_bltn (v := .ty "tuple") (u := .type "tuple") rfl n_tuple (by decide +kernel) rfl) pa_nil))) (pe_and (pe_chain op_le op_le (pv 1) (pe_callB (r := rLen K) call_lenK rfl n_len (by decide +kernel) (pa_cons (pv 0) pa_nil)) (C8.pe_gc rfl g_MOST_BOXES)) (pe_one (pe_callB (r := rAll K) (cr_all rfl) rfl n_all (by decide +kernel) (pa_cons (pe_lc (own := [("plate", 2)]) (g := gName 2) (tt := tYes) rfl nd (pi_tup (pv 0)) (blkOk_by (N := ["plates", "many", "plate"]) (sc := C8.fnScope stPlates) (by decide +kernel)) (fun _ _ _ _ _ => pg_name (i := 2) nd rfl (Or.inl rfl)) (fun _ _ _ _ _ => pts_nil) (fun _ _ _ _ _ => (pe_or (pe_cmpR op_eq (pv 2) pe_str (nomark _)) (pe_one (pe_c c_is_pattern hr (by decide) rfl (pa_cons (pv 2) pa_nil)))))) pa_nil))))))
      pss_nil), ?_⟩
    try dsimp only [cxOf]
    wtm_at "Lrd"
    rw [List.length_map]
    have k0 : platesB l many = false → Q (.bl false) H := fun e => e ▸ k _ (Same.refl H)
    refine ite2 (fun c1 => ?_) (fun c1 => ?_)
    case _ =>
      have c1' : many ≤ l.length := by have := of_decide_eq_true c1; omega
      wtm_at "Lrd"
      refine ite2 (fun c8 => ?_) (fun c8 => ?_)
      case _ =>
        have c8' : l.length ≤ 6 := by have := of_decide_eq_true c8; omega
        wtm_at "Lrd"
        intro D nD
        refine lc_it (walk_tup (xs := l.map V.str)) (fun j H' => H' D = some (.lst (((l.take j).map plateB).map V.bl)) ∧ Same H H') ⟨upd_same, same_new (Same.refl H) nD⟩ (fun _ _ _ ⟨_, sm⟩ => SqT.of (sm _ _ ha)) ?lt ?le
        case lt =>
          rintro j x H1 H1' hj ⟨hD, sm⟩ ⟨rfl, hx⟩
          have hjl : j < l.length := by rw [List.length_map] at hj; exact hj
          obtain rfl : x = V.str l[j] := by
            rw [List.getElem?_map, List.getElem?_eq_getElem hjl] at hx
            exact (Option.some.inj hx).symm
          refine rd_gName ?_
          refine ⟨rfl, ?_⟩
          have fin : ∀ (H2 : Hp) (c : Bool), Same H1' H2 → plateB l[j] = c → ∃ acc, H2 D = some (.lst acc) ∧ acc.length < sizeLine ∧ (upd H2 D (.lst (acc ++ [V.bl c]))) D = some (.lst (((l.take (j + 1)).map plateB).map V.bl)) ∧ Same H (upd H2 D (.lst (acc ++ [V.bl c]))) := by
            intro H2 c sm2 ec
            refine ⟨_, sm2 _ _ hD, small_lt (by rw [List.length_map, List.length_map, List.length_take]; omega), ?_, same_new (sm.trans sm2) nD⟩
            rw [List.take_succ, List.getElem?_eq_getElem hjl, List.map_append, List.map_append, ← ec]
            exact upd_same
          wtm_at "Lrd"
          refine ite2 (fun c2 => ?_) (fun c2 => ?_)
          · wtm_at "Lrd"
            refine fin _ _ (Same.refl _) ?_
            have e : l[j] = Str.ofString "" := V.str.inj (of_decide_eq_true c2)
            unfold plateB
            rw [decide_eq_true e, Bool.true_or]
          · wtm_at "Lrd"
            refine ⟨l[j], rfl, small_len (hz _ (List.getElem_mem _)), fun H2 sm2 => ?_⟩
            refine fin _ _ sm2 ?_
            have e : ¬ l[j] = Str.ofString "" := fun h => c2 (decide_eq_true (congrArg V.str h))
            unfold plateB
            rw [decide_eq_false e, Bool.false_or]
        case le =>
          rintro H1 ⟨hD, sm⟩
          rw [List.length_map, List.take_length] at hD
          wtm_at "Lrd"
          refine ⟨D, _, rfl, SqL.of hD, ?_⟩
          have e : platesB l many = (l.map plateB).all id := by
            unfold platesB
            rw [decide_eq_true c1', decide_eq_true c8', List.all_map]
            rfl
          rw [← e]
          exact k _ sm
      case _ =>
        have c8' : ¬ l.length ≤ 6 := fun h => c8 (decide_eq_true (by omega))
        wtm_at "Lrd"
        exact k0 (by unfold platesB; rw [decide_eq_false c8', Bool.false_and, Bool.and_false])
    case _ =>
      have c1' : ¬ many ≤ l.length := fun h => c1 (decide_eq_true (by omega))
      wtm_at "Lrd"
      exact k0 (by unfold platesB; rw [decide_eq_false c1', Bool.false_and])
end

/-! ## manners -/
/-- what may stand for manners: a text, or a tuple of boxes and the like -/
inductive MD where
  | txt (z : Str) | tup (xs : List V)
def Itm (x : V) : Prop := x = .non ∨ (∃ i, x = .int i) ∨ ∃ b, x = .bl b
def MDAt (H : Hp) (v : V) : MD → Prop
  | .txt z => v = .str z
  | .tup xs => ∃ g, v = .ref g ∧ H g = some (.tup xs)
def MD.fine : MD → Prop
  | .txt _ => True
  | .tup xs => xs.length ≤ 1000 ∧ ∀ x ∈ xs, Itm x
def itemB (boxes : Nat) (x : V) : Bool := decide (x = .non) || boxB x boxes
def mannerB (many boxes : Nat) : MD → Bool
  | .txt z => decide (z = Str.ofString "back") || decide (z = Str.ofString "keep")
  | .tup xs => decide (xs.length = many) && xs.all (itemB boxes)
theorem mannerB_txt {many boxes : Nat} {z : Str} : mannerB many boxes (.txt z) = (decide (z = Str.ofString "back") || decide (z = Str.ofString "keep")) := rfl
theorem mannerB_tup {many boxes : Nat} {xs : List V} : mannerB many boxes (.tup xs) = (decide (xs.length = many) && xs.all (itemB boxes)) := rfl
theorem MDAt.same {H H' : Hp} {v : V} {d : MD} (h : MDAt H v d) (s : Same H H') : MDAt H' v d := by
  cases d with
  | txt z => exact h
  | tup xs =>
    obtain ⟨g, e, h⟩ := h
    exact ⟨g, e, s _ _ h⟩
section
variable {P : Program} {w : World} {K : PySem.W.Frag} {mg : Str → Option Value} {base : Heap}
def spManner : Sp := fun vs H Q _ => ∃ (v : V) (d : MD) (many boxes : Nat), vs = [v, .int (many : Int), .int (boxes : Int)] ∧ MDAt H v d ∧ d.fine ∧ ∀ H', Same H H' → Q (.bl (mannerB many boxes d)) H'
abbrev stManner : Stmt := top 28
theorem scManner : FnScope ["manner", "many", "boxes", "box"] ["manner", "many", "boxes"] (C8.fnScope stManner) := ⟨rfl, rfl, rfl, by decide +kernel, rfl, by decide +kernel, by decide +kernel⟩

theorem cal_manner {f : Addr} {fd : FuncData} (F : Def K mg "is_manner" stManner f fd) (b : Binds K fd ["manner", "many", "boxes"] []) (n_len : mg "len" = none) (n_isinstance : mg "isinstance" = none) (n_tuple : mg "tuple" = none) (n_all : mg "all" = none) (c_is_box : Cal P w K mg base 2 "is_box" spBox []) : Cal P w K mg base 3 "is_manner" spManner [] := by
  refine C8.cal0 F b .nil scManner (fun vs H Q E h => ?_) (fun cdv A outer s H vs Q E hr h => ?_)
  · obtain ⟨v, d, many, boxes, rfl, _⟩ := h
    rfl
  · obtain ⟨v, d, many, boxes, rfl, hv, hf, k⟩ := h
    have nd := scManner.nd
    refine ⟨_, (pss_cons (ps_if (pt_val (pe_callB (r := rIsi K) call_isi rfl n_isinstance (by decide +kernel) (pa_cons (pv 0) (pa_cons (pe_bltn (v := .ty "tuple") (u := .type "tuple") rfl n_tuple (by decide +kernel) rfl) pa_nil)))) (pss_cons (ps_ret (pe_and (pe_cmpR op_eq (pe_callB (r := rLen K) call_lenK rfl n_len (by decide +kernel) (pa_cons (pv 0) pa_nil)) (pv 1) (nomark _)) (pe_one (pe_callB (r := rAll K) (cr_all rfl) rfl n_all (by decide +kernel) (pa_cons (pe_lc (own := [("box", 3)]) (g := gName 3) (tt := tYes) rfl nd (pi_tup (pv 0)) (blkOk_by (N := ["manner", "many", "boxes", "box"]) (sc := C8.fnScope stManner) (by decide +kernel)) (fun _ _ _ _ _ => pg_name (i := 3) nd rfl (Or.inl rfl)) (fun _ _ _ _ _ => pts_nil) (fun _ _ _ _ _ => (pe_or (pe_cmpR op_isN (pv 3) pe_non (nomark _)) (pe_one (pe_c c_is_box hr (by decide) rfl (pa_cons (pv 3) (pa_cons (pv 2) pa_nil))))))) pa_nil)))))
      pss_nil) pss_nil)
      (pss_cons (ps_ret (pe_or (pe_cmpR op_eq (pv 0) pe_str (nomark _)) (pe_one (pe_cmpR op_eq (pv 0) pe_str (nomark _)))))
      pss_nil)), ?_⟩
    try dsimp only [cxOf]
    cases d with
    | txt z =>
      obtain rfl : v = .str z := hv
      wtm_at "Lrd"
      refine ite2 (fun c => ?_) (fun c => ?_)
      · have e : mannerB many boxes (.txt z) = true := by
          rw [mannerB_txt, decide_eq_true (V.str.inj (of_decide_eq_true c)), Bool.true_or]
        exact e ▸ k _ (Same.refl H)
      · wtm_at "Lrd"
        have e : mannerB many boxes (.txt z) = decide (V.str z = V.str (Str.ofString "keep")) := by
          rw [mannerB_txt, decide_eq_false (fun h => c (decide_eq_true (congrArg V.str h))), Bool.false_or]
          exact decide_eq_decide.mpr ⟨fun h => congrArg V.str h, fun h => V.str.inj h⟩
        exact e ▸ k _ (Same.refl H)
    | tup xs =>
      obtain ⟨g, rfl, hg⟩ := hv
      obtain ⟨hl, hi⟩ := hf
      wtm_at "Lrd"
      refine ite2 (fun c => ?_) (fun c => ?_)
      · have c1 : xs.length = many := by
          have := V.int.inj (of_decide_eq_true c)
          omega
        wtm_at "Lrd"
        intro D nD
        refine lc_it (walk_tup (xs := xs)) (fun j H' => H' D = some (.lst (((xs.take j).map (itemB boxes)).map V.bl)) ∧ Same H H') ⟨upd_same, same_new (Same.refl H) nD⟩ (fun _ _ _ ⟨_, sm⟩ => SqT.of (sm _ _ hg)) ?lt ?le
        case lt =>
          rintro j x H1 H1' hj ⟨hD, sm⟩ ⟨rfl, hx⟩
          have fin : ∀ c : Bool, itemB boxes x = c → ∃ acc, H1' D = some (.lst acc) ∧ acc.length < sizeLine ∧ (upd H1' D (.lst (acc ++ [V.bl c]))) D = some (.lst (((xs.take (j + 1)).map (itemB boxes)).map V.bl)) ∧ Same H (upd H1' D (.lst (acc ++ [V.bl c]))) := by
            intro c ec
            refine ⟨_, hD, small_lt (by rw [List.length_map, List.length_map, List.length_take]; omega), ?_, same_new sm nD⟩
            rw [List.take_succ, hx, List.map_append, List.map_append, ← ec]
            exact upd_same
          refine rd_gName ?_
          refine ⟨rfl, ?_⟩
          wtm_at "Lrd"
          refine ⟨rfl, ?_⟩
          wtm_at "Lrd"
          refine ite2 (fun c2 => ?_) (fun c2 => ?_)
          · wtm_at "Lrd"
            refine fin _ ?_
            unfold itemB
            rw [c2, Bool.true_or]
          · wtm_at "Lrd"
            have c3 : decide (x = V.non) = false := Bool.eq_false_iff.mpr c2
            refine ⟨x, boxes, rfl, ?_, ?_⟩
            · rcases hi x (List.mem_of_getElem? hx) with e | e
              · exact absurd e (of_decide_eq_false c3)
              · exact e
            · refine fin _ ?_
              unfold itemB
              rw [c3, Bool.false_or]
        case le =>
          rintro H1 ⟨hD, sm⟩
          rw [List.take_length] at hD
          wtm_at "Lrd"
          refine ⟨D, _, rfl, SqL.of hD, ?_⟩
          wtm_at "Lrd"
          have e : mannerB many boxes (.tup xs) = (xs.map (itemB boxes)).all id := by
            rw [mannerB_tup, decide_eq_true c1, List.all_map]
            rfl
          rw [← e]
          exact k _ sm
      · have c1 : ¬ xs.length = many := fun h => c (decide_eq_true (by rw [h]))
        wtm_at "Lrd"
        have e : mannerB many boxes (.tup xs) = false := by
          rw [mannerB_tup, decide_eq_false c1, Bool.false_and]
        exact e ▸ k _ (Same.refl H)
end

/-! ## a dict of manners -/

structure DictAt (H : Hp) (d : Addr) (kd : List (Str × MD)) : Prop where
  ex : ∃ kvs : List (Key × V), H d = some (.dK kvs) ∧ Paired (fun (p : Key × V) (q : Str × MD) => p.1 = Sum.inr q.1 ∧ MDAt H p.2 q.2) kvs kd
theorem dict_look {H : Hp} {n : Str} : ∀ {kvs : List (Key × V)} {kd : List (Str × MD)}, Paired (fun (p : Key × V) (q : Str × MD) => p.1 = Sum.inr q.1 ∧ MDAt H p.2 q.2) kvs kd →
    (kd.lookup n = none ∧ valV kvs (Sum.inr n) = none) ∨ ∃ d v, kd.lookup n = some d ∧ valV kvs (Sum.inr n) = some v ∧ MDAt H v d
  | _, _, .nil => .inl ⟨rfl, rfl⟩
  | p :: kvs, q :: kd, .cons r t => by
    obtain ⟨n', d⟩ := q
    by_cases e : n = n'
    · subst e
      refine .inr ⟨d, p.2, ?_, valV_pos r.1, r.2⟩
      rw [List.lookup_cons, beq_self_eq_true]
    · have e' : (n == n') = false := beq_eq_false_iff_ne.mpr e
      rw [List.lookup_cons, e']
      have e2 : ¬ p.1 = Sum.inr n := fun h => e (Sum.inr.inj (h.symm.trans r.1))
      rw [valV_neg e2]
      exact dict_look t
theorem lookup_mem {n : Str} {d : MD} : ∀ {kd : List (Str × MD)}, kd.lookup n = some d → ∃ q ∈ kd, q.2 = d
  | (m, e) :: kd, h => by
    rw [List.lookup_cons] at h
    split at h
    · exact ⟨_, List.mem_cons_self, Option.some.inj h⟩
    · obtain ⟨q, hq, eq⟩ := lookup_mem h
      exact ⟨q, List.mem_cons_of_mem _ hq, eq⟩
def mannersB (kd : List (Str × MD)) (names : List Str) (boxes : Nat) : Bool :=
  decide (kd.length = names.length) && ((names.all fun n => (kd.lookup n).isSome) && names.all fun n => match kd.lookup n with | some d => mannerB names.length boxes d | none => false)
section
variable {P : Program} {w : World} {K : PySem.W.Frag} {mg : Str → Option Value} {base : Heap}
theorem DictAt.same {H H' : Hp} {d : Addr} {kd : List (Str × MD)} (h : DictAt H d kd) (s : Same H H') : DictAt H' d kd := by
  obtain ⟨kvs, h1, h2⟩ := h.ex
  exact ⟨kvs, s _ _ h1, L2.Paired.mapP h2 fun _ _ q => ⟨q.1, q.2.same s⟩⟩
def spManners : Sp := fun vs H Q _ => ∃ (d a : Addr) (kd : List (Str × MD)) (l : List Str) (boxes : Nat), vs = [.ref d, .ref a, .int (boxes : Int)] ∧ DictAt H d kd ∧ H a = some (.tup (l.map V.str)) ∧ (∀ q ∈ kd, q.2.fine) ∧ l.length ≤ 1000 ∧ ∀ H', Same H H' → Q (.bl (mannersB kd l boxes)) H'
abbrev stManners : Stmt := top 29
theorem scManners : FnScope ["manners", "names", "boxes", "name"] ["manners", "names", "boxes"] (C8.fnScope stManners) := ⟨rfl, rfl, rfl, by decide +kernel, rfl, by decide +kernel, by decide +kernel⟩

theorem cal_manners {f : Addr} {fd : FuncData} (F : Def K mg "are_manners" stManners f fd) (b : Binds K fd ["manners", "names", "boxes"] []) (n_len : mg "len" = none) (n_isinstance : mg "isinstance" = none) (n_dict : mg "dict" = none) (n_all : mg "all" = none) (c_is_manner : Cal P w K mg base 3 "is_manner" spManner []) : Cal P w K mg base 4 "are_manners" spManners [] := by
  refine C8.cal0 F b .nil scManners (fun vs H Q E h => ?_) (fun cdv A outer s H vs Q E hr h => ?_)
  · obtain ⟨d, a, kd, l, boxes, rfl, _⟩ := h
    rfl
  · obtain ⟨d, a, kd, l, boxes, rfl, hd, ha, hf, hl, k⟩ := h
    have nd := scManners.nd
    have hu := hu_of hr
    refine ⟨_, (pss_cons (ps_ret (pe_and (pe_callB (r := rIsi K) call_isi rfl n_isinstance (by decide +kernel) (pa_cons (pv 0) (pa_cons (pe_bltn (v := .ty "dict") (u := .type "dict") rfl n_dict (by decide +kernel) rfl) pa_nil))) (pe_and (pe_cmpR op_eq (pe_callB call_lenD rfl n_len (by decide +kernel) (pa_cons (pv 0) pa_nil)) (pe_callB (r := rLen K) call_lenK rfl n_len (by decide +kernel) (pa_cons (pv 1) pa_nil)) (nomark _)) (pe_and (pe_callB (r := rAll K) (cr_all rfl) rfl n_all (by decide +kernel) (pa_cons (pe_lc (own := [("name", 3)]) (g := gName 3) (tt := tYes) rfl nd (pi_tup (pv 1)) (blkOk_by (N := ["manners", "names", "boxes", "name"]) (sc := C8.fnScope stManners) (by decide +kernel)) (fun _ _ _ _ _ => pg_name (i := 3) nd rfl (Or.inl rfl)) (fun _ _ _ _ _ => pts_nil) (fun _ _ _ _ _ => (pe_cmp (pc_din hu (pv 3) (pv 0))))) pa_nil)) (pe_one (pe_callB (r := rAll K) (cr_all rfl) rfl n_all (by decide +kernel) (pa_cons (pe_lc (own := [("name", 3)]) (g := gName 3) (tt := tYes) rfl nd (pi_tup (pv 1)) (blkOk_by (N := ["manners", "names", "boxes", "name"]) (sc := C8.fnScope stManners) (by decide +kernel)) (fun _ _ _ _ _ => pg_name (i := 3) nd rfl (Or.inl rfl)) (fun _ _ _ _ _ => pts_nil) (fun _ _ _ _ _ => (pe_c c_is_manner hr (by decide) rfl (pa_cons (pe_dget hu (pv 0) (pv 3) (fun _ _ => rfl)) (pa_cons (pe_callB (r := rLen K) call_lenK rfl n_len (by decide +kernel) (pa_cons (pv 1) pa_nil)) (pa_cons (pv 2) pa_nil)))))) pa_nil)))))))
      pss_nil), ?_⟩
    try dsimp only [cxOf]
    obtain ⟨kvs, hk, hp⟩ := id hd.ex
    have hkl : kvs.length = kd.length := paired_len hp
    wtm_at "Lrd"
    refine ⟨d, kvs, rfl, hk, ?_⟩
    wtm_at "Lrd"
    rw [List.length_map, hkl]
    have k0 : ∀ H', Same H H' → mannersB kd l boxes = false → Q (.bl false) H' := fun H' s e => e ▸ k H' s
    refine ite2 (fun c1 => ?_) (fun c1 => ?_)
    case _ =>
      have c1' : kd.length = l.length := by
        have := V.int.inj (of_decide_eq_true c1)
        omega
      wtm_at "Lrd"
      intro D nD
      refine lc_it (walk_tup (xs := l.map V.str)) (fun j H' => H' D = some (.lst (((l.take j).map fun n => (kd.lookup n).isSome).map V.bl)) ∧ Same H H') ⟨upd_same, same_new (Same.refl H) nD⟩ (fun _ _ _ ⟨_, sm⟩ => SqT.of (sm _ _ ha)) ?lt ?le
      case lt =>
        rintro j x H1 H1' hj ⟨hD, sm⟩ ⟨rfl, hx⟩
        have hjl : j < l.length := by rw [List.length_map] at hj; exact hj
        obtain rfl : x = V.str l[j] := by
          rw [List.getElem?_map, List.getElem?_eq_getElem hjl] at hx
          exact (Option.some.inj hx).symm
        refine rd_gName ?_
        refine ⟨rfl, ?_⟩
        wtm_at "Lrd"
        have fin : ∀ o : Option V, o = valV kvs (Sum.inr l[j]) → ∃ acc, H1' D = some (.lst acc) ∧ acc.length < sizeLine ∧ (upd H1' D (.lst (acc ++ [V.bl o.isSome]))) D = some (.lst (((l.take (j + 1)).map fun n => (kd.lookup n).isSome).map V.bl)) ∧ Same H (upd H1' D (.lst (acc ++ [V.bl o.isSome]))) := by
          rintro o rfl
          refine ⟨_, hD, small_lt (by rw [List.length_map, List.length_map, List.length_take]; omega), ?_, same_new sm nD⟩
          rw [List.take_succ, List.getElem?_eq_getElem hjl, List.map_append, List.map_append]
          have e : (valV kvs (Sum.inr l[j])).isSome = (kd.lookup l[j]).isSome := by
            rcases dict_look (n := l[j]) hp with ⟨e1, e2⟩ | ⟨d, v, e1, e2, _⟩
            · rw [e1, e2]; rfl
            · rw [e1, e2]; rfl
          rw [e]
          exact upd_same
        exact ⟨d, _, rfl, DGet.k (k := Sum.inr l[j]) (sm _ _ hk), fin _ rfl⟩
      case le =>
        rintro H1 ⟨hD, sm⟩
        rw [List.length_map, List.take_length] at hD
        wtm_at "Lrd"
        refine ⟨D, _, rfl, SqL.of hD, ?_⟩
        rw [List.all_map]
        wtm_at "Lrd"
        refine ite2 (fun c2 => ?_) (fun c2 => ?_)
        case _ =>
          have c2' : (l.all fun n => (kd.lookup n).isSome) = true := c2
          have ha1 := sm _ _ ha
          have hd1 := hd.same sm
          wtm_at "Lrd"
          intro D2 nD2
          refine lc_it (walk_tup (xs := l.map V.str)) (fun j H' => H' D2 = some (.lst (((l.take j).map fun n => match kd.lookup n with | some d => mannerB l.length boxes d | none => false).map V.bl)) ∧ Same H1 H') ⟨upd_same, same_new (Same.refl H1) nD2⟩ (fun _ _ _ ⟨_, sm⟩ => SqT.of (sm _ _ ha1)) ?lt ?le
          case lt =>
            rintro j x H2 H2' hj ⟨hD2, sm2⟩ ⟨rfl, hx⟩
            have hjl : j < l.length := by rw [List.length_map] at hj; exact hj
            obtain rfl : x = V.str l[j] := by
              rw [List.getElem?_map, List.getElem?_eq_getElem hjl] at hx
              exact (Option.some.inj hx).symm
            refine rd_gName ?_
            refine ⟨rfl, ?_⟩
            have ha2 := sm2 _ _ ha1
            obtain ⟨kvs2, hk2, hp2⟩ := (hd1.same sm2).ex
            have some_ : (kd.lookup l[j]).isSome = true := List.all_eq_true.mp c2' _ (List.getElem_mem _)
            rcases dict_look (n := l[j]) hp2 with ⟨e1, e2⟩ | ⟨d0, v, e1, e2, hv⟩
            · rw [e1] at some_
              cases some_
            · wtm_at "Lrd"
              refine ⟨d, v, rfl, e2 ▸ DGet.k (k := Sum.inr l[j]) hk2, ?_⟩
              wtm_at "Lrd"
              rw [List.length_map]
              refine ⟨v, d0, l.length, boxes, rfl, hv, ?_, fun H3 sm3 => ?_⟩
              · obtain ⟨q, hq, eq⟩ := lookup_mem e1
                rw [← eq]
                exact hf q hq
              · refine ⟨_, sm3 _ _ hD2, small_lt (by rw [List.length_map, List.length_map, List.length_take]; omega), ?_, same_new (sm2.trans sm3) nD2⟩
                rw [List.take_succ, List.getElem?_eq_getElem hjl, List.map_append, List.map_append]
                show (upd H3 D2 (.lst (_ ++ [V.bl (mannerB l.length boxes d0)]))) D2 = some (.lst (_ ++ [V.bl (match kd.lookup l[j] with | some d => mannerB l.length boxes d | none => false)]))
                rw [e1]
                exact upd_same
          case le =>
            rintro H2 ⟨hD2, sm2⟩
            rw [List.length_map, List.take_length] at hD2
            wtm_at "Lrd"
            refine ⟨D2, _, rfl, SqL.of hD2, ?_⟩
            have e : mannersB kd l boxes = (l.map fun n => match kd.lookup n with | some d => mannerB l.length boxes d | none => false).all id := by
              unfold mannersB
              rw [decide_eq_true c1', c2', List.all_map]
              rfl
            rw [← e]
            exact k _ (sm.trans sm2)
        case _ =>
          have c2' : (l.all fun n => (kd.lookup n).isSome) = false := Bool.eq_false_iff.mpr c2
          wtm_at "Lrd"
          exact k0 _ sm (by unfold mannersB; rw [c2', Bool.false_and, Bool.and_false])
    case _ =>
      have c1' : ¬ kd.length = l.length := fun h => c1 (decide_eq_true (by rw [h]))
      wtm_at "Lrd"
      exact k0 _ (Same.refl H) (by unfold mannersB; rw [decide_eq_false c1', Bool.false_and])
end

/-! ## an own error whose __init__ says super().__init__(text) and keeps one field -/
section
open PySem.W PyProof.Rows PySem.Calls
/-- the bound ValueError.__init__, called -/
theorem call_bwV {prog : Program} {w : World} {A : Around} {E : Value → Shared → Prop} {hp : Heap} {gs : Array GenState} {dr : Drawn} {tk : Nat} {oz : OsState}
    {nm q : Str} {C N : Addr} {bs bm : List Value} {hdct : Bool} {sn : List Str} {sub : List Value} {ab : Bool} {col : Option Bool} {dd : Option Addr} {k0 k1 k2 k3 k5 : Option Value} {bnd ex t0 : Addr} {args : List Value} {Q : Value → Shared → Prop}
    (cl : hp.get? C = some (excClassObj nm q C N bs bm hdct sn sub ab col dd k0 k1 k2 k3 k5 "ValueError.__new__")) (inst : hp.get? ex = some (HandSPX.excO C t0)) (bound : hp.get? bnd = some (kxs_mw "ValueError.__init__" ex)) (few : args.length ≤ sizeLine)
    (cont : ∀ h2 t1, (∀ b ob, b ≠ ex → hp.get? b = some ob → h2.get? b = some ob) → h2.get? ex = some (HandSPX.excO C t1) → Q .none ⟨h2, gs, dr, tk, oz⟩) :
    wpAny (model prog w) A (call (.ref bnd) args) Q E ⟨hp, gs, dr, tk, oz⟩ := by
  have mw : (Value.type "method-wrapper" == Value.type "method" || Value.type "method-wrapper" == Value.type "builtin_function_or_method" || Value.type "method-wrapper" == Value.type "method-wrapper") = true := by decide
  apply wpAny_call; apply codeAny_of_tree
  show wpAny _ A.in1 (callAny (.ref bnd) ⟨args, []⟩) _ _ _
  simp only [callAny]
  refine wpAny_bind (wpAny_load bound ?_)
  simp only [kxs_mw, mw, if_true]
  apply KFB.if_so (by decide)
  refine wpAny_bind (ESX.check_bound F.excBase_ValueError cl inst rfl ?_)
  refine wpAny_bind (wpAny_pure ?_); refine wpAny_pure ?_
  refine And.intro (Code.quiet_builtin _ (by decide +kernel)) ?_
  refine codeAny_builtin F.excBase_ValueError.initEntry ?_
  rw [Around.under_plainId F.excBase_ValueError.init.plain _]
  wp_walk
  refine cont _ hp.objs.size (fun b ob nb there => ?_) ?_
  · exact (Heap.get?_update_other _ _ (Ne.symm nb)).trans (Heap.get?_push_of_some _ there)
  · exact Heap.get?_update_self _ (Heap.get?_push_of_some _ inst) rfl
/-- what the written part says of such a class at C and its __init__ at f -/
structure SupC (P : Program) (K : PySem.W.Frag) (mg : Str → Option Value) (C f : Addr) (fd : FuncData) (qual : Str) (st : Stmt) (field : Str) : Prop where
  fn : ∃ (oc : Value) (od : Option Addr) (osl : Array (Option Value)) (kV doc pm ct : Value) (an : Option Addr) (cda cc : Addr), fd = ksFn "__init__" qual (defArgs st) (defBody st) (defScope st) .none kV doc pm an (.ref cda) ct cc ∧
    K.lookup f = some ⟨oc, od, .func fd, osl⟩ ∧ codeIn K (.ref cda) qual = true ∧
    (∃ (ccl : Value) (cdd : Option Addr) (vs : Array Value) (ccs : Array (Option Value)) (file : Str) (tf : Tok), K.lookup cda = some ⟨ccl, cdd, .fields vs, ccs⟩ ∧ vs[2]? = some (.str file tf) ∧ ((P.main.file : Str) == file) = true) ∧
    ∃ (cl : Value) (cld : Option Addr) (csl : Array (Option Value)), K.lookup cc = some ⟨cl, cld, .cell (some (.ref C)), csl⟩
  cls : ∃ cd, clsIn K C = some cd
  sup : ks_superIn K C C "__init__" = some (some (.builtin "ValueError.__init__"))
  isV : subIn K (.ref C) (.type "ValueError") = some true
  isC : mroIn K C (.ref C) = some true
  thr : nsIn K cStatics "thirdparty.any" = some none
  sn : mg "super" = none
  top : (P.main.scope.names.lookup ("super" : Str)).isSome = false
  ex : OexC K C
  no : findIn K (.ref C) field = some none
/-- the context of its body -/
def cxS (P : Program) (w : World) (K : PySem.W.Frag) (mg : Str → Option Value) (base : Heap) (N : List Str) (qual : Str) (scope : Scope) (f : Addr) (cd : Value) (cc : Addr) (A : Around) (outer : List Env) (s : Shared) (H : Hp) : Cx where
  prog := P
  w := w
  K := K
  mg := mg
  base := base
  A := A.deeper (ksEnv qual scope s.heap.objs.size f cd cc)
  N := N
  s_0 := s
  H_0 := H
  env := ksEnv qual scope s.heap.objs.size f cd cc
  outer := outer
  stack := ksEnv qual scope s.heap.objs.size f cd cc :: outer
  ex := []
  calm := true
  fn := fun _ => false
  pn := []
  xe := fun _ _ => False
theorem inv_startS {P : Program} {w : World} {K : PySem.W.Frag} {mg : Str → Option Value} {base : Heap} {qual : Str} {scope : Scope} {f cc : Addr} {cd : Value} {A : Around} {outer : List Env} {s : Shared} {H : Hp} {u1 u2 : Value} {v1 v2 : V} {p2 : Str} {h₀ : Heap} {tk : Nat} {cv : Option Value}
    (hk : scope.kind = .function) (hs : ∀ y, scope.names.lookup y = some .cell ∨ scope.names.lookup y = some .free → y = "__class__") (hs1 : scope.names.lookup ("self" : Str) = some .local) (hs2 : scope.names.lookup p2 = some .local) (np : ("self" : Str) ≠ p2) (hd : A.handled = none) (e0 : Env0 P w K mg base A outer s H) (r1 : RelV v1 u1) (r2 : RelV v2 u2)
    (hcc : base.IsCell cc cv) (hns : h₀.Ns s.heap.objs.size (fun x => ([("self", u1), (p2, u2)] : List (Str × Value)).reverse.lookup x)) (kp : ∀ b o, s.heap.get? b = some o → h₀.get? b = some o) :
    Inv (cxS P w K mg base ["self", p2] qual scope f cd cc A outer s H) [] [some v1, some v2] H { s with heap := h₀, toks := tk } := by
  have noA : ∀ b : Addr, b ∉ (cxS P w K mg base ["self", p2] qual scope f cd cc A outer s H).ex := fun b z => absurd (show b ∈ ([] : List Addr) from z) (by simp)
  have one : ∀ {y c}, (cxS P w K mg base ["self", p2] qual scope f cd cc A outer s H).env.cells.lookup y = some c → y = ("__class__" : Str) ∧ c = cc := fun {y c} e => by
    have e : List.lookup y [(("__class__" : Str), cc)] = some c := e
    rw [List.lookup_cons] at e
    split at e
    · rename_i hb
      exact ⟨beq_iff_eq.mp hb, (Option.some.inj e).symm⟩
    · cases e
  obtain ⟨oc, hoc, hdc⟩ := id hcc
  refine ⟨⟨e0.mod, hk, rfl, rfl, Nat.le_refl _, fun y z c h1 h2 => (one h1).1.trans (one h2).1.symm, fun y hy => ?_, fun y c h _ => ?_, fun _ => hd, Around.frames_deeper e0.frames, .inr ⟨rfl, rfl⟩, fun b z => absurd z (noA b), e0.bs, e0.bsz, fun b _ _ => noA b, fun b z => absurd z (noA b), e0.funs, e0.frf⟩,
    rfl, e0.bare, Un.kept kp, ⟨_, hns, fun i y v h1 h2 h3 => ?_⟩, fun y c h => ⟨cv, oc, ?_, hdc⟩, e0.hok.fresh (Nat.le_refl _), fun y c h => ?_, fun p hp => absurd (show p ∈ ([] : List (Addr × Obj)) from hp) (by simp), e0.hok.kept kp, rfl⟩
  · have e := hs y hy
    subst e
    exact ⟨cc, by show List.lookup _ [(("__class__" : Str), cc)] = _; rw [List.lookup_cons, beq_self_eq_true]⟩
  · have h : false = true := h
    cases h
  · have np' : (p2 == ("self" : Str)) = false := beq_eq_false_iff_ne.mpr np.symm
    have np2 : (("self" : Str) == p2) = false := beq_eq_false_iff_ne.mpr np
    match i, h1, h2 with
    | 0, h1, h2 =>
      cases h1
      cases h2
      refine ⟨u1, r1, .inl ⟨hs1, ?_⟩⟩
      show List.lookup ("self" : Str) [(p2, u2), (("self" : Str), u1)] = some u1
      rw [List.lookup_cons, np2, List.lookup_cons, beq_self_eq_true]
    | 1, h1, h2 =>
      cases h1
      cases h2
      refine ⟨u2, r2, .inl ⟨hs2, ?_⟩⟩
      show List.lookup p2 [(p2, u2), (("self" : Str), u1)] = some u2
      rw [List.lookup_cons, beq_self_eq_true]
  · rw [(one h).2]
    exact kp _ _ (e0.bs _ _ hoc).1
  · rw [(one h).2]
    exact (e0.bs _ _ hoc).2
end

section
open PySem.W PyProof.Rows PySem.Calls
/-- the promise of such an __init__: the field is kept -/
def spSup (C : Addr) (field : Str) : Sp := fun vs H Q _ => ∃ (x : Addr) (z : Str), vs = [.ref x, .str z] ∧ z.length ≤ 900 ∧ H x = some (exo x C none) ∧ ∀ dx, H dx = none → dx ≠ x → Q .non (upd (upd H dx (exd dx [(field, .str z)])) x (exo x C (some dx)))
abbrev stInvH : Stmt := inClass (top 2) 0
theorem str_len_app (a b : Str) : (a ++ b).length = a.length + b.length := Array.size_append
theorem inv_unpin {X : Cx} {pins : List (Addr × Obj)} {σ : L2.St} {H : Hp} {s : Shared} (I : Inv X pins σ H s) : Inv X [] σ H s := I.pins_of fun _ h => nomatch h
theorem look_class : ∀ y, (defScope stInvH).names.lookup y = some .cell ∨ (defScope stInvH).names.lookup y = some .free → y = "__class__" := by
  intro y h
  rcases h with h | h
  · have q := PySem.mem_of_lookup h
    exact absurd q ((by decide +kernel : ∀ p ∈ (defScope stInvH).names, p.2 ≠ .cell) _ · rfl)
  · have q := PySem.mem_of_lookup h
    exact (by decide +kernel : ∀ p ∈ (defScope stInvH).names, p.2 = .free → p.1 = "__class__") _ q rfl
theorem fn_invH {P : Program} {w : World} {K : PySem.W.Frag} {mg : Str → Option Value} {base : Heap} {CX : CXT} {C f : Addr} {fd : FuncData} (T : SupC P K mg C f fd "InvalidHouse.__init__" stInvH "part") : FnOk P w K mg base CX 1 f fd ["self", "part"] (spSup C "part") := by
  refine ⟨fun vs H Q E h => ?_, fun A outer s H args us vs Q E hr e0 hb r hsp => ?_⟩
  · obtain ⟨x, z, rfl, _⟩ := h
    rfl
  · obtain ⟨x, z, rfl, hz, hx, hq⟩ := hsp
    obtain ⟨u1, u2, rfl, r1, r2⟩ := vals2 r
    obtain ⟨oc, od, osl, kV, doc, pm, ct, an, cda, cc, rfl, lk, hcd, ⟨ccl, cdd, vs', ccs, file, tf, hcode, hvs, hfile⟩, cl, cld, csl, hcell⟩ := T.fn
    have up : ∀ b o, base.get? b = some o → s.heap.get? b = some o := fun b o e => (e0.bs b o e).1
    have KX : K.In s.heap := e0.mod.kin.keeps up
    have lim : s.heap.NoLimit := e0.mod.nolimit.keeps up
    obtain rfl : u1 = Value.ref x := r1
    obtain ⟨hp, g, d, tk, os⟩ := s
    refine ks_codeAny_call_defAt (fd := ksFn "__init__" "InvalidHouse.__init__" (defArgs stInvH) (defBody stInvH) (defScope stInvH) .none kV doc pm an (.ref cda) ct cc) (body := defBody stInvH) (binds := [("self", .ref x), ("part", u2)]) hr.depth (KX _ _ lk) rfl lim (codeRec_of KX hcd) rfl hb (show ∀ x ∈ (defScope stInvH).names, x.2 ≠ .cell by decide +kernel) (fun y hy => ?_) (fun h₀ hns hkp => ?_) rfl rfl rfl
    · rcases List.mem_cons.mp hy with e | hy
      · rw [e]; rfl
      · rcases List.mem_cons.mp hy with e | hy
        · rw [e]; rfl
        · cases hy
    have I : Inv (cxS P w K mg base ["self", "part"] "InvalidHouse.__init__" (defScope stInvH) f (.ref cda) cc A outer ⟨hp, g, d, tk, os⟩ H) [] [some (.ref x), some (.str z)] H ⟨h₀, g, d, tk + 2, os⟩ :=
      inv_startS (cv := some (.ref C)) rfl look_class rfl rfl (by decide +kernel) hr.hd e0 rfl r2 ⟨_, e0.mod.kin _ _ hcell, rfl⟩ hns hkp
    show _root_.PySem.wpAt (model P w) (cxS P w K mg base ["self", "part"] "InvalidHouse.__init__" (defScope stInvH) f (.ref cda) cc A outer ⟨hp, g, d, tk, os⟩ H).A (.func (defBody stInvH) (cxS P w K mg base ["self", "part"] "InvalidHouse.__init__" (defScope stInvH) f (.ref cda) cc A outer ⟨hp, g, d, tk, os⟩ H).env) (execs (defBody stInvH) (cxS P w K mg base ["self", "part"] "InvalidHouse.__init__" (defScope stInvH) f (.ref cda) cc A outer ⟨hp, g, d, tk, os⟩ H).env) _ _ ⟨h₀, g, d, tk + 2, os⟩
    refine ks_wpAt_execs_cons (ks_wpAt_Expr_any (ks_wpAt_MethodCall ?_))
    have kb : ∀ b o, base.get? b = some o → h₀.get? b = some o := fun b o e => hkp b o (up b o e)
    obtain ⟨cdC, hclC⟩ := T.cls
    obtain ⟨oD, hD1, hD2⟩ : ∃ oD, base.get? C = some oD ∧ oD.data = .cls cdC := by
      have hclC' := hclC
      unfold clsIn at hclC'
      split at hclC'
      · rename_i c d cd' sl ho
        cases hclC'
        exact ⟨_, e0.mod.kin _ _ ho, rfl⟩
      · cases hclC'
    refine ks_wpAt_super_base (env := (cxS P w K mg base ["self", "part"] "InvalidHouse.__init__" (defScope stInvH) f (.ref cda) cc A outer ⟨hp, g, d, tk, os⟩ H).env) rfl rfl (by decide +kernel) rfl (kb _ _ (e0.mod.kin _ _ lk)) rfl rfl rfl (kb _ _ (e0.mod.kin _ _ hcode)) rfl hvs hfile T.top ?_
    obtain ⟨mb, hb1, hb2⟩ := e0.mod.blt
    refine ks_loadName_global rfl rfl (loadGlobal_builtin (e0.mod.glob.keeps kb) T.sn (hb1.keeps kb) ((hb2 "super" (by decide)).trans (by decide +kernel : bootBuiltins "super" = some (.type "super"))) ⟨rfl, ?_⟩)
    refine wpAny_loadName_free rfl rfl rfl ⟨_, kb _ _ (e0.mod.kin _ _ hcell), rfl⟩ ?_
    refine wpAny_loadName_local rfl rfl hns rfl ?_
    refine ks_wpAny_isType_cls (kb _ _ hD1) hD2 ⟨rfl, ?_⟩
    obtain ⟨t1, hx0⟩ := exo_at I.hok hx
    refine ks_wpAny_call_super (kb _ _ hD1) hD2 hx0 rfl (fun c e => by cases e) (looks_mroIn (e0.mod.kin.keeps kb) T.isC) (fun h1 hso k1 => ?_)
    have I1 := I.kept (h' := h1) (t' := tk + 2) k1
    have X1 : K.In h1 := I1.kIn
    obtain ⟨t2, hx1⟩ := exo_at I1.hok hx
    have IA : InstAt h1 x _ C none := ⟨hx1, rfl, rfl, trivial⟩
    have hsup := T.sup
    unfold ks_superIn at hsup
    rw [hclC] at hsup
    refine kxs_getMethod kxs_ValueError hso (looks_opaque X1 T.thr) (l₀ := cdC.mro) (fun A Q E s k q => wpAny_bind ((looks_clsIn X1 hclC) A _ E s k (wpAny_pure q))) rfl X1 hsup (IA.type.andThen (looks_subIn X1 T.isV)) (ks_ne X1 IA hclC) (by decide) ?_
    have k2 : ∀ b o, h1.get? b = some o → (h1.push (kxs_mw "ValueError.__init__" x)).get? b = some o := fun b o e => Heap.get?_push_of_some _ e
    have I2 := I1.kept (h' := h1.push (kxs_mw "ValueError.__init__" x)) (t' := tk + 2 + 1) k2
    have hu : (h1.push (kxs_mw "ValueError.__init__" x)).get? h1.objs.size = some (kxs_mw "ValueError.__init__" x) := Heap.get?_push_at rfl rfl
    have nL : h1.objs.size ≠ hp.objs.size := fun e => by
      have q := Heap.lt_size (k1 _ _ (hkp _ _ (up _ _ hD1)))
      have q2 := I1.lt
      have q2 : hp.objs.size < h1.objs.size := q2
      omega
    have I3 : Inv (cxS P w K mg base ["self", "part"] "InvalidHouse.__init__" (defScope stInvH) f (.ref cda) cc A outer ⟨hp, g, d, tk, os⟩ H) [(h1.objs.size, kxs_mw "ValueError.__init__" x)] [some (.ref x), some (.str z)] H ⟨h1.push (kxs_mw "ValueError.__init__" x), g, d, tk + 2 + 1, os⟩ :=
      I2.pins_of fun p hp' => by
        obtain rfl := List.mem_singleton.mp hp'
        exact ⟨hu, I1.hok.fresh (Nat.le_refl _), nL, I1.nofs (Nat.le_refl _), fun v e => by cases e⟩
    refine kxs_callWith (i := "ValueError.__init__") (x := x) rfl (evalArgs_plain ?_)
    have pa := pa_cons (X := cxS P w K mg base ["self", "part"] "InvalidHouse.__init__" (defScope stInvH) f (.ref cda) cc A outer ⟨hp, g, d, tk, os⟩ H) (pe_joined (pos := ⟨7, 25, 7, 64⟩) (.cons (pe_str (x := "the ") (j := 0) (pos := ⟨7, 27, 7, 31⟩)) (.cons (pe_fmt (pos := ⟨7, 31, 7, 37⟩) (pv 1 (x := "part") (pos := ⟨7, 32, 7, 36⟩))) (.cons (pe_str (x := " of a house cannot be such") (j := 0) (pos := ⟨7, 37, 7, 63⟩)) .nil)))) pa_nil
    have l0 : (Str.empty ++ ("the " : Str)).length = 4 := by decide +kernel
    have l2 : (" of a house cannot be such" : Str).length = 26 := by decide +kernel
    refine wpAny_mono (pa.run ⟨7, 8, 7, 65⟩ _ _ _ _ (fun vs H1 => H1 = H ∧ ∃ y, vs = [.str y]) I3 ?_) (fun us s2 hh => ?_) fun _ _ z => z.elim
    · refine ⟨_, rfl, by rw [l0]; decide, _, rfl, .inl ⟨z, rfl, small_len (by omega), z, rfl, ?_, _, rfl, ?_, rfl, _, rfl⟩⟩
      · rw [str_len_app, l0]; exact small_len (by omega)
      · rw [str_len_app, str_len_app, l0, l2]; exact Nat.le_trans (by omega : 4 + z.length + 26 ≤ 2000) (by decide)
    · obtain ⟨vs, H1, J, rv, rfl, y, rfl⟩ := hh
      obtain ⟨uy, rfl, ry⟩ := vals1 rv
      obtain ⟨hp2, g2, d2, tk2, os2⟩ := s2
      have hu2 : hp2.get? h1.objs.size = some (kxs_mw "ValueError.__init__" x) := (J.pin _ (List.mem_append_right _ List.mem_cons_self)).1
      refine ⟨hu2, ?_⟩
      obtain ⟨nm, q, N, bs, bm, sn, sub, ab, col, dd, k0, k1', k2', k3, k5, hC, hbm⟩ := T.ex.cls
      obtain ⟨t3, hx3⟩ := exo_at J.hok hx
      refine call_bwV (J.kIn _ _ hC) hx3 hu2 (by show 1 ≤ sizeLine; decide) fun h' t4 kk hx4 => ?_
      have J2 := (inv_unpin J).write (t' := tk2) (x := x) (e := x) (o := exo x C none) (by rw [hx]; exact True.intro) (.inl rfl) kk ⟨_, hx4⟩ (exo_ok hx4)
      have eu : upd H1 x (exo x C none) = H1 := by
        funext b
        by_cases hb : b = x
        · rw [hb, upd_same, hx]
        · rw [upd_ne hb]
      rw [eu] at J2
      refine wpAt_of_wpAny ?_
      refine wpAny_mono ((pss_one (X := cxS P w K mg base ["self", "part"] "InvalidHouse.__init__" (defScope stInvH) f (.ref cda) cc A outer ⟨hp, g, d, tk, os⟩ H1) (ps_ost (pv 0) (pv 1))).run [] _ _ _ { nx := fun _ H' => Q .non H', rt := Q } J2 ?_) (fun fl s3 hs => ?_) fun _ _ z => z.elim
      · exact ⟨_, rfl, _, rfl, x, C, rfl, T.ex, T.no, .inl ⟨hx, fun dx hdx nd => hq dx hdx nd⟩⟩
      · cases fl with
        | next =>
          obtain ⟨σ', H', J3, q3⟩ := hs
          exact ⟨.non, H', J3.os, J3.bare, J3.base, J3.hok, rfl, q3⟩
        | ret u =>
          obtain ⟨v, σ', H', J3, rv, q3⟩ := hs
          exact ⟨v, H', J3.os, J3.bare, J3.base, J3.hok, rv, q3⟩
        | brk =>
          obtain ⟨_, _, _, q⟩ := hs
          exact q.elim
        | cont =>
          obtain ⟨_, _, _, q⟩ := hs
          exact q.elim
end

/-! ## a plan -/
inductive Man where
  | back | keep | guess (g : List (Option Nat))
/-- what a guess has for a name -/
def optV : Option Nat → V
  | none => .non
  | some b => .int (b : Int)
def ManAt (H : Hp) (v : V) : Man → Prop
  | .back => v = .str "back"
  | .keep => v = .str "keep"
  | .guess g => ∃ a, v = .ref a ∧ H a = some (.tup (g.map optV))
structure Plan where
  names : List Str
  signs : List Str
  ways : List Man
  truth : List Nat
/-- a plate that a name can have: each sign the name's or a point -/
def Worn (sign name : Str) : Prop := sign.cps.size = name.cps.size ∧ ∀ (i c : Nat), sign.cps[i]? = some c → c = 46 ∨ name.cps[i]? = some c
structure Plan.Ok (L : Plan) (most : Nat) : Prop where
  pos : 0 < L.names.length
  four : L.names.length ≤ 4
  sub : ∀ x ∈ L.names, x ∈ pool
  asc : Asc L.names
  nd : L.names.Nodup
  fit : L.names.length ≤ L.signs.length
  most : L.signs.length ≤ most
  wl : L.ways.length = L.names.length
  tl : L.truth.length = L.names.length
  tnd : L.truth.Nodup
  tlt : ∀ b ∈ L.truth, b < L.signs.length
  worn : ∀ (b : Nat) (x : Str), L.signs[b]? = some x → x = "" ∨ ∃ (k : Nat) (n : Str), L.truth[k]? = some b ∧ L.names[k]? = some n ∧ Worn x n
  gs : ∀ g, Man.guess g ∈ L.ways → g.length = L.names.length ∧ ∀ b, some b ∈ g → b < L.signs.length
structure WaysAt (H : Hp) (L : Plan) (kvs : List (Key × V)) : Prop where
  keys : kvs.map (·.1) = L.names.map Sum.inr
  vals : Paired (fun (p : Key × V) m => ManAt H p.2 m) kvs L.ways
structure PlanAt (H : Hp) (pl : Addr) (L : Plan) : Prop where
  ex : ∃ nm sg wy tr kvs, H pl = some (.tup [.ref nm, .ref sg, .ref wy, .ref tr]) ∧ H nm = some (.tup (L.names.map V.str)) ∧ H sg = some (.tup (L.signs.map V.str)) ∧ H wy = some (.dK kvs) ∧ WaysAt H L kvs ∧ H tr = some (.tup (L.truth.map fun (n : Nat) => V.int (n : Int)))
section
variable {P : Program} {w : World} {K : PySem.W.Frag} {mg : Str → Option Value} {base : Heap}
theorem pool_flat : ∀ x ∈ pool.map V.str, FlatOk x := fun x hx => by
  obtain ⟨z, hz, rfl⟩ := List.mem_map.mp hx
  exact .inr ⟨z, rfl, (by decide +kernel : ∀ z ∈ pool, PyData.strOk z = true) z hz⟩
theorem pool_nd : pool.Nodup := by decide +kernel
theorem range_flat (S : Nat) : ∀ x ∈ (List.range S).map fun (i : Nat) => V.int (i : Int), FlatOk x := fun x hx => by
  obtain ⟨z, hz, rfl⟩ := List.mem_map.mp hx
  exact .inl ⟨_, rfl⟩
theorem pool_size : ∀ x ∈ pool, x.cps.size ≤ 8 := by decide +kernel
theorem ixN_nat {n j : Nat} (h : j < n) : ixN n (j : Int) = some j := by
  unfold ixN
  rw [if_pos (by omega), if_pos (by omega), Int.toNat_natCast]
theorem sum_ones : ∀ cs : List Nat, (List.map (fun (x : Str) => x.length) (cs.map fun c => (⟨#[c]⟩ : Str))).sum = cs.length
  | [] => rfl
  | c :: r => by
    rw [List.map_cons, List.map_cons, List.sum_cons, sum_ones r]
    show 1 + r.length = r.length + 1
    omega
theorem ManAt.new {H : Hp} {l : Addr} {o : HO} {v : V} {m : Man} (h : ManAt H v m) (n : H l = none) : ManAt (L2.upd H l o) v m := by
  cases m with
  | back => exact h
  | keep => exact h
  | guess g =>
    obtain ⟨a, e, h⟩ := h
    exact ⟨a, e, (upd_ne (ne_of_none h n)).trans h⟩
theorem ManAt.put {H : Hp} {l : Addr} {o : HO} {v : V} {m : Man} (h : ManAt H v m) (n : ∀ xs, H l ≠ some (.tup xs)) : ManAt (L2.upd H l o) v m := by
  cases m with
  | back => exact h
  | keep => exact h
  | guess g =>
    obtain ⟨a, e, h⟩ := h
    exact ⟨a, e, (upd_ne fun q => n _ (q ▸ h)).trans h⟩
theorem ManAt.sb {H H' : Hp} {p a : Addr} {ns : List Int} {v : V} {m : Man} (h : ManAt H v m) (R : Row K H p a ns) (s : Sb p H H') : ManAt H' v m := by
  cases m with
  | back => exact h
  | keep => exact h
  | guess g =>
    obtain ⟨b, e, h⟩ := h
    refine ⟨b, e, s b _ (fun q => ?_) h⟩
    obtain ⟨_, _, _, _, z⟩ := R.at_
    rw [q, z] at h
    cases h
abbrev MansAt (H : Hp) (kvs : List (Key × V)) (ws : List Man) : Prop := Paired (fun (p : Key × V) m => ManAt H p.2 m) kvs ws
theorem MansAt.new {H : Hp} {l : Addr} {o : HO} {kvs : List (Key × V)} {ws : List Man} (h : MansAt H kvs ws) (n : H l = none) : MansAt (L2.upd H l o) kvs ws := L2.Paired.mapP h fun _ _ q => q.new n
theorem MansAt.put {H : Hp} {l : Addr} {o : HO} {kvs : List (Key × V)} {ws : List Man} (h : MansAt H kvs ws) (n : ∀ xs, H l ≠ some (.tup xs)) : MansAt (L2.upd H l o) kvs ws := L2.Paired.mapP h fun _ _ q => q.put n
theorem MansAt.sb {H H' : Hp} {p a : Addr} {ns : List Int} {kvs : List (Key × V)} {ws : List Man} (h : MansAt H kvs ws) (R : Row K H p a ns) (s : Sb p H H') : MansAt H' kvs ws := L2.Paired.mapP h fun _ _ q => q.sb R s
def spScheme (K : PySem.W.Frag) : Sp := fun vs H Q _ => ∃ (p a : Addr) (ns : List Int) (most : Nat), vs = [.ref p, .int (most : Int)] ∧ Row K H p a ns ∧ 0 < most ∧ most ≤ 6 ∧
  ∀ (pl : Addr) (L : Plan) (H' : Hp), L.Ok most → PlanAt H' pl L → Row K H' p a ns → Sb p H H' → Q (.ref pl) H'
abbrev stScheme : Stmt := top 36
theorem scScheme : FnScope ["_law_row", "_law_most", "_law_pool", "_law_count", "_law_names", "_law_size", "_law_truth", "_law_signs", "_law_k", "_law_ways", "_law_name", "_law_guess", "_law_letter", "_law_box"] ["_law_row", "_law_most"] (C8.fnScope stScheme) := ⟨rfl, rfl, rfl, by decide +kernel, rfl, by decide +kernel, by decide +kernel⟩

theorem cal_scheme {f : Addr} {fd : FuncData} (F : Def K mg "_law_scheme" stScheme f fd) (b : Binds K fd ["_law_row", "_law_most"] []) (n_len : mg "len" = none) (n_list : mg "list" = none) (n_tuple : mg "tuple" = none) (n_range : mg "range" = none) (n_min : mg "min" = none) (n_sorted : mg "sorted" = none)
    (c__law_taken : Cal P w K mg base 1 "_law_taken" (spTaken K) []) (c__law_pick : Cal P w K mg base 2 "_law_pick" (spPick K) []) (c__law_mixed : Cal P w K mg base 2 "_law_mixed" (spMixed K) []) : Cal P w K mg base 3 "_law_scheme" (spScheme K) [] := by
  refine C8.cal0 F b .nil scScheme (fun vs H Q E h => ?_) (fun cdv A outer s H vs Q E hr h => ?_)
  · obtain ⟨p, a, ns, m, rfl, _⟩ := h
    rfl
  · obtain ⟨p, a, ns, most, rfl, R, m0, m6, k⟩ := h
    have nd := scScheme.nd
    have hu := hu_of hr
    refine ⟨_, (pss_cons (ps_set (i := 2) nd rfl (Or.inl rfl) (pe_lst (pa_cons pe_str (pa_cons pe_str (pa_cons pe_str (pa_cons pe_str (pa_cons pe_str (pa_cons pe_str pa_nil))))))))
      (pss_cons (ps_set (i := 3) nd rfl (Or.inl rfl) (pe_op op_add pe_int (pe_c c__law_taken hr (by decide) rfl (pa_cons (pv 0) (pa_cons (pe_callB (call_min2 rfl) rfl n_min (by decide +kernel) (pa_cons pe_int (pa_cons (pv 1) pa_nil))) pa_nil)))))
      (pss_cons (ps_set (i := 4) nd rfl (Or.inl rfl) (pe_callB cr_sortedS rfl n_sorted (by decide +kernel) (pa_cons (pe_slice sl_list (pe_c c__law_mixed hr (by decide) rfl (pa_cons (pv 0) (pa_cons (pv 2) pa_nil))) po_none (po_some (pv 3))) pa_nil)))
      (pss_cons (ps_set (i := 5) nd rfl (Or.inr rfl) (pe_callB (call_min2 rfl) rfl n_min (by decide +kernel) (pa_cons (pv 1) (pa_cons (pe_op op_add (pv 3) (pe_c c__law_taken hr (by decide) rfl (pa_cons (pv 0) (pa_cons pe_int pa_nil)))) pa_nil))))
      (pss_cons (ps_set (i := 6) nd rfl (Or.inl rfl) (pe_callTy call_tuple_of rfl n_tuple (by decide +kernel) (pa_cons (pe_slice sl_list (pe_c c__law_mixed hr (by decide) rfl (pa_cons (pv 0) (pa_cons (pe_listRg rfl rfl n_list (prg_1 rfl n_range (pv 5))) pa_nil))) po_none (po_some (pv 3))) pa_nil)))
      (pss_cons (ps_set (i := 7) nd rfl (Or.inl rfl) (pe_op op_rep (pe_lst (pa_cons pe_str pa_nil)) (pv 5)))
      (pss_cons (ps_for PassesOwn.never rfl (pi_range1 rfl n_range (pa_cons (pv 3) pa_nil)) (pg_name (i := 8) nd rfl (Or.inl rfl)) (pss_cons (ps_if (pt_cmpR op_eq (pe_c c__law_taken hr (by decide) rfl (pa_cons (pv 0) (pa_cons pe_int pa_nil))) pe_int (nomark _)) (pss_cons (ps_asg (pe_join pe_str (pe_lc (own := [("_law_letter", 12)]) (g := gName 12) (tt := tYes) rfl nd (pi_str (pe_ix ix_seq (pv 4) (pv 8) (fun _ _ => rfl))) (blkOk_by (N := ["_law_row", "_law_most", "_law_pool", "_law_count", "_law_names", "_law_size", "_law_truth", "_law_signs", "_law_k", "_law_ways", "_law_name", "_law_guess", "_law_letter", "_law_box"]) (sc := C8.fnScope stScheme) (by decide +kernel)) (fun _ _ _ _ _ => pg_name (i := 12) nd rfl (Or.inl rfl)) (fun _ _ _ _ _ => pts_nil) (fun _ _ _ _ _ => (pe_ifExp (pt_cmpR op_eq (pe_c c__law_taken hr (by decide) rfl (pa_cons (pv 0) (pa_cons pe_int pa_nil))) pe_int (nomark _)) (pv 12) pe_str)))) (pg_sub (pv 7) (pe_ix (r := rIx K) ix_seq (pv 6) (pv 8) (fun _ _ => rfl)) set_list))
      pss_nil) pss_nil)
      pss_nil))
      (pss_cons (ps_set (i := 9) nd rfl (Or.inl rfl) pe_dnewK)
      (pss_cons (ps_for PassesOwn.never rfl (pi_list (pv 4)) (pg_name (i := 10) nd rfl (Or.inl rfl)) (pss_cons (ps_setLc (i := 11) (own := [("_law_box", 13)]) (g := gName 13) (tt := tYes) rfl nd rfl rfl (sw_true rfl rfl rfl (by decide +kernel)) (pi_tup (pv 6)) (blkOk_by (N := ["_law_row", "_law_most", "_law_pool", "_law_count", "_law_names", "_law_size", "_law_truth", "_law_signs", "_law_k", "_law_ways", "_law_name", "_law_guess", "_law_letter", "_law_box"]) (sc := C8.fnScope stScheme) (by decide +kernel)) (fun _ _ _ _ _ => pg_name (i := 13) nd rfl (Or.inl rfl)) (fun _ _ _ _ _ => pts_nil) (fun _ _ _ _ _ => (pe_c c__law_pick hr (by decide) rfl (pa_cons (pv 0) (pa_cons (pe_lst (pa_cons (pv 13) (pa_cons (pv 13) (pa_cons (pe_c c__law_taken hr (by decide) rfl (pa_cons (pv 0) (pa_cons (pv 5) pa_nil))) (pa_cons pe_non pa_nil))))) pa_nil)))))
      (pss_cons (ps_dput hu (pv 9) (pv 10) (pe_c c__law_pick hr (by decide) rfl (pa_cons (pv 0) (pa_cons (pe_lst (pa_cons pe_str (pa_cons pe_str (pa_cons (pe_callTy call_tuple_of rfl n_tuple (by decide +kernel) (pa_cons (pv 11) pa_nil)) (pa_cons (pe_callTy call_tuple_of rfl n_tuple (by decide +kernel) (pa_cons (pv 11) pa_nil)) (pa_cons (pe_callTy call_tuple_of rfl n_tuple (by decide +kernel) (pa_cons (pv 11) pa_nil)) pa_nil)))))) pa_nil))) rfl)
      pss_nil)))
      (pss_cons (ps_ret (pe_tup (pa_cons (pe_callTy call_tuple_of rfl n_tuple (by decide +kernel) (pa_cons (pv 4) pa_nil)) (pa_cons (pe_callTy call_tuple_of rfl n_tuple (by decide +kernel) (pa_cons (pv 7) pa_nil)) (pa_cons (pv 9) (pa_cons (pv 6) pa_nil))))))
      pss_nil)))))))))), ?_⟩
    try dsimp only [cxOf]
    wtm_at "Lrd"
    intro q1 n1
    wtm_at "Lrd"
    refine ⟨p, a, ns, _, rfl, R.new n1, by split <;> omega, by split <;> omega, fun c H1 c0 c1 R1 sb1 => ?_⟩
    have hq1 : H1 q1 = some (.lst (pool.map V.str)) := sb1 _ _ (R.there n1) upd_same
    have sb1' : Sb p H H1 := fun b o n e => sb1 b o n ((upd_ne (ne_of_none e n1)).trans e)
    obtain ⟨C, rfl⟩ : ∃ C : Nat, c = (C : Int) := ⟨c.toNat, by omega⟩
    have hC : C < 4 ∧ C < most := by split at c1 <;> omega
    have ec : (1 : Int) + (C : Int) = ((C + 1 : Nat) : Int) := by omega
    wtm_at "Lrd"
    rw [ec]
    refine ⟨p, a, q1, ns, pool.map V.str, rfl, R1, SqL.of hq1, pool_flat, by decide, fun r ys H2 pm nr hr2 R2 sb2 => ?_⟩
    obtain ⟨zs, rfl, pz⟩ := map_back (f := V.str) (g := getS) (fun _ => rfl) pm
    wtm_at "Lrd"
    intro q2 n2
    rw [cut_take, ← List.map_take]
    wtm_at "Lrd"
    have hzl : zs.length = 6 := pz.length_eq
    refine ⟨q2, zs.take (C + 1), rfl, SqL.of upd_same, by rw [List.length_take]; omega, fun nl q3 pn srt n3 => ?_⟩
    have hnl : nl.length = C + 1 := by rw [pn.length_eq, List.length_take]; omega
    obtain ⟨n32, n3'⟩ := ne_new n3
    have nq2p := R2.there n2
    have sb12 : Sb p H H2 := sb1'.trans sb2
    have R3 := (R2.new (o := .lst (List.map V.str (List.take (C + 1) zs))) n2).new (o := .lst (nl.map V.str)) n3
    have nq3p : q3 ≠ p := R2.there n3'
    have sb3 := (sb12.new (o := .lst (List.map V.str (List.take (C + 1) zs))) (sb12.free nq2p n2)).new (o := .lst (nl.map V.str)) (sb12.free nq3p n3')
    have hq3 : (upd (upd H2 q2 (.lst (List.map V.str (List.take (C + 1) zs)))) q3 (.lst (nl.map V.str))) q3 = some (.lst (nl.map V.str)) := upd_same
    generalize upd (upd H2 q2 (.lst (List.map V.str (List.take (C + 1) zs)))) q3 (.lst (nl.map V.str)) = H3 at R3 sb3 hq3 ⊢
    have nsub : ∀ x ∈ nl, x ∈ pool := fun x hx => pz.subset (List.mem_of_mem_take (pn.subset hx))
    have nnd : nl.Nodup := pn.nodup_iff.mpr ((List.take_sublist _ _).nodup (pz.nodup_iff.mpr pool_nd))
    have nasc : Asc nl := sorted_asc srt nnd nsub
    dsimp only
    wtm_at "Lrd"
    refine ⟨p, a, ns, 3, rfl, R3, by omega, by omega, fun d H4 d0 d1 R4 sb4 => ?_⟩
    obtain ⟨S, eS, hS1, hS2⟩ : ∃ S : Nat, (if ((C + 1 : Nat) : Int) + d < (most : Int) then ((C + 1 : Nat) : Int) + d else (most : Int)) = (S : Int) ∧ C + 1 ≤ S ∧ S ≤ most := by
      split
      · exact ⟨(((C + 1 : Nat) : Int) + d).toNat, by omega, by omega, by omega⟩
      · exact ⟨most, rfl, by omega, Nat.le_refl _⟩
    have hq4 : H4 q3 = some (.lst (nl.map V.str)) := sb4 _ _ nq3p hq3
    have sbH4 := sb3.trans sb4
    clear sb4 sb3 R3 hq3
    wtm_at "Lrd"
    rw [eS]
    refine ⟨RgOk.of_le (by omega) (by omega) (by omega) (by omega), fun q4 n4 => ?_⟩
    rw [rg_ints]
    wtm_at "Lrd"
    refine ⟨p, a, q4, ns, _, rfl, R4.new n4, SqL.of upd_same, range_flat S, by rw [List.length_map, List.length_range]; omega, fun r2 ys2 H5 pm2 nr2 hr5 R5 sb5 => ?_⟩
    obtain ⟨ts, rfl, pt⟩ := map_back (f := fun n : Nat => V.int (n : Int)) (g := fun v => (getI v).toNat) (fun n => Int.toNat_natCast n) pm2
    have sb5' : Sb p H4 H5 := fun b o n e => sb5 b o n ((upd_ne (ne_of_none e n4)).trans e)
    wtm_at "Lrd"
    intro q5 n5
    rw [cut_take, ← List.map_take]
    wtm_at "Lrd"
    refine ⟨q5, _, rfl, Or.inl ⟨SqL.of upd_same, fun q6 n6 => ?_⟩⟩
    obtain ⟨n65, n6'⟩ := ne_new n6
    have nq5p := R5.there n5
    have nq6p := R5.there n6'
    have sb05 := sbH4.trans sb5'
    have R6 := (R5.new (o := .lst (List.map (fun (n : Nat) => V.int (n : Int)) (List.take (C + 1) ts))) n5).new (o := .tup (List.map (fun (n : Nat) => V.int (n : Int)) (List.take (C + 1) ts))) n6
    have sb6 := (sb05.new (o := .lst (List.map (fun (n : Nat) => V.int (n : Int)) (List.take (C + 1) ts))) (sb05.free nq5p n5)).new (o := .tup (List.map (fun (n : Nat) => V.int (n : Int)) (List.take (C + 1) ts))) (sb05.free nq6p n6')
    have hq5 : H5 q3 = some (.lst (nl.map V.str)) := sb5' _ _ nq3p hq4
    have hn6 : (upd (upd H5 q5 (.lst (List.map (fun (n : Nat) => V.int (n : Int)) (List.take (C + 1) ts)))) q6 (.tup (List.map (fun (n : Nat) => V.int (n : Int)) (List.take (C + 1) ts)))) q3 = some (.lst (nl.map V.str)) := by wtm_at "Lhp"
    have ht6 : (upd (upd H5 q5 (.lst (List.map (fun (n : Nat) => V.int (n : Int)) (List.take (C + 1) ts)))) q6 (.tup (List.map (fun (n : Nat) => V.int (n : Int)) (List.take (C + 1) ts)))) q6 = some (.tup (List.map (fun (n : Nat) => V.int (n : Int)) (List.take (C + 1) ts))) := upd_same
    generalize upd (upd H5 q5 (.lst (List.map (fun (n : Nat) => V.int (n : Int)) (List.take (C + 1) ts)))) q6 (.tup (List.map (fun (n : Nat) => V.int (n : Int)) (List.take (C + 1) ts))) = H6 at R6 sb6 hn6 ht6 ⊢
    have htl : (List.take (C + 1) ts).length = C + 1 := by rw [List.length_take, pt.length_eq, List.length_range]; omega
    have htnd : (List.take (C + 1) ts).Nodup := (List.take_sublist _ _).nodup (pt.nodup_iff.mpr List.nodup_range)
    have htlt : ∀ b ∈ List.take (C + 1) ts, b < S := fun b hb => List.mem_range.mp (pt.subset (List.mem_of_mem_take hb))
    generalize List.take (C + 1) ts = tl at ht6 htl htnd htlt
    clear hq5 sb05 hq4 sbH4 sb5' sb5 R5 R4 pt pm2 hr5 nr2
    wtm_at "Lrd"
    intro q7 n7
    wtm_at "Lrd"
    refine ⟨q7, (S : Int), _, rfl, rfl, upd_same, by omega, by omega, small_len (by rw [Int.toNat_natCast]; simp; omega), fun q8 n8 => ?_⟩
    obtain ⟨n87, n8'⟩ := ne_new n8
    have nq8p := R6.there n8'
    rw [Int.toNat_natCast, rep_flat, show List.replicate S (V.str (Str.ofString "")) = (List.replicate S (Str.ofString "")).map V.str by rw [List.map_replicate]]
    wtm_at "Lrd"
    refine ⟨by omega, by omega, ?_⟩
    rw [Int.toNat_natCast]
    have nq7p := R6.there n7
    have R8 := (R6.new (o := .lst [V.str (Str.ofString "")]) n7).new (o := .lst ((List.replicate S (Str.ofString "")).map V.str)) n8
    have sb8 := (sb6.new (o := .lst [V.str (Str.ofString "")]) (sb6.free nq7p n7)).new (o := .lst ((List.replicate S (Str.ofString "")).map V.str)) (sb6.free nq8p n8')
    have hn8 : (upd (upd H6 q7 (.lst [V.str (Str.ofString "")])) q8 (.lst ((List.replicate S (Str.ofString "")).map V.str))) q3 = some (.lst (nl.map V.str)) := by wtm_at "Lhp"
    have ht8 : (upd (upd H6 q7 (.lst [V.str (Str.ofString "")])) q8 (.lst ((List.replicate S (Str.ofString "")).map V.str))) q6 = some (.tup (tl.map fun (n : Nat) => V.int (n : Int))) := by wtm_at "Lhp"
    have hs8 : (upd (upd H6 q7 (.lst [V.str (Str.ofString "")])) q8 (.lst ((List.replicate S (Str.ofString "")).map V.str))) q8 = some (.lst ((List.replicate S (Str.ofString "")).map V.str)) := upd_same
    have hq8n : H q8 = none := sb6.free nq8p n8'
    have n38 : q3 ≠ q8 := ne_of_none hn6 n8'
    have n68 : q6 ≠ q8 := ne_of_none ht6 n8'
    generalize upd (upd H6 q7 (.lst [V.str (Str.ofString "")])) q8 (.lst ((List.replicate S (Str.ofString "")).map V.str)) = H8 at R8 sb8 hn8 ht8 hs8 ⊢
    refine for_it2 walk_range (fun i σ H' => ∃ (ss : List Str) (kv : Option V), σ = [some (.ref p), some (.int (most : Int)), some (.ref q1), some (.int ((C + 1 : Nat) : Int)), some (.ref q3), some (.int (S : Int)), some (.ref q6), some (.ref q8), kv, none, none, none, none, none] ∧
      H' q8 = some (.lst (ss.map V.str)) ∧ ss.length = S ∧ (∀ (b : Nat) (x : Str), ss[b]? = some x → x = Str.ofString "" ∨ ∃ (k : Nat) (n : Str), tl[k]? = some b ∧ nl[k]? = some n ∧ Worn x n) ∧ Row K H' p a ns ∧ Sb p H H' ∧ H' q3 = some (.lst (nl.map V.str)) ∧ H' q6 = some (.tup (tl.map fun (n : Nat) => V.int (n : Int))))
      ⟨_, none, rfl, hs8, List.length_replicate, fun b x hx => .inl (List.eq_of_mem_replicate (List.mem_of_getElem? hx)), R8, sb8, hn8, ht8⟩ (fun _ _ _ _ _ => trivial) ?turn ?end_
    case turn =>
      rintro i x σ H9 H9' hi ⟨ss, kv, rfl, hs9, hsl, hw, R9, sb9, hn9, ht9⟩ ⟨rfl, rfl⟩
      dsimp only
      rw [Int.zero_add]
      wtm_at "Lrd"
      refine ⟨p, a, ns, 4, rfl, R9, by omega, by omega, fun r H10 r0 r1 R10 sb10 => ?_⟩
      have hs10 := sb10 _ _ nq8p hs9
      have hn10 := sb10 _ _ nq3p hn9
      have ht10 := sb10 _ _ nq6p ht9
      have sbx := sb9.trans sb10
      clear sb10 R9 hs9 hn9 ht9
      wtm_at "Lrd"
      refine ite2 (fun c => ?_) (fun c => ?_)
      · have hin : i < nl.length := by omega
        have hit : i < tl.length := by omega
        have hvn : atI (nl.map V.str) (i : Int) = some (.str nl[i]) := atI_nat (by rw [List.getElem?_map, List.getElem?_eq_getElem hin]; rfl)
        have hvt : atI (tl.map fun (n : Nat) => V.int (n : Int)) (i : Int) = some (.int ((tl[i] : Nat) : Int)) := atI_nat (by rw [List.getElem?_map, List.getElem?_eq_getElem hit]; rfl)
        wtm_at "Lrd"
        intro D nD
        have nDp := R10.there nD
        have hsz : nl[i].cps.size ≤ 8 := pool_size _ (nsub _ (List.getElem_mem _))
        refine lc_it walk_str (fun j H' => ∃ cs : List Nat, H' D = some (.lst (cs.map fun c => V.str ⟨#[c]⟩)) ∧ cs.length = j ∧ (∀ (m c : Nat), cs[m]? = some c → c = 46 ∨ nl[i].cps[m]? = some c) ∧ Row K H' p a ns ∧ Sb p H H' ∧ H' q8 = some (.lst (ss.map V.str)) ∧ H' q3 = some (.lst (nl.map V.str)) ∧ H' q6 = some (.tup (tl.map fun (n : Nat) => V.int (n : Int))))
          ⟨[], upd_same, rfl, (by intro m c h; cases h), R10.new nD, sbx.new (sbx.free nDp nD), by wtm_at "Lhp", by wtm_at "Lhp", by wtm_at "Lhp"⟩ (fun _ _ _ _ => trivial) ?lt ?le
        case lt =>
          rintro j x H11 H11' hj ⟨cs, hD, hcl, hc, R11, sb11, hs11, hn11, ht11⟩ ⟨rfl, c0, hc0, rfl⟩
          refine rd_gName ?_
          refine ⟨rfl, ?_⟩
          wtm_at "Lrd"
          refine ⟨p, a, ns, 2, rfl, R11, by omega, by omega, fun r2 H12 _ _ R12 sb12 => ?_⟩
          have hD12 := sb12 _ _ nDp hD
          have fin : ∀ c : Nat, (c = 46 ∨ c = c0) → ∃ acc, H12 D = some (.lst acc) ∧ acc.length < sizeLine ∧ (∃ cs : List Nat, (upd H12 D (.lst (acc ++ [V.str ⟨#[c]⟩]))) D = some (.lst (cs.map fun c => V.str ⟨#[c]⟩)) ∧ cs.length = j + 1 ∧ (∀ (m c : Nat), cs[m]? = some c → c = 46 ∨ nl[i].cps[m]? = some c) ∧ Row K (upd H12 D (.lst (acc ++ [V.str ⟨#[c]⟩]))) p a ns ∧ Sb p H (upd H12 D (.lst (acc ++ [V.str ⟨#[c]⟩]))) ∧ (upd H12 D (.lst (acc ++ [V.str ⟨#[c]⟩]))) q8 = some (.lst (ss.map V.str)) ∧ (upd H12 D (.lst (acc ++ [V.str ⟨#[c]⟩]))) q3 = some (.lst (nl.map V.str)) ∧ (upd H12 D (.lst (acc ++ [V.str ⟨#[c]⟩]))) q6 = some (.tup (tl.map fun (n : Nat) => V.int (n : Int)))) := by
            intro c ec
            refine ⟨_, hD12, small_lt (by rw [List.length_map]; omega), cs ++ [c], by rw [List.map_append]; exact upd_same, by rw [List.length_append, hcl]; rfl, ?_, R12.lst hD12 nDp, (sb11.trans sb12).new (sbx.free nDp nD), (upd_ne (ne_of_none hs10 nD)).trans (sb12 _ _ nq8p hs11), (upd_ne (ne_of_none hn10 nD)).trans (sb12 _ _ nq3p hn11), (upd_ne (ne_of_none ht10 nD)).trans (sb12 _ _ nq6p ht11)⟩
            intro m c' hm
            rw [List.getElem?_append] at hm
            split at hm
            · exact hc m c' hm
            · obtain ⟨h0, e0⟩ := List.getElem?_eq_some_iff.mp hm
              have hm0 : m - cs.length = 0 := by
                rw [List.length_singleton] at h0
                omega
              have em : m = j := by omega
              subst em
              have e1 : c = c' := by
                rw [hm0] at hm
                exact Option.some.inj hm
              subst e1
              rcases ec with ec | ec
              · exact .inl ec
              · rw [ec]
                exact .inr hc0
          wtm_at "Lrd"
          refine ite2 (fun c => ?_) (fun c => ?_)
          · wtm_at "Lrd"
            exact fin c0 (.inr rfl)
          · wtm_at "Lrd"
            exact fin 46 (.inl rfl)
        case le =>
          rintro H11 ⟨cs, hD, hcl, hc, R11, sb11, hs11, hn11, ht11⟩
          refine ⟨_, _, cs.map fun c => (⟨#[c]⟩ : Str), rfl, rfl, Or.inl (SqL.of (by rw [List.map_map]; exact hD)), by rw [sum_ones, List.length_map, show (Str.ofString "").length = 0 by decide +kernel]; omega, ?_⟩
          rw [join_signs]
          have htS : tl[i] < ss.length := by
            rw [hsl]
            exact htlt _ (List.getElem_mem _)
          have hix : ixN (ss.map V.str).length ((tl[i] : Nat) : Int) = some tl[i] := ixN_nat (by rw [List.length_map]; exact htS)
          wtm_at "Lrd"
          refine ⟨ss.set tl[i] ⟨cs.toArray⟩, _, rfl, by rw [List.map_set]; exact upd_same, by rw [List.length_set]; exact hsl, ?_, R11.lst hs11 nq8p, sb11.new hq8n, by wtm_at "Lhp", by wtm_at "Lhp"⟩
          intro b x hb
          by_cases eb : tl[i] = b
          · subst eb
            rw [List.getElem?_set_self htS] at hb
            cases hb
            refine .inr ⟨i, nl[i], List.getElem?_eq_getElem hit, List.getElem?_eq_getElem hin, ?_, ?_⟩
            · show cs.length = _
              exact hcl
            · intro m c hm
              refine hc m c ?_
              rw [← hm]
              show cs[m]? = cs.toArray[m]?
              rw [List.getElem?_toArray]
          · rw [List.getElem?_set_ne eb] at hb
            exact hw b x hb
      · wtm_at "Lrd"
        exact ⟨ss, _, rfl, hs10, hsl, hw, R10, sbx, hn10, ht10⟩
    case end_ =>
      rintro σ H9 ⟨ss, kv, rfl, hs9, hsl, hw, R9, sb9, hn9, ht9⟩
      wtm_at "Lrd"
      intro wy nwy
      have nwyp := R9.there nwy
      have hwyn : H wy = none := sb9.free nwyp nwy
      have h3w : q3 ≠ wy := ne_of_none hn9 nwy
      have h6w : q6 ≠ wy := ne_of_none ht9 nwy
      have h8w : q8 ≠ wy := ne_of_none hs9 nwy
      wtm_at "Lrd"
      refine for_it2 (walk_list (xs := nl.map V.str)) (fun i σ H' => ∃ (kvs : List (Key × V)) (ws : List Man) (nv gv : Option V), σ = [some (.ref p), some (.int (most : Int)), some (.ref q1), some (.int ((C + 1 : Nat) : Int)), some (.ref q3), some (.int (S : Int)), some (.ref q6), some (.ref q8), kv, some (.ref wy), nv, gv, none, none] ∧
        H' wy = some (.dK kvs) ∧ kvs.map (·.1) = (nl.take i).map Sum.inr ∧ MansAt H' kvs ws ∧ (∀ g, Man.guess g ∈ ws → g.length = C + 1 ∧ ∀ b, some b ∈ g → b < S) ∧ Row K H' p a ns ∧ Sb p H H' ∧ H' q3 = some (.lst (nl.map V.str)) ∧ H' q6 = some (.tup (tl.map fun (n : Nat) => V.int (n : Int))) ∧ H' q8 = some (.lst (ss.map V.str)))
        ⟨[], [], none, none, rfl, upd_same, rfl, .nil, (fun g h => nomatch h), R9.new nwy, sb9.new hwyn, by wtm_at "Lhp", by wtm_at "Lhp", by wtm_at "Lhp"⟩ (fun i σ H' _ ⟨_, _, _, _, _, _, _, _, _, _, _, h, _⟩ => SqL.of h) ?turn2 ?end2
      case turn2 =>
        rintro i x σ H10 H10' hi ⟨kvs, ws, nv, gv, rfl, hwy, hk, hp, hg, R10, sb10, hn10, ht10, hs10⟩ ⟨rfl, hx⟩
        have hin : i < nl.length := by rw [List.length_map] at hi; exact hi
        obtain rfl : x = V.str nl[i] := by
          rw [List.getElem?_map, List.getElem?_eq_getElem hin] at hx
          exact (Option.some.inj hx).symm
        wtm_at "Lrd"
        intro D nD
        have nDp := R10.there nD
        have hDn : H D = none := sb10.free nDp nD
        have h3D : q3 ≠ D := ne_of_none hn10 nD
        have h6D : q6 ≠ D := ne_of_none ht10 nD
        have h8D : q8 ≠ D := ne_of_none hs10 nD
        have hwD : wy ≠ D := ne_of_none hwy nD
        refine lc_it (walk_tup (xs := tl.map fun (n : Nat) => V.int (n : Int))) (fun j H' => ∃ gs : List (Option Nat), H' D = some (.lst (gs.map optV)) ∧ gs.length = j ∧ (∀ b, some b ∈ gs → b < S) ∧ Row K H' p a ns ∧ Sb p H H' ∧ H' q3 = some (.lst (nl.map V.str)) ∧ H' q6 = some (.tup (tl.map fun (n : Nat) => V.int (n : Int))) ∧ H' q8 = some (.lst (ss.map V.str)) ∧ H' wy = some (.dK kvs) ∧ MansAt H' kvs ws)
          ⟨[], upd_same, rfl, (fun b h => nomatch h), R10.new nD, sb10.new hDn, (upd_ne h3D).trans hn10, (upd_ne h6D).trans ht10, (upd_ne h8D).trans hs10, (upd_ne hwD).trans hwy, hp.new nD⟩ (fun i H' _ ⟨_, _, _, _, _, _, _, h, _⟩ => SqT.of h) ?lt ?le
        case lt =>
          rintro j x H11 H11' hj ⟨gs, hD, hgl, hgb, R11, sb11, hn11, ht11, hs11, hwy11, hp11⟩ ⟨rfl, hx⟩
          have hjt : j < tl.length := by rw [List.length_map] at hj; exact hj
          obtain rfl : x = V.int ((tl[j] : Nat) : Int) := by
            rw [List.getElem?_map, List.getElem?_eq_getElem hjt] at hx
            exact (Option.some.inj hx).symm
          refine rd_gName ?_
          refine ⟨rfl, ?_⟩
          wtm_at "Lrd"
          refine ⟨p, a, ns, (S : Int), rfl, R11, by omega, by omega, fun r H12 r0 r1 R12 sb12 => ?_⟩
          obtain ⟨r, rfl⟩ : ∃ q : Nat, r = (q : Int) := ⟨r.toNat, by omega⟩
          wtm_at "Lrd"
          intro l nl_
          have nlp := R12.there nl_
          wtm_at "Lrd"
          refine ⟨p, a, l, ns, [V.int ((tl[j] : Nat) : Int), V.int ((tl[j] : Nat) : Int), V.int (r : Int), V.non], rfl, R12.new nl_, nlp, SqL.of upd_same, by simp, by simp, fun v H13 hv R13 sb13 => ?_⟩
          obtain ⟨o, rfl, ho⟩ : ∃ o : Option Nat, v = optV o ∧ ∀ b, o = some b → b < S := by
            rcases List.mem_cons.mp hv with e | hv
            · exact ⟨some tl[j], e, fun b e => by cases e; exact htlt _ (List.getElem_mem _)⟩
            · rcases List.mem_cons.mp hv with e | hv
              · exact ⟨some tl[j], e, fun b e => by cases e; exact htlt _ (List.getElem_mem _)⟩
              · rcases List.mem_cons.mp hv with e | hv
                · exact ⟨some r, e, fun b e => by cases e; omega⟩
                · rcases List.mem_cons.mp hv with e | hv
                  · exact ⟨none, e, fun b e => nomatch e⟩
                  · cases hv
          have sbl : Sb p H12 H13 := fun b u n e => sb13 b u n ((upd_ne (ne_of_none e nl_)).trans e)
          have sbx := sb12.trans sbl
          have hD13 := sbx _ _ nDp hD
          have hp13 := hp11.sb R11 sbx
          wtm_at "Lrd"
          refine ⟨_, hD13, small_lt (by rw [List.length_map]; omega), gs ++ [o], by rw [List.map_append]; exact upd_same, by rw [List.length_append, hgl]; rfl, ?_, R13.lst hD13 nDp, (sb11.trans sbx).new hDn, (upd_ne h3D).trans (sbx _ _ nq3p hn11), (upd_ne h6D).trans (sbx _ _ nq6p ht11), (upd_ne h8D).trans (sbx _ _ nq8p hs11), (upd_ne hwD).trans (sbx _ _ nwyp hwy11), hp13.put (fun xs e => by rw [hD13] at e; cases e)⟩
          intro b hb
          rcases List.mem_append.mp hb with hb | hb
          · exact hgb b hb
          · exact ho b (List.mem_singleton.mp hb).symm
        case le =>
          rintro H11 ⟨gs, hD, hgl, hgb, R11, sb11, hn11, ht11, hs11, hwy11, hp11⟩
          rw [List.length_map, htl] at hgl
          wtm_at "Lrd"
          refine ⟨D, _, rfl, Or.inl ⟨SqL.of hD, fun t1 nt1 => ?_⟩⟩
          wtm_at "Lrd"
          refine ⟨D, _, rfl, Or.inl ⟨SqL.of (by wtm_at "Lhp"), fun t2 nt2 => ?_⟩⟩
          obtain ⟨nt21, nt2'⟩ := ne_new nt2
          wtm_at "Lrd"
          refine ⟨D, _, rfl, Or.inl ⟨SqL.of (by wtm_at "Lhp"), fun t3 nt3 => ?_⟩⟩
          obtain ⟨nt32, nt3'⟩ := ne_new nt3
          obtain ⟨nt31, nt3''⟩ := ne_new nt3'
          wtm_at "Lrd"
          intro l n_l
          obtain ⟨nl3, nl'⟩ := ne_new n_l
          obtain ⟨nl2, nl''⟩ := ne_new nl'
          obtain ⟨nl1, nl3'⟩ := ne_new nl''
          wtm_at "Lrd"
          refine ⟨p, a, l, ns, [V.str (Str.ofString "back"), V.str (Str.ofString "keep"), V.ref t1, V.ref t2, V.ref t3], rfl, (((R11.new nt1).new nt2).new nt3).new n_l, R11.there nl3', SqL.of upd_same, by simp, by simp, fun v H12 hv R12 sb12 => ?_⟩
          have h1 : H12 t1 = some (.tup (gs.map optV)) := sb12 _ _ (R11.there nt1) ((upd_ne nl1.symm).trans ((upd_ne nt31.symm).trans ((upd_ne nt21.symm).trans upd_same)))
          have h2 : H12 t2 = some (.tup (gs.map optV)) := sb12 _ _ (R11.there nt2') ((upd_ne nl2.symm).trans ((upd_ne nt32.symm).trans upd_same))
          have h3 : H12 t3 = some (.tup (gs.map optV)) := sb12 _ _ (R11.there nt3'') ((upd_ne nl3.symm).trans upd_same)
          have sbl : Sb p H11 H12 := fun b u n e => sb12 b u n ((upd_ne (ne_of_none e nl3')).trans ((upd_ne (ne_of_none e nt3'')).trans ((upd_ne (ne_of_none e nt2')).trans ((upd_ne (ne_of_none e nt1)).trans e))))
          obtain ⟨m, hm, hgm⟩ : ∃ m, ManAt H12 v m ∧ ∀ g, m = Man.guess g → g.length = C + 1 ∧ ∀ b, some b ∈ g → b < S := by
            rcases List.mem_cons.mp hv with e | hv
            · exact ⟨.back, e, fun g e => nomatch e⟩
            · rcases List.mem_cons.mp hv with e | hv
              · exact ⟨.keep, e, fun g e => nomatch e⟩
              · rcases List.mem_cons.mp hv with e | hv
                · exact ⟨.guess gs, ⟨t1, e, h1⟩, fun g e => by cases e; exact ⟨hgl, hgb⟩⟩
                · rcases List.mem_cons.mp hv with e | hv
                  · exact ⟨.guess gs, ⟨t2, e, h2⟩, fun g e => by cases e; exact ⟨hgl, hgb⟩⟩
                  · rcases List.mem_cons.mp hv with e | hv
                    · exact ⟨.guess gs, ⟨t3, e, h3⟩, fun g e => by cases e; exact ⟨hgl, hgb⟩⟩
                    · cases hv
          have hwy12 := sbl _ _ nwyp hwy11
          have hp12 := hp11.sb R11 sbl
          have nin : (Sum.inr nl[i] : Key) ∉ kvs.map (·.1) := by
            rw [hk]
            intro z
            obtain ⟨y, hy, ey⟩ := List.mem_map.mp z
            cases ey
            obtain ⟨q, hq, eq⟩ := List.getElem_of_mem hy
            rw [List.length_take] at hq
            rw [List.getElem_take] at eq
            have := (List.getElem_inj nnd).mp eq
            omega
          have hkl : kvs.length = i := by
            have q := congrArg List.length hk
            rw [List.length_map, List.length_map, List.length_take] at q
            omega
          wtm_at "Lrd"
          refine ⟨wy, _, rfl, DPut.k (k := Sum.inr nl[i]) hwy12 (small_lt (by omega)), ?_⟩
          wtm_at "Lrd"
          rw [putK_new v (valV_notin nin)]
          have nt : ∀ xs, H12 wy ≠ some (.tup xs) := fun xs e => by
            rw [hwy12] at e
            cases e
          refine ⟨kvs ++ [(Sum.inr nl[i], v)], ws ++ [m], _, _, rfl, upd_same, ?_, paired_snoc (hp12.put nt) (hm.put nt), ?_, R12.dct hwy12, (sb11.trans sbl).new hwyn, (upd_ne h3w).trans (sbl _ _ nq3p hn11), (upd_ne h6w).trans (sbl _ _ nq6p ht11), (upd_ne h8w).trans (sbl _ _ nq8p hs11)⟩
          · rw [List.map_append, hk, List.take_succ, List.getElem?_eq_getElem hin, List.map_append]
            rfl
          · intro g hgw
            rcases List.mem_append.mp hgw with hgw | hgw
            · exact hg g hgw
            · exact hgm g (List.mem_singleton.mp hgw).symm
      case end2 =>
        rintro σ H10 ⟨kvs, ws, nv, gv, rfl, hwy, hk, hp, hg, R10, sb10, hn10, ht10, hs10⟩
        rw [List.length_map, List.take_length] at hk
        wtm_at "Lrd"
        refine ⟨q3, _, rfl, Or.inl ⟨SqL.of hn10, fun u1 nu1 => ?_⟩⟩
        wtm_at "Lrd"
        refine ⟨q8, _, rfl, Or.inl ⟨SqL.of (by wtm_at "Lhp"), fun u2 nu2 => ?_⟩⟩
        obtain ⟨nu21, nu2'⟩ := ne_new nu2
        wtm_at "Lrd"
        intro pl npl
        obtain ⟨npl2, npl'⟩ := ne_new npl
        obtain ⟨npl1, npl''⟩ := ne_new npl'
        have hwl : ws.length = nl.length := by
          have q := congrArg List.length hk
          rw [List.length_map, List.length_map] at q
          rw [← q]
          exact (paired_len hp).symm
        refine k pl ⟨nl, ss, ws, tl⟩ _ ⟨by show 0 < nl.length; omega, by show nl.length ≤ 4; omega, nsub, nasc, nnd, by show nl.length ≤ ss.length; omega, by show ss.length ≤ most; omega, hwl, by show tl.length = nl.length; omega, htnd, fun b hb => by show b < ss.length; rw [hsl]; exact htlt b hb, hw, fun g h => by obtain ⟨e1, e2⟩ := hg g h; exact ⟨by show g.length = nl.length; omega, fun b hb => by show b < ss.length; rw [hsl]; exact e2 b hb⟩⟩
          ⟨u1, u2, wy, q6, kvs, upd_same, (upd_ne npl1.symm).trans ((upd_ne nu21.symm).trans upd_same), (upd_ne npl2.symm).trans upd_same, by wtm_at "Lhp", ⟨hk, ((hp.new nu1).new nu2).new npl⟩, by wtm_at "Lhp"⟩ (((R10.new nu1).new nu2).new npl) (((sb10.new (sb10.free (R10.there nu1) nu1)).new (sb10.free (R10.there nu2') nu2')).new (sb10.free (R10.there npl'') npl''))
end


/-! ## houses -/
def housePart (names signs : List Str) (kd : List (Str × MD)) : Option Str :=
  if namesB names = true then if platesB signs names.length = true then if mannersB kd names signs.length = true then none else some (Str.ofString "manners") else some (Str.ofString "plates") else some (Str.ofString "names")
/-- the fields of a house -/
def hF (nm sg dm : Addr) : List (Str × V) := putF "_manners" (.ref dm) (putF "_plates" (.ref sg) (putF "_names" (.ref nm) []))
theorem hF_names (nm sg dm : Addr) : (hF nm sg dm).lookup ("_names" : Str) = some (.ref nm) := by
  unfold hF
  rw [lookup_putF, if_neg (by decide +kernel), lookup_putF, if_neg (by decide +kernel), lookup_putF, if_pos rfl]
theorem hF_plates (nm sg dm : Addr) : (hF nm sg dm).lookup ("_plates" : Str) = some (.ref sg) := by
  unfold hF
  rw [lookup_putF, if_neg (by decide +kernel), lookup_putF, if_pos rfl]
theorem hF_manners (nm sg dm : Addr) : (hF nm sg dm).lookup ("_manners" : Str) = some (.ref dm) := by
  unfold hF
  rw [lookup_putF, if_pos rfl]
/-- a house at h -/
structure HouseAt (C : Addr) (H : Hp) (h : Addr) (names signs : List Str) (kd : List (Str × MD)) : Prop where
  ex : ∃ dx nm sg dm, H h = some (.ins C dx (hF nm sg dm)) ∧ H nm = some (.tup (names.map V.str)) ∧ H sg = some (.tup (signs.map V.str)) ∧ DictAt H dm kd
theorem HouseAt.same {C : Addr} {H H' : Hp} {h : Addr} {names signs : List Str} {kd : List (Str × MD)} (x : HouseAt C H h names signs kd) (s : Same H H') : HouseAt C H' h names signs kd := by
  obtain ⟨dx, nm, sg, dm, h1, h2, h3, h4⟩ := x.ex
  exact ⟨dx, nm, sg, dm, s _ _ h1, s _ _ h2, s _ _ h3, h4.same s⟩
structure HouC (K : PySem.W.Frag) (C : Addr) : Prop where
  cl : Cls K C
  n1 : NoAttr K C "_names"
  n2 : NoAttr K C "_plates"
  n3 : NoAttr K C "_manners"
theorem MDAt.off {H : Hp} {l : Addr} {o u : HO} {v : V} {d : MD} (h : MDAt H v d) (e : H l = some u) (n : ∀ xs, u ≠ .tup xs := by intro xs q; cases q) : MDAt (upd H l o) v d := by
  cases d with
  | txt z => exact h
  | tup xs =>
    obtain ⟨g, ev, h⟩ := h
    refine ⟨g, ev, (upd_ne fun q => ?_).trans h⟩
    rw [q, e] at h
    exact n _ (Option.some.inj h)
theorem lookup_nd : ∀ {kd : List (Str × MD)} {j : Nat} (h : j < kd.length), (kd.map (·.1)).Nodup → kd.lookup kd[j].1 = some kd[j].2
  | (n, d) :: kd, 0, _, _ => by
    show List.lookup n ((n, d) :: kd) = some d
    rw [List.lookup_cons, beq_self_eq_true]
  | (n, d) :: kd, j + 1, h, nd => by
    have hj : j < kd.length := Nat.lt_of_succ_lt_succ h
    have nd' := List.nodup_cons.mp nd
    show List.lookup kd[j].1 ((n, d) :: kd) = some kd[j].2
    have e : (kd[j].1 == n) = false := beq_eq_false_iff_ne.mpr fun q => nd'.1 (by
      rw [← q]
      exact List.mem_map.mpr ⟨kd[j], List.getElem_mem hj, rfl⟩)
    rw [List.lookup_cons, e]
    exact lookup_nd hj nd'.2
/-- .. whose dict was not there in H0 -/
structure HouseNew (C : Addr) (H0 H : Hp) (h : Addr) (names signs : List Str) (kd : List (Str × MD)) : Prop where
  ex : ∃ dx nm sg dm, H h = some (.ins C dx (hF nm sg dm)) ∧ H nm = some (.tup (names.map V.str)) ∧ H sg = some (.tup (signs.map V.str)) ∧ DictAt H dm kd ∧ H0 dm = none
theorem HouseNew.at_ {C : Addr} {H0 H : Hp} {h : Addr} {names signs : List Str} {kd : List (Str × MD)} (x : HouseNew C H0 H h names signs kd) : HouseAt C H h names signs kd := by
  obtain ⟨dx, nm, sg, dm, h1, h2, h3, h4, _⟩ := x.ex
  exact ⟨dx, nm, sg, dm, h1, h2, h3, h4⟩
/-- all but h stays -/
def Ob (h : Addr) (H H' : Hp) : Prop := ∀ b o, b ≠ h → H b = some o → H' b = some o
/-- the promise of House's __init__ -/
def spHInit (C CI : Addr) : Sp := fun vs H Q E => ∃ (h nm sg d dx : Addr) (names signs : List Str) (kd : List (Str × MD)), vs = [.ref h, .ref nm, .ref sg, .ref d] ∧ H h = some (.ins C dx []) ∧
  H nm = some (.tup (names.map V.str)) ∧ H sg = some (.tup (signs.map V.str)) ∧ DictAt H d kd ∧ (∀ z ∈ names, z.length ≤ 1000) ∧ names.length ≤ 1000 ∧ (∀ z ∈ signs, z.length ≤ 1000) ∧ signs.length ≤ 1000 ∧ (∀ q ∈ kd, q.2.fine) ∧
  (housePart names signs kd = none → kd.map (·.1) = names ∧ names.Nodup ∧ ∀ H', Ob h H H' → HouseNew C H H' h names signs kd → Q .non H') ∧
  (∀ part, housePart names signs kd = some part → ∀ H' dd, Same H H' → H dd = none → H' dd = some (.xd [("part", .str part)]) → E (.ref CI) (some dd) H')
section
variable {P : Program} {w : World} {K : PySem.W.Frag} {mg : Str → Option Value} {base : Heap}
abbrev stHI : Stmt := inClass (top 30) 0
theorem scHI : FnScope ["self", "names", "plates", "manners", "name"] ["self", "names", "plates", "manners"] (defScope stHI) := ⟨rfl, rfl, rfl, by decide +kernel, rfl, by decide +kernel, by decide +kernel⟩

theorem ok_hinit {f C CI fI : Addr} {fd fdI : FuncData} (F : L2.Fun K "__init__" "House.__init__" stHI f fd) (T : HouC K C) (TI : SupC P K mg CI fI fdI "InvalidHouse.__init__" stInvH "part") (iI : PySem.W.findIn K (.ref CI) "__init__" = some (some (.ref fI))) (tI : PySem.W.typeIn K (.ref fI) = some (.type "function")) (bI : Binds K fdI ["self", "part"] []) (gI : mg "InvalidHouse" = some (.ref CI)) (n_len : mg "len" = none)
    (c_are_names : Cal P w K mg base 3 "are_names" spNames []) (c_are_plates : Cal P w K mg base 3 "are_plates" spPlates []) (c_are_manners : Cal P w K mg base 4 "are_manners" spManners []) : FnOk P w K mg base (L2.CX P w) 5 f fd ["self", "names", "plates", "manners"] (spHInit C CI) := by
  refine L2.Fun.okX F scHI (fun vs H Q E h => ?_) (fun cdv A outer s H vs Q E hr h => ?_)
  · obtain ⟨h, nm, sg, d, dx, names, signs, kd, rfl, _⟩ := h
    rfl
  · obtain ⟨h, nm, sg, d, dx, names, signs, kd, rfl, hh, hnm, hsg, hd, z1, z2, z3, z4, hf, kG, kB⟩ := h
    have nd := scHI.nd
    have hu := hu_of hr
    have hr1 : Room (1 + 1) _ := hr.mono (by decide)
    have FI : FnOk P w K mg base C8.CX0 1 fI fdI ["self", "part"] (spSup CI "part") := fn_invH TI
    refine ⟨_, (pss_cons (ps_if (pt_not (pt_val (pe_c c_are_names hr (by decide) rfl (pa_cons (pv 1) pa_nil)))) (pss_cons (ps_raise rfl (takes_of rfl rfl rfl rfl) (pmk_oex TI.ex iI tI FI hr1 bI .nil C8.pass0 rfl gI (pa_cons pe_str pa_nil)))
      pss_nil) pss_nil)
      (pss_cons (ps_if (pt_not (pt_val (pe_c c_are_plates hr (by decide) rfl (pa_cons (pv 2) (pa_cons (pe_callB (r := rLen K) call_lenK rfl n_len (by decide +kernel) (pa_cons (pv 1) pa_nil)) pa_nil))))) (pss_cons (ps_raise rfl (takes_of rfl rfl rfl rfl) (pmk_oex TI.ex iI tI FI hr1 bI .nil C8.pass0 rfl gI (pa_cons pe_str pa_nil)))
      pss_nil) pss_nil)
      (pss_cons (ps_if (pt_not (pt_val (pe_c c_are_manners hr (by decide) rfl (pa_cons (pv 3) (pa_cons (pv 1) (pa_cons (pe_callB (r := rLen K) call_lenK rfl n_len (by decide +kernel) (pa_cons (pv 2) pa_nil)) pa_nil)))))) (pss_cons (ps_raise rfl (takes_of rfl rfl rfl rfl) (pmk_oex TI.ex iI tI FI hr1 bI .nil C8.pass0 rfl gI (pa_cons pe_str pa_nil)))
      pss_nil) pss_nil)
      (pss_cons (ps_fld (pv 0) (pv 1) rfl)
      (pss_cons (ps_fld (pv 0) (pv 2) rfl)
      (pss_cons (ps_fld (pv 0) (pe_dc (own := [("name", 4)]) (g := gName 4) (tt := tYes) rfl nd (pi_tup (pv 1)) (blkOk_by (N := ["self", "names", "plates", "manners", "name"]) (sc := defScope stHI) (by decide +kernel)) (fun _ _ _ _ _ => pg_name (i := 4) nd rfl (Or.inl rfl)) (fun _ _ _ _ _ => pts_nil) (fun _ _ _ _ _ => (pv 4)) (fun _ _ _ _ _ => (pe_dget hu (pv 3) (pv 4) (fun _ _ => rfl)))) rfl)
      pss_nil)))))), ?_⟩
    try dsimp only [cxOf]
    wtm_at "Lrd"
    have raise : ∀ (part : Str) (H1 : Hp), part.length ≤ 900 → Same H H1 → housePart names signs kd = some part → ∀ a, H1 a = none → spSup CI (Str.ofString "part") [V.ref a, V.str part] (upd H1 a (exo a CI none))
        (fun v H2 => v = .non ∧ ∃ (d : Addr) (fs : List (Str × V)), H2 a = some (exo a CI (some d)) ∧ H2 d = some (exd d fs) ∧ H1 d = none ∧ E (.ref CI) (some d) (upd (del H2 a) d (.xd fs))) (fun _ _ _ => False) := by
      intro part H1 hl sm hp a na
      refine ⟨a, part, rfl, hl, upd_same, fun dx0 hdx nd => ?_⟩
      have n1 : H1 dx0 = none := by
        rw [upd_ne nd] at hdx
        exact hdx
      refine ⟨rfl, dx0, [("part", .str part)], upd_same, (upd_ne nd).trans upd_same, n1, ?_⟩
      refine kB part hp _ _ (fun b o e => ?_) (sm.free n1) upd_same
      have e1 := sm _ _ e
      have nb1 : b ≠ dx0 := ne_of_none e1 n1
      have nb2 : b ≠ a := ne_of_none e1 na
      rw [upd_ne nb1, del_ne nb2, upd_ne nb2, upd_ne nb1, upd_ne nb2]
      exact e1
    refine ⟨nm, names, rfl, hnm, z1, z2, fun H1 sm1 => ?_⟩
    wtm_at "Lrd"
    refine ite2 (fun c => ?_) (fun c => ?_)
    case _ =>
      have c' : namesB names = false := by
        cases e : namesB names with
        | false => rfl
        | true => rw [e] at c; cases c
      have hp : housePart names signs kd = some (Str.ofString "names") := by
        unfold housePart
        rw [if_neg (by rw [c']; decide)]
      wtm_at "Lrd"
      exact ⟨by decide, raise _ H1 (by decide +kernel) sm1 hp⟩
    case _ =>
      have c1 : namesB names = true := by
        cases e : namesB names with
        | true => rfl
        | false => rw [e] at c; exact absurd rfl c
      have hnm1 := sm1 _ _ hnm
      have hsg1 := sm1 _ _ hsg
      wtm_at "Lrd"
      rw [List.length_map]
      refine ⟨sg, signs, names.length, rfl, hsg1, z3, z4, fun H2 sm2 => ?_⟩
      have sm12 := sm1.trans sm2
      wtm_at "Lrd"
      refine ite2 (fun c => ?_) (fun c => ?_)
      case _ =>
        have c' : platesB signs names.length = false := by
          cases e : platesB signs names.length with
          | false => rfl
          | true => rw [e] at c; cases c
        have hp : housePart names signs kd = some (Str.ofString "plates") := by
          unfold housePart
          rw [if_pos c1, if_neg (by rw [c']; decide)]
        wtm_at "Lrd"
        exact ⟨by decide, raise _ H2 (by decide +kernel) sm12 hp⟩
      case _ =>
        have c2 : platesB signs names.length = true := by
          cases e : platesB signs names.length with
          | true => rfl
          | false => rw [e] at c; exact absurd rfl c
        have hnm2 := sm12 _ _ hnm
        have hsg2 := sm12 _ _ hsg
        have hd2 := hd.same sm12
        wtm_at "Lrd"
        rw [List.length_map]
        refine ⟨d, nm, kd, names, signs.length, rfl, hd2, hnm2, hf, z2, fun H3 sm3 => ?_⟩
        have sm13 := sm12.trans sm3
        wtm_at "Lrd"
        refine ite2 (fun c => ?_) (fun c => ?_)
        case _ =>
          have c' : mannersB kd names signs.length = false := by
            cases e : mannersB kd names signs.length with
            | false => rfl
            | true => rw [e] at c; cases c
          have hp : housePart names signs kd = some (Str.ofString "manners") := by
            unfold housePart
            rw [if_pos c1, if_pos c2, if_neg (by rw [c']; decide)]
          wtm_at "Lrd"
          exact ⟨by decide, raise _ H3 (by decide +kernel) sm13 hp⟩
        case _ =>
          have c3 : mannersB kd names signs.length = true := by
            cases e : mannersB kd names signs.length with
            | true => rfl
            | false => rw [e] at c; exact absurd rfl c
          have hp : housePart names signs kd = none := by
            unfold housePart
            rw [if_pos c1, if_pos c2, if_pos c3]
          obtain ⟨hk, hnd, kk⟩ := kG hp
          have hh3 := sm13 _ _ hh
          have hnm3 := sm13 _ _ hnm
          have hsg3 := sm13 _ _ hsg
          have hd3 := hd.same sm13
          have nmh : nm ≠ h := ne_of hnm hh (by intro q; cases q)
          have sgh : sg ≠ h := ne_of hsg hh (by intro q; cases q)
          wtm_at "Lrd"
          refine ⟨h, C, dx, [], rfl, hh3, T.cl, T.n1, by decide, ?_⟩
          wtm_at "Lrd"
          refine ⟨h, C, dx, _, rfl, upd_same, T.cl, T.n2, Nat.lt_of_le_of_lt (length_putF _ _ _) (by decide), ?_⟩
          rw [upd_upd]
          have hd4 : DictAt (upd H3 h (.ins C dx (putF "_plates" (.ref sg) (putF "_names" (.ref nm) [])))) d kd := by
            obtain ⟨kvs, h1, h2⟩ := hd3.ex
            exact ⟨kvs, (upd_ne (ne_of h1 hh3 (by intro q; cases q))).trans h1, L2.Paired.mapP h2 fun p q r => ⟨r.1, r.2.off hh3⟩⟩
          have hnm4 : (upd H3 h (.ins C dx (putF "_plates" (.ref sg) (putF "_names" (.ref nm) [])))) nm = some (.tup (names.map V.str)) := (upd_ne nmh).trans hnm3
          have hsg4 : (upd H3 h (.ins C dx (putF "_plates" (.ref sg) (putF "_names" (.ref nm) [])))) sg = some (.tup (signs.map V.str)) := (upd_ne sgh).trans hsg3
          have hh4 : (upd H3 h (.ins C dx (putF "_plates" (.ref sg) (putF "_names" (.ref nm) [])))) h = some (.ins C dx (putF "_plates" (.ref sg) (putF "_names" (.ref nm) []))) := upd_same
          have ob4 : Ob h H (upd H3 h (.ins C dx (putF "_plates" (.ref sg) (putF "_names" (.ref nm) [])))) := fun b o nb e => (upd_ne nb).trans (sm13 _ _ e)
          generalize upd H3 h (.ins C dx (putF "_plates" (.ref sg) (putF "_names" (.ref nm) []))) = H4 at hd4 hnm4 hsg4 hh4 ob4 ⊢
          wtm_at "Lrd"
          intro D nD
          have nD0 : H D = none := by
            cases e : H D with
            | none => rfl
            | some o =>
              by_cases q : D = h
              · rw [q, hh4] at nD
                cases nD
              · rw [ob4 D o q e] at nD
                cases nD
          have hkl : kd.length = names.length := by rw [← hk, List.length_map]
          refine dc_tup (xs := names.map V.str) (fun j H' => ∃ kvs' : List (Key × V), H' D = some (.dK kvs') ∧ kvs'.map (·.1) = (names.take j).map Sum.inr ∧ Paired (fun (p : Key × V) (q : Str × MD) => p.1 = Sum.inr q.1 ∧ MDAt H' p.2 q.2) kvs' (kd.take j) ∧ Same H4 H')
            ⟨[], upd_same, rfl, .nil, same_new (Same.refl H4) nD⟩ (fun _ _ _ ⟨_, _, _, _, sm⟩ => SqT.of (sm _ _ hnm4)) ?lt ?le
          case lt =>
            rintro j x H5 hx ⟨kvs', hD, hks, hps, sm⟩
            have hjl : j < names.length := by
              have := (List.getElem?_eq_some_iff.mp hx).1
              rw [List.length_map] at this
              exact this
            obtain rfl : x = V.str names[j] := by
              rw [List.getElem?_map, List.getElem?_eq_getElem hjl] at hx
              exact (Option.some.inj hx).symm
            have hjk : j < kd.length := by omega
            have ek : kd[j].1 = names[j] := by
              have q : (kd.map (·.1))[j]? = names[j]? := by rw [hk]
              rw [List.getElem?_map, List.getElem?_eq_getElem hjk, List.getElem?_eq_getElem hjl] at q
              exact Option.some.inj q
            refine rd_gName ?_
            refine ⟨rfl, ?_⟩
            obtain ⟨kvs5, hk5, hp5⟩ := (hd4.same sm).ex
            have lk : kd.lookup names[j] = some kd[j].2 := by
              rw [← ek]
              exact lookup_nd hjk (by rw [hk]; exact hnd)
            wtm_at "Lrd"
            rcases dict_look (n := names[j]) hp5 with ⟨e1, e2⟩ | ⟨d0, v, e1, e2, hv⟩
            · rw [lk] at e1
              cases e1
            · rw [lk] at e1
              cases e1
              refine ⟨d, v, rfl, e2 ▸ DGet.k (k := Sum.inr names[j]) hk5, ?_⟩
              have hl' : kvs'.length ≤ 1000 := by
                have q := congrArg List.length hks
                rw [List.length_map, List.length_map, List.length_take] at q
                omega
              have nin : (Sum.inr names[j] : Key) ∉ kvs'.map (·.1) := by
                rw [hks]
                intro z
                obtain ⟨y, hy, ey⟩ := List.mem_map.mp z
                cases ey
                obtain ⟨q, hq, eq⟩ := List.getElem_of_mem hy
                rw [List.length_take] at hq
                rw [List.getElem_take] at eq
                have := (List.getElem_inj hnd).mp eq
                omega
              refine ⟨kvs', Sum.inr names[j], rfl, hD, small_lt hl', kvs' ++ [(Sum.inr names[j], v)], by rw [putK_new v (valV_notin nin)]; exact upd_same, ?_, ?_, same_new sm nD⟩
              · rw [List.map_append, hks, List.take_succ, List.getElem?_eq_getElem hjl, List.map_append]
                rfl
              · rw [List.take_succ, List.getElem?_eq_getElem hjk]
                refine paired_snoc (L2.Paired.mapP hps fun p q r => ⟨r.1, r.2.off hD⟩) ⟨?_, hv.off hD⟩
                show (Sum.inr names[j] : Key) = Sum.inr kd[j].1
                rw [ek]
          case le =>
            rintro H5 ⟨kvs', hD, hks, hps, sm⟩
            rw [List.length_map, ← hkl, List.take_length] at hps
            wtm_at "Lrd"
            have hh5 := sm _ _ hh4
            refine ⟨h, C, dx, _, rfl, hh5, T.cl, T.n3, Nat.lt_of_le_of_lt (length_putF _ _ _) (Nat.lt_of_le_of_lt (Nat.succ_le_succ (length_putF _ _ _)) (by decide)), ?_⟩
            wtm_at "Lrd"
            have Dh : D ≠ h := ne_of hD hh5 (by intro q; cases q)
            refine kk _ (fun b o nb e => (upd_ne nb).trans (sm _ _ (ob4 b o nb e))) ⟨dx, nm, sg, D, upd_same, (upd_ne nmh).trans (sm _ _ hnm4), (upd_ne sgh).trans (sm _ _ hsg4), ⟨kvs', (upd_ne Dh).trans hD, L2.Paired.mapP hps fun p q r => ⟨r.1, r.2.off hh5⟩⟩, nD0⟩
end

/-! ## own objects: len, ==, != by the methods -/
section
variable {X : Cx} {CX : CXT} {n : Nat} {C f : Addr} {fd : FuncData} {ps : List Str} {sp : Sp} {E : XK}
open PySem.W PyProof.Rows PySem.Calls
/-- a def called from inside a builtin's turn -/
theorem fn_inner {A : Around} {pins : List (Addr × Obj)} {s : Shared} {σ : L2.St} {H : Hp} {vs : List V} {us : List Value} {Q : VK} (F : FnOk X.prog X.w X.K X.mg X.base CX n f fd ps sp) (hb : Binds X.K fd ps []) (hx : Passes CX X E)
    (sb : L2.Sub X n A) (I : Inv X pins σ H s) (r : Vals vs us) (h : sp vs H Q E) : wpAny (model X.prog X.w) A (call (.ref f) us) (EP X pins σ Q) X.xe s := by
  have e := I.env0
  have ez : Env0 X.prog X.w X.K X.mg X.base A X.stack s H := ⟨sb.fr ▸ e.frames, e.mod, e.bs, e.bsz, e.funs, e.frf, e.hok, e.bare⟩
  have hl : us.length = ps.length := r.length.symm.trans (F.len _ _ _ _ h)
  have hbd := hb s us I.kIn (by rw [List.append_nil]; exact hl)
  rw [List.append_nil] at hbd
  refine wpAny_call (codeAny_mono (F.run A X.stack s H ⟨us, []⟩ us vs Q E sb.room ez hbd r h) fun o t hq => ?_)
  cases o with
  | error er => exact hx pins σ H s er t I hq
  | ok fl =>
    cases fl with
    | ret u =>
      obtain ⟨v, H', J, rv, q⟩ := I.after hq
      exact ⟨v, H', J, rv, q⟩
    | next => exact False.elim hq
    | brk => exact False.elim hq
    | cont => exact False.elim hq
/-- len(x) by the text's __len__ -/
def rLenI (C : Addr) (sp : Sp) (E : XK) : List V → Hp → VK → Prop := fun xs H Q => ∃ a dx fs, xs = [.ref a] ∧ H a = some (.ins C dx fs) ∧ sp [.ref a] H (fun v H' => ∃ k : Nat, v = .int (k : Nat) ∧ k < 2 ^ 62 ∧ Q (.int (k : Nat)) H') E
theorem call_lenI (F : FnOk X.prog X.w X.K X.mg X.base CX n f fd ps sp) (hr : Room (n + 1) X.A) (hs : findIn X.K (.ref C) "__len__" = some (some (.ref f))) (hf : isFn X.K (.ref f) = true) (hb : Binds X.K fd ps []) (hx : Passes CX X E) : CallR X (.builtin "len") (rLenI C sp E) := by
  intro pins s σ H xs us Q I r h
  obtain ⟨a, dx, fs, rfl, ha, q⟩ := h
  obtain ⟨u, rfl, ru⟩ := vals1 r
  cases ru
  obtain ⟨mA, J, _⟩ := ins_get I.hok ha
  obtain ⟨od, J, _⟩ := J.look
  obtain ⟨m, hF⟩ := I.fr
  refine PySem.W.len_K hF I.ok.mod.kin J hs hf (wpAny_mono (fn_inner (A := X.A.in1) F hb hx ⟨hr.in1, rfl⟩ I (vs := [.ref a]) (.cons rfl .nil) q) (fun v t hv => ?_) fun _ _ z => z)
  obtain ⟨y, H', I', ry, k, rfl, hk, q'⟩ := hv
  obtain ⟨tk, rfl⟩ : ∃ t, v = Value.int (k : Nat) t := ry
  refine ⟨⟨by omega, by omega⟩, .int (k : Nat), H', I'.tok _, ⟨_, rfl⟩, q'⟩
/-- x == y by the text's __eq__ -/
def rEqI (C : Addr) (sp : Sp) (E : XK) (neg : Bool) : R2 := fun x y H Q => ∃ a b dx dy fs gs, x = .ref a ∧ y = .ref b ∧ H a = some (.ins C dx fs) ∧ H b = some (.ins C dy gs) ∧ sp [.ref a, .ref b] H (fun v H' => ∃ k, v = .bl k ∧ Q (.bl (neg ^^ k)) H') E
theorem op_eqI (F : FnOk X.prog X.w X.K X.mg X.base CX n f fd ps sp) (hr : Room n X.A) (hs : findIn X.K (.ref C) "__eq__" = some (some (.ref f))) (hf : isFn X.K (.ref f) = true) (hb : Binds X.K fd ps []) (hx : Passes CX X E) : OpR X (compareOp .Eq) (rEqI C sp E false) := by
  intro pins s σ H x y v u Q I rx ry h
  obtain ⟨a, b, dx, dy, fs, gs, rfl, rfl, ha, hb', q⟩ := h
  cases rx
  cases ry
  obtain ⟨mA, J, _⟩ := ins_get I.hok ha
  obtain ⟨mB, J', _⟩ := ins_get I.hok hb'
  obtain ⟨od, J, _⟩ := J.look
  obtain ⟨od', J', _⟩ := J'.look
  obtain ⟨m, hF⟩ := I.fr
  refine PySem.W.cmp_K (tb := .ref C) (op := .Eq) hr.units0 hF I.ok.mod.kin J J'.type (by simp [PySem.W.notFirst]) hs hf (wpAny_mono (fn_inner (A := X.A) F hb hx ⟨hr, rfl⟩ I (vs := [.ref a, .ref b]) (.cons rfl (.cons rfl .nil)) q) (fun v t hv => ?_) fun _ _ z => z)
  obtain ⟨z, H', I', rz, k, rfl, q'⟩ := hv
  cases rz
  rw [Bool.false_xor] at q'
  exact ⟨.bl k, H', I', rfl, q'⟩
/-- the slot of every object -/
theorem ne_slot : Slot "object" "__ne__" "object.__ne__" := PySem.F.cmp_object.ne
theorem op_neI (F : FnOk X.prog X.w X.K X.mg X.base CX n f fd ps sp) (hr : Room (n + 1) X.A) (hs : findIn X.K (.ref C) "__eq__" = some (some (.ref f))) (hn : findIn X.K (.ref C) "__ne__" = some (some (.builtin "object.__ne__"))) (hob : subIn X.K (.ref C) (.type "object") = some true) (hf : isFn X.K (.ref f) = true) (hb : Binds X.K fd ps []) (hx : Passes CX X E) : OpR X (compareOp .NotEq) (rEqI C sp E true) := by
  intro pins s σ H x y v u Q I rx ry h
  obtain ⟨a, b, dx, dy, fs, gs, rfl, rfl, ha, hb', q⟩ := h
  cases rx
  cases ry
  obtain ⟨mA, J, _⟩ := ins_get I.hok ha
  obtain ⟨mB, J', _⟩ := ins_get I.hok hb'
  obtain ⟨od, J, _⟩ := J.look
  obtain ⟨od', J', _⟩ := J'.look
  have inner : wpAny (model X.prog X.w) X.A (call (.builtin "object.__ne__") [.ref a, .ref b]) (fun r t => r ≠ .notImplemented ∧ EP X pins σ Q r t) X.xe s := by
    refine wpAny_call (codeAny_call_builtin ne_slot.plain PySem.F.cmpEntry_ne (check_slot PySem.F.cmpKind_ne PySem.F.cmpSplit_ne (J.type.andThen (looks_subIn I.kIn hob)) (PySem.F.cmpArgs_ne _ _) ?_))
    unfold Builtin.«object.__ne__»
    refine wpAny_bind (wpAny_pure ?_)
    refine wpAny_bind (wpAny_cRoomFor hr.in1.units0 ?_)
    refine wpAny_bind (ifBound_K I.kIn J hs hf (wpAny_mono (fn_inner (A := X.A.in1) F hb hx ⟨hr.in1, rfl⟩ I (vs := [.ref a, .ref b]) (.cons rfl (.cons rfl .nil)) q) (fun v t hv => ?_) fun _ _ z => z))
    obtain ⟨z, H', I', rz, k, rfl, q'⟩ := hv
    cases rz
    refine wpAny_bind (wpAny_truthy_bool ?_)
    refine wpAny_pure ⟨fun z => (nomatch z), .bl (!k), H', I', rfl, ?_⟩
    rw [Bool.true_xor] at q'
    exact q'
  have tried : wpAny (model X.prog X.w) X.A (tryCompare (.ref a) "__ne__" (.ref b)) (fun r t => ∃ v, r = some v ∧ EP X pins σ Q v t) X.xe s := by
    unfold tryCompare
    refine wpAny_bind ?_
    simp only [callSpecialIfBound?, bindSpecialIfBound?]
    refine wpAny_holding (wpAny_bind (wpAny_bind (wpAny_bind (J.type.here ((looks_findIn I.kIn hn).here ?_)))))
    simp only [ne_slot.bind]
    refine wpAny_bind (wpAny_askSetting (wpAny_ite ?_))
    have fin : ∀ (r : Value) (t : Shared), (r ≠ .notImplemented ∧ EP X pins σ Q r t) → wpAny (model X.prog X.w) X.A (match (some r : Option Value) with | some .notImplemented => pure none | none => pure none | some u => pure (some u)) (fun r t => ∃ v, r = some v ∧ EP X pins σ Q v t) X.xe t := fun r t hv => by
      obtain ⟨nv, hv⟩ := hv
      cases r <;> first | exact absurd rfl nv | exact wpAny_pure ⟨_, rfl, hv⟩
    split
    · exact wpAny_bind (wpAny_pure (wpAny_pure (wpAny_bind (wpAny_mono inner (fun r t hv => wpAny_pure (fin r t hv)) fun _ _ z => z))))
    · exact wpAny_tryCatch (wpAny_bind (wpAny_pure (wpAny_pure (wpAny_bind (wpAny_mono inner (fun r t hv => wpAny_pure (fin r t hv)) fun _ _ z => z)))))
  show wpAny _ _ (richCompare .NotEq _ _) _ _ _
  unfold richCompare
  simp only [oneThing_ref]
  refine wpAny_holding (wpAny_bind (wpAny_cRoomFor (hr.mono (Nat.le_succ _)).units0 ?_))
  refine wpAny_bind (J.type.here (wpAny_bind (J'.type.here ?_)))
  rw [cmpInfo_NotEq]
  dsimp only
  rw [show (Value.ref C != Value.ref C) = false from by simp]
  simp only [Bool.false_eq_true, if_false]
  refine wpAny_bind (wpAny_pure ?_)
  simp only [Bool.false_eq_true, if_false]
  refine wpAny_bind (wpAny_mono tried (fun r t z => ?_) fun _ _ z => z)
  obtain ⟨v, rfl, q⟩ := z
  exact wpAny_pure q
end

/-! ## == of what houses hold -/
section
open PySem.W PyProof.Rows PySem.Calls PySem.SeqAt
/-- a leaf's data -/
def dW : V → PyData
  | .bl b => .bool b
  | .int i => .int i
  | .str z => .str z
  | _ => .none
def Leaf (x : V) : Prop := x = .non ∨ (∃ i, x = .int i) ∨ (∃ b, x = .bl b) ∨ ∃ z, x = .str z
theorem Itm.leaf {x : V} (h : Itm x) : Leaf x := by
  rcases h with h | h | h
  · exact .inl h
  · exact .inr (.inl h)
  · exact .inr (.inr (.inl h))
theorem dw_one (x : V) : (dW x).plain = true ∧ (dW x).depth = 0 := by
  cases x <;> exact ⟨rfl, rfl⟩
theorem dw_plain : ∀ xs : List V, PyData.plainAll (xs.map dW) = true ∧ PyData.depthAll (xs.map dW) = 0
  | [] => ⟨rfl, rfl⟩
  | x :: xs => by
    obtain ⟨h1, h2⟩ := dw_plain xs
    obtain ⟨k1, k2⟩ := dw_one x
    rw [List.map_cons]
    unfold PyData.plainAll PyData.depthAll
    rw [h1, h2, k1, k2]
    exact ⟨rfl, rfl⟩
theorem dw_dp {K : PySem.W.Frag} {H : Hp} : ∀ {xs : List V}, (∀ x ∈ xs, Leaf x) → DpAll K H xs (xs.map dW)
  | [], _ => .nil
  | x :: xs, h => by
    refine .cons ?_ (dw_dp fun y hy => h y (List.mem_cons_of_mem _ hy))
    rcases h x List.mem_cons_self with rfl | ⟨i, rfl⟩ | ⟨b, rfl⟩ | ⟨z, rfl⟩
    · exact .non
    · exact .int i
    · exact .bl b
    · exact .str z
def MD.dat : MD → PyData
  | .txt z => .str z
  | .tup xs => .tuple (xs.map dW)
theorem MD.plain : ∀ d : MD, d.dat.plain = true ∧ d.dat.depth ≤ 1
  | .txt z => ⟨rfl, by show (0 : Nat) ≤ 1; decide⟩
  | .tup xs => by
    obtain ⟨h1, h2⟩ := dw_plain xs
    refine ⟨h1, ?_⟩
    show PyData.depth (.tuple (xs.map dW)) ≤ 1
    unfold PyData.depth
    rw [h2]
    decide
theorem MDAt.dp {K : PySem.W.Frag} {H : Hp} {v : V} {d : MD} (h : MDAt H v d) (hf : d.fine) : Dp K H v d.dat := by
  cases d with
  | txt z =>
    obtain rfl : v = .str z := h
    exact .str z
  | tup xs =>
    obtain ⟨g, rfl, hg⟩ := h
    exact .tup (SqT.of hg) (dw_dp fun x hx => (hf.2 x hx).leaf)
def mdEq (d e : MD) : Bool := PyData.eqv d.dat e.dat
def kdEq (kd ke : List (Str × MD)) : Bool := kd.length == ke.length && kd.all fun q => match ke.lookup q.1 with | some e => mdEq q.2 e | none => false
theorem mdEq_refl (d : MD) : mdEq d d = true := eqv_refl_plain _ (MD.plain d).1
theorem kdEq_refl {kd : List (Str × MD)} (h : (kd.map (·.1)).Nodup) : kdEq kd kd = true := by
  unfold kdEq
  rw [beq_self_eq_true, Bool.true_and, List.all_eq_true]
  intro q hq
  obtain ⟨j, hj, rfl⟩ := List.getElem_of_mem hq
  rw [lookup_nd hj h]
  exact mdEq_refl _
section
variable {X : Cx} {pins : List (Addr × Obj)} {σ : L2.St} {H : Hp} {s : Shared}
theorem hits_md (I : Inv X pins σ H s) {A : Around} (hu : A.units + 64 < cLine) {ke : List (Str × MD)} {ls : List (Key × V)} {vb : List (Key × Value)} (rb : KV ls vb) (pe : Paired (fun (p : Key × V) (q : Str × MD) => p.1 = Sum.inr q.1 ∧ MDAt H p.2 q.2) ls ke) (fe : ∀ q ∈ ke, q.2.fine) :
    ∀ {kd : List (Str × MD)} {ks : List (Key × V)} {va : List (Key × Value)}, KV ks va → Paired (fun (p : Key × V) (q : Str × MD) => p.1 = Sum.inr q.1 ∧ MDAt H p.2 q.2) ks kd → (∀ q ∈ kd, q.2.fine) →
      KeqHitsP X.prog X.w A s vb va (kd.all fun q => match ke.lookup q.1 with | some e => mdEq q.2 e | none => false)
  | [], [], va, ra, _, _ => by
    cases ra
    exact .nil
  | q :: kd, p :: ks, va, ra, hp, fd => by
    cases hp with
    | cons r t =>
      cases ra with
      | @cons _ pv _ pvs h1 h2 =>
        obtain ⟨k, v⟩ := pv
        obtain ⟨e1, rv⟩ := h1
        have ek : k = Sum.inr q.1 := e1.symm.trans r.1
        subst ek
        have ih := hits_md I hu rb pe fe (A := A) h2 t fun z hz => fd z (List.mem_cons_of_mem _ hz)
        rw [List.all_cons]
        have vv := rb.val (Sum.inr q.1)
        rcases dict_look (n := q.1) pe with ⟨l1, l2⟩ | ⟨d, u, l1, l2, hu'⟩
        · rw [l1]
          rw [l2] at vv
          show KeqHitsP _ _ _ _ _ _ (false && _)
          rw [Bool.false_and]
          refine .miss ?_
          cases e : valueAt vb (Sum.inr q.1) with
          | none => rfl
          | some z => rw [e] at vv; exact (show False from vv).elim
        · rw [l1]
          rw [l2] at vv
          obtain ⟨y, ey, ry⟩ := vv.some_of
          obtain ⟨q', hq', eq'⟩ := lookup_mem l1
          have fd1 := fd q List.mem_cons_self
          have fd2 : d.fine := eq' ▸ fe q' hq'
          obtain ⟨as, r1⟩ := Dp.reads I _ _ _ (r.2.dp fd1) rv
          obtain ⟨bs, r2⟩ := Dp.reads I _ _ _ (hu'.dp fd2) ry
          obtain ⟨p1, d1⟩ := MD.plain q.2
          obtain ⟨p2, d2⟩ := MD.plain d
          exact .hit ey (eqAt_plain _ _ A s _ _ _ _ r1 r2 p1 p2 (by omega)).eqP ih
  | [], _ :: _, _, _, hp, _ => nomatch hp
  | _ :: _, [], _, _, hp, _ => nomatch hp
theorem rc_dictM (I : Inv X pins σ H s) {A : Around} (hu : A.units + 66 < cLine) {a b : Addr} {kd ke : List (Str × MD)} (ha : DictAt H a kd) (hb : DictAt H b ke) (fd : ∀ q ∈ kd, q.2.fine) (fe : ∀ q ∈ ke, q.2.fine) (E Q : Value → Shared → Prop) (q : Q (.bool (kdEq kd ke)) s) :
    wpAny (model X.prog X.w) A (richCompare .Eq (.ref a) (.ref b)) Q E s := by
  obtain ⟨ks, hk, pk⟩ := ha.ex
  obtain ⟨ls, hl, pl⟩ := hb.ex
  obtain ⟨_, ya, va, ra, da⟩ := (show ObjOk X.prog X.w H s.heap a (.dK ks) from I.hok a _ hk)
  obtain ⟨_, yb, vb, rb, db⟩ := (show ObjOk X.prog X.w H s.heap b (.dK ls) from I.hok b _ hl)
  have e1 : va.length = kd.length := (ra.length).symm.trans (paired_len pk)
  have e2 : vb.length = ke.length := (rb.length).symm.trans (paired_len pl)
  refine rcP_dicts (knd := mixKind X.prog X.w) ya yb da db (by omega) (fun _ => hits_md I (A := A.in1) (by show A.units + 1 + 64 < cLine; omega) rb pl fe ra pk fd) E Q ?_
  rw [e1, e2]
  exact q
end
section
variable {X : Cx}
def rEqTW (K : PySem.W.Frag) : R2 := fun x y H Q => ∃ a b xs ys, x = .ref a ∧ y = .ref b ∧ SqT K H a xs ∧ SqT K H b ys ∧ (∀ x ∈ xs, Leaf x) ∧ (∀ x ∈ ys, Leaf x) ∧ Q (.bl (PyData.eqvAll (xs.map dW) (ys.map dW))) H
theorem op_eqTW (hu : X.A.units + 66 < cLine) : OpR X (compareOp .Eq) (rEqTW X.K) := by
  intro pins s σ H x y v u Q I rx ry h
  obtain ⟨a, b, xs, ys, rfl, rfl, ha, hb, fx, fy, q⟩ := h
  obtain ⟨as, r1⟩ := Dp.reads I _ _ v (.tup ha (dw_dp fx)) rx
  obtain ⟨bs, r2⟩ := Dp.reads I _ _ u (.tup hb (dw_dp fy)) ry
  obtain ⟨p1, d1⟩ := dw_plain xs
  obtain ⟨p2, d2⟩ := dw_plain ys
  refine eq_plain r1 r2 p1 p2 ?_ ⟨.bl _, H, I, rfl, q⟩
  unfold PyData.depth
  rw [d1, d2]
  omega
def rEqDM : R2 := fun x y H Q => ∃ a b kd ke, x = .ref a ∧ y = .ref b ∧ DictAt H a kd ∧ DictAt H b ke ∧ (∀ q ∈ kd, q.2.fine) ∧ (∀ q ∈ ke, q.2.fine) ∧ Q (.bl (kdEq kd ke)) H
theorem op_eqDM (hu : X.A.units + 66 < cLine) : OpR X (compareOp .Eq) rEqDM := by
  intro pins s σ H x y v u Q I rx ry h
  obtain ⟨a, b, kd, ke, rfl, rfl, ha, hb, fd, fe, q⟩ := h
  cases rx
  cases ry
  exact rc_dictM I hu ha hb fd fe _ _ ⟨.bl _, H, I, rfl, q⟩
theorem eqv_strs : ∀ xs ys : List Str, PyData.eqvAll ((xs.map V.str).map dW) ((ys.map V.str).map dW) = decide (xs = ys)
  | [], [] => rfl
  | [], _ :: _ => rfl
  | _ :: _, [] => rfl
  | x :: xs, y :: ys => by
    have ih := eqv_strs xs ys
    show (PyData.eqv (.str x) (.str y) && PyData.eqvAll ((xs.map V.str).map dW) ((ys.map V.str).map dW)) = _
    rw [ih]
    unfold PyData.eqv
    by_cases e : x = y
    · subst e
      by_cases e2 : xs = ys
      · subst e2
        simp
      · simp [e2]
    · simp [e]
theorem leaf_strs {zs : List Str} : ∀ x ∈ zs.map V.str, Leaf x := fun x hx => by
  obtain ⟨z, _, rfl⟩ := List.mem_map.mp hx
  exact .inr (.inr (.inr ⟨z, rfl⟩))
end
/-! != of tuples whose items are equal, a dict among them -/
section
variable {prog : Program} {w : World} {A : Around} {R : Result → Shared → Prop} {s : Shared}
theorem tup_ne_same {l b : Addr} {us vs : Array Value} {n n2 : Nat} {dd dd2 : Option Addr} {sl sl2 : Array (Option Value)} (hsz : us.size = vs.size)
    (turn : ∀ i (h1 : i < us.size) (h2 : i < vs.size), EqP prog w A.in1 s us[i] vs[i] true) (ol : s.heap.get? l = some { cls := .type "tuple", dict := dd, data := .seq us n, slots := sl }) (ob : s.heap.get? b = some { cls := .type "tuple", dict := dd2, data := .seq vs n2, slots := sl2 })
    (q : R (.ok (.ret (.bool false))) s) : wpAny (model prog w) A.in1 (Builtin.«tuple.__ne__» ⟨[.ref l, .ref b], []⟩) (GQ.FinOf prog w A R) (fun e s' => R (.error e) s') s := by
  have sub := AutoSeq1.sub_tuple_tuple
  have zl : (us.toList.zip vs.toList).length = us.size := by simp [hsz]
  obtain ⟨hp, g, d, tk, os⟩ := s
  wp_walk using AutoSeq1.wpAny_loadPart' ol, AutoSeq1.wpAny_loadPart' ob, wpAny_forIn_list _ (fun rest z s' => z.1 = none ∧ s' = ⟨hp, g, d, tk, os⟩ ∧ ∃ i, rest = (us.toList.zip vs.toList).drop i ∧ i ≤ us.size) _
  case turn =>
    rintro ⟨y, x⟩ rest z s' ⟨hz, rfl, i, hr, hi⟩
    have lt : i < (us.toList.zip vs.toList).length := by
      rcases Nat.lt_or_ge i (us.toList.zip vs.toList).length with k | k
      · exact k
      · rw [List.drop_of_length_le k] at hr
        cases hr
    have h1 : i < us.size := zl ▸ lt
    have h2 : i < vs.size := hsz ▸ h1
    rw [List.drop_eq_getElem_cons lt] at hr
    injection hr with hyx ht
    have hy : y = us[i] := by have := congrArg Prod.fst hyx; simpa using this
    have hx : x = vs[i] := by have := congrArg Prod.snd hyx; simpa using this
    subst hy hx
    refine wpAny_bind (turn i h1 h2 _ _ ?_)
    wp_walk
    exact ⟨rfl, rfl, i + 1, ht, h1⟩
  case fin =>
    rintro ⟨b1, b2⟩ s' ⟨hz, rfl, i, hr, hi⟩
    simp only at hz
    subst hz
    wp_walk
    simpa [Builtin.Tuple.tupleCompareSizes, hsz] using q
  case h =>
    exact ⟨rfl, rfl, 0, rfl, Nat.zero_le _⟩
theorem rc_tup_ne {E : Value → Shared → Prop} {l b : Addr} {us vs : Array Value} {Q : Value → Shared → Prop} (hsz : us.size = vs.size) (hu : A.units < cLine) (hl : s.heap.IsTuple l us) (hb : s.heap.IsTuple b vs)
    (turn : ∀ i (h1 : i < us.size) (h2 : i < vs.size), EqP prog w A.in1 s us[i] vs[i] true) (q : Q (.bool false) s) : wpAny (model prog w) A (richCompare .NotEq (.ref l) (.ref b)) Q E s := by
  obtain ⟨⟨c1, dd, t1, sl⟩, ho, hc, n, hd⟩ := id hl
  obtain ⟨⟨c2, dd2, t2, sl2⟩, ho2, hc2, n2, hd2⟩ := id hb
  simp only at hc hd hc2 hd2
  subst hc hd hc2 hd2
  refine wpAny_richCompare_same_room (op := .NotEq) ⟨_, ho, rfl⟩ ⟨_, ho2, rfl⟩ F.slot_tuple_ne (GQ.call_here F.slot_tuple_ne ⟨_, ho, rfl⟩ F.entry_tuple_ne (F.args_tuple_ne_2 _ _) (tup_ne_same (R := wants (fun v s' => v ≠ .notImplemented ∧ Q v s') E) hsz turn ho ho2 ⟨(fun x => nomatch x), q⟩)) hu
end
section
variable {X : Cx}
/-- two items seen to be equal -/
def EqIt (K : PySem.W.Frag) (H : Hp) (x y : V) : Prop :=
  (x = y ∧ Leaf x) ∨ (∃ a b xs, x = .ref a ∧ y = .ref b ∧ SqT K H a xs ∧ SqT K H b xs ∧ ∀ x ∈ xs, Leaf x) ∨ ∃ a b kd ke, x = .ref a ∧ y = .ref b ∧ DictAt H a kd ∧ DictAt H b ke ∧ (∀ q ∈ kd, q.2.fine) ∧ (∀ q ∈ ke, q.2.fine) ∧ kdEq kd ke = true
theorem EqIt.run {pins : List (Addr × Obj)} {σ : L2.St} {H : Hp} {s : Shared} (I : Inv X pins σ H s) {A : Around} (hu : A.units + 66 < cLine) {x y : V} {v u : Value} (h : EqIt X.K H x y) (rx : RelV x v) (ry : RelV y u) : EqP X.prog X.w A s v u true := by
  rcases h with ⟨rfl, f⟩ | ⟨a, b, xs, rfl, rfl, ha, hb, fx⟩ | ⟨a, b, kd, ke, rfl, rfl, ha, hb, fd, fe, e⟩
  · have hd := dw_dp (K := X.K) (H := H) (xs := [x]) fun z hz => List.mem_singleton.mp hz ▸ f
    cases hd with
    | cons h1 _ =>
      obtain ⟨as, r1⟩ := Dp.reads I _ _ v h1 rx
      obtain ⟨bs, r2⟩ := Dp.reads I _ _ u h1 ry
      obtain ⟨p1, d1⟩ := dw_one x
      have q := eqAt_plain _ _ A s _ _ _ _ r1 r2 p1 p1 (by omega)
      rw [eqv_refl_plain _ p1] at q
      exact q.eqP
  · obtain ⟨as, r1⟩ := Dp.reads I _ _ v (.tup ha (dw_dp fx)) rx
    obtain ⟨bs, r2⟩ := Dp.reads I _ _ u (.tup hb (dw_dp fx)) ry
    obtain ⟨p1, d1⟩ := dw_plain xs
    have q := eqAt_plain (.tuple (xs.map dW)) (.tuple (xs.map dW)) A s _ _ _ _ r1 r2 p1 p1 (by unfold PyData.depth; rw [d1]; omega)
    rw [eqv_refl_plain (.tuple (xs.map dW)) p1] at q
    exact q.eqP
  · cases rx
    cases ry
    by_cases hab : a = b
    · subst hab
      exact (EqAt.same _).eqP
    · exact eqP_refs hab fun E Q q => rc_dictM I hu ha hb fd fe E Q (e ▸ q)
def rNeT (K : PySem.W.Frag) : R2 := fun x y H Q => ∃ a b xs ys, x = .ref a ∧ y = .ref b ∧ SqT K H a xs ∧ SqT K H b ys ∧ Paired (EqIt K H) xs ys ∧ Q (.bl false) H
theorem op_neT (hu : X.A.units + 67 < cLine) : OpR X (compareOp .NotEq) (rNeT X.K) := by
  intro pins s σ H x y v u Q I rx ry h
  obtain ⟨a, b, xs, ys, rfl, rfl, ha, hb, hp, q⟩ := h
  cases rx
  cases ry
  obtain ⟨us, r1, p1, _⟩ := I.tuple ha
  obtain ⟨vs, r2, p2, _⟩ := I.tuple hb
  have hl := paired_len hp
  refine rc_tup_ne (Q := EP X pins σ Q) (by rw [List.size_toArray, List.size_toArray, ← r1.length, ← r2.length]; exact hl) (by omega) p1 p2 (fun j h1 h2 => ?_) ⟨.bl false, H, I, rfl, q⟩
  have k := items_run (F := EqIt X.K H) (A := X.A.in1) (fun x y v u h rx ry => EqIt.run I (by show X.A.units + 1 + 66 < cLine; omega) h rx ry) hp r1 r2 j (by simpa using h1) (by simpa using h2)
  simpa using k
end
end

/-! ## sequences made anew: what was stays -/
section
open PySem.W PyProof.Rows PySem.Calls PySem.MeetsSeq
theorem mul_one (l : Addr) (us : Array Value) (n : Nat) (dd : Option Addr) (sl : Array (Option Value)) (u : Tok) :
    Meets (Builtin.«tuple.__mul__» ⟨[.ref l, .int 1 u], []⟩) (fun _ R s => s.heap.get? l = some { cls := .type "tuple", dict := dd, data := .seq us n, slots := sl } ∧ R (.ok (.ret (Value.ref l))) s) :=
  .of_wp fun prog w A R s h => by
    obtain ⟨hp, g, d, tk, os⟩ := s
    obtain ⟨hl, h⟩ := h
    have f1 := AutoSeq1.idx_int
    wp_walk using AutoSeq1.wpAny_loadPart' hl
    repeat (first
      | (refine wpAny_ite_true (by simp) ?_; wp_walk using AutoSeq1.wpAny_loadPart' hl)
      | (refine wpAny_ite_false (by simp) ?_; wp_walk using AutoSeq1.wpAny_loadPart' hl))
    exact ⟨_, rfl, h⟩
theorem mul_zero (l : Addr) (us : Array Value) (n : Nat) (dd : Option Addr) (sl : Array (Option Value)) (u : Tok) (hi : us.isEmpty = false) :
    Meets (Builtin.«tuple.__mul__» ⟨[.ref l, .int 0 u], []⟩) (fun _ R s => s.heap.get? l = some { cls := .type "tuple", dict := dd, data := .seq us n, slots := sl } ∧
      R (.ok (.ret (Value.ref s.heap.objs.size))) { s with heap := s.heap.push { cls := Value.type "tuple", data := Data.seq #[] }, toks := s.toks }) :=
  .of_wp fun prog w A R s h => by
    obtain ⟨hp, g, d, tk, os⟩ := s
    obtain ⟨hl, h⟩ := h
    have f1 := AutoSeq1.idx_int
    wp_walk using AutoSeq1.wpAny_loadPart' hl
    repeat (first
      | (refine wpAny_ite_true (by simp [hi]) ?_; wp_walk using AutoSeq1.wpAny_loadPart' hl)
      | (refine wpAny_ite_false (by simp [hi]) ?_; wp_walk using AutoSeq1.wpAny_loadPart' hl))
    exact ⟨_, rfl, h⟩
/-- (x,) * k, k at least 0 -/
def rRepU (K : PySem.W.Frag) : R2 := fun x y H Q => ∃ (l : Addr) (k : Nat) (z : V), x = .ref l ∧ y = .int (k : Int) ∧ H l = some (.tup [z]) ∧ k ≤ 100 ∧ ∀ p H', Same H H' → H' p = some (.tup (List.replicate k z)) → Q (.ref p) H'
theorem rep_one {α : Type} (z : α) : ∀ k : Nat, (List.replicate k [z]).flatten = List.replicate k z
  | 0 => rfl
  | k + 1 => by
    rw [List.replicate_succ, List.flatten_cons, rep_one z k, List.replicate_succ]
    rfl
section
variable {X : Cx}
theorem op_repU : OpR X (binaryOp .Mult) (rRepU X.K) := by
  intro pins s σ H x y v u Q I rx ry h
  obtain ⟨l, k, z, rfl, rfl, hl, hk, q⟩ := h
  by_cases h2 : 2 ≤ k
  · refine op_repT pins s σ H _ _ v u Q I rx ry ⟨l, (k : Int), [z], rfl, rfl, SqT.of hl, by simp, by omega, by omega, by simp, fun p np => q p _ (same_new (Same.refl H) np) ?_⟩
    rw [Int.toNat_natCast, rep_one]
    exact upd_same
  · cases rx
    obtain ⟨t, rfl⟩ := ry
    obtain ⟨its, r, ⟨⟨cls, dd, data, sl⟩, ho, hc, n, hd⟩, hs⟩ := I.tuple (SqT.of (K := X.K) hl)
    simp only at hc hd
    subst hc hd
    have hi : its.toArray.isEmpty = false := by
      cases r with
      | cons a b => rfl
    have ty : s.TypeIs (Value.ref l) "tuple" := ⟨_, ho, rfl⟩
    rcases (by omega : k = 0 ∨ k = 1) with rfl | rfl
    · refine wpAny_binaryOp_repeat_ref (T := "tuple") (U := "int") (by decide) ty (fun s' => typeIs_int s' _ t) noFill_tuple_mul F.fills_int_mul F.slot_int_rmul repeat_tuple F.slot_int_index.lookup
        (call_meets F.slot_int_rmul (typeIs_int s _ t) F.entry_int_rmul (F.args_int_rmul_2 _ _) (int_rmul_tuple _ t l its.toArray n dd sl)
          ⟨ho, rfl, ty, call_meets F.slot_tuple_mul ty F.entry_tuple_mul (F.args_tuple_mul_2 _ _) (mul_zero l its.toArray n dd sl t hi) ⟨ho, ?_⟩⟩)
      refine ⟨.ref s.heap.objs.size, _, I.laid (t' := s.toks) (o := .tup []) (fun b ob q => Heap.get?_push_of_some _ q) (Nat.le_refl _) ⟨Nat.zero_le _, [], .nil, IsTup.new _ _⟩, rfl, q _ _ (same_new (Same.refl H) (I.hok.fresh (Nat.le_refl _))) upd_same⟩
    · refine wpAny_binaryOp_repeat_ref (T := "tuple") (U := "int") (by decide) ty (fun s' => typeIs_int s' _ t) noFill_tuple_mul F.fills_int_mul F.slot_int_rmul repeat_tuple F.slot_int_index.lookup
        (call_meets F.slot_int_rmul (typeIs_int s _ t) F.entry_int_rmul (F.args_int_rmul_2 _ _) (int_rmul_tuple _ t l its.toArray n dd sl)
          ⟨ho, rfl, ty, call_meets F.slot_tuple_mul ty F.entry_tuple_mul (F.args_tuple_mul_2 _ _) (mul_one l its.toArray n dd sl t) ⟨ho, ?_⟩⟩)
      exact ⟨.ref l, H, I, rfl, q _ _ (Same.refl H) hl⟩
/-- t + u -/
def rCatS : R2 := fun x y H Q => ∃ a b xs ys, x = .ref a ∧ y = .ref b ∧ H a = some (.tup xs) ∧ H b = some (.tup ys) ∧ xs.length + ys.length ≤ 1000 ∧ ∀ p H', Same H H' → H' p = some (.tup (xs ++ ys)) → Q (.ref p) H'
theorem op_catS : OpR X (binaryOp .Add) rCatS := by
  intro pins s σ H x y v u Q I rx ry h
  obtain ⟨a, b, xs, ys, rfl, rfl, ha, hb, hz, q⟩ := h
  refine op_catA pins s σ H _ _ v u Q I rx ry ⟨a, b, xs, ys, rfl, rfl, SqT.of ha, SqT.of hb, small_len hz, fun e => ?_, fun _ e => ?_, fun _ _ p np => q p _ (same_new (Same.refl H) np) upd_same⟩
  · subst e
    exact q b H (Same.refl H) hb
  · subst e
    exact q a H (Same.refl H) (by rw [List.append_nil]; exact ha)
/-- t[lo:hi] -/
def rSlS : V → Option Int → Option Int → Hp → VK → Prop := fun x lo hi H Q => ∃ a xs, x = .ref a ∧ H a = some (.tup xs) ∧ ∀ p H', Same H H' → H' p = some (.tup (cutV xs lo hi)) → Q (.ref p) H'
theorem sl_tupS : SlR X rSlS := by
  intro pins s σ H x v vl vu lo hi sl Q I rx hs pl pu h
  obtain ⟨a, xs, rfl, ha, q⟩ := h
  refine sl_tupA pins s σ H _ v vl vu lo hi sl Q I rx hs pl pu ⟨a, xs, rfl, SqT.of ha, fun e => q a H (Same.refl H) ?_, fun _ p np => q p _ (same_new (Same.refl H) np) upd_same⟩
  have : cutV xs lo hi = xs := by
    unfold cutV
    rw [e.1, e.2, List.drop_zero, Nat.sub_zero, List.take_length]
  rw [this]
  exact ha
/-- a text taken k times -/
def rRepS : R2 := fun x y H Q => ∃ (z : Str) (k : Nat), x = .str z ∧ y = .int (k : Int) ∧ z.length = 1 ∧ 2 ≤ k ∧ k ≤ 100 ∧ (⟨(List.replicate k z.cps).foldl (· ++ ·) #[]⟩ : Str).length ≤ 1000 ∧ Q (.str ⟨(List.replicate k z.cps).foldl (· ++ ·) #[]⟩) H
theorem op_repS : OpR X (binaryOp .Mult) rRepS := by
  intro pins s σ H x y v u Q I rx ry h
  obtain ⟨z, k, rfl, rfl, hz, h2, hk, hl, q⟩ := h
  obtain ⟨t, rfl⟩ := rx
  obtain ⟨t2, rfl⟩ := ry
  refine P.mul_str ?_ ?_ ?_ ?_
  · rw [decide_eq_false (by omega), decide_eq_false (by omega)] <;> rfl
  · intro _ _
    rw [hz]
    have : (1 : Int) ≤ (2 ^ 63 - 1) / (k : Int) := by
      refine (Int.le_ediv_iff_mul_le (by omega)).mpr ?_
      omega
    omega
  · intro _ _
    rw [hz, Int.toNat_natCast, Nat.one_mul]
    unfold Builtin.Str.tooLong
    have := small_len (show k ≤ 1000 by omega)
    exact decide_eq_false (by omega)
  · rw [if_neg (by omega), Int.toNat_natCast]
    rw [if_neg (by rw [hz]; simp; omega)]
    exact ⟨small_len hl, .str _, H, I.tok _, ⟨_, rfl⟩, q⟩
end
end

/-! ## what a house tells -/
theorem hu66_of {k : Nat} {A : Around} (r : Room k A) : A.units + 66 < cLine := by have := r.un; omega
theorem hu67_of {k : Nat} {A : Around} (r : Room k A) : A.units + 67 < cLine := by have := r.un; omega
section
variable {P : Program} {w : World} {K : PySem.W.Frag} {mg : Str → Option Value} {base : Heap}
/-- names, plates -/
def spTell (C : Addr) (f : Str) : Sp := getSp C f
abbrev stHNm : Stmt := inClass (top 30) 1
theorem scHNm : FnScope ["self"] ["self"] (defScope stHNm) := ⟨rfl, rfl, rfl, by decide +kernel, rfl, by decide +kernel, by decide +kernel⟩

abbrev stHPl : Stmt := inClass (top 30) 2
theorem scHPl : FnScope ["self"] ["self"] (defScope stHPl) := ⟨rfl, rfl, rfl, by decide +kernel, rfl, by decide +kernel, by decide +kernel⟩

abbrev stHMn : Stmt := inClass (top 30) 3
theorem scHMn : FnScope ["self"] ["self"] (defScope stHMn) := ⟨rfl, rfl, rfl, by decide +kernel, rfl, by decide +kernel, by decide +kernel⟩

abbrev stHLn : Stmt := inClass (top 30) 4
theorem scHLn : FnScope ["self"] ["self"] (defScope stHLn) := ⟨rfl, rfl, rfl, by decide +kernel, rfl, by decide +kernel, by decide +kernel⟩

abbrev stHEq : Stmt := inClass (top 30) 5
theorem scHEq : FnScope ["self", "other"] ["self", "other"] (defScope stHEq) := ⟨rfl, rfl, rfl, by decide +kernel, rfl, by decide +kernel, by decide +kernel⟩

theorem ok_names {C f : Addr} {fd : FuncData} (F : L2.Fun K "names" "House.names" stHNm f fd) (T : HouC K C) : FnOk P w K mg base C8.CX0 1 f fd ["self"] (getSp C "_names") := by
  refine L2.Fun.ok F scHNm (fun vs H Q E h => ?_) (fun cdv A outer s H vs Q E hr h => ?_)
  · obtain ⟨a, dx, fs, v, rfl, _⟩ := h
    rfl
  · obtain ⟨a, dx, fs, v, rfl, ea, l, q⟩ := h
    have nd := scHNm.nd
    refine ⟨_, (pss_cons (ps_ret (pe_fld (pv 0) rfl))
      pss_nil), ?_⟩
    try dsimp only [cxOf]
    wtm_at "Lrd"
    exact ⟨a, C, dx, fs, v, rfl, ea, T.cl, T.n1, l, q⟩
theorem ok_plates {C f : Addr} {fd : FuncData} (F : L2.Fun K "plates" "House.plates" stHPl f fd) (T : HouC K C) : FnOk P w K mg base C8.CX0 1 f fd ["self"] (getSp C "_plates") := by
  refine L2.Fun.ok F scHPl (fun vs H Q E h => ?_) (fun cdv A outer s H vs Q E hr h => ?_)
  · obtain ⟨a, dx, fs, v, rfl, _⟩ := h
    rfl
  · obtain ⟨a, dx, fs, v, rfl, ea, l, q⟩ := h
    have nd := scHPl.nd
    refine ⟨_, (pss_cons (ps_ret (pe_fld (pv 0) rfl))
      pss_nil), ?_⟩
    try dsimp only [cxOf]
    wtm_at "Lrd"
    exact ⟨a, C, dx, fs, v, rfl, ea, T.cl, T.n2, l, q⟩
def spMnrs (C : Addr) : Sp := fun vs H Q _ => ∃ (a : Addr) (names signs : List Str) (kd : List (Str × MD)), vs = [.ref a] ∧ HouseAt C H a names signs kd ∧ ∀ d kvs, H d = none → Paired (fun (p : Key × V) (q : Str × MD) => p.1 = Sum.inr q.1 ∧ MDAt H p.2 q.2) kvs kd → Q (.ref d) (upd H d (.dK kvs))
theorem ok_mnrs {C f : Addr} {fd : FuncData} (F : L2.Fun K "manners" "House.manners" stHMn f fd) (T : HouC K C) (n_dict : mg "dict" = none) : FnOk P w K mg base C8.CX0 1 f fd ["self"] (spMnrs C) := by
  refine L2.Fun.ok F scHMn (fun vs H Q E h => ?_) (fun cdv A outer s H vs Q E hr h => ?_)
  · obtain ⟨a, _, _, _, rfl, _⟩ := h
    rfl
  · obtain ⟨a, names, signs, kd, rfl, hh, q⟩ := h
    obtain ⟨dx, nm, sg, dm, h1, h2, h3, h4⟩ := hh.ex
    obtain ⟨kvs, hk, hp⟩ := h4.ex
    have nd := scHMn.nd
    refine ⟨_, (pss_cons (ps_ret (pe_callTy call_dictD rfl n_dict (by decide +kernel) (pa_cons (pe_fld (pv 0) rfl) pa_nil)))
      pss_nil), ?_⟩
    try dsimp only [cxOf]
    wtm_at "Lrd"
    refine ⟨a, C, dx, _, _, rfl, h1, T.cl, T.n3, hF_manners _ _ _, ?_⟩
    wtm_at "Lrd"
    exact ⟨dm, kvs, rfl, .inl hk, fun p np => q p kvs np hp⟩
def spHLen (C : Addr) : Sp := fun vs H Q _ => ∃ (a : Addr) (names signs : List Str) (kd : List (Str × MD)), vs = [.ref a] ∧ HouseAt C H a names signs kd ∧ Q (.int (signs.length : Nat)) H
theorem ok_hlen {C f : Addr} {fd : FuncData} (F : L2.Fun K "__len__" "House.__len__" stHLn f fd) (T : HouC K C) (n_len : mg "len" = none) : FnOk P w K mg base C8.CX0 1 f fd ["self"] (spHLen C) := by
  refine L2.Fun.ok F scHLn (fun vs H Q E h => ?_) (fun cdv A outer s H vs Q E hr h => ?_)
  · obtain ⟨a, _, _, _, rfl, _⟩ := h
    rfl
  · obtain ⟨a, names, signs, kd, rfl, hh, q⟩ := h
    obtain ⟨dx, nm, sg, dm, h1, h2, h3, h4⟩ := hh.ex
    have nd := scHLn.nd
    refine ⟨_, (pss_cons (ps_ret (pe_callB (r := rLen K) call_lenK rfl n_len (by decide +kernel) (pa_cons (pe_fld (pv 0) rfl) pa_nil)))
      pss_nil), ?_⟩
    try dsimp only [cxOf]
    wtm_at "Lrd"
    refine ⟨a, C, dx, _, _, rfl, h1, T.cl, T.n2, hF_plates _ _ _, ?_⟩
    wtm_at "Lrd"
    rw [List.length_map]
    exact q
def houEq (names names' signs signs' : List Str) (kd kd' : List (Str × MD)) : Bool := decide (names = names') && (decide (signs = signs') && kdEq kd kd')
def spHEq (C : Addr) : Sp := fun vs H Q _ => ∃ (a b : Addr) (names names' signs signs' : List Str) (kd kd' : List (Str × MD)), vs = [.ref a, .ref b] ∧ HouseAt C H a names signs kd ∧ HouseAt C H b names' signs' kd' ∧ (∀ q ∈ kd, q.2.fine) ∧ (∀ q ∈ kd', q.2.fine) ∧ Q (.bl (houEq names names' signs signs' kd kd')) H
theorem ok_heq {C f : Addr} {fd : FuncData} (F : L2.Fun K "__eq__" "House.__eq__" stHEq f fd) (T : HouC K C) (iC : C8.InsC K C) (n_isinstance : mg "isinstance" = none) (g_House : ∃ u, mg "House" = some u ∧ RelV (.ref C) u) : FnOk P w K mg base C8.CX0 6 f fd ["self", "other"] (spHEq C) := by
  refine L2.Fun.ok F scHEq (fun vs H Q E h => ?_) (fun cdv A outer s H vs Q E hr h => ?_)
  · obtain ⟨a, b, _, _, _, _, _, _, rfl, _⟩ := h
    rfl
  · obtain ⟨a, b, names, names', signs, signs', kd, kd', rfl, ha, hb, fd, fe, q⟩ := h
    obtain ⟨dx, nm, sg, dm, h1, h2, h3, h4⟩ := ha.ex
    obtain ⟨dy, nm', sg', dm', k1, k2, k3, k4⟩ := hb.ex
    have nd := scHEq.nd
    have hu66 := hu66_of hr
    refine ⟨_, (pss_cons (ps_ret (pe_and (pe_callB (C8.call_isC iC) rfl n_isinstance (by decide +kernel) (pa_cons (pv 1) (pa_cons (C8.pe_gc rfl g_House) pa_nil))) (pe_and (pe_cmpR (op_eqTW hu66) (pe_fld (pv 0) rfl) (pe_fld (pv 1) rfl) (nomark _)) (pe_and (pe_cmpR (op_eqTW hu66) (pe_fld (pv 0) rfl) (pe_fld (pv 1) rfl) (nomark _)) (pe_one (pe_cmpR (op_eqDM hu66) (pe_fld (pv 0) rfl) (pe_fld (pv 1) rfl) (nomark _)))))))
      pss_nil), ?_⟩
    try dsimp only [cxOf]
    wtm_at "Lrd"
    refine ⟨b, dy, _, rfl, k1, ?_⟩
    wtm_at "Lrd"
    refine ⟨a, C, dx, _, _, rfl, h1, T.cl, T.n1, hF_names _ _ _, ?_⟩
    wtm_at "Lrd"
    refine ⟨b, C, dy, _, _, rfl, k1, T.cl, T.n1, hF_names _ _ _, ?_⟩
    wtm_at "Lrd"
    refine ⟨nm, nm', _, _, rfl, rfl, SqT.of h2, SqT.of k2, leaf_strs, leaf_strs, ?_⟩
    rw [eqv_strs]
    wtm_at "Lrd"
    refine ite2 (fun c1 => ?_) (fun c1 => ?_)
    case _ =>
      wtm_at "Lrd"
      refine ⟨a, C, dx, _, _, rfl, h1, T.cl, T.n2, hF_plates _ _ _, ?_⟩
      wtm_at "Lrd"
      refine ⟨b, C, dy, _, _, rfl, k1, T.cl, T.n2, hF_plates _ _ _, ?_⟩
      wtm_at "Lrd"
      refine ⟨sg, sg', _, _, rfl, rfl, SqT.of h3, SqT.of k3, leaf_strs, leaf_strs, ?_⟩
      rw [eqv_strs]
      wtm_at "Lrd"
      refine ite2 (fun c2 => ?_) (fun c2 => ?_)
      case _ =>
        wtm_at "Lrd"
        refine ⟨a, C, dx, _, _, rfl, h1, T.cl, T.n3, hF_manners _ _ _, ?_⟩
        wtm_at "Lrd"
        refine ⟨b, C, dy, _, _, rfl, k1, T.cl, T.n3, hF_manners _ _ _, ?_⟩
        wtm_at "Lrd"
        refine ⟨dm, dm', kd, kd', rfl, rfl, h4, k4, fd, fe, ?_⟩
        have e : houEq names names' signs signs' kd kd' = kdEq kd kd' := by
          unfold houEq
          rw [c1, c2, Bool.true_and, Bool.true_and]
        exact e ▸ q
      case _ =>
        have e : houEq names names' signs signs' kd kd' = false := by
          unfold houEq
          rw [Bool.eq_false_iff.mpr c2, Bool.false_and, Bool.and_false]
        exact e ▸ q
    case _ =>
      have e : houEq names names' signs signs' kd kd' = false := by
        unfold houEq
        rw [Bool.eq_false_iff.mpr c1, Bool.false_and]
      exact e ▸ q
end

/-! ## a plan makes a house -/
section
def mdOf : Man → MD
  | .back => .txt (Str.ofString "back")
  | .keep => .txt (Str.ofString "keep")
  | .guess g => .tup (g.map optV)
def kdOf (L : Plan) : List (Str × MD) := L.names.zip (L.ways.map mdOf)
theorem kd_keys {L : Plan} {m : Nat} (h : L.Ok m) : (kdOf L).map (·.1) = L.names := by
  unfold kdOf
  rw [List.map_fst_zip]
  rw [List.length_map, h.wl]
  exact Nat.le_refl _
theorem kd_len {L : Plan} {m : Nat} (h : L.Ok m) : (kdOf L).length = L.names.length := by
  have := congrArg List.length (kd_keys h)
  rw [List.length_map] at this
  exact this
theorem kd_nd {L : Plan} {m : Nat} (h : L.Ok m) : ((kdOf L).map (·.1)).Nodup := by
  rw [kd_keys h]
  exact h.nd
theorem kd_mem {L : Plan} {q : Str × MD} (h : q ∈ kdOf L) : ∃ m ∈ L.ways, q.2 = mdOf m := by
  have := (List.of_mem_zip h).2
  obtain ⟨m, hm, e⟩ := List.mem_map.mp this
  exact ⟨m, hm, e.symm⟩
theorem optV_itm (o : Option Nat) : Itm (optV o) := by
  cases o with
  | none => exact .inl rfl
  | some b => exact .inr (.inl ⟨_, rfl⟩)
theorem kd_fine {L : Plan} {m : Nat} (h : L.Ok m) : ∀ q ∈ kdOf L, q.2.fine := fun q hq => by
  obtain ⟨mn, hm, e⟩ := kd_mem hq
  rw [e]
  cases mn with
  | back => trivial
  | keep => trivial
  | guess g =>
    obtain ⟨hl, _⟩ := h.gs g hm
    have := h.four
    refine ⟨by rw [List.length_map]; omega, fun x hx => ?_⟩
    obtain ⟨o, _, rfl⟩ := List.mem_map.mp hx
    exact optV_itm o
theorem kd_man {L : Plan} {m : Nat} (h : L.Ok m) : ∀ q ∈ kdOf L, mannerB L.names.length L.signs.length q.2 = true := fun q hq => by
  obtain ⟨mn, hm, e⟩ := kd_mem hq
  rw [e]
  cases mn with
  | back => rfl
  | keep => rfl
  | guess g =>
    obtain ⟨hl, hb⟩ := h.gs g hm
    show (decide ((g.map optV).length = L.names.length) && (g.map optV).all (itemB L.signs.length)) = true
    rw [decide_eq_true (by rw [List.length_map]; exact hl), Bool.true_and, List.all_eq_true]
    intro x hx
    obtain ⟨o, ho, rfl⟩ := List.mem_map.mp hx
    cases o with
    | none => rfl
    | some b =>
      have := hb b ho
      show (decide (V.int (b : Int) = .non) || (decide (0 ≤ (b : Int)) && decide ((b : Int) < (L.signs.length : Int)))) = true
      rw [decide_eq_true (by omega : 0 ≤ (b : Int)), decide_eq_true (by omega : (b : Int) < (L.signs.length : Int))]
      simp
theorem kd_look {L : Plan} {m : Nat} (h : L.Ok m) {n : Str} (hn : n ∈ L.names) : ∃ d, (kdOf L).lookup n = some d ∧ (n, d) ∈ kdOf L := by
  obtain ⟨j, hj, rfl⟩ := List.getElem_of_mem hn
  have hj' : j < (kdOf L).length := by rw [kd_len h]; exact hj
  have e : (kdOf L)[j].1 = L.names[j] := by
    have q : ((kdOf L).map (·.1))[j]? = L.names[j]? := by rw [kd_keys h]
    rw [List.getElem?_map, List.getElem?_eq_getElem hj', List.getElem?_eq_getElem hj] at q
    exact Option.some.inj q
  refine ⟨(kdOf L)[j].2, ?_, ?_⟩
  · rw [← e]
    exact lookup_nd hj' (kd_nd h)
  · rw [← e]
    exact List.getElem_mem hj'
theorem man_ok {L : Plan} {m : Nat} (h : L.Ok m) : mannersB (kdOf L) L.names L.signs.length = true := by
  unfold mannersB
  rw [decide_eq_true (kd_len h), Bool.true_and, Bool.and_eq_true]
  constructor
  · rw [List.all_eq_true]
    intro n hn
    obtain ⟨d, e, _⟩ := kd_look h hn
    rw [e]
    rfl
  · rw [List.all_eq_true]
    intro n hn
    obtain ⟨d, e, hd⟩ := kd_look h hn
    rw [e]
    exact kd_man h _ hd
theorem pool_ok : ∀ x ∈ pool, okSigns lettersS x = true := by decide +kernel
theorem pool_pat : ∀ x ∈ pool, 1 ≤ x.cps.size ∧ x.cps.size ≤ 8 ∧ ∀ c ∈ x.cps.toList, c ∈ patternS.cps.toList := by decide +kernel
theorem asc_ok {l : List Str} (h : Asc l) : ascB l = true := by
  unfold ascB
  rw [List.all_eq_true]
  intro i hi
  have hi := List.mem_range.mp hi
  have h1 : l[i]? = some (l.getD i ⟨#[]⟩) := by
    rw [List.getD_eq_getElem?_getD, List.getElem?_eq_getElem (by omega : i < l.length)]
    rfl
  have h2 : l[i + 1]? = some (l.getD (i + 1) ⟨#[]⟩) := by
    rw [List.getD_eq_getElem?_getD, List.getElem?_eq_getElem (by omega : i + 1 < l.length)]
    rfl
  exact decide_eq_true (h i _ _ h1 h2)
theorem names_ok {L : Plan} {m : Nat} (h : L.Ok m) : namesB L.names = true := by
  have h1 := h.pos
  have h4 := h.four
  unfold namesB
  rw [decide_eq_true (by omega : 1 ≤ L.names.length), decide_eq_true (by omega : L.names.length ≤ 6), asc_ok h.asc, Bool.true_and, Bool.true_and, Bool.and_true, List.all_eq_true]
  exact fun x hx => pool_ok x (h.sub x hx)
theorem worn_ok {x n : Str} (hn : n ∈ pool) (h : Worn x n) : okSigns patternS x = true := by
  obtain ⟨e, hc⟩ := h
  obtain ⟨h1, h8, hp⟩ := pool_pat n hn
  unfold okSigns
  have l1 : 1 ≤ x.length := by show 1 ≤ x.cps.size; omega
  have l8 : x.length ≤ 8 := by show x.cps.size ≤ 8; omega
  rw [decide_eq_true l1, decide_eq_true l8, Bool.true_and, Bool.true_and, List.all_eq_true]
  intro c hm
  obtain ⟨i, hi, rfl⟩ := List.getElem_of_mem hm
  have hx : x.cps[i]? = some x.cps.toList[i] := by
    rw [← Array.getElem?_toList, List.getElem?_eq_getElem hi]
  rcases hc i _ hx with q | q
  · rw [q]
    decide +kernel
  · refine decide_eq_true (hp _ ?_)
    rw [← Array.getElem?_toList] at q
    exact List.mem_of_getElem? q
theorem plates_ok {L : Plan} {m : Nat} (h : L.Ok m) (hm : m ≤ 6) : platesB L.signs L.names.length = true := by
  have h1 := h.fit
  have h2 := h.most
  unfold platesB
  rw [decide_eq_true h1, decide_eq_true (by omega : L.signs.length ≤ 6), Bool.true_and, Bool.true_and, List.all_eq_true]
  intro x hx
  obtain ⟨b, hb, rfl⟩ := List.getElem_of_mem hx
  rcases h.worn b _ (List.getElem?_eq_getElem hb) with e | ⟨k, n, _, hn, hw⟩
  · rw [e]
    decide +kernel
  · have := worn_ok (h.sub n (List.mem_of_getElem? hn)) hw
    unfold plateB
    rw [this, Bool.or_true]
theorem plan_part {L : Plan} {m : Nat} (h : L.Ok m) (hm : m ≤ 6) : housePart L.names L.signs (kdOf L) = none := by
  unfold housePart
  rw [if_pos (names_ok h), if_pos (plates_ok h hm), if_pos (man_ok h)]
theorem ManAt.md {H : Hp} {v : V} {m : Man} (h : ManAt H v m) : MDAt H v (mdOf m) := by
  cases m with
  | back => exact h
  | keep => exact h
  | guess g => exact h
theorem ways_paired {H : Hp} : ∀ {kvs : List (Key × V)} {ns : List Str} {ws : List Man}, kvs.map (·.1) = ns.map Sum.inr → Paired (fun (p : Key × V) m => ManAt H p.2 m) kvs ws → Paired (fun (p : Key × V) (q : Str × MD) => p.1 = Sum.inr q.1 ∧ MDAt H p.2 q.2) kvs (ns.zip (ws.map mdOf))
  | [], [], [], _, _ => .nil
  | [], _ :: _, _, h, _ => nomatch h
  | _ :: _, [], _, h, _ => nomatch h
  | [], [], _ :: _, _, h => nomatch h
  | p :: kvs, n :: ns, m :: ws, hk, hp => by
    cases hp with
    | cons r t =>
      injection hk with e1 e2
      exact .cons ⟨e1, r.md⟩ (ways_paired e2 t)
  | _ :: _, _ :: _, [], _, h => nomatch h
theorem WaysAt.dict {H : Hp} {L : Plan} {wy : Addr} {kvs : List (Key × V)} (h : WaysAt H L kvs) (e : H wy = some (.dK kvs)) : DictAt H wy (kdOf L) := ⟨kvs, e, ways_paired h.keys h.vals⟩
theorem small_names {L : Plan} {m : Nat} (h : L.Ok m) : ∀ z ∈ L.names, z.length ≤ 1000 := fun z hz => by
  have := pool_size z (h.sub z hz)
  show z.cps.size ≤ 1000
  omega
theorem small_signs {L : Plan} {m : Nat} (h : L.Ok m) : ∀ z ∈ L.signs, z.length ≤ 1000 := fun z hz => by
  obtain ⟨b, hb, rfl⟩ := List.getElem_of_mem hz
  rcases h.worn b _ (List.getElem?_eq_getElem hb) with e | ⟨k, n, _, hn, hw⟩
  · rw [e]
    decide +kernel
  · have := pool_size n (h.sub n (List.mem_of_getElem? hn))
    have e := hw.1
    show L.signs[b].cps.size ≤ 1000
    omega
end
section
variable {P : Program} {w : World} {K : PySem.W.Frag} {mg : Str → Option Value} {base : Heap}
theorem rd_make {C : Addr} {sp : Sp} {dvs : List V} {E : XK} {t : TA} {σ : L2.St} {H : Hp} {Q : VK} (h : t σ H fun vs H1 => ∀ x dx, H1 x = none → H1 dx = none → dx ≠ x → sp (.ref x :: (vs ++ dvs)) (upd (upd H1 dx (.own x)) x (.ins C dx [])) (fun v H2 => v = .non ∧ Q (.ref x) H2) E) : tMake C sp dvs E t σ H Q := h
/-- a new house of what stands at nm, sg, d: no part is wrong -/
theorem made_ok {C CI nm sg d : Addr} {names signs : List Str} {kd : List (Str × MD)} {H : Hp} {Q : Addr → Hp → Prop} {E : XK} (hn : H nm = some (.tup (names.map V.str))) (hs : H sg = some (.tup (signs.map V.str))) (hd : DictAt H d kd) (z1 : ∀ z ∈ names, z.length ≤ 1000) (z2 : names.length ≤ 1000) (z3 : ∀ z ∈ signs, z.length ≤ 1000) (z4 : signs.length ≤ 1000) (hf : ∀ q ∈ kd, q.2.fine)
    (hp : housePart names signs kd = none) (hk : kd.map (·.1) = names) (nd : names.Nodup) (k : ∀ x H', H x = none → Same H H' → HouseNew C H H' x names signs kd → Q x H') :
    ∀ x dx, H x = none → H dx = none → dx ≠ x → spHInit C CI (.ref x :: ([.ref nm, .ref sg, .ref d] ++ [])) (upd (upd H dx (.own x)) x (.ins C dx [])) (fun v H2 => v = .non ∧ Q x H2) E := by
  intro x dx nx ndx ne
  have s1 : Same H (upd (upd H dx (.own x)) x (.ins C dx [])) := by
    exact same_new (same_new (Same.refl H) ndx) nx
  refine ⟨x, nm, sg, d, dx, names, signs, kd, rfl, upd_same, s1 _ _ hn, s1 _ _ hs, hd.same s1, z1, z2, z3, z4, hf, fun _ => ⟨hk, nd, fun H' ob hh => ⟨rfl, k x H' nx (fun b o e => ?_) ?_⟩⟩, fun part hpart => ?_⟩
  · exact ob b o (ne_of_none e nx) (s1 _ _ e)
  · obtain ⟨dx', nm', sg', dm', h1, h2, h3, h4, h5⟩ := hh.ex
    exact ⟨dx', nm', sg', dm', h1, h2, h3, h4, s1.free h5⟩
  · rw [hp] at hpart
    cases hpart
def spBuilt (C : Addr) : Sp := fun vs H Q _ => ∃ (pl : Addr) (L : Plan), vs = [.ref pl] ∧ L.Ok 6 ∧ PlanAt H pl L ∧ ∀ h H', H h = none → Same H H' → HouseAt C H' h L.names L.signs (kdOf L) → Q (.ref h) H'
abbrev stBuilt : Stmt := top 37
theorem scBuilt : FnScope ["_law_plan"] ["_law_plan"] (C8.fnScope stBuilt) := ⟨rfl, rfl, rfl, by decide +kernel, rfl, by decide +kernel, by decide +kernel⟩

theorem cal_built {f C CI fI : Addr} {fd fdI : FuncData} (F : Def K mg "_law_built" stBuilt f fd) (b : Binds K fd ["_law_plan"] []) (n_dict : mg "dict" = none) (MkH : Mk K C fI) (mgH : mg "House" = some (.ref C)) (bH : Binds K fdI ["self", "names", "plates", "manners"] []) (FH : FnOk P w K mg base (L2.CX P w) 5 fI fdI ["self", "names", "plates", "manners"] (spHInit C CI)) :
    Cal P w K mg base 7 "_law_built" (spBuilt C) [] := by
  refine C8.cal0 F b .nil scBuilt (fun vs H Q E h => ?_) (fun cdv A outer s H vs Q E hr h => ?_)
  · obtain ⟨pl, L, rfl, _⟩ := h
    rfl
  · obtain ⟨pl, L, rfl, ok, hp, k⟩ := h
    obtain ⟨nm, sg, wy, tr, kvs, hpl, hnm, hsg, hwy, hw, htr⟩ := hp.ex
    have nd := scBuilt.nd
    refine ⟨_, (pss_cons (ps_ret (pe_make MkH FH hr rfl mgH bH .nil passL (pa_cons (pe_ix (r := rIx K) ix_seq (pv 0) pe_int (fun _ _ => rfl)) (pa_cons (pe_ix (r := rIx K) ix_seq (pv 0) pe_int (fun _ _ => rfl)) (pa_cons (pe_callTy call_dictD rfl n_dict (by decide +kernel) (pa_cons (pe_ix (r := rIx K) ix_seq (pv 0) pe_int (fun _ _ => rfl)) pa_nil)) pa_nil)))))
      pss_nil), ?_⟩
    try dsimp only [cxOf]
    refine rd_seq ?_
    refine rd_ret ?_
    refine rd_make ?_
    wtm_at "Lrd"
    refine ⟨wy, kvs, rfl, .inl hwy, fun d nd' => ?_⟩
    wtm_at "Lrd"
    have s1 := same_new (o := .dK kvs) (Same.refl H) nd'
    have four := ok.four
    have most := ok.most
    have hd : DictAt (upd H d (.dK kvs)) d (kdOf L) := by
      obtain ⟨kvs', e', p'⟩ := (hw.dict hwy).ex
      rw [hwy] at e'
      cases e'
      exact ⟨kvs, upd_same, L2.Paired.mapP p' fun _ _ q => ⟨q.1, q.2.same s1⟩⟩
    refine made_ok (s1 _ _ hnm) (s1 _ _ hsg) hd (small_names ok) (by omega) (small_signs ok) (by omega) (kd_fine ok) (plan_part ok (Nat.le_refl 6)) (kd_keys ok) ok.nd fun x H' nx sm hh => ?_
    refine k x H' ?_ (s1.trans sm) hh.at_
    by_cases e : x = d
    · rw [e, upd_same] at nx
      cases nx
    · rw [upd_ne e] at nx
      exact nx
end

/-! ## what is wrong -/
section
def BadN (H : Hp) (v : V) : Prop := ∃ g bn, v = .ref g ∧ H g = some (.tup (bn.map V.str)) ∧ namesB bn = false ∧ (∀ z ∈ bn, z.length ≤ 1000) ∧ bn.length ≤ 1000
def BadP (C : Nat) (H : Hp) (v : V) : Prop := ∃ g bs, v = .ref g ∧ H g = some (.tup (bs.map V.str)) ∧ platesB bs C = false ∧ (∀ z ∈ bs, z.length ≤ 1000) ∧ bs.length ≤ 1000
def BadM (C S : Nat) (H : Hp) (v : V) : Prop := ∃ d : MD, MDAt H v d ∧ mannerB C S d = false ∧ d.fine
theorem BadN.same {H H' : Hp} {v : V} (h : BadN H v) (s : Same H H') : BadN H' v := by
  obtain ⟨g, bn, e, h, r⟩ := h
  exact ⟨g, bn, e, s _ _ h, r⟩
theorem BadP.same {C : Nat} {H H' : Hp} {v : V} (h : BadP C H v) (s : Same H H') : BadP C H' v := by
  obtain ⟨g, bn, e, h, r⟩ := h
  exact ⟨g, bn, e, s _ _ h, r⟩
theorem BadM.same {C S : Nat} {H H' : Hp} {v : V} (h : BadM C S H v) (s : Same H H') : BadM C S H' v := by
  obtain ⟨d, h, r⟩ := h
  exact ⟨d, h.same s, r⟩
theorem Row.same {K : PySem.W.Frag} {H H' : Hp} {p a : Addr} {ns : List Int} (R : Row K H p a ns) (s : Same H H') : Row K H' p a ns := by
  obtain ⟨i, d, t, i0, q⟩ := R.at_
  exact ⟨R.sc.elim (fun ⟨o, h⟩ => .inl ⟨o, s _ _ h⟩) .inr, R.small, i, d, t, i0, s _ _ q⟩
theorem Sb.same {p : Addr} {H H1 H2 : Hp} (h : Sb p H H1) (s : Same H1 H2) : Sb p H H2 := fun b o n e => s _ _ (h b o n e)
theorem Row.tup {K : PySem.W.Frag} {H : Hp} {p a b : Addr} {ns : List Int} {xs : List V} (R : Row K H p a ns) (h : H b = some (.tup xs)) : b ≠ p := fun e => by
  obtain ⟨i, d, t, i0, q⟩ := R.at_
  rw [e, q] at h
  cases h
theorem Row.dic {K : PySem.W.Frag} {H : Hp} {p a b : Addr} {ns : List Int} {xs : List (Key × V)} (R : Row K H p a ns) (h : H b = some (.dK xs)) : b ≠ p := fun e => by
  obtain ⟨i, d, t, i0, q⟩ := R.at_
  rw [e, q] at h
  cases h
theorem MDAt.sb {K : PySem.W.Frag} {H H' : Hp} {p a : Addr} {ns : List Int} {v : V} {d : MD} (h : MDAt H v d) (R : Row K H p a ns) (s : Sb p H H') : MDAt H' v d := by
  cases d with
  | txt z => exact h
  | tup xs =>
    obtain ⟨g, e, h⟩ := h
    exact ⟨g, e, s _ _ (R.tup h) h⟩
theorem BadN.sb {K : PySem.W.Frag} {H H' : Hp} {p a : Addr} {ns : List Int} {v : V} (h : BadN H v) (R : Row K H p a ns) (s : Sb p H H') : BadN H' v := by
  obtain ⟨g, bn, e, h, r⟩ := h
  exact ⟨g, bn, e, s _ _ (R.tup h) h, r⟩
theorem BadP.sb {K : PySem.W.Frag} {C : Nat} {H H' : Hp} {p a : Addr} {ns : List Int} {v : V} (h : BadP C H v) (R : Row K H p a ns) (s : Sb p H H') : BadP C H' v := by
  obtain ⟨g, bn, e, h, r⟩ := h
  exact ⟨g, bn, e, s _ _ (R.tup h) h, r⟩
theorem BadM.sb {K : PySem.W.Frag} {C S : Nat} {H H' : Hp} {p a : Addr} {ns : List Int} {v : V} (h : BadM C S H v) (R : Row K H p a ns) (s : Sb p H H') : BadM C S H' v := by
  obtain ⟨d, h, r⟩ := h
  exact ⟨d, h.sb R s, r⟩
theorem bad_item {sg : Str} {l : List Str} {z : Str} (hz : z ∈ l) (h : okSigns sg z = false) : l.all (okSigns sg) = false := by
  rw [List.all_eq_false]
  exact ⟨z, hz, by rw [h]; decide⟩
theorem bad_names {l : List Str} {z : Str} (hz : z ∈ l) (h : okSigns lettersS z = false) : namesB l = false := by
  unfold namesB
  rw [bad_item hz h, Bool.false_and, Bool.and_false, Bool.and_false]
theorem bad_plates {l : List Str} {C : Nat} {z : Str} (hz : z ∈ l) (h : plateB z = false) : platesB l C = false := by
  unfold platesB
  have : l.all plateB = false := by
    rw [List.all_eq_false]
    exact ⟨z, hz, by rw [h]; decide⟩
  rw [this, Bool.and_false, Bool.and_false]
theorem asc_lt {l : List Str} (h : Asc l) : ∀ {i j : Nat} {x y : Str}, i < j → l[i]? = some x → l[j]? = some y → x.cps.toList < y.cps.toList
  | i, j + 1, x, y, hij, hx, hy => by
    have hl := (List.getElem?_eq_some_iff.mp hy).1
    rcases Nat.lt_or_ge i j with q | q
    · have hj : l[j]? = some l[j] := List.getElem?_eq_getElem (by omega)
      exact List.lt_trans (asc_lt h q hx hj) (h j _ _ hj hy)
    · have e : i = j := by omega
      subst e
      exact h i _ _ hx hy
theorem twice_names {l : List Str} (h : Asc l) (h0 : 0 < l.length) : namesB (l ++ l.take 1) = false := by
  have key : ascB (l ++ l.take 1) = false := by
    unfold ascB
    rw [List.all_eq_false]
    refine ⟨l.length - 1, List.mem_range.mpr ?_, ?_⟩
    · rw [List.length_append, List.length_take]
      omega
    · have e1 : (l ++ l.take 1).getD (l.length - 1) ⟨#[]⟩ = l[l.length - 1] := by
        rw [List.getD_eq_getElem?_getD, List.getElem?_append_left (by omega), List.getElem?_eq_getElem (by omega)]
        rfl
      have e2 : (l ++ l.take 1).getD (l.length - 1 + 1) ⟨#[]⟩ = l[0] := by
        rw [List.getD_eq_getElem?_getD, List.getElem?_append_right (by omega), show l.length - 1 + 1 - l.length = 0 by omega, List.getElem?_take, if_pos (by omega), List.getElem?_eq_getElem h0]
        rfl
      rw [e1, e2]
      unfold ltS
      intro z
      have z := of_decide_eq_true z
      rcases Nat.lt_or_ge 0 (l.length - 1) with q | q
      · exact List.lt_irrefl _ (List.lt_trans z (asc_lt h q (List.getElem?_eq_getElem h0) (List.getElem?_eq_getElem (by omega))))
      · have : l.length - 1 = 0 := by omega
        simp only [this] at z
        exact List.lt_irrefl _ z
  unfold namesB
  rw [key, Bool.and_false, Bool.and_false, Bool.and_false]
theorem few_plates {l : List Str} {C : Nat} (h : l.length < C) : platesB l C = false := by
  unfold platesB
  rw [decide_eq_false (by omega), Bool.false_and]
theorem rep_bad {C S k : Nat} {z : V} (hi : Itm z) (hk : k ≤ 100) (h : k = C → 0 < C ∧ itemB S z = false) : mannerB C S (.tup (List.replicate k z)) = false ∧ (MD.tup (List.replicate k z)).fine := by
  constructor
  · rw [mannerB_tup, List.length_replicate]
    by_cases e : k = C
    · obtain ⟨c0, hz⟩ := h e
      have : (List.replicate k z).all (itemB S) = false := by
        rw [List.all_eq_false]
        exact ⟨z, List.mem_replicate.mpr ⟨by omega, rfl⟩, by rw [hz]; decide⟩
      rw [this, Bool.and_false]
    · rw [decide_eq_false e, Bool.false_and]
  · exact ⟨by rw [List.length_replicate]; omega, fun x hx => (List.mem_replicate.mp hx).2 ▸ hi⟩
/-- the last name's manners are wrong -/
theorem bad_last {kd : List (Str × MD)} {l : List Str} {S : Nat} {n : Str} {d : MD} (hn : n ∈ l) (hl : kd.lookup n = some d) (h : mannerB l.length S d = false) : mannersB kd l S = false := by
  rw [Bool.eq_false_iff]
  intro z
  unfold mannersB at z
  simp only [Bool.and_eq_true, List.all_eq_true] at z
  have q := z.2.2 n hn
  rw [hl] at q
  exact absurd (q.symm.trans h) (by decide)
theorem bad_lack {kd : List (Str × MD)} {l : List Str} {S : Nat} {n : Str} (hn : n ∈ l) (hl : kd.lookup n = none) : mannersB kd l S = false := by
  unfold mannersB
  have : (l.all fun n => (kd.lookup n).isSome) = false := by
    rw [List.all_eq_false]
    exact ⟨n, hn, by rw [hl]; decide⟩
  rw [this, Bool.false_and, Bool.and_false]
/-- a dict whose value at n is d now -/
def putMD (kd : List (Str × MD)) (n : Str) (d : MD) : List (Str × MD) := kd.map fun q => if q.1 = n then (n, d) else q
theorem lookup_put : ∀ {kd : List (Str × MD)} {n : Str} {d : MD}, n ∈ kd.map (·.1) → (putMD kd n d).lookup n = some d
  | q :: kd, n, d, h => by
    unfold putMD
    rw [List.map_cons]
    by_cases e : q.1 = n
    · rw [if_pos e, List.lookup_cons, beq_self_eq_true]
    · rw [if_neg e]
      obtain ⟨m, d'⟩ := q
      have e' : (n == m) = false := beq_eq_false_iff_ne.mpr fun z => e z.symm
      rw [List.lookup_cons, e']
      rcases List.mem_cons.mp h with z | z
      · exact absurd z.symm e
      · exact lookup_put z
theorem put_fine {kd : List (Str × MD)} {n : Str} {d : MD} (h : ∀ q ∈ kd, q.2.fine) (hd : d.fine) : ∀ q ∈ putMD kd n d, q.2.fine := fun q hq => by
  obtain ⟨r, hr, e⟩ := List.mem_map.mp hq
  by_cases c : r.1 = n
  · rw [if_pos c] at e
    rw [← e]
    exact hd
  · rw [if_neg c] at e
    rw [← e]
    exact h r hr
theorem put_keys {kd : List (Str × MD)} {n : Str} {d : MD} : (putMD kd n d).map (·.1) = kd.map (·.1) := by
  unfold putMD
  rw [List.map_map]
  refine List.map_congr_left fun q _ => ?_
  show (if q.1 = n then (n, d) else q).1 = q.1
  by_cases c : q.1 = n
  · rw [if_pos c, c]
  · rw [if_neg c]
/-- the dict's cell follows -/
theorem put_paired {H : Hp} {n : Str} {d : MD} {v : V} (hv : MDAt H v d) : ∀ {kvs : List (Key × V)} {kd : List (Str × MD)}, Paired (fun (p : Key × V) (q : Str × MD) => p.1 = Sum.inr q.1 ∧ MDAt H p.2 q.2) kvs kd →
    Paired (fun (p : Key × V) (q : Str × MD) => p.1 = Sum.inr q.1 ∧ MDAt H p.2 q.2) (kvs.map fun kv => if kv.1 = Sum.inr n then (kv.1, v) else kv) (putMD kd n d)
  | _, _, .nil => .nil
  | _ :: _, _ :: _, .cons r t => by
    unfold putMD
    rw [List.map_cons, List.map_cons]
    refine .cons ?_ (put_paired hv t)
    rename_i p kvs q kd
    by_cases e : q.1 = n
    · rw [if_pos e, if_pos (r.1.trans (congrArg Sum.inr e))]
      exact ⟨r.1.trans (congrArg Sum.inr e), hv⟩
    · rw [if_neg e, if_neg fun z => e (Sum.inr.inj (r.1.symm.trans z))]
      exact r
theorem has_key {H : Hp} {n : Str} : ∀ {kvs : List (Key × V)} {kd : List (Str × MD)}, Paired (fun (p : Key × V) (q : Str × MD) => p.1 = Sum.inr q.1 ∧ MDAt H p.2 q.2) kvs kd → n ∈ kd.map (·.1) → (kvs.any fun kv => decide (kv.1 = Sum.inr n)) = true
  | _, _, .nil, h => nomatch h
  | _ :: _, _ :: _, .cons r t, h => by
    rw [List.any_cons]
    rcases List.mem_cons.mp h with z | z
    · rw [decide_eq_true (r.1.trans (congrArg Sum.inr z.symm)), Bool.true_or]
    · rw [has_key t z, Bool.or_true]
theorem putK_md {H : Hp} {n : Str} {d : MD} {v : V} {kvs : List (Key × V)} {kd : List (Str × MD)} (hp : Paired (fun (p : Key × V) (q : Str × MD) => p.1 = Sum.inr q.1 ∧ MDAt H p.2 q.2) kvs kd) (hv : MDAt H v d) (hn : n ∈ kd.map (·.1)) :
    Paired (fun (p : Key × V) (q : Str × MD) => p.1 = Sum.inr q.1 ∧ MDAt H p.2 q.2) (putK kvs (Sum.inr n) v) (putMD kd n d) := by
  unfold putK
  rw [if_pos (has_key hp hn)]
  exact put_paired hv hp
theorem last_at {l : List Str} (h : 0 < l.length) : atI (l.map V.str) (-1) = some (.str (l[l.length - 1])) := by
  unfold atI ixN
  rw [List.length_map, if_neg (by omega)]
  have e : (-1 + (l.length : Int)).toNat = l.length - 1 := by omega
  simp only [e]
  rw [if_pos (by omega)]
  show (l.map V.str)[l.length - 1]? = _
  rw [List.getElem?_map, List.getElem?_eq_getElem (by omega)]
  rfl
theorem cut_back (xs : List V) (h : 0 < xs.length) : cutV xs none (some (-1)) = xs.take (xs.length - 1) := by
  unfold cutV
  rw [HT.sIx_none, List.drop_zero, Nat.sub_zero]
  have e : HT.sIx xs.length xs.length (some (-1)) = xs.length - 1 := by
    unfold HT.sIx
    simp only
    rw [if_pos (by decide)]
    omega
  rw [e]
theorem cut_tail (xs : List V) (h : 0 < xs.length) : cutV xs (some 1) none = xs.drop 1 := by
  unfold cutV
  rw [HT.sIx_none, show HT.sIx xs.length 0 (some 1) = min 1 xs.length from HT.sIx_nat xs.length 0 1, Nat.min_eq_left (by omega)]
  rw [List.take_of_length_le]
  rw [List.length_drop]
  exact Nat.le_refl _
end

section
variable {P : Program} {w : World} {K : PySem.W.Frag} {mg : Str → Option Value} {base : Heap}
def nineA : Str := ⟨(List.replicate 9 (Str.ofString "a").cps).foldl (· ++ ·) #[]⟩
def nineP : Str := ⟨(List.replicate 9 (Str.ofString ".").cps).foldl (· ++ ·) #[]⟩
theorem nineA_def : nineA = ⟨(List.replicate 9 (Str.ofString "a").cps).foldl (· ++ ·) #[]⟩ := rfl
theorem nineP_def : nineP = ⟨(List.replicate 9 (Str.ofString ".").cps).foldl (· ++ ·) #[]⟩ := rfl
theorem sm_app {l m : List Str} (h : ∀ z ∈ l, z.length ≤ 1000) (h2 : ∀ z ∈ m, z.length ≤ 1000) : ∀ z ∈ l ++ m, z.length ≤ 1000 := fun z hz => (List.mem_append.mp hz).elim (h z) (h2 z)
theorem bN1 {H : Hp} {g : Addr} (h : H g = some (.tup [])) : BadN H (.ref g) := ⟨g, [], rfl, h, rfl, by simp, by simp⟩
theorem bN2 {H : Hp} {g : Addr} {L : Plan} {m : Nat} (ok : L.Ok m) (h : H g = some (.tup (L.names.map V.str ++ (L.names.map V.str).take 1))) : BadN H (.ref g) := by
  have := ok.four
  refine ⟨g, L.names ++ L.names.take 1, rfl, by rw [List.map_append, List.map_take]; exact h, twice_names ok.asc ok.pos, sm_app (small_names ok) fun z hz => small_names ok z (List.mem_of_mem_take hz), ?_⟩
  rw [List.length_append, List.length_take]
  omega
theorem bN3 {H : Hp} {g : Addr} {L : Plan} {m : Nat} (ok : L.Ok m) (h : H g = some (.tup (L.names.map V.str ++ [V.str "Zoe"]))) : BadN H (.ref g) := by
  have := ok.four
  refine ⟨g, L.names ++ [("Zoe" : Str)], rfl, by rw [List.map_append]; exact h, bad_names (z := "Zoe") (by simp) (by decide +kernel), sm_app (small_names ok) fun z hz => ?_, ?_⟩
  · rw [List.mem_singleton.mp hz]
    decide +kernel
  · rw [List.length_append]
    show _ + 1 ≤ 1000
    omega
theorem bN4 {H : Hp} {g : Addr} {L : Plan} {m : Nat} (ok : L.Ok m) (h : H g = some (.tup (L.names.map V.str ++ [V.str ""]))) : BadN H (.ref g) := by
  have := ok.four
  refine ⟨g, L.names ++ [("" : Str)], rfl, by rw [List.map_append]; exact h, bad_names (z := "") (by simp) (by decide +kernel), sm_app (small_names ok) fun z hz => ?_, ?_⟩
  · rw [List.mem_singleton.mp hz]
    decide +kernel
  · rw [List.length_append]
    show _ + 1 ≤ 1000
    omega
theorem bN5 {H : Hp} {g : Addr} (h : H g = some (.tup [V.str "zz", V.str "aa"])) : BadN H (.ref g) := ⟨g, ["zz", "aa"], rfl, h, by decide +kernel, by decide +kernel, by decide⟩
theorem bN6 {H : Hp} {g : Addr} (h : H g = some (.tup [V.str nineA])) : BadN H (.ref g) := ⟨g, [nineA], rfl, h, by decide +kernel, by decide +kernel, by decide⟩
theorem bP1 {H : Hp} {g : Addr} {L : Plan} {m : Nat} (ok : L.Ok m) (hm : m ≤ 6) (h : H g = some (.tup ((L.signs.map V.str).take (L.names.length - 1)))) : BadP L.names.length H (.ref g) := by
  have := ok.pos
  have := ok.most
  refine ⟨g, L.signs.take (L.names.length - 1), rfl, by rw [List.map_take]; exact h, few_plates ?_, fun z hz => small_signs ok z (List.mem_of_mem_take hz), ?_⟩
  · rw [List.length_take]
    omega
  · rw [List.length_take]
    omega
theorem bP2 {H : Hp} {g : Addr} {C : Nat} (h : H g = some (.tup (List.replicate 7 (V.str "")))) : BadP C H (.ref g) := by
  refine ⟨g, List.replicate 7 "", rfl, h, ?_, by decide +kernel, by decide⟩
  unfold platesB
  rw [decide_eq_false (show ¬ (List.replicate 7 ("" : Str)).length ≤ 6 by decide), Bool.false_and, Bool.and_false]
theorem bP3 {H : Hp} {g : Addr} {L : Plan} {m : Nat} {x : Str} (ok : L.Ok m) (hm : m ≤ 6) (hx : plateB x = false) (hz : x.length ≤ 1000) (h : H g = some (.tup ((L.signs.map V.str).take ((L.signs.map V.str).length - 1) ++ [V.str x]))) : BadP L.names.length H (.ref g) := by
  have := ok.most
  refine ⟨g, L.signs.take (L.signs.length - 1) ++ [x], rfl, by rw [List.map_append, List.map_take]; rw [List.length_map] at h; exact h, bad_plates (z := x) (by simp) hx, sm_app (fun z hz => small_signs ok z (List.mem_of_mem_take hz)) fun z hq => ?_, ?_⟩
  · rw [List.mem_singleton.mp hq]
    exact hz
  · rw [List.length_append, List.length_take]
    show _ + 1 ≤ 1000
    omega
theorem badx : plateB ("a b" : Str) = false ∧ plateB nineP = false ∧ ("a b" : Str).length ≤ 1000 ∧ nineP.length ≤ 1000 := by decide +kernel
def Tp (H H' : Hp) : Prop := ∀ b xs, H b = some (.tup xs) → H' b = some (.tup xs)
theorem Tp.upd {H : Hp} {l : Addr} {o u : HO} (e : H l = some u) (n : ∀ xs, u ≠ .tup xs) : Tp H (upd H l o) := fun b xs h => (upd_ne fun q => n xs (Option.some.inj (e.symm.trans ((congrArg H q).symm.trans h)))).trans h
theorem BadN.tp {H H' : Hp} {v : V} (h : BadN H v) (s : Tp H H') : BadN H' v := by
  obtain ⟨g, bn, e, h, r⟩ := h
  exact ⟨g, bn, e, s _ _ h, r⟩
theorem BadP.tp {C : Nat} {H H' : Hp} {v : V} (h : BadP C H v) (s : Tp H H') : BadP C H' v := by
  obtain ⟨g, bn, e, h, r⟩ := h
  exact ⟨g, bn, e, s _ _ h, r⟩
theorem MDAt.tp {H H' : Hp} {v : V} {d : MD} (h : MDAt H v d) (s : Tp H H') : MDAt H' v d := by
  cases d with
  | txt z => exact h
  | tup xs =>
    obtain ⟨g, e, h⟩ := h
    exact ⟨g, e, s _ _ h⟩
theorem bM1 {C S : Nat} {H : Hp} : BadM C S H (.str "") := ⟨.txt "", rfl, by rw [mannerB_txt]; decide +kernel, trivial⟩
theorem bM2 {C S : Nat} {H : Hp} : BadM C S H (.str "put") := ⟨.txt "put", rfl, by rw [mannerB_txt]; decide +kernel, trivial⟩
theorem bMr {C S k : Nat} {H : Hp} {g : Addr} {z : V} (hi : Itm z) (hk : k ≤ 100) (h : k = C → 0 < C ∧ itemB S z = false) (e : H g = some (.tup (List.replicate k z))) : BadM C S H (.ref g) := ⟨.tup (List.replicate k z), ⟨g, rfl, e⟩, (rep_bad hi hk h).1, (rep_bad hi hk h).2⟩
theorem itS {S : Nat} : itemB S (.int (S : Int)) = false := by
  show (decide (V.int (S : Int) = .non) || (decide (0 ≤ (S : Int)) && decide ((S : Int) < (S : Int)))) = false
  simp
theorem itM {S : Nat} : itemB S (.int (-1)) = false := by
  show (decide (V.int (-1) = .non) || (decide (0 ≤ (-1 : Int)) && decide ((-1 : Int) < (S : Int)))) = false
  rw [decide_eq_false (by omega : ¬ (0 : Int) ≤ -1)]
  simp
theorem itB {S : Nat} : itemB S (.bl true) = false := by
  show (decide (V.bl true = .non) || false) = false
  simp
def MP (H : Hp) (kvs : List (Key × V)) (kd : List (Str × MD)) : Prop := Paired (fun (p : Key × V) (q : Str × MD) => p.1 = Sum.inr q.1 ∧ MDAt H p.2 q.2) kvs kd
theorem MP.same {H H' : Hp} {kvs : List (Key × V)} {kd : List (Str × MD)} (h : MP H kvs kd) (s : Same H H') : MP H' kvs kd := L2.Paired.mapP h fun _ _ q => ⟨q.1, q.2.same s⟩
theorem MP.tp {H H' : Hp} {kvs : List (Key × V)} {kd : List (Str × MD)} (h : MP H kvs kd) (s : Tp H H') : MP H' kvs kd := L2.Paired.mapP h fun _ _ q => ⟨q.1, q.2.tp s⟩
theorem MP.sb {K : PySem.W.Frag} {H H' : Hp} {p a : Addr} {ns : List Int} {kvs : List (Key × V)} {kd : List (Str × MD)} (h : MP H kvs kd) (R : Row K H p a ns) (s : Sb p H H') : MP H' kvs kd := L2.Paired.mapP h fun _ _ q => ⟨q.1, q.2.sb R s⟩
theorem mergeK_new : ∀ {kvs acc : List (Key × V)}, ((acc ++ kvs).map (·.1)).Nodup → mergeK acc kvs = acc ++ kvs
  | [], acc, _ => (List.append_nil acc).symm
  | (k, v) :: kvs, acc, h => by
    have nin : k ∉ acc.map (·.1) := by
      rw [List.map_append, List.nodup_append] at h
      intro z
      exact h.2.2 k z k List.mem_cons_self rfl
    show mergeK (putK acc k v) kvs = _
    rw [putK_new v (valV_notin nin), mergeK_new (by rw [List.append_assoc]; exact h), List.append_assoc]
    rfl
/-- the dict without its first name -/
def dropK2 (L : Plan) (r : Nat) : List (Key × V) := ((L.names.drop 1).map fun n => ((Sum.inr n : Key), V.str "back")) ++ List.replicate r ((Sum.inr "zoe" : Key), V.str "back")
def dropMD (L : Plan) (r : Nat) : List (Str × MD) := ((L.names.drop 1).map fun n => (n, MD.txt "back")) ++ List.replicate r (("zoe" : Str), MD.txt "back")
theorem paired_app {α β : Type} {R : α → β → Prop} {a : List α} {b : List β} {c : List α} {d : List β} (h : Paired R a b) (k : Paired R c d) : Paired R (a ++ c) (b ++ d) := by
  induction h with
  | nil => exact k
  | cons r _ ih => exact .cons r ih
theorem paired_map {α β γ : Type} {R : α → β → Prop} {S : α → γ → Prop} {f : β → γ} {a : List α} {b : List β} (h : Paired R a b) (e : ∀ x y, R x y → S x (f y)) : Paired S a (b.map f) := by
  induction h with
  | nil => exact .nil
  | cons r _ ih => exact .cons (e _ _ r) ih
theorem paired_rep {α β : Type} {R : α → β → Prop} {x : α} {y : β} {r : Nat} (h : 0 < r → R x y) : Paired R (List.replicate r x) (List.replicate r y) := by
  induction r with
  | zero => exact .nil
  | succ r ih => exact .cons (h (Nat.succ_pos r)) (ih fun _ => h (Nat.succ_pos r))
theorem dropK2_mp {H : Hp} {L : Plan} {r : Nat} : MP H (dropK2 L r) (dropMD L r) := by
  unfold MP dropK2 dropMD
  refine paired_app ?_ (paired_rep fun _ => ⟨rfl, rfl⟩)
  induction L.names.drop 1 with
  | nil => exact .nil
  | cons n l ih => exact .cons ⟨rfl, rfl⟩ ih
theorem zoe_new : ("zoe" : Str) ∉ pool := by decide +kernel
theorem dropK2_nd {L : Plan} {m r : Nat} (ok : L.Ok m) (hr : r < 2) : (((([] : List (Key × V)) ++ dropK2 L r)).map (·.1)).Nodup := by
  rw [List.nil_append]
  unfold dropK2
  rw [List.map_append, List.map_map, List.map_replicate, List.nodup_append]
  have ndd : (L.names.drop 1).Nodup := (List.drop_sublist 1 _).nodup ok.nd
  refine ⟨?_, ?_, ?_⟩
  · show ((L.names.drop 1).map fun n => (Sum.inr n : Key)).Nodup
    exact List.Pairwise.map _ (fun x y h e => h (Sum.inr.inj e)) ndd
  · rcases (by omega : r = 0 ∨ r = 1) with rfl | rfl
    · exact List.nodup_nil
    · simp
  · intro x hx y hy e
    obtain ⟨n, hn, rfl⟩ := List.mem_map.mp hx
    have hy := (List.mem_replicate.mp hy).2
    rw [hy] at e
    have e : n = "zoe" := Sum.inr.inj e
    exact zoe_new (e ▸ ok.sub n (List.mem_of_mem_drop hn))
theorem lookup_none {kd : List (Str × MD)} {n : Str} (h : n ∉ kd.map (·.1)) : kd.lookup n = none := by
  induction kd with
  | nil => rfl
  | cons q kd ih =>
    obtain ⟨m, d⟩ := q
    rw [List.map_cons, List.mem_cons, not_or] at h
    rw [List.lookup_cons, beq_eq_false_iff_ne.mpr h.1]
    exact ih h.2
theorem dropMD_look {L : Plan} {m r : Nat} (ok : L.Ok m) (h0 : 0 < L.names.length) : (dropMD L r).lookup L.names[0] = none := by
  refine lookup_none fun z => ?_
  unfold dropMD at z
  rw [List.map_append, List.map_map, List.map_replicate, List.mem_append] at z
  rcases z with z | z
  · obtain ⟨n, hn, e⟩ := List.mem_map.mp z
    have e : n = L.names[0] := e
    obtain ⟨j, hj, q⟩ := List.getElem_of_mem hn
    rw [List.getElem_drop, e] at q
    have := (List.getElem_inj ok.nd).mp q
    omega
  · have e : L.names[0] = "zoe" := (List.mem_replicate.mp z).2
    exact zoe_new (e ▸ ok.sub _ (List.getElem_mem h0))
theorem dropMD_fine {L : Plan} {r : Nat} : ∀ q ∈ dropMD L r, q.2.fine := fun q hq => by
  unfold dropMD at hq
  rcases List.mem_append.mp hq with z | z
  · obtain ⟨n, _, rfl⟩ := List.mem_map.mp z
    trivial
  · rw [(List.mem_replicate.mp z).2]
    trivial
structure BadAt (K : PySem.W.Frag) (H : Hp) (r : Addr) (L : Plan) (bn bs : List Str) (kd : List (Str × MD)) : Prop where
  ex : ∃ an as ad, H r = some (.tup [.ref an, .ref as, .ref ad]) ∧ H an = some (.tup (bn.map V.str)) ∧ H as = some (.tup (bs.map V.str)) ∧ DictAt H ad kd
  nb : namesB bn = false
  pb : platesB bs L.names.length = false
  mb : mannersB kd L.names L.signs.length = false
  z1 : ∀ z ∈ bn, z.length ≤ 1000
  z2 : bn.length ≤ 1000
  z3 : ∀ z ∈ bs, z.length ≤ 1000
  z4 : bs.length ≤ 1000
  z5 : ∀ q ∈ kd, q.2.fine
def spBad (K : PySem.W.Frag) : Sp := fun vs H Q _ => ∃ (p a pl : Addr) (ns : List Int) (L : Plan), vs = [.ref p, .ref pl, .int (L.signs.length : Nat), .int (L.names.length : Nat)] ∧ Row K H p a ns ∧ L.Ok 6 ∧ PlanAt H pl L ∧
  ∀ (r : Addr) (bn bs : List Str) (kd : List (Str × MD)) (H' : Hp), Row K H' p a ns → Sb p H H' → BadAt K H' r L bn bs kd → Q (.ref r) H'
abbrev stBad : Stmt := top 38
theorem scBad : FnScope ["_law_row", "_law_plan", "_law_size", "_law_count", "_law_bad_names", "_law_bad_plates", "_law_odd", "_law_wrong", "_law_name"] ["_law_row", "_law_plan", "_law_size", "_law_count"] (C8.fnScope stBad) := ⟨rfl, rfl, rfl, by decide +kernel, rfl, by decide +kernel, by decide +kernel⟩

theorem rd_slS {a : Addr} {xs : List V} {lo hi : Option Int} {H : Hp} {Q : VK} (h : H a = some (.tup xs)) (q : ∀ p H', Same H H' → H' p = some (.tup (cutV xs lo hi)) → Q (.ref p) H') : rSlS (.ref a) lo hi H Q := ⟨a, xs, rfl, h, q⟩
theorem rd_catS {a b : Addr} {xs ys : List V} {H : Hp} {Q : VK} (h : H a = some (.tup xs)) (h2 : H b = some (.tup ys)) (hl : xs.length + ys.length ≤ 1000) (q : ∀ p H', Same H H' → H' p = some (.tup (xs ++ ys)) → Q (.ref p) H') : rCatS (.ref a) (.ref b) H Q := ⟨a, b, xs, ys, rfl, rfl, h, h2, hl, q⟩
theorem rd_repU {l : Addr} {k : Nat} {z : V} {H : Hp} {Q : VK} (h : H l = some (.tup [z])) (hk : k ≤ 100) (q : ∀ p H', Same H H' → H' p = some (.tup (List.replicate k z)) → Q (.ref p) H') : rRepU K (.ref l) (.int (k : Int)) H Q := ⟨l, k, z, rfl, rfl, h, hk, q⟩
theorem rd_tupS {xs : List V} {H : Hp} {Q : VK} (hl : xs.length ≤ 1000) (q : ∀ p H', Same H H' → H' p = some (.tup xs) → Q (.ref p) H') : xs.length ≤ sizeLine ∧ ∀ p, H p = none → Q (.ref p) (upd H p (.tup xs)) := ⟨small_len hl, fun p np => q p _ (same_new (Same.refl H) np) upd_same⟩
theorem rd_lstS {xs : List V} {H : Hp} {Q : VK} (hl : xs.length ≤ 1000) (q : ∀ p H', H p = none → Same H H' → H' p = some (.lst xs) → Q (.ref p) H') : xs.length ≤ sizeLine ∧ ∀ p, H p = none → Q (.ref p) (upd H p (.lst xs)) := ⟨small_len hl, fun p np => q p _ np (same_new (Same.refl H) np) upd_same⟩
theorem cal_bad {f : Addr} {fd : FuncData} (F : Def K mg "_law_bad" stBad f fd) (b : Binds K fd ["_law_row", "_law_plan", "_law_size", "_law_count"] []) (n_dict : mg "dict" = none) (c__law_taken : Cal P w K mg base 1 "_law_taken" (spTaken K) []) (c__law_pick : Cal P w K mg base 2 "_law_pick" (spPick K) []) : Cal P w K mg base 3 "_law_bad" (spBad K) [] := by
  refine C8.cal0 F b .nil scBad (fun vs H Q E h => ?_) (fun cdv A outer s H vs Q E hr h => ?_)
  · obtain ⟨p, a, pl, ns, L, rfl, _⟩ := h
    rfl
  · obtain ⟨p, a, pl, ns, L, rfl, R, ok, hp, k⟩ := h
    obtain ⟨nm, sg, wy, tr, kvs, hpl, hnm, hsg, hwy, hw, htr⟩ := hp.ex
    have nd := scBad.nd
    have hu := hu_of hr
    refine ⟨_, (pss_cons (ps_set (i := 4) nd rfl (Or.inl rfl) (pe_lst (pa_cons (pe_tup pa_nil) (pa_cons (pe_op op_catS (pe_ix (r := rIx K) ix_seq (pv 1) pe_int (fun _ _ => rfl)) (pe_slice sl_tupS (pe_ix (r := rIx K) ix_seq (pv 1) pe_int (fun _ _ => rfl)) po_none (po_some pe_int))) (pa_cons (pe_op op_catS (pe_ix (r := rIx K) ix_seq (pv 1) pe_int (fun _ _ => rfl)) (pe_tup (pa_cons pe_str pa_nil))) (pa_cons (pe_op op_catS (pe_ix (r := rIx K) ix_seq (pv 1) pe_int (fun _ _ => rfl)) (pe_tup (pa_cons pe_str pa_nil))) (pa_cons (pe_tup (pa_cons pe_str (pa_cons pe_str pa_nil))) (pa_cons (pe_tup (pa_cons (pe_op op_repS pe_str pe_int) pa_nil)) pa_nil))))))))
      (pss_cons (ps_set (i := 4) nd rfl (Or.inl rfl) (pe_c c__law_pick hr (by decide) rfl (pa_cons (pv 0) (pa_cons (pv 4) pa_nil))))
      (pss_cons (ps_set (i := 5) nd rfl (Or.inl rfl) (pe_c c__law_pick hr (by decide) rfl (pa_cons (pv 0) (pa_cons (pe_lst (pa_cons (pe_slice sl_tupS (pe_ix (r := rIx K) ix_seq (pv 1) pe_int (fun _ _ => rfl)) po_none (po_some (pe_op op_sub (pv 3) pe_int))) (pa_cons (pe_op op_repU (pe_tup (pa_cons pe_str pa_nil)) pe_int) (pa_cons (pe_op op_catS (pe_slice sl_tupS (pe_ix (r := rIx K) ix_seq (pv 1) pe_int (fun _ _ => rfl)) po_none (po_some (pe_un un_neg pe_int))) (pe_tup (pa_cons pe_str pa_nil))) (pa_cons (pe_op op_catS (pe_slice sl_tupS (pe_ix (r := rIx K) ix_seq (pv 1) pe_int (fun _ _ => rfl)) po_none (po_some (pe_un un_neg pe_int))) (pe_tup (pa_cons (pe_op op_repS pe_str pe_int) pa_nil))) pa_nil))))) pa_nil))))
      (pss_cons (ps_if (pt_cmpR op_eq (pv 3) pe_int (nomark _)) (pss_cons (ps_set (i := 5) nd rfl (Or.inl rfl) (pe_op op_repU (pe_tup (pa_cons pe_str pa_nil)) pe_int))
      pss_nil) pss_nil)
      (pss_cons (ps_set (i := 6) nd rfl (Or.inl rfl) (pe_lst (pa_cons pe_str (pa_cons pe_str (pa_cons (pe_op op_repU (pe_tup (pa_cons pe_int pa_nil)) (pe_op op_add (pv 3) pe_int)) (pa_cons (pe_op op_repU (pe_tup (pa_cons pe_int pa_nil)) (pe_op op_sub (pv 3) pe_int)) (pa_cons (pe_op op_repU (pe_tup (pa_cons (pv 2) pa_nil)) (pv 3)) (pa_cons (pe_op op_repU (pe_tup (pa_cons (pe_un un_neg pe_int) pa_nil)) (pv 3)) pa_nil))))))))
      (pss_cons (ps_expr (pe_bm PySem.F.plainAttrs_list PySem.F.slot_list_append PySem.F.type_list_append mt_append (pv 6) (pa_cons (pe_op op_repU (pe_tup (pa_cons pe_bl pa_nil)) (pv 3)) pa_nil)))
      (pss_cons (ps_set (i := 7) nd rfl (Or.inl rfl) (pe_callTy call_dictD rfl n_dict (by decide +kernel) (pa_cons (pe_ix (r := rIx K) ix_seq (pv 1) pe_int (fun _ _ => rfl)) pa_nil)))
      (pss_cons (ps_dput hu (pv 7) (pe_ix (r := rIx K) ix_seq (pe_ix (r := rIx K) ix_seq (pv 1) pe_int (fun _ _ => rfl)) (pe_un un_neg pe_int) (fun _ _ => rfl)) (pe_c c__law_pick hr (by decide) rfl (pa_cons (pv 0) (pa_cons (pv 6) pa_nil))) rfl)
      (pss_cons (ps_if (pt_cmpR op_eq (pe_c c__law_taken hr (by decide) rfl (pa_cons (pv 0) (pa_cons pe_int pa_nil))) pe_int (nomark _)) (pss_cons (ps_set (i := 7) nd rfl (Or.inl rfl) (pe_callTy (call_dictP rfl) rfl n_dict (by decide +kernel) (pa_cons (pe_op op_cat (pe_lc (own := [("_law_name", 8)]) (g := gName 8) (tt := tYes) rfl nd (pi_tup (pe_slice sl_tupS (pe_ix (r := rIx K) ix_seq (pv 1) pe_int (fun _ _ => rfl)) (po_some pe_int) po_none)) (blkOk_by (N := ["_law_row", "_law_plan", "_law_size", "_law_count", "_law_bad_names", "_law_bad_plates", "_law_odd", "_law_wrong", "_law_name"]) (sc := C8.fnScope stBad) (by decide +kernel)) (fun _ _ _ _ _ => pg_name (i := 8) nd rfl (Or.inl rfl)) (fun _ _ _ _ _ => pts_nil) (fun _ _ _ _ _ => (pe_tup (pa_cons (pv 8) (pa_cons pe_str pa_nil))))) (pe_op op_rep (pe_lst (pa_cons (pe_tup (pa_cons pe_str (pa_cons pe_str pa_nil))) pa_nil)) (pe_c c__law_taken hr (by decide) rfl (pa_cons (pv 0) (pa_cons pe_int pa_nil))))) pa_nil)))
      pss_nil) pss_nil)
      (pss_cons (ps_ret (pe_tup (pa_cons (pv 4) (pa_cons (pv 5) (pa_cons (pv 7) pa_nil)))))
      pss_nil)))))))))), ?_⟩
    try dsimp only [cxOf]
    have four := ok.four
    have most := ok.most
    have pos := ok.pos
    have fit := ok.fit
    have dA : MP H kvs (kdOf L) := ways_paired hw.keys hw.vals
    have ln : L.names[L.names.length - 1] ∈ L.names := List.getElem_mem _
    have cN : (L.names.map V.str).length = L.names.length := List.length_map ..
    have cS : (L.signs.map V.str).length = L.signs.length := List.length_map ..
    have t : Same H H := Same.refl H
    have t : Same H H := Same.refl H
    have t : Same H H := Same.refl H
    have t : Same H H := Same.refl H
    have sbT : Sb p H H := Sb.refl
    have t : Same H H := Same.refl H
    have sbT : Sb p H H := Sb.refl
    have t : Same H H := Same.refl H
    have sbT : Sb p H H := Sb.refl
    have t : Same H H := Same.refl H
    have sbT : Sb p H H := Sb.refl
    wtm_at "Lrd"
    intro g1 m1
    have s1 : Same H (upd H g1 (.tup [])) := same_new (Same.refl _) m1
    have h1 : (upd H g1 (.tup [])) g1 = some (.tup []) := upd_same
    generalize upd H g1 (.tup []) = H1 at s1 h1 ⊢
    replace hpl := s1 _ _ hpl
    replace hnm := s1 _ _ hnm
    replace hsg := s1 _ _ hsg
    replace hwy := s1 _ _ hwy
    replace t := t.trans s1
    replace dA := dA.same s1
    wtm_at "Lrd"
    refine rd_slS hnm fun g2 H2 s2 hx => ?_
    replace hpl := s2 _ _ hpl
    replace hnm := s2 _ _ hnm
    replace hsg := s2 _ _ hsg
    replace hwy := s2 _ _ hwy
    replace h1 := s2 _ _ h1
    replace t := t.trans s2
    replace dA := dA.same s2
    rw [show cutV (L.names.map V.str) none (some 1) = _ from cut_take _ 1] at hx
    wtm_at "Lrd"
    refine rd_catS hnm hx (by rw [List.length_take, cN]; omega) fun g3 H3 s3 h2 => ?_
    replace hpl := s3 _ _ hpl
    replace hnm := s3 _ _ hnm
    replace hsg := s3 _ _ hsg
    replace hwy := s3 _ _ hwy
    replace h1 := s3 _ _ h1
    replace hx := s3 _ _ hx
    replace t := t.trans s3
    replace dA := dA.same s3
    wtm_at "Lrd"
    clear hx
    intro g4 m4
    have s4 : Same H3 (upd H3 g4 (.tup [V.str "Zoe"])) := same_new (Same.refl _) m4
    have hx : (upd H3 g4 (.tup [V.str "Zoe"])) g4 = some (.tup [V.str "Zoe"]) := upd_same
    generalize upd H3 g4 (.tup [V.str "Zoe"]) = H4 at s4 hx ⊢
    replace hpl := s4 _ _ hpl
    replace hnm := s4 _ _ hnm
    replace hsg := s4 _ _ hsg
    replace hwy := s4 _ _ hwy
    replace h1 := s4 _ _ h1
    replace h2 := s4 _ _ h2
    replace t := t.trans s4
    replace dA := dA.same s4
    wtm_at "Lrd"
    refine rd_catS hnm hx (by rw [cN]; simp; omega) fun g5 H5 s5 h3 => ?_
    replace hpl := s5 _ _ hpl
    replace hnm := s5 _ _ hnm
    replace hsg := s5 _ _ hsg
    replace hwy := s5 _ _ hwy
    replace h1 := s5 _ _ h1
    replace h2 := s5 _ _ h2
    replace hx := s5 _ _ hx
    replace t := t.trans s5
    replace dA := dA.same s5
    wtm_at "Lrd"
    clear hx
    intro g6 m6
    have s6 : Same H5 (upd H5 g6 (.tup [V.str ""])) := same_new (Same.refl _) m6
    have hx : (upd H5 g6 (.tup [V.str ""])) g6 = some (.tup [V.str ""]) := upd_same
    generalize upd H5 g6 (.tup [V.str ""]) = H6 at s6 hx ⊢
    replace hpl := s6 _ _ hpl
    replace hnm := s6 _ _ hnm
    replace hsg := s6 _ _ hsg
    replace hwy := s6 _ _ hwy
    replace h1 := s6 _ _ h1
    replace h2 := s6 _ _ h2
    replace h3 := s6 _ _ h3
    replace t := t.trans s6
    replace dA := dA.same s6
    wtm_at "Lrd"
    refine rd_catS hnm hx (by rw [cN]; simp; omega) fun g7 H7 s7 h4 => ?_
    replace hpl := s7 _ _ hpl
    replace hnm := s7 _ _ hnm
    replace hsg := s7 _ _ hsg
    replace hwy := s7 _ _ hwy
    replace h1 := s7 _ _ h1
    replace h2 := s7 _ _ h2
    replace h3 := s7 _ _ h3
    replace hx := s7 _ _ hx
    replace t := t.trans s7
    replace dA := dA.same s7
    wtm_at "Lrd"
    clear hx
    intro g8 m8
    have s8 : Same H7 (upd H7 g8 (.tup [V.str "zz", V.str "aa"])) := same_new (Same.refl _) m8
    have h5 : (upd H7 g8 (.tup [V.str "zz", V.str "aa"])) g8 = some (.tup [V.str "zz", V.str "aa"]) := upd_same
    generalize upd H7 g8 (.tup [V.str "zz", V.str "aa"]) = H8 at s8 h5 ⊢
    replace hpl := s8 _ _ hpl
    replace hnm := s8 _ _ hnm
    replace hsg := s8 _ _ hsg
    replace hwy := s8 _ _ hwy
    replace h1 := s8 _ _ h1
    replace h2 := s8 _ _ h2
    replace h3 := s8 _ _ h3
    replace h4 := s8 _ _ h4
    replace t := t.trans s8
    replace dA := dA.same s8
    wtm_at "Lrd"
    refine ⟨_, 9, rfl, rfl, rfl, by decide, by decide, by decide +kernel, ?_⟩
    rw [← nineA_def]
    wtm_at "Lrd"
    intro g9 m9
    have s9 : Same H8 (upd H8 g9 (.tup [V.str nineA])) := same_new (Same.refl _) m9
    have h6 : (upd H8 g9 (.tup [V.str nineA])) g9 = some (.tup [V.str nineA]) := upd_same
    generalize upd H8 g9 (.tup [V.str nineA]) = H9 at s9 h6 ⊢
    replace hpl := s9 _ _ hpl
    replace hnm := s9 _ _ hnm
    replace hsg := s9 _ _ hsg
    replace hwy := s9 _ _ hwy
    replace h1 := s9 _ _ h1
    replace h2 := s9 _ _ h2
    replace h3 := s9 _ _ h3
    replace h4 := s9 _ _ h4
    replace h5 := s9 _ _ h5
    replace t := t.trans s9
    replace dA := dA.same s9
    wtm_at "Lrd"
    intro g10 m10
    have s10 : Same H9 (upd H9 g10 (.lst [.ref g1, .ref g3, .ref g5, .ref g7, .ref g8, .ref g9])) := same_new (Same.refl _) m10
    have hl : (upd H9 g10 (.lst [.ref g1, .ref g3, .ref g5, .ref g7, .ref g8, .ref g9])) g10 = some (.lst [.ref g1, .ref g3, .ref g5, .ref g7, .ref g8, .ref g9]) := upd_same
    have nlhl : H g10 = none := (sbT.same t).free ((R.same t).there m10) m10
    have nphl : g10 ≠ p := (R.same t).there m10
    generalize upd H9 g10 (.lst [.ref g1, .ref g3, .ref g5, .ref g7, .ref g8, .ref g9]) = H10 at s10 hl ⊢
    replace hpl := s10 _ _ hpl
    replace hnm := s10 _ _ hnm
    replace hsg := s10 _ _ hsg
    replace hwy := s10 _ _ hwy
    replace h1 := s10 _ _ h1
    replace h2 := s10 _ _ h2
    replace h3 := s10 _ _ h3
    replace h4 := s10 _ _ h4
    replace h5 := s10 _ _ h5
    replace h6 := s10 _ _ h6
    replace t := t.trans s10
    replace dA := dA.same s10
    wtm_at "Lrd"
    have all1 : ∀ v ∈ ([.ref g1, .ref g3, .ref g5, .ref g7, .ref g8, .ref g9] : List V), BadN H10 v := by
      intro v hv
      simp only [List.mem_cons, List.not_mem_nil, or_false] at hv
      rcases hv with rfl | rfl | rfl | rfl | rfl | rfl
      · exact bN1 h1
      · exact bN2 ok h2
      · exact bN3 ok h3
      · exact bN4 ok h4
      · exact bN5 h5
      · exact bN6 h6
    refine ⟨p, a, g10, ns, _, rfl, R.same t, nphl, SqL.of hl, by simp, by simp, fun v1 HH1 hv1 RR1 sb1 => ?_⟩
    have bN := all1 v1 hv1
    have Rt := R.same t
    replace sbT := (sbT.same t).trans sb1
    replace hpl := sb1 _ _ (Rt.tup hpl) hpl
    replace hnm := sb1 _ _ (Rt.tup hnm) hnm
    replace hsg := sb1 _ _ (Rt.tup hsg) hsg
    replace hwy := sb1 _ _ (Rt.dic hwy) hwy
    replace dA := dA.sb Rt sb1
    replace bN := bN.sb Rt sb1
    clear Rt t
    have t : Same HH1 HH1 := Same.refl _
    wtm_at "Lrd"
    have eC : ((L.names.length : Nat) : Int) - 1 = ((L.names.length - 1 : Nat) : Int) := by omega
    rw [eC]
    refine rd_slS hsg fun g11 H11 s11 p1 => ?_
    replace hpl := s11 _ _ hpl
    replace hnm := s11 _ _ hnm
    replace hsg := s11 _ _ hsg
    replace hwy := s11 _ _ hwy
    replace t := t.trans s11
    replace dA := dA.same s11
    replace bN := bN.same s11
    rw [cut_take] at p1
    wtm_at "Lrd"
    intro g12 m12
    have s12 : Same H11 (upd H11 g12 (.tup [V.str ""])) := same_new (Same.refl _) m12
    have hx : (upd H11 g12 (.tup [V.str ""])) g12 = some (.tup [V.str ""]) := upd_same
    generalize upd H11 g12 (.tup [V.str ""]) = H12 at s12 hx ⊢
    replace hpl := s12 _ _ hpl
    replace hnm := s12 _ _ hnm
    replace hsg := s12 _ _ hsg
    replace hwy := s12 _ _ hwy
    replace p1 := s12 _ _ p1
    replace t := t.trans s12
    replace dA := dA.same s12
    replace bN := bN.same s12
    wtm_at "Lrd"
    refine rd_repU (k := 7) hx (by decide) fun g13 H13 s13 p2 => ?_
    replace hpl := s13 _ _ hpl
    replace hnm := s13 _ _ hnm
    replace hsg := s13 _ _ hsg
    replace hwy := s13 _ _ hwy
    replace p1 := s13 _ _ p1
    replace hx := s13 _ _ hx
    replace t := t.trans s13
    replace dA := dA.same s13
    replace bN := bN.same s13
    wtm_at "Lrd"
    clear hx
    refine rd_slS hsg fun g14 H14 s14 hx => ?_
    replace hpl := s14 _ _ hpl
    replace hnm := s14 _ _ hnm
    replace hsg := s14 _ _ hsg
    replace hwy := s14 _ _ hwy
    replace p1 := s14 _ _ p1
    replace p2 := s14 _ _ p2
    replace t := t.trans s14
    replace dA := dA.same s14
    replace bN := bN.same s14
    rw [cut_back (L.signs.map V.str) (by rw [cS]; omega)] at hx
    wtm_at "Lrd"
    intro g15 m15
    have s15 : Same H14 (upd H14 g15 (.tup [V.str "a b"])) := same_new (Same.refl _) m15
    have hy : (upd H14 g15 (.tup [V.str "a b"])) g15 = some (.tup [V.str "a b"]) := upd_same
    generalize upd H14 g15 (.tup [V.str "a b"]) = H15 at s15 hy ⊢
    replace hpl := s15 _ _ hpl
    replace hnm := s15 _ _ hnm
    replace hsg := s15 _ _ hsg
    replace hwy := s15 _ _ hwy
    replace p1 := s15 _ _ p1
    replace p2 := s15 _ _ p2
    replace hx := s15 _ _ hx
    replace t := t.trans s15
    replace dA := dA.same s15
    replace bN := bN.same s15
    wtm_at "Lrd"
    refine rd_catS hx hy (by rw [List.length_take]; show _ + 1 ≤ 1000; omega) fun g16 H16 s16 p3 => ?_
    replace hpl := s16 _ _ hpl
    replace hnm := s16 _ _ hnm
    replace hsg := s16 _ _ hsg
    replace hwy := s16 _ _ hwy
    replace p1 := s16 _ _ p1
    replace p2 := s16 _ _ p2
    replace hx := s16 _ _ hx
    replace hy := s16 _ _ hy
    replace t := t.trans s16
    replace dA := dA.same s16
    replace bN := bN.same s16
    wtm_at "Lrd"
    clear hx hy
    refine rd_slS hsg fun g17 H17 s17 hx => ?_
    replace hpl := s17 _ _ hpl
    replace hnm := s17 _ _ hnm
    replace hsg := s17 _ _ hsg
    replace hwy := s17 _ _ hwy
    replace p1 := s17 _ _ p1
    replace p2 := s17 _ _ p2
    replace p3 := s17 _ _ p3
    replace t := t.trans s17
    replace dA := dA.same s17
    replace bN := bN.same s17
    rw [cut_back (L.signs.map V.str) (by rw [cS]; omega)] at hx
    wtm_at "Lrd"
    refine ⟨_, 9, rfl, rfl, rfl, by decide, by decide, by decide +kernel, ?_⟩
    rw [← nineP_def]
    wtm_at "Lrd"
    intro g18 m18
    have s18 : Same H17 (upd H17 g18 (.tup [V.str nineP])) := same_new (Same.refl _) m18
    have hy : (upd H17 g18 (.tup [V.str nineP])) g18 = some (.tup [V.str nineP]) := upd_same
    generalize upd H17 g18 (.tup [V.str nineP]) = H18 at s18 hy ⊢
    replace hpl := s18 _ _ hpl
    replace hnm := s18 _ _ hnm
    replace hsg := s18 _ _ hsg
    replace hwy := s18 _ _ hwy
    replace p1 := s18 _ _ p1
    replace p2 := s18 _ _ p2
    replace p3 := s18 _ _ p3
    replace hx := s18 _ _ hx
    replace t := t.trans s18
    replace dA := dA.same s18
    replace bN := bN.same s18
    wtm_at "Lrd"
    refine rd_catS hx hy (by rw [List.length_take]; show _ + 1 ≤ 1000; omega) fun g19 H19 s19 p4 => ?_
    replace hpl := s19 _ _ hpl
    replace hnm := s19 _ _ hnm
    replace hsg := s19 _ _ hsg
    replace hwy := s19 _ _ hwy
    replace p1 := s19 _ _ p1
    replace p2 := s19 _ _ p2
    replace p3 := s19 _ _ p3
    replace hx := s19 _ _ hx
    replace hy := s19 _ _ hy
    replace t := t.trans s19
    replace dA := dA.same s19
    replace bN := bN.same s19
    wtm_at "Lrd"
    clear hx hy
    intro g20 m20
    have s20 : Same H19 (upd H19 g20 (.lst [.ref g11, .ref g13, .ref g16, .ref g19])) := same_new (Same.refl _) m20
    have hl : (upd H19 g20 (.lst [.ref g11, .ref g13, .ref g16, .ref g19])) g20 = some (.lst [.ref g11, .ref g13, .ref g16, .ref g19]) := upd_same
    have nlhl : H g20 = none := (sbT.same t).free ((RR1.same t).there m20) m20
    have nphl : g20 ≠ p := (RR1.same t).there m20
    generalize upd H19 g20 (.lst [.ref g11, .ref g13, .ref g16, .ref g19]) = H20 at s20 hl ⊢
    replace hpl := s20 _ _ hpl
    replace hnm := s20 _ _ hnm
    replace hsg := s20 _ _ hsg
    replace hwy := s20 _ _ hwy
    replace p1 := s20 _ _ p1
    replace p2 := s20 _ _ p2
    replace p3 := s20 _ _ p3
    replace p4 := s20 _ _ p4
    replace t := t.trans s20
    replace dA := dA.same s20
    replace bN := bN.same s20
    wtm_at "Lrd"
    have all2 : ∀ v ∈ ([.ref g11, .ref g13, .ref g16, .ref g19] : List V), BadP L.names.length H20 v := by
      intro v hv
      simp only [List.mem_cons, List.not_mem_nil, or_false] at hv
      rcases hv with rfl | rfl | rfl | rfl
      · exact bP1 ok (Nat.le_refl 6) p1
      · exact bP2 p2
      · exact bP3 ok (Nat.le_refl 6) badx.1 badx.2.2.1 p3
      · exact bP3 ok (Nat.le_refl 6) badx.2.1 badx.2.2.2 p4
    refine ⟨p, a, g20, ns, _, rfl, RR1.same t, nphl, SqL.of hl, by simp, by simp, fun v2 HH2 hv2 RR2 sb2 => ?_⟩
    have bP := all2 v2 hv2
    have Rt := RR1.same t
    replace sbT := (sbT.same t).trans sb2
    replace hpl := sb2 _ _ (Rt.tup hpl) hpl
    replace hnm := sb2 _ _ (Rt.tup hnm) hnm
    replace hsg := sb2 _ _ (Rt.tup hsg) hsg
    replace hwy := sb2 _ _ (Rt.dic hwy) hwy
    replace dA := dA.sb Rt sb2
    replace bN := bN.sb Rt sb2
    replace bP := bP.sb Rt sb2
    clear Rt t
    have t : Same HH2 HH2 := Same.refl _
    wtm_at "Lrd"
    refine ite2 (fun c6 => ?_) (fun _ => ?_)
    case _ => exact absurd (V.int.inj (of_decide_eq_true c6)) (by omega)
    wtm_at "Lrd"
    have eC1 : ((L.names.length : Nat) : Int) + 1 = ((L.names.length + 1 : Nat) : Int) := by omega
    intro g21 m21
    have s21 : Same HH2 (upd HH2 g21 (.tup [V.int 0])) := same_new (Same.refl _) m21
    have hx : (upd HH2 g21 (.tup [V.int 0])) g21 = some (.tup [V.int 0]) := upd_same
    generalize upd HH2 g21 (.tup [V.int 0]) = H21 at s21 hx ⊢
    replace hpl := s21 _ _ hpl
    replace hnm := s21 _ _ hnm
    replace hsg := s21 _ _ hsg
    replace hwy := s21 _ _ hwy
    replace t := t.trans s21
    replace dA := dA.same s21
    replace bN := bN.same s21
    replace bP := bP.same s21
    wtm_at "Lrd"
    rw [eC1]
    wtm_at "Lrd"
    refine rd_repU hx (by omega) fun g22 H22 s22 q1 => ?_
    replace hpl := s22 _ _ hpl
    replace hnm := s22 _ _ hnm
    replace hsg := s22 _ _ hsg
    replace hwy := s22 _ _ hwy
    replace hx := s22 _ _ hx
    replace t := t.trans s22
    replace dA := dA.same s22
    replace bN := bN.same s22
    replace bP := bP.same s22
    wtm_at "Lrd"
    clear hx
    intro g23 m23
    have s23 : Same H22 (upd H22 g23 (.tup [V.int 0])) := same_new (Same.refl _) m23
    have hx : (upd H22 g23 (.tup [V.int 0])) g23 = some (.tup [V.int 0]) := upd_same
    generalize upd H22 g23 (.tup [V.int 0]) = H23 at s23 hx ⊢
    replace hpl := s23 _ _ hpl
    replace hnm := s23 _ _ hnm
    replace hsg := s23 _ _ hsg
    replace hwy := s23 _ _ hwy
    replace q1 := s23 _ _ q1
    replace t := t.trans s23
    replace dA := dA.same s23
    replace bN := bN.same s23
    replace bP := bP.same s23
    wtm_at "Lrd"
    rw [eC]
    wtm_at "Lrd"
    refine rd_repU hx (by omega) fun g24 H24 s24 q2 => ?_
    replace hpl := s24 _ _ hpl
    replace hnm := s24 _ _ hnm
    replace hsg := s24 _ _ hsg
    replace hwy := s24 _ _ hwy
    replace q1 := s24 _ _ q1
    replace hx := s24 _ _ hx
    replace t := t.trans s24
    replace dA := dA.same s24
    replace bN := bN.same s24
    replace bP := bP.same s24
    wtm_at "Lrd"
    clear hx
    intro g25 m25
    have s25 : Same H24 (upd H24 g25 (.tup [V.int (L.signs.length : Nat)])) := same_new (Same.refl _) m25
    have hx : (upd H24 g25 (.tup [V.int (L.signs.length : Nat)])) g25 = some (.tup [V.int (L.signs.length : Nat)]) := upd_same
    generalize upd H24 g25 (.tup [V.int (L.signs.length : Nat)]) = H25 at s25 hx ⊢
    replace hpl := s25 _ _ hpl
    replace hnm := s25 _ _ hnm
    replace hsg := s25 _ _ hsg
    replace hwy := s25 _ _ hwy
    replace q1 := s25 _ _ q1
    replace q2 := s25 _ _ q2
    replace t := t.trans s25
    replace dA := dA.same s25
    replace bN := bN.same s25
    replace bP := bP.same s25
    wtm_at "Lrd"
    refine rd_repU hx (by omega) fun g26 H26 s26 q3 => ?_
    replace hpl := s26 _ _ hpl
    replace hnm := s26 _ _ hnm
    replace hsg := s26 _ _ hsg
    replace hwy := s26 _ _ hwy
    replace q1 := s26 _ _ q1
    replace q2 := s26 _ _ q2
    replace hx := s26 _ _ hx
    replace t := t.trans s26
    replace dA := dA.same s26
    replace bN := bN.same s26
    replace bP := bP.same s26
    wtm_at "Lrd"
    clear hx
    intro g27 m27
    have s27 : Same H26 (upd H26 g27 (.tup [V.int (-1)])) := same_new (Same.refl _) m27
    have hx : (upd H26 g27 (.tup [V.int (-1)])) g27 = some (.tup [V.int (-1)]) := upd_same
    generalize upd H26 g27 (.tup [V.int (-1)]) = H27 at s27 hx ⊢
    replace hpl := s27 _ _ hpl
    replace hnm := s27 _ _ hnm
    replace hsg := s27 _ _ hsg
    replace hwy := s27 _ _ hwy
    replace q1 := s27 _ _ q1
    replace q2 := s27 _ _ q2
    replace q3 := s27 _ _ q3
    replace t := t.trans s27
    replace dA := dA.same s27
    replace bN := bN.same s27
    replace bP := bP.same s27
    wtm_at "Lrd"
    refine rd_repU hx (by omega) fun g28 H28 s28 q4 => ?_
    replace hpl := s28 _ _ hpl
    replace hnm := s28 _ _ hnm
    replace hsg := s28 _ _ hsg
    replace hwy := s28 _ _ hwy
    replace q1 := s28 _ _ q1
    replace q2 := s28 _ _ q2
    replace q3 := s28 _ _ q3
    replace hx := s28 _ _ hx
    replace t := t.trans s28
    replace dA := dA.same s28
    replace bN := bN.same s28
    replace bP := bP.same s28
    wtm_at "Lrd"
    clear hx
    intro g29 m29
    have s29 : Same H28 (upd H28 g29 (.lst [.str "", .str "put", .ref g22, .ref g24, .ref g26, .ref g28])) := same_new (Same.refl _) m29
    have hl : (upd H28 g29 (.lst [.str "", .str "put", .ref g22, .ref g24, .ref g26, .ref g28])) g29 = some (.lst [.str "", .str "put", .ref g22, .ref g24, .ref g26, .ref g28]) := upd_same
    have nlhl : H g29 = none := (sbT.same t).free ((RR2.same t).there m29) m29
    have nphl : g29 ≠ p := (RR2.same t).there m29
    generalize upd H28 g29 (.lst [.str "", .str "put", .ref g22, .ref g24, .ref g26, .ref g28]) = H29 at s29 hl ⊢
    replace hpl := s29 _ _ hpl
    replace hnm := s29 _ _ hnm
    replace hsg := s29 _ _ hsg
    replace hwy := s29 _ _ hwy
    replace q1 := s29 _ _ q1
    replace q2 := s29 _ _ q2
    replace q3 := s29 _ _ q3
    replace q4 := s29 _ _ q4
    replace t := t.trans s29
    replace dA := dA.same s29
    replace bN := bN.same s29
    replace bP := bP.same s29
    wtm_at "Lrd"
    intro g30 m30
    have s30 : Same H29 (upd H29 g30 (.tup [V.bl true])) := same_new (Same.refl _) m30
    have hx : (upd H29 g30 (.tup [V.bl true])) g30 = some (.tup [V.bl true]) := upd_same
    generalize upd H29 g30 (.tup [V.bl true]) = H30 at s30 hx ⊢
    replace hpl := s30 _ _ hpl
    replace hnm := s30 _ _ hnm
    replace hsg := s30 _ _ hsg
    replace hwy := s30 _ _ hwy
    replace q1 := s30 _ _ q1
    replace q2 := s30 _ _ q2
    replace q3 := s30 _ _ q3
    replace q4 := s30 _ _ q4
    replace hl := s30 _ _ hl
    replace t := t.trans s30
    replace dA := dA.same s30
    replace bN := bN.same s30
    replace bP := bP.same s30
    wtm_at "Lrd"
    refine rd_repU hx (by omega) fun g31 H31 s31 q5 => ?_
    replace hpl := s31 _ _ hpl
    replace hnm := s31 _ _ hnm
    replace hsg := s31 _ _ hsg
    replace hwy := s31 _ _ hwy
    replace q1 := s31 _ _ q1
    replace q2 := s31 _ _ q2
    replace q3 := s31 _ _ q3
    replace q4 := s31 _ _ q4
    replace hl := s31 _ _ hl
    replace hx := s31 _ _ hx
    replace t := t.trans s31
    replace dA := dA.same s31
    replace bN := bN.same s31
    replace bP := bP.same s31
    wtm_at "Lrd"
    clear hx
    refine rd_append hl (by simp) ?_
    show tSeq _ _ _ _ _
    have tp : Tp H31 (upd H31 g29 (.lst [.str "", .str "put", .ref g22, .ref g24, .ref g26, .ref g28, .ref g31])) := Tp.upd hl (fun _ q => nomatch q)
    have hA : (upd H31 g29 (.lst [.str "", .str "put", .ref g22, .ref g24, .ref g26, .ref g28, .ref g31])) g29 = some (.lst [.str "", .str "put", .ref g22, .ref g24, .ref g26, .ref g28, .ref g31]) := upd_same
    have RA := (RR2.same t).lst (o := .lst [.str "", .str "put", .ref g22, .ref g24, .ref g26, .ref g28, .ref g31]) hl nphl
    replace sbT := (sbT.same t).new (o := .lst [.str "", .str "put", .ref g22, .ref g24, .ref g26, .ref g28, .ref g31]) nlhl
    replace hwy := (upd_ne (o := .lst [.str "", .str "put", .ref g22, .ref g24, .ref g26, .ref g28, .ref g31]) (ne_of hwy hl (by intro q; cases q))).trans hwy
    replace hpl := tp _ _ hpl
    replace hnm := tp _ _ hnm
    replace hsg := tp _ _ hsg
    replace q1 := tp _ _ q1
    replace q2 := tp _ _ q2
    replace q3 := tp _ _ q3
    replace q4 := tp _ _ q4
    replace q5 := tp _ _ q5
    replace dA := dA.tp tp
    replace bN := bN.tp tp
    replace bP := bP.tp tp
    change tSeq _ _ _ _ (upd H31 g29 (.lst [.str "", .str "put", .ref g22, .ref g24, .ref g26, .ref g28, .ref g31]))
    generalize upd H31 g29 (.lst [.str "", .str "put", .ref g22, .ref g24, .ref g26, .ref g28, .ref g31]) = HA at tp hA RA sbT hwy hpl hnm hsg q1 q2 q3 q4 q5 bN bP dA ⊢
    clear t
    have t : Same HA HA := Same.refl _
    have all3 : ∀ v ∈ ([.str "", .str "put", .ref g22, .ref g24, .ref g26, .ref g28, .ref g31] : List V), BadM L.names.length L.signs.length HA v := by
      intro v hv
      simp only [List.mem_cons, List.not_mem_nil, or_false] at hv
      rcases hv with rfl | rfl | rfl | rfl | rfl | rfl | rfl
      · exact bM1
      · exact bM2
      · exact bMr (.inr (.inl ⟨_, rfl⟩)) (by omega) (fun e => absurd e (by omega)) q1
      · exact bMr (.inr (.inl ⟨_, rfl⟩)) (by omega) (fun e => absurd e (by omega)) q2
      · exact bMr (.inr (.inl ⟨_, rfl⟩)) (by omega) (fun _ => ⟨pos, itS⟩) q3
      · exact bMr (.inr (.inl ⟨_, rfl⟩)) (by omega) (fun _ => ⟨pos, itM⟩) q4
      · exact bMr (.inr (.inr ⟨_, rfl⟩)) (by omega) (fun _ => ⟨pos, itB⟩) q5
    wtm_at "Lrd"
    refine ⟨wy, kvs, rfl, .inl hwy, fun dw nw => ?_⟩
    have sw : Same HA (upd HA dw (.dK kvs)) := same_new (Same.refl _) nw
    have hdw : (upd HA dw (.dK kvs)) dw = some (.dK kvs) := upd_same
    have npdw : dw ≠ p := RA.there nw
    have nldw : H dw = none := sbT.free npdw nw
    generalize upd HA dw (.dK kvs) = HW at sw hdw ⊢
    replace hpl := sw _ _ hpl
    replace hnm := sw _ _ hnm
    replace hsg := sw _ _ hsg
    replace hwy := sw _ _ hwy
    replace hA := sw _ _ hA
    replace t := t.trans sw
    replace dA := dA.same sw
    replace bN := bN.same sw
    replace bP := bP.same sw
    wtm_at "Lrd"
    refine ⟨p, a, g29, ns, _, rfl, RA.same t, nphl, SqL.of hA, by simp, by simp, fun v3 HH3 hv3 RR3 sb3 => ?_⟩
    have bM := (all3 v3 hv3).same t
    have Rt0 := RA.same t
    replace hdw := sb3 _ _ npdw hdw
    have Rt := RA.same t
    replace sbT := (sbT.same t).trans sb3
    replace hpl := sb3 _ _ (Rt.tup hpl) hpl
    replace hnm := sb3 _ _ (Rt.tup hnm) hnm
    replace hsg := sb3 _ _ (Rt.tup hsg) hsg
    replace hwy := sb3 _ _ (Rt.dic hwy) hwy
    replace dA := dA.sb Rt sb3
    replace bN := bN.sb Rt sb3
    replace bP := bP.sb Rt sb3
    replace bM := bM.sb Rt sb3
    clear Rt t
    have t : Same HH3 HH3 := Same.refl _
    have hla : atI (L.names.map V.str) (-1) = some (.str L.names[L.names.length - 1]) := last_at pos
    wtm_at "Lrd"
    obtain ⟨dd, hv3d, hm3, hf3⟩ := bM
    have kl : kvs.length = (kdOf L).length := paired_len dA
    have kl2 := kd_len ok
    refine ⟨dw, _, rfl, DPut.k (k := Sum.inr L.names[L.names.length - 1]) hdw (small_lt (by omega)), ?_⟩
    have pm := putK_md dA hv3d (n := L.names[L.names.length - 1]) (by rw [kd_keys ok]; exact ln)
    have tp2 : Tp HH3 (upd HH3 dw (.dK (putK kvs (Sum.inr L.names[L.names.length - 1]) v3))) := Tp.upd hdw (fun _ q => nomatch q)
    have hdD : (upd HH3 dw (.dK (putK kvs (Sum.inr L.names[L.names.length - 1]) v3))) dw = some (.dK (putK kvs (Sum.inr L.names[L.names.length - 1]) v3)) := upd_same
    have RD := RR3.dct (o := .dK (putK kvs (Sum.inr L.names[L.names.length - 1]) v3)) hdw
    replace sbT := sbT.new (o := .dK (putK kvs (Sum.inr L.names[L.names.length - 1]) v3)) nldw
    have dD : MP (upd HH3 dw (.dK (putK kvs (Sum.inr L.names[L.names.length - 1]) v3))) (putK kvs (Sum.inr L.names[L.names.length - 1]) v3) (putMD (kdOf L) L.names[L.names.length - 1] dd) := MP.tp pm tp2
    replace hpl := tp2 _ _ hpl
    replace hnm := tp2 _ _ hnm
    replace bN := bN.tp tp2
    replace bP := bP.tp tp2
    generalize upd HH3 dw (.dK (putK kvs (Sum.inr L.names[L.names.length - 1]) v3)) = HD at tp2 hdD RD sbT dD hpl hnm bN bP ⊢
    clear hwy hsg tp2 t dA
    wtm_at "Lrd"
    refine ⟨p, a, ns, 3, rfl, RD, by omega, by omega, fun r4 HH4 r40 r41 RR4 sb4 => ?_⟩
    have sbE := sbT.trans sb4
    replace hpl := sb4 _ _ (RD.tup hpl) hpl
    replace hnm := sb4 _ _ (RD.tup hnm) hnm
    replace bN := bN.sb RD sb4
    replace bP := bP.sb RD sb4
    replace dD := dD.sb RD sb4
    replace hdD := sb4 _ _ (RD.dic hdD) hdD
    have endR : ∀ (ad : Addr) (kd : List (Str × MD)) (HE : Hp), Row K HE p a ns → Sb p H HE → DictAt HE ad kd → BadN HE v1 → BadP L.names.length HE v2 → mannersB kd L.names L.signs.length = false → (∀ q ∈ kd, q.2.fine) → ∀ g, HE g = none → Q (.ref g) (upd HE g (.tup [v1, v2, .ref ad])) := by
      intro ad kd HE RE sE dE b1 b2 hm hf g ng
      have s := same_new (o := .tup [v1, v2, .ref ad]) (Same.refl HE) ng
      obtain ⟨ga, bn, rfl, e1, e2, e3, e4⟩ := b1
      obtain ⟨gb, bs, rfl, f1, f2, f3, f4⟩ := b2
      exact k g bn bs kd _ (RE.same s) (sE.same s) ⟨⟨ga, gb, ad, upd_same, s _ _ e1, s _ _ f1, dE.same s⟩, e2, f2, hm, e3, e4, f3, f4, hf⟩
    wtm_at "Lrd"
    refine ite2 (fun c4 => ?_) (fun c4 => ?_)
    case _ =>
      wtm_at "Lrd"
      refine rd_slS hnm fun gx Hx sx hx => ?_
      rw [cut_tail _ (by rw [cN]; omega), ← List.map_drop] at hx
      have RX := RR4.same sx
      have sbX := sbE.same sx
      replace bN := bN.same sx
      replace bP := bP.same sx
      replace hpl := sx _ _ hpl
      replace hnm := sx _ _ hnm
      wtm_at "Lrd"
      intro D mD
      have npD : D ≠ p := RX.there mD
      refine lc_it (walk_tup (xs := (L.names.drop 1).map V.str)) (fun j H' => ∃ ps : List Addr, H' D = some (.lst (ps.map V.ref)) ∧ Paired (fun (b : Addr) (n : Str) => H' b = some (.tup [V.str n, V.str "back"])) ps ((L.names.drop 1).take j) ∧ Same Hx H') ⟨[], upd_same, .nil, same_new (Same.refl _) mD⟩ (fun _ _ _ ⟨_, _, _, sm⟩ => SqT.of (sm _ _ hx)) ?lt ?le
      case lt =>
        rintro j x H1 H1' hj ⟨ps, hD, hps, sm⟩ ⟨rfl, hx'⟩
        have hjl : j < (L.names.drop 1).length := by rw [List.length_map] at hj; exact hj
        obtain rfl : x = V.str (L.names.drop 1)[j] := by
          rw [List.getElem?_map, List.getElem?_eq_getElem hjl] at hx'
          exact (Option.some.inj hx').symm
        refine rd_gName ?_
        refine ⟨rfl, ?_⟩
        wtm_at "Lrd"
        intro gt mt
        have ntD : gt ≠ D := fun e => by
          rw [e, hD] at mt
          cases mt
        have pl' : ps.length ≤ 1000 := by
          rw [paired_len hps, List.length_take, List.length_drop]
          omega
        refine ⟨ps.map V.ref, (upd_ne (Ne.symm ntD)).trans hD, by rw [List.length_map]; exact small_lt pl', ps ++ [gt], ?_, ?_, ?_⟩
        · rw [List.map_append]
          exact upd_same
        · rw [List.take_succ, List.getElem?_eq_getElem hjl]
          refine paired_snoc (L2.Paired.mapP hps fun b n q => ?_) ?_
          · have nb : b ≠ D := fun e => by
              rw [e, hD] at q
              cases q
            exact (upd_ne nb).trans ((upd_ne (ne_of_none q mt)).trans q)
          · exact (upd_ne ntD).trans upd_same
        · exact same_new (same_new sm (sm.free mt)) mD
      case le =>
        rintro H5 ⟨ps, hD, hps, sm⟩
        rw [List.length_map, List.take_length] at hps
        have R5 := RX.same sm
        have sb5 := sbX.same sm
        replace bN := bN.same sm
        replace bP := bP.same sm
        have npD5 : D ≠ p := npD
        wtm_at "Lrd"
        intro gz mz
        have sz : Same H5 (upd H5 gz (.tup [V.str "zoe", V.str "back"])) := same_new (Same.refl _) mz
        have hz : (upd H5 gz (.tup [V.str "zoe", V.str "back"])) gz = some (.tup [V.str "zoe", V.str "back"]) := upd_same
        generalize upd H5 gz (.tup [V.str "zoe", V.str "back"]) = H6 at sz hz ⊢
        wtm_at "Lrd"
        intro gl ml
        have sl : Same H6 (upd H6 gl (.lst [V.ref gz])) := same_new (Same.refl _) ml
        have hgl : (upd H6 gl (.lst [V.ref gz])) gl = some (.lst [V.ref gz]) := upd_same
        have npl : gl ≠ p := (R5.same sz).there ml
        generalize upd H6 gl (.lst [V.ref gz]) = H7 at sl hgl ⊢
        have s57 := sz.trans sl
        have R7 := R5.same s57
        wtm_at "Lrd"
        refine ⟨p, a, ns, 2, rfl, R7, by omega, by omega, fun r8 H8 r80 r81 R8 sb8 => ?_⟩
        have hD8 := sb8 _ _ npD (s57 _ _ hD)
        have hps8 : Paired (fun (b : Addr) (n : Str) => H8 b = some (.tup [V.str n, V.str "back"])) ps (L.names.drop 1) := L2.Paired.mapP hps fun b n q => sb8 _ _ (R5.tup q) (s57 _ _ q)
        have hz8 := sb8 _ _ ((R5.same sz).tup hz) (sl _ _ hz)
        have hgl8 := sb8 _ _ npl hgl
        replace bN := (bN.same s57).sb R7 sb8
        replace bP := (bP.same s57).sb R7 sb8
        have sbT8 := (sb5.same s57).trans sb8
        wtm_at "Lrd"
        obtain ⟨r, rfl⟩ : ∃ r : Nat, r8 = (r : Int) := ⟨r8.toNat, by omega⟩
        refine ⟨gl, _, [V.ref gz], rfl, rfl, hgl8, by omega, by omega, small_len (by rw [Int.toNat_natCast]; show 1 * r ≤ 1000; omega), fun g9 m9 => ?_⟩
        rw [Int.toNat_natCast, rep_one]
        have s9 : Same H8 (upd H8 g9 (.lst (List.replicate r (V.ref gz)))) := same_new (Same.refl _) m9
        have h9 : (upd H8 g9 (.lst (List.replicate r (V.ref gz)))) g9 = some (.lst (List.replicate r (V.ref gz))) := upd_same
        generalize upd H8 g9 (.lst (List.replicate r (V.ref gz))) = H9 at s9 h9 ⊢
        have pl : ps.length ≤ 4 := by
          rw [paired_len hps8, List.length_drop]
          omega
        refine ⟨D, g9, ps.map V.ref, List.replicate r (V.ref gz), rfl, rfl, s9 _ _ hD8, h9, small_len (by rw [List.length_map, List.length_replicate]; omega), fun gA mA => ?_⟩
        have sA : Same H9 (upd H9 gA (.lst (ps.map V.ref ++ List.replicate r (V.ref gz)))) := same_new (Same.refl _) mA
        have hgA : (upd H9 gA (.lst (ps.map V.ref ++ List.replicate r (V.ref gz)))) gA = some (.lst (ps.map V.ref ++ List.replicate r (V.ref gz))) := upd_same
        generalize upd H9 gA (.lst (ps.map V.ref ++ List.replicate r (V.ref gz))) = HB at sA hgA ⊢
        have sB := s9.trans sA
        wtm_at "Lrd"
        refine ⟨gA, ps ++ List.replicate r gz, dropK2 L r, rfl, SqL.of (by rw [List.map_append, List.map_replicate]; exact hgA), ?_, fun gC mC => ?_⟩
        · unfold dropK2
          refine paired_app (paired_map hps8 fun b n q => SqT.of (sB _ _ q)) (paired_rep fun _ => SqT.of (sB _ _ hz8))
        · have sC : Same HB (upd HB gC (.dK (mergeK [] (dropK2 L r)))) := same_new (Same.refl _) mC
          have hC : (upd HB gC (.dK (mergeK [] (dropK2 L r)))) gC = some (.dK (mergeK [] (dropK2 L r))) := upd_same
          generalize upd HB gC (.dK (mergeK [] (dropK2 L r))) = HC at sC hC ⊢
          have sBC := sB.trans sC
          rw [mergeK_new (dropK2_nd (r := r) ok (by omega)), List.nil_append] at hC
          wtm_at "Lrd"
          exact endR gC (dropMD L r) HC (R8.same sBC) (sbT8.same sBC) ⟨_, hC, dropK2_mp⟩ (bN.same sBC) (bP.same sBC) (bad_lack (n := L.names[0]) (List.getElem_mem _) (dropMD_look ok pos)) dropMD_fine
    case _ =>
      wtm_at "Lrd"
      exact endR dw _ HH4 RR4 sbE ⟨_, hdD, dD⟩ bN bP (bad_last ln (lookup_put (by rw [kd_keys ok]; exact ln)) hm3) (put_fine (kd_fine ok) hf3)
end

/-! ## what is raised -/
section
open PySem.W PyProof.Rows PySem.Calls LamX
/-- isinstance(e, c), e the caught exception with its dict -/
def rIsX (K : PySem.W.Frag) (D a : Addr) (cls : Value) (d : Option Addr) : List V → Hp → VK → Prop := fun xs H Q => cls = .ref D ∧ ∃ (dd : Addr) (fs : List (Str × V)) (c : V) (cv : Value) (b : Bool), d = some dd ∧ H dd = some (.xd fs) ∧ xs = [.ref a, c] ∧ (∀ u, RelV c u → u = cv) ∧ PySem.W.kitOne K (.ref D) cv = some b ∧ Q (.bl b) H
theorem call_isX {X : Cx} {a D : Addr} {oe : Obj} {cls : Value} {d : Option Addr} {pn : List (Addr × Obj)} (C : ExcC X.K D) (hz : Zc cls d oe) (hf : ∃ vs, oe.data = .fields vs) : CallR (X.suite a ((a, oe) :: pn)) (.builtin "isinstance") (rIsX X.K D a cls d) := by
  intro pins s σ H xs us Q I r h
  obtain ⟨ec, dd, fs, c, cv, b, rfl, hdd, rfl, hcv, e, q⟩ := h
  subst ec
  obtain ⟨u1, u2, rfl, rx, rt⟩ := vals2 r
  cases rx
  have eu := hcv _ rt
  subst eu
  obtain ⟨hget, _⟩ := I.pin (a, oe) (List.mem_append_left _ List.mem_cons_self)
  obtain ⟨vs, hv⟩ := hf
  have hx : ObjOk X.prog X.w H s.heap dd (.xd fs) := I.hok dd _ hdd
  obtain ⟨mA, hns, hr⟩ := hx
  obtain ⟨od, ho, hl⟩ := lookIn_ns hns
  have J : InstAt s.heap a oe D (some od) := ⟨hget, hz.1, by unfold notCls; rw [hv] <;> rfl, by rw [hz.2]; exact ho⟩
  have hcl : (clsIn X.K D).isSome = true := by
    obtain ⟨cd, hc, _⟩ := any_some C.hd
    rw [hc]
    rfl
  exact kia_one (kitx_exc hcl C.hg C.hk C.hs C.ha C.hn C.ht C.hm) I.kIn J e (fun z => nomatch z) fun tk => ⟨.bl b, H, I.kept (t' := tk) fun _ _ z => z, rfl, q⟩
/-- l.count(y) -/
def rCntW (K : PySem.W.Frag) : V → List V → Hp → VK → Prop := fun x xs H Q => ∃ (p : Addr) (ys : List V) (y : V), x = .ref p ∧ xs = [y] ∧ SqL K H p ys ∧ (∀ z ∈ ys, Leaf z) ∧ Leaf y ∧ Q (.int (((ys.map dW).countP fun z => PyData.eqv z (dW y) : Nat) : Int)) H
theorem mt_cntW {X : Cx} (hu : X.A.units + 66 < cLine) : MtR X "list.count" (rCntW X.K) := by
  intro pins s σ H x xs v us Q I rx rxs h
  obtain ⟨p, ys, y, rfl, rfl, hs, fy, f1, q⟩ := h
  cases rx
  obtain ⟨u, rfl, ru⟩ := rxs.one
  obtain ⟨its, rv, pl, _⟩ := I.list hs
  obtain ⟨as, r1⟩ := Dp.readsAll I (ys.map dW) ys its (dw_dp fy) rv
  have d1 := dw_dp (K := X.K) (H := H) (xs := [y]) fun z hz => List.mem_singleton.mp hz ▸ f1
  cases d1 with
  | cons h1 _ =>
    obtain ⟨bs, r2⟩ := Dp.reads I _ _ u h1 ru
    obtain ⟨p1, e1⟩ := dw_plain ys
    obtain ⟨p2, e2⟩ := dw_one y
    exact SeqAt.count_list_data pl.isList (by simpa using r1) r2 p1 p2 (by rw [e1, e2]; show _ + 1 + 0 < _; omega) ⟨.int _, H, I.tok _, ⟨_, rfl⟩, q⟩
/-- the kinds of errors -/
structure Kinds (K : PySem.W.Frag) (mg : Str → Option Value) (CI CP : Addr) : Prop where
  C : ExcC K CI
  X : XfC K CI
  np : findIn K (.ref CI) "part" = some none
  ni : findIn K (.ref CI) "index" = some none
  gP : mg "PlateError" = some (.ref CP)
  eP : exmOne K (.ref CI) (.ref CP) = some true
/-- a kind by its name -/
def KindIs (K : PySem.W.Frag) (mg : Str → Option Value) (CI : Addr) (x : Str) (b : Bool) : Prop := ∃ c, (∃ u, mg x = some u ∧ RelV (.ref c) u) ∧ kitOne K (.ref CI) (.ref c) = some b
/-- what becomes of the work: nothing, or the house's part -/
def TTr (CI : Addr) : (XK → Hp → VK → Prop) → Hp → VK → Prop := fun tl H Q =>
  tl (fun cls d H' => cls = .ref CI ∧ ∃ (dd : Addr) (part : Str), d = some dd ∧ H' dd = some (.xd [("part", .str part)]) ∧ ∀ r H'', Same H' H'' → H'' r = some (.tup [V.str "house", .str part]) → Q (.ref r) H'') H (fun _ H' => Q .non H')
end

section
open LamX
abbrev stRaised : Stmt := top 35
theorem scRaised : FnScope ["_law_work", "e", "_law_kinds_met", "_law_at"] ["_law_work"] (C8.fnScope stRaised) := ⟨rfl, rfl, rfl, by decide +kernel, rfl, by decide +kernel, by decide +kernel⟩

theorem xe_len {X : Cx} {W : WX} {n : Nat} {u : Value} {s' : Shared} (hn : X.N.length = n) (x : L2.XE X (fun cls d σ' H' => σ'.length = n → W cls d σ' H') u s') : L2.XE X W u s' := by
  obtain ⟨a, B, sI, pins, σ, H, cls, d, e, J, nb, up, sky, na, os, ag, w⟩ := x
  exact ⟨a, B, sI, pins, σ, H, cls, d, e, J, nb, up, sky, na, os, ag, w (J.len.trans hn)⟩
theorem rd_isX {K : PySem.W.Frag} {D a dd c : Addr} {fs : List (Str × V)} {b : Bool} {H : Hp} {Q : VK} (hd : H dd = some (.xd fs)) (hk : PySem.W.kitOne K (.ref D) (.ref c) = some b) (q : Q (.bl b) H) : rIsX K D a (.ref D) (some dd) [.ref a, .ref c] H Q := ⟨rfl, dd, fs, .ref c, .ref c, b, rfl, hd, rfl, fun _ r => r, hk, q⟩
theorem rd_isXT {K : PySem.W.Frag} {D a dd : Addr} {c : String} {fs : List (Str × V)} {b : Bool} {H : Hp} {Q : VK} (hd : H dd = some (.xd fs)) (hk : PySem.W.kitOne K (.ref D) (.type c) = some b) (q : Q (.bl b) H) : rIsX K D a (.ref D) (some dd) [.ref a, .ty c] H Q := ⟨rfl, dd, fs, .ty c, .type c, b, rfl, hd, rfl, fun _ r => r, hk, q⟩
theorem leaf12 {bs : List Bool} : ∀ z ∈ bs.map V.bl, Leaf z := fun z hz => by
  obtain ⟨b, _, rfl⟩ := List.mem_map.mp hz
  exact .inr (.inr (.inl ⟨b, rfl⟩))
abbrev nRaised : List Str := ["_law_work", "e", "_law_kinds_met", "_law_at"]
theorem raised_gives {X : Cx} {g CI CP : Addr} {cdg : Value} {q : Str} {k : Nat} (KK : Kinds X.K X.mg CI CP) (hr0 : Room (k + 1) X.A) (n_isinstance : X.mg "isinstance" = none) (n_ValueError : X.mg "ValueError" = none)
    (k_house : KindIs X.K X.mg CI "InvalidHouse" true) (k_log : KindIs X.K X.mg CI "InvalidLog" false) (k_hint : KindIs X.K X.mg CI "InvalidHint" false) (k_manners : KindIs X.K X.mg CI "InvalidManners" false) (k_order : KindIs X.K X.mg CI "InvalidOrder" false) (k_name : KindIs X.K X.mg CI "UnknownName" false)
    (k_box : KindIs X.K X.mg CI "InvalidBox" false) (k_entry : KindIs X.K X.mg CI "UnknownEntry" false) (k_none : KindIs X.K X.mg CI "NoOrder" false) (k_many : KindIs X.K X.mg CI "TooMany" false) (k_number : KindIs X.K X.mg CI "InvalidNumber" false) (k_row : KindIs X.K X.mg CI "InvalidRow" false)
    (k_value : PySem.W.kitOne X.K (.ref CI) (.type "ValueError") = some true) : GivesTo X nRaised "_law_raised" (C8.fnScope stRaised) g cdg (C8.fnBody stRaised) "_law_work" q (TTr CI) := by
  intro f c' s H Q tl act hc h
  have nd := scRaised.nd
  have hr := hr0.deeper (PyProof.Rows.envOfC "_law_raised" (C8.fnScope stRaised) s.heap.objs.size g cdg)
  have hu66 := hu66_of hr
  obtain ⟨c1, g_InvalidHouse, b1⟩ := k_house
  obtain ⟨c2, g_InvalidLog, b2⟩ := k_log
  obtain ⟨c3, g_InvalidHint, b3⟩ := k_hint
  obtain ⟨c4, g_InvalidManners, b4⟩ := k_manners
  obtain ⟨c5, g_InvalidOrder, b5⟩ := k_order
  obtain ⟨c6, g_UnknownName, b6⟩ := k_name
  obtain ⟨c7, g_InvalidBox, b7⟩ := k_box
  obtain ⟨c8, g_UnknownEntry, b8⟩ := k_entry
  obtain ⟨c9, g_NoOrder, b9⟩ := k_none
  obtain ⟨c10, g_TooMany, b10⟩ := k_many
  obtain ⟨c11, g_InvalidNumber, b11⟩ := k_number
  obtain ⟨c12, g_InvalidRow, b12⟩ := k_row
  refine' ⟨_, pss_cons ?one (pss_one (ps_ret pe_non)), ?two⟩
  case one =>
    refine' ps_try_as (i := 1) (tb := fun W D σ H => ∃ Ech : XK, (∀ cls d σ' H', Ech cls d H' → σ'.length = 4 → W cls d σ' H') ∧ σ[0]? = some (some (.ref f)) ∧ H c' = some (CodeO c' q) ∧ tl Ech H (fun _ H' => D.nx σ H')) rfl rfl nd rfl rfl ⟨rfl, by decide, .inl KK.gP⟩ L2.takes0 (fun W pn xe tk _ => ?bd) (fun a oe cls d pn hz hf => ?su)
    case bd =>
      refine ⟨fun pins s' σ H' D I h' => ?_⟩
      obtain ⟨Ech, hW, h1, h2, h3⟩ := h'
      exact (pss_one (ps_expr (act (fun cls d σ' H' => σ'.length = 4 → W cls d σ' H') pn xe Ech _ _ (fun u s' x => tk u s' (xe_len rfl x)) (fun cls d σ' H' e l => hW cls d σ' H' e l)))).run pins s' σ H' D I ⟨h1, h2, h3⟩
    case su =>
      refine' (pss_cons ?n0 (pss_cons ?n1 (pss_cons ?n2 (pss_cons ?n3 (pss_cons ?n4 (pss_cons ?n5 (pss_cons ?n6 (pss_cons ?n7 (pss_cons ?n8 pss_nil)))))))))
      case n0 => exact (ps_set (i := 2) nd rfl (Or.inl rfl) (pe_lst (pa_cons (pe_callB (call_isX (X := (cxOf C8.CX0 X.prog X.w X.K X.mg X.base nRaised "_law_raised" (C8.fnScope stRaised) g cdg X.A X.stack s H C8.E0).nox) (a := a) (pn := pn) KK.C hz hf) (by rfl) n_isinstance (by decide +kernel) (pa_cons (pv 1) (pa_cons (C8.pe_gc (by rfl) g_InvalidHouse) pa_nil))) (pa_cons (pe_callB (call_isX (X := (cxOf C8.CX0 X.prog X.w X.K X.mg X.base nRaised "_law_raised" (C8.fnScope stRaised) g cdg X.A X.stack s H C8.E0).nox) (a := a) (pn := pn) KK.C hz hf) (by rfl) n_isinstance (by decide +kernel) (pa_cons (pv 1) (pa_cons (C8.pe_gc (by rfl) g_InvalidLog) pa_nil))) (pa_cons (pe_callB (call_isX (X := (cxOf C8.CX0 X.prog X.w X.K X.mg X.base nRaised "_law_raised" (C8.fnScope stRaised) g cdg X.A X.stack s H C8.E0).nox) (a := a) (pn := pn) KK.C hz hf) (by rfl) n_isinstance (by decide +kernel) (pa_cons (pv 1) (pa_cons (C8.pe_gc (by rfl) g_InvalidHint) pa_nil))) pa_nil)))))
      case n1 => exact (ps_set (i := 2) nd rfl (Or.inl rfl) (pe_op op_cat (pv 2) (pe_lst (pa_cons (pe_callB (call_isX (X := (cxOf C8.CX0 X.prog X.w X.K X.mg X.base nRaised "_law_raised" (C8.fnScope stRaised) g cdg X.A X.stack s H C8.E0).nox) (a := a) (pn := pn) KK.C hz hf) (by rfl) n_isinstance (by decide +kernel) (pa_cons (pv 1) (pa_cons (C8.pe_gc (by rfl) g_InvalidManners) pa_nil))) (pa_cons (pe_callB (call_isX (X := (cxOf C8.CX0 X.prog X.w X.K X.mg X.base nRaised "_law_raised" (C8.fnScope stRaised) g cdg X.A X.stack s H C8.E0).nox) (a := a) (pn := pn) KK.C hz hf) (by rfl) n_isinstance (by decide +kernel) (pa_cons (pv 1) (pa_cons (C8.pe_gc (by rfl) g_InvalidOrder) pa_nil))) pa_nil)))))
      case n2 => exact (ps_expr (show PE ((cxOf C8.CX0 X.prog X.w X.K X.mg X.base nRaised "_law_raised" (C8.fnScope stRaised) g cdg X.A X.stack s H C8.E0).nox.suite a ((a, oe) :: pn)) _ (tBM X.K "list" rAppend _ _) from pe_bm PySem.F.plainAttrs_list PySem.F.slot_list_append PySem.F.type_list_append mt_append (pv 2) (pa_cons (pe_callB (call_isX (X := (cxOf C8.CX0 X.prog X.w X.K X.mg X.base nRaised "_law_raised" (C8.fnScope stRaised) g cdg X.A X.stack s H C8.E0).nox) (a := a) (pn := pn) KK.C hz hf) (by rfl) n_isinstance (by decide +kernel) (pa_cons (pv 1) (pa_cons (C8.pe_gc (by rfl) g_UnknownName) pa_nil))) pa_nil)))
      case n3 => exact (ps_set (i := 2) nd rfl (Or.inl rfl) (pe_op op_cat (pv 2) (pe_lst (pa_cons (pe_callB (call_isX (X := (cxOf C8.CX0 X.prog X.w X.K X.mg X.base nRaised "_law_raised" (C8.fnScope stRaised) g cdg X.A X.stack s H C8.E0).nox) (a := a) (pn := pn) KK.C hz hf) (by rfl) n_isinstance (by decide +kernel) (pa_cons (pv 1) (pa_cons (C8.pe_gc (by rfl) g_InvalidBox) pa_nil))) (pa_cons (pe_callB (call_isX (X := (cxOf C8.CX0 X.prog X.w X.K X.mg X.base nRaised "_law_raised" (C8.fnScope stRaised) g cdg X.A X.stack s H C8.E0).nox) (a := a) (pn := pn) KK.C hz hf) (by rfl) n_isinstance (by decide +kernel) (pa_cons (pv 1) (pa_cons (C8.pe_gc (by rfl) g_UnknownEntry) pa_nil))) (pa_cons (pe_callB (call_isX (X := (cxOf C8.CX0 X.prog X.w X.K X.mg X.base nRaised "_law_raised" (C8.fnScope stRaised) g cdg X.A X.stack s H C8.E0).nox) (a := a) (pn := pn) KK.C hz hf) (by rfl) n_isinstance (by decide +kernel) (pa_cons (pv 1) (pa_cons (C8.pe_gc (by rfl) g_NoOrder) pa_nil))) pa_nil))))))
      case n4 => exact (ps_set (i := 2) nd rfl (Or.inl rfl) (pe_op op_cat (pv 2) (pe_lst (pa_cons (pe_callB (call_isX (X := (cxOf C8.CX0 X.prog X.w X.K X.mg X.base nRaised "_law_raised" (C8.fnScope stRaised) g cdg X.A X.stack s H C8.E0).nox) (a := a) (pn := pn) KK.C hz hf) (by rfl) n_isinstance (by decide +kernel) (pa_cons (pv 1) (pa_cons (C8.pe_gc (by rfl) g_TooMany) pa_nil))) (pa_cons (pe_callB (call_isX (X := (cxOf C8.CX0 X.prog X.w X.K X.mg X.base nRaised "_law_raised" (C8.fnScope stRaised) g cdg X.A X.stack s H C8.E0).nox) (a := a) (pn := pn) KK.C hz hf) (by rfl) n_isinstance (by decide +kernel) (pa_cons (pv 1) (pa_cons (C8.pe_gc (by rfl) g_InvalidNumber) pa_nil))) (pa_cons (pe_callB (call_isX (X := (cxOf C8.CX0 X.prog X.w X.K X.mg X.base nRaised "_law_raised" (C8.fnScope stRaised) g cdg X.A X.stack s H C8.E0).nox) (a := a) (pn := pn) KK.C hz hf) (by rfl) n_isinstance (by decide +kernel) (pa_cons (pv 1) (pa_cons (C8.pe_gc (by rfl) g_InvalidRow) pa_nil))) pa_nil))))))
      case n5 => exact (ps_if (PW.pt (pw_or (pt_cmpR op_ne (show PE ((cxOf C8.CX0 X.prog X.w X.K X.mg X.base nRaised "_law_raised" (C8.fnScope stRaised) g cdg X.A X.stack s H C8.E0).nox.suite a ((a, oe) :: pn)) _ (tBM X.K "list" (rCntW X.K) _ _) from pe_bm PySem.F.plainAttrs_list PySem.F.slot_list_count PySem.F.type_list_count (mt_cntW (X := (cxOf C8.CX0 X.prog X.w X.K X.mg X.base nRaised "_law_raised" (C8.fnScope stRaised) g cdg X.A X.stack s H C8.E0).nox.suite a ((a, oe) :: pn)) hu66) (pv 2) (pa_cons pe_bl pa_nil)) pe_int (nomark _)) (pw_or1 (pt_not (pt_val (pe_callB (call_isX (X := (cxOf C8.CX0 X.prog X.w X.K X.mg X.base nRaised "_law_raised" (C8.fnScope stRaised) g cdg X.A X.stack s H C8.E0).nox) (a := a) (pn := pn) KK.C hz hf) (by rfl) n_isinstance (by decide +kernel) (pa_cons (pv 1) (pa_cons (pe_bltn (v := .ty "ValueError") (u := .type "ValueError") rfl n_ValueError (by decide +kernel) rfl) pa_nil)))))))) (pss_cons (ps_ret (pe_tup (pa_cons pe_str pa_nil)))
      pss_nil) pss_nil)
      case n6 => exact (ps_set (i := 3) nd rfl (Or.inl rfl) (show PE ((cxOf C8.CX0 X.prog X.w X.K X.mg X.base nRaised "_law_raised" (C8.fnScope stRaised) g cdg X.A X.stack s H C8.E0).nox.suite a ((a, oe) :: pn)) _ (tBM X.K "list" (rIndex X.K) _ _) from pe_bm PySem.F.plainAttrs_list PySem.F.slot_list_index PySem.F.type_list_index mt_index (pv 2) (pa_cons pe_bl pa_nil)))
      case n7 => exact (ps_if (pt_cmpR op_lt (pv 3) pe_int (nomark _)) (pss_cons (ps_ret (pe_ifExp (pt_cmpR op_eq (pv 3) pe_int (nomark _)) (pe_tup (pa_cons pe_str (pa_cons (pe_xf (X := (cxOf C8.CX0 X.prog X.w X.K X.mg X.base nRaised "_law_raised" (C8.fnScope stRaised) g cdg X.A X.stack s H C8.E0).nox) (a := a) (pn := pn) KK.X KK.np hz hf (pv 1)) pa_nil))) (pe_tup (pa_cons (pe_ix (r := rIx X.K) ix_seq (pe_lst (pa_cons pe_str (pa_cons pe_str (pa_cons pe_str (pa_cons pe_str pa_nil))))) (pv 3) (fun _ _ => rfl)) (pa_cons (pe_xf (X := (cxOf C8.CX0 X.prog X.w X.K X.mg X.base nRaised "_law_raised" (C8.fnScope stRaised) g cdg X.A X.stack s H C8.E0).nox) (a := a) (pn := pn) KK.X KK.ni hz hf (pv 1)) pa_nil)))))
      pss_nil) pss_nil)
      case n8 => exact (ps_ret (pe_tup (pa_cons (pe_ix (r := rIx X.K) ix_seq (pe_lst (pa_cons pe_str (pa_cons pe_str (pa_cons pe_str (pa_cons pe_str (pa_cons pe_str (pa_cons pe_str (pa_cons pe_str (pa_cons pe_str pa_nil))))))))) (pe_op op_sub (pv 3) pe_int) (fun _ _ => rfl)) pa_nil)))
  case two =>
    refine rd_seq ?_
    refine ⟨_, fun cls d σ' H' he hl => ?_, rfl, hc, h⟩
    obtain ⟨rfl, dd, part, rfl, hdd, kk⟩ := he
    refine ⟨true, KK.eP, fun _ a na => ?_, fun z => nomatch z⟩
    obtain ⟨x0, x1, x2, x3, rfl⟩ : ∃ x0 x1 x2 x3, σ' = [x0, x1, x2, x3] := by
      match σ', hl with
      | [x0, x1, x2, x3], _ => exact ⟨x0, x1, x2, x3, rfl⟩
    have sm := Same.refl H'
    generalize hH : H' = HB at sm hdd na ⊢
    have kk' := kk
    rw [hH] at kk'
    clear kk
    wtm_at "Lrd"
    refine rd_isX hdd b1 ?_
    wtm_at "Lrd"
    refine rd_isX hdd b2 ?_
    wtm_at "Lrd"
    refine rd_isX hdd b3 ?_
    wtm_at "Lrd"
    intro g1 ng1
    have sg1 : Same HB (upd HB g1 (.lst [V.bl true, V.bl false, V.bl false])) := same_new (Same.refl _) ng1
    have hg1 : (upd HB g1 (.lst [V.bl true, V.bl false, V.bl false])) g1 = some (.lst [V.bl true, V.bl false, V.bl false]) := upd_same
    generalize upd HB g1 (.lst [V.bl true, V.bl false, V.bl false]) = H1 at sg1 hg1 ⊢
    replace hdd := sg1 _ _ hdd
    replace sm := sm.trans sg1
    wtm_at "Lrd"
    refine rd_isX hdd b4 ?_
    wtm_at "Lrd"
    refine rd_isX hdd b5 ?_
    wtm_at "Lrd"
    intro g2 ng2
    have sg2 : Same H1 (upd H1 g2 (.lst [V.bl false, V.bl false])) := same_new (Same.refl _) ng2
    have hg2 : (upd H1 g2 (.lst [V.bl false, V.bl false])) g2 = some (.lst [V.bl false, V.bl false]) := upd_same
    generalize upd H1 g2 (.lst [V.bl false, V.bl false]) = H2 at sg2 hg2 ⊢
    replace hdd := sg2 _ _ hdd
    replace sm := sm.trans sg2
    replace hg1 := sg2 _ _ hg1
    refine ⟨g1, g2, _, _, rfl, rfl, hg1, hg2, by decide, ?_⟩
    show ∀ p, H2 p = none → _
    have smB := sm
    intro g3 ng3
    have sg3 : Same H2 (upd H2 g3 (.lst ([V.bl true, V.bl false, V.bl false] ++ [V.bl false, V.bl false]))) := same_new (Same.refl _) ng3
    have hg3 : (upd H2 g3 (.lst ([V.bl true, V.bl false, V.bl false] ++ [V.bl false, V.bl false]))) g3 = some (.lst ([V.bl true, V.bl false, V.bl false] ++ [V.bl false, V.bl false])) := upd_same
    generalize upd H2 g3 (.lst ([V.bl true, V.bl false, V.bl false] ++ [V.bl false, V.bl false])) = H3 at sg3 hg3 ⊢
    replace hdd := sg3 _ _ hdd
    replace sm := sm.trans sg3
    wtm_at "Lrd"
    refine rd_isX hdd b6 ?_
    wtm_at "Lrd"
    have sm0 : Same HB H2 := smB
    refine rd_append hg3 (by decide) ?_
    have ng3 : H' g3 = none := by rw [hH]; exact sm0.free ng3
    have sA : Same HB (upd H3 g3 (.lst ([V.bl true, V.bl false, V.bl false] ++ [V.bl false, V.bl false] ++ [V.bl false]))) := fun b o e => by
      have nb : b ≠ g3 := ne_of_none (hH ▸ e) ng3
      exact (upd_ne nb).trans (sm _ _ e)
    have hg4 : (upd H3 g3 (.lst ([V.bl true, V.bl false, V.bl false] ++ [V.bl false, V.bl false] ++ [V.bl false]))) g3 = some (.lst ([V.bl true, V.bl false, V.bl false] ++ [V.bl false, V.bl false] ++ [V.bl false])) := upd_same
    have hdd4 : (upd H3 g3 (.lst ([V.bl true, V.bl false, V.bl false] ++ [V.bl false, V.bl false] ++ [V.bl false]))) dd = some (.xd [("part", .str part)]) := (upd_ne (ne_of hdd hg3 (by intro q; cases q))).trans hdd
    generalize upd H3 g3 (.lst ([V.bl true, V.bl false, V.bl false] ++ [V.bl false, V.bl false] ++ [V.bl false])) = H4 at sA hg4 hdd4 ⊢
    clear sm hdd
    have sm := sA
    have hdd := hdd4
    wtm_at "Lrd"
    refine rd_isX hdd b7 ?_
    wtm_at "Lrd"
    refine rd_isX hdd b8 ?_
    wtm_at "Lrd"
    refine rd_isX hdd b9 ?_
    wtm_at "Lrd"
    intro g5 ng5
    have sg5 : Same H4 (upd H4 g5 (.lst [V.bl false, V.bl false, V.bl false])) := same_new (Same.refl _) ng5
    have hg5 : (upd H4 g5 (.lst [V.bl false, V.bl false, V.bl false])) g5 = some (.lst [V.bl false, V.bl false, V.bl false]) := upd_same
    generalize upd H4 g5 (.lst [V.bl false, V.bl false, V.bl false]) = H5 at sg5 hg5 ⊢
    replace hdd := sg5 _ _ hdd
    replace sm := sm.trans sg5
    replace hg4 := sg5 _ _ hg4
    refine ⟨g3, g5, _, _, rfl, rfl, hg4, hg5, by decide, ?_⟩
    show ∀ p, H5 p = none → _
    intro g6 ng6
    have sg6 : Same H5 (upd H5 g6 (.lst (([V.bl true, V.bl false, V.bl false] ++ [V.bl false, V.bl false] ++ [V.bl false]) ++ [V.bl false, V.bl false, V.bl false]))) := same_new (Same.refl _) ng6
    have hg6 : (upd H5 g6 (.lst (([V.bl true, V.bl false, V.bl false] ++ [V.bl false, V.bl false] ++ [V.bl false]) ++ [V.bl false, V.bl false, V.bl false]))) g6 = some (.lst (([V.bl true, V.bl false, V.bl false] ++ [V.bl false, V.bl false] ++ [V.bl false]) ++ [V.bl false, V.bl false, V.bl false])) := upd_same
    generalize upd H5 g6 (.lst (([V.bl true, V.bl false, V.bl false] ++ [V.bl false, V.bl false] ++ [V.bl false]) ++ [V.bl false, V.bl false, V.bl false])) = H6 at sg6 hg6 ⊢
    replace hdd := sg6 _ _ hdd
    replace sm := sm.trans sg6
    wtm_at "Lrd"
    refine rd_isX hdd b10 ?_
    wtm_at "Lrd"
    refine rd_isX hdd b11 ?_
    wtm_at "Lrd"
    refine rd_isX hdd b12 ?_
    wtm_at "Lrd"
    intro g7 ng7
    have sg7 : Same H6 (upd H6 g7 (.lst [V.bl false, V.bl false, V.bl false])) := same_new (Same.refl _) ng7
    have hg7 : (upd H6 g7 (.lst [V.bl false, V.bl false, V.bl false])) g7 = some (.lst [V.bl false, V.bl false, V.bl false]) := upd_same
    generalize upd H6 g7 (.lst [V.bl false, V.bl false, V.bl false]) = H7 at sg7 hg7 ⊢
    replace hdd := sg7 _ _ hdd
    replace sm := sm.trans sg7
    replace hg6 := sg7 _ _ hg6
    refine ⟨g6, g7, _, _, rfl, rfl, hg6, hg7, by decide, ?_⟩
    show ∀ p, H7 p = none → _
    intro g8 ng8
    have sg8 : Same H7 (upd H7 g8 (.lst ((([V.bl true, V.bl false, V.bl false] ++ [V.bl false, V.bl false] ++ [V.bl false]) ++ [V.bl false, V.bl false, V.bl false]) ++ [V.bl false, V.bl false, V.bl false]))) := same_new (Same.refl _) ng8
    have hg8 : (upd H7 g8 (.lst ((([V.bl true, V.bl false, V.bl false] ++ [V.bl false, V.bl false] ++ [V.bl false]) ++ [V.bl false, V.bl false, V.bl false]) ++ [V.bl false, V.bl false, V.bl false]))) g8 = some (.lst ((([V.bl true, V.bl false, V.bl false] ++ [V.bl false, V.bl false] ++ [V.bl false]) ++ [V.bl false, V.bl false, V.bl false]) ++ [V.bl false, V.bl false, V.bl false])) := upd_same
    generalize upd H7 g8 (.lst ((([V.bl true, V.bl false, V.bl false] ++ [V.bl false, V.bl false] ++ [V.bl false]) ++ [V.bl false, V.bl false, V.bl false]) ++ [V.bl false, V.bl false, V.bl false])) = H8 at sg8 hg8 ⊢
    replace hdd := sg8 _ _ hdd
    replace sm := sm.trans sg8
    have hs8 : SqL X.K H8 g8 ((([V.bl true, V.bl false, V.bl false] ++ [V.bl false, V.bl false] ++ [V.bl false]) ++ [V.bl false, V.bl false, V.bl false]) ++ [V.bl false, V.bl false, V.bl false]) := SqL.of hg8
    wtm_at "Lrd"
    refine ⟨g8, _, _, rfl, rfl, SqL.of hg8, leaf12 (bs := [true, false, false, false, false, false, false, false, false, false, false, false]), .inr (.inr (.inl ⟨true, rfl⟩)), ?_⟩
    wtm_at "Lrd"
    refine ite2 (fun c => absurd c (by decide +kernel)) (fun _ => ?_)
    wtm_at "Lrd"
    refine rd_isXT hdd k_value ?_
    wtm_at "Lrd"
    refine ite2 (fun c => absurd c (by decide)) (fun _ => ?_)
    wtm_at "Lrd"
    refine ⟨g8, _, _, 0, .bl true, rfl, rfl, SqL.of hg8, rfl, by decide, rfl, rfl, fun m z' hm _ => absurd hm (Nat.not_lt_zero m), ?_⟩
    wtm_at "Lrd"
    refine ite2 (fun _ => ?_) (fun c => absurd (by decide) c)
    wtm_at "Lrd"
    refine ite2 (fun _ => ?_) (fun c => absurd (by decide) c)
    wtm_at "Lrd"
    refine ⟨.ref a, rfl, rfl, rfl, dd, _, _, rfl, hdd, rfl, ?_⟩
    wtm_at "Lrd"
    exact fun r nr => kk' r _ (sm.trans (same_new (Same.refl _) nr)) upd_same
end

/-! ## the law -/
section
open PySem.W PyProof.Rows PySem.Calls PySem.SeqAt
section
variable {X : Cx}
/-- == of plain data, and != -/
def rPl (K : PySem.W.Frag) (neg : Bool) : R2 := fun x y H Q => ∃ d e, Dp K H x d ∧ Dp K H y e ∧ d.plain = true ∧ e.plain = true ∧ d.depth ≤ 2 ∧ Q (.bl (neg ^^ PyData.eqv d e)) H
theorem op_eqPl (hu : X.A.units + 67 < cLine) : OpR X (compareOp .Eq) (rPl X.K false) := by
  intro pins s σ H x y v u Q I rx ry h
  obtain ⟨d, e, hd, he, pd, pe, hz, q⟩ := h
  obtain ⟨as, r1⟩ := Dp.reads I d x v hd rx
  obtain ⟨bs, r2⟩ := Dp.reads I e y u he ry
  refine eq_plain r1 r2 pd pe (by omega) ⟨.bl _, H, I, rfl, ?_⟩
  rw [Bool.false_xor] at q
  exact q
theorem op_nePl (hu : X.A.units + 67 < cLine) : OpR X (compareOp .NotEq) (rPl X.K true) := by
  intro pins s σ H x y v u Q I rx ry h
  obtain ⟨d, e, hd, he, pd, pe, hz, q⟩ := h
  obtain ⟨as, r1⟩ := Dp.reads I d x v hd rx
  obtain ⟨bs, r2⟩ := Dp.reads I e y u he ry
  refine ne_plain r1 r2 pd pe (by omega) ⟨.bl _, H, I, rfl, ?_⟩
  rw [Bool.true_xor] at q
  exact q
end
/-- all that the law asks of the class House -/
structure HouF (P : Program) (w : World) (K : PySem.W.Frag) (mg : Str → Option Value) (base : Heap) (C CI : Addr) : Prop where
  T : HouC K C
  mgH : mg "House" = some (.ref C)
  nm : ∃ p g fd, PropOf K C "names" p g ∧ FnOk P w K mg base C8.CX0 1 g fd ["self"] (getSp C "_names") ∧ Binds K fd ["self"] []
  pl : ∃ p g fd, PropOf K C "plates" p g ∧ FnOk P w K mg base C8.CX0 1 g fd ["self"] (getSp C "_plates") ∧ Binds K fd ["self"] []
  mn : ∃ p g fd, PropOf K C "manners" p g ∧ FnOk P w K mg base C8.CX0 1 g fd ["self"] (spMnrs C) ∧ Binds K fd ["self"] []
  ln : ∃ f fd, findIn K (.ref C) "__len__" = some (some (.ref f)) ∧ isFn K (.ref f) = true ∧ FnOk P w K mg base C8.CX0 1 f fd ["self"] (spHLen C) ∧ Binds K fd ["self"] []
  eq : ∃ f fd, findIn K (.ref C) "__eq__" = some (some (.ref f)) ∧ isFn K (.ref f) = true ∧ FnOk P w K mg base C8.CX0 6 f fd ["self", "other"] (spHEq C) ∧ Binds K fd ["self", "other"] []
  ne : findIn K (.ref C) "__ne__" = some (some (.builtin "object.__ne__"))
  ob : subIn K (.ref C) (.type "object") = some true
  made : ∃ f fd, Mk K C f ∧ FnOk P w K mg base (L2.CX P w) 5 f fd ["self", "names", "plates", "manners"] (spHInit C CI) ∧ Binds K fd ["self", "names", "plates", "manners"] []
def KindsI (K : PySem.W.Frag) (mg : Str → Option Value) (CI : Addr) : Prop :=
  KindIs K mg CI "InvalidHouse" true ∧ KindIs K mg CI "InvalidLog" false ∧ KindIs K mg CI "InvalidHint" false ∧ KindIs K mg CI "InvalidManners" false ∧ KindIs K mg CI "InvalidOrder" false ∧ KindIs K mg CI "UnknownName" false ∧
  KindIs K mg CI "InvalidBox" false ∧ KindIs K mg CI "UnknownEntry" false ∧ KindIs K mg CI "NoOrder" false ∧ KindIs K mg CI "TooMany" false ∧ KindIs K mg CI "InvalidNumber" false ∧ KindIs K mg CI "InvalidRow" false ∧ kitOne K (.ref CI) (.type "ValueError") = some true
theorem tabs_sb {K : PySem.W.Frag} {T : List (Addr × Str)} {H H' : Hp} {p a : Addr} {ns : List Int} (t : LamX.Tabs T H) (R : Row K H p a ns) (s : Sb p H H') : LamX.Tabs T H' := fun q hq => by
  obtain ⟨ps, h1, h2, h3⟩ := t q hq
  obtain ⟨i, d, e, _, hp⟩ := R.at_
  refine ⟨ps, s _ _ (fun z => ?_) h1, h2, fun pos cv hc => ?_⟩
  · rw [z, hp] at h1
    cases h1
  · obtain ⟨c, e1, e2⟩ := h3 pos cv hc
    refine ⟨c, e1, s _ _ (fun z => ?_) e2⟩
    rw [z, hp] at e2
    unfold LamX.CodeO at e2
    cases e2
theorem rd_par3 {i j l : Nat} {ta : TA} {D : Ends} {σ : L2.St} {H : Hp} (h : ta σ H fun vs H1 => ∃ u v w, vs = [u, v, w] ∧ D.nx (((σ.set i (some u)).set j (some v)).set l (some w)) H1) : tPar3 i j l ta D σ H := h
theorem rd_prop {C : Addr} {sp : Sp} {dvs : List V} {E : XK} {ta : TE} {σ : L2.St} {H : Hp} {Q : VK} (h : ta σ H fun x H1 => ∃ a dx fs, x = .ref a ∧ H1 a = some (.ins C dx fs) ∧ sp (.ref a :: dvs) H1 Q E) : tProp C sp dvs E ta σ H Q := h
theorem tabs_dk {T : List (Addr × Str)} {H : Hp} {d : Addr} {kvs : List (Key × V)} {o : HO} (t : LamX.Tabs T H) (hd : H d = some (.dK kvs)) : LamX.Tabs T (upd H d o) := fun q hq => by
  obtain ⟨ps, h1, h2, h3⟩ := t q hq
  refine ⟨ps, (upd_ne fun z => ?_).trans h1, h2, fun pos cv hc => ?_⟩
  · rw [z, hd] at h1
    cases h1
  · obtain ⟨c, e1, e2⟩ := h3 pos cv hc
    refine ⟨c, e1, (upd_ne fun z => ?_).trans e2⟩
    rw [z, hd] at e2
    unfold LamX.CodeO at e2
    cases e2
theorem ite_str {c : Prop} [Decidable c] {x y : Str} {σ : L2.St} {H : Hp} {Q : VK} (h : ∀ z : Str, ((c ∧ z = x) ∨ (¬ c ∧ z = y)) → Q (V.str z) H) : if c then tC (.str x) σ H Q else tC (.str y) σ H Q := by
  by_cases hc : c
  · rw [if_pos hc]
    exact h x (.inl ⟨hc, rfl⟩)
  · rw [if_neg hc]
    exact h y (.inr ⟨hc, rfl⟩)
theorem put_part {L : Plan} {m : Nat} {n vv : Str} (h : L.Ok m) (hm : m ≤ 6) (hv : vv = "keep" ∨ vv = "back") (hn : n ∈ L.names) : housePart L.names L.signs (putMD (kdOf L) n (.txt vv)) = none := by
  have e : mannersB (putMD (kdOf L) n (.txt vv)) L.names L.signs.length = true := by
    have look : ∀ k ∈ L.names, ∃ d, (putMD (kdOf L) n (.txt vv)).lookup k = some d ∧ mannerB L.names.length L.signs.length d = true := fun k hk => by
      have kk : k ∈ (putMD (kdOf L) n (.txt vv)).map (·.1) := by
        rw [put_keys, kd_keys h]
        exact hk
      obtain ⟨q, hq, rfl⟩ := List.mem_map.mp kk
      obtain ⟨j, hj, rfl⟩ := List.getElem_of_mem hq
      refine ⟨_, lookup_nd hj (by rw [put_keys]; exact kd_nd h), ?_⟩
      have hq := List.getElem_mem hj
      obtain ⟨r, hr, er⟩ := List.mem_map.mp hq
      rw [← er]
      by_cases c : r.1 = n
      · rw [if_pos c]
        rcases hv with rfl | rfl <;> rfl
      · rw [if_neg c]
        exact kd_man h r hr
    unfold mannersB
    rw [Bool.and_eq_true, Bool.and_eq_true]
    refine ⟨decide_eq_true ?_, ?_, ?_⟩
    · have := congrArg List.length (put_keys (kd := kdOf L) (n := n) (d := .txt vv))
      rw [List.length_map, List.length_map, kd_len h] at this
      exact this
    · rw [List.all_eq_true]
      intro k hk
      obtain ⟨d, e1, _⟩ := look k hk
      rw [e1]
      rfl
    · rw [List.all_eq_true]
      intro k hk
      obtain ⟨d, e1, e2⟩ := look k hk
      rw [e1]
      exact e2
  unfold housePart
  rw [if_pos (names_ok h), if_pos (plates_ok h hm), if_pos e]
theorem kdEq_put {kd : List (Str × MD)} {n : Str} {d e : MD} (hn : n ∈ kd.map (·.1)) (hl : kd.lookup n = some e) (h : mdEq d e = false) : kdEq (putMD kd n d) kd = false := by
  unfold kdEq
  have : (putMD kd n d).all (fun q => match kd.lookup q.1 with | some e => mdEq q.2 e | none => false) = false := by
    rw [List.all_eq_false]
    obtain ⟨q, hq, eq⟩ := List.mem_map.mp hn
    refine ⟨(n, d), List.mem_map.mpr ⟨q, hq, if_pos eq⟩, ?_⟩
    simp only [hl, h]
    decide
  rw [Bool.eq_false_iff]
  intro z
  have z2 := (Bool.and_eq_true_iff.mp z).2
  rw [List.all_eq_true] at z2
  rw [List.all_eq_false] at this
  obtain ⟨x, hx, q⟩ := this
  exact q (z2 x hx)
theorem first_at {l : List Str} (h : 0 < l.length) : atI (l.map V.str) 0 = some (.str l[0]) := atI_nat (j := 0) (by rw [List.getElem?_map, List.getElem?_eq_getElem h]; rfl)
theorem less_ne {dd : MD} {vv : Str} (hv : (PyData.eqv dd.dat (.str "back") = true ∧ vv = "keep") ∨ (¬ PyData.eqv dd.dat (.str "back") = true ∧ vv = "back")) : mdEq (.txt vv) dd = false := by
  unfold mdEq
  cases dd with
  | txt z =>
    rcases hv with ⟨h, rfl⟩ | ⟨h, rfl⟩
    · have e : z = "back" := by
        unfold MD.dat PyData.eqv at h
        simpa using h
      subst e
      decide +kernel
    · have e : z ≠ "back" := fun e => h (by subst e; decide +kernel)
      unfold MD.dat PyData.eqv
      simpa using fun q : ("back" : Str) = z => e q.symm
  | tup xs => rfl
theorem keys_mp {H : Hp} : ∀ {kvs : List (Key × V)} {kd : List (Str × MD)}, MP H kvs kd → (kvs.map fun kv => kV kv.1) = (kd.map (·.1)).map V.str
  | [], [], _ => rfl
  | [], _ :: _, h => nomatch h
  | _ :: _, [], h => nomatch h
  | p :: kvs, q :: kd, h => by
    cases h with
    | cons r t =>
      rw [List.map_cons, keys_mp t, r.1]
      rfl
theorem keys_list {H : Hp} {kvs : List (Key × V)} {L : Plan} {m : Nat} (h : MP H kvs (kdOf L)) (ok : L.Ok m) : (kvs.map fun kv => kV kv.1) = L.names.map V.str := by
  rw [keys_mp h, kd_keys ok]
theorem rd_disp1 {x y : Str} {σ : L2.St} {H : Hp} {Q : VK} (h : ∀ p, H p = none → Q (.ref p) (upd H p (.dK [((Sum.inr x : Key), V.str y)]))) : tDisp [(tC (.str x), tC (.str y))] σ H Q := fun p np => by
  refine ⟨upd_same, [(Sum.inr x, .str y)], rfl, (by show (1 : Nat) ≤ 15; decide), ?_⟩
  rw [upd_upd]
  exact h p np
theorem zoeF : (∀ z ∈ [("zoe" : Str)], z.length ≤ 1000) ∧ (∀ z ∈ [("" : Str)], z.length ≤ 1000) ∧ (∀ q ∈ [(("zoe" : Str), MD.txt "back")], q.2.fine) ∧ housePart [("zoe" : Str)] [("" : Str)] [(("zoe" : Str), MD.txt "back")] = none := by
  refine ⟨by decide +kernel, by decide +kernel, fun q hq => ?_, by decide +kernel⟩
  rw [List.mem_singleton.mp hq]
  trivial
theorem mp_ways {H : Hp} {kvs : List (Key × V)} {L : Plan} {m : Nat} (ok : L.Ok m) (h : MP H kvs (kdOf L)) : WaysAt H L kvs := by
  have key : ∀ (kvs : List (Key × V)) (ns : List Str) (ws : List Man), ns.length = ws.length → MP H kvs (ns.zip (ws.map mdOf)) → kvs.map (·.1) = ns.map Sum.inr ∧ Paired (fun (p : Key × V) m => ManAt H p.2 m) kvs ws := by
    intro kvs
    induction kvs with
    | nil =>
      intro ns ws hl hp
      cases ns with
      | nil =>
        cases ws with
        | nil => exact ⟨rfl, .nil⟩
        | cons => cases hl
      | cons =>
        cases ws with
        | nil => cases hl
        | cons => exact nomatch hp
    | cons p kvs ih =>
      intro ns ws hl hp
      cases ns with
      | nil => exact nomatch hp
      | cons n ns =>
        cases ws with
        | nil => cases hl
        | cons m ws =>
          cases hp with
          | cons r t =>
            obtain ⟨e1, e2⟩ := ih ns ws (Nat.succ.inj hl) t
            refine ⟨by rw [List.map_cons, List.map_cons, e1, r.1], .cons ?_ e2⟩
            have := r.2
            cases m with
            | back => exact this
            | keep => exact this
            | guess g => exact this
  obtain ⟨e1, e2⟩ := key kvs L.names L.ways ok.wl.symm h
  exact ⟨e1, e2⟩
theorem Row.insc {K : PySem.W.Frag} {H : Hp} {p a b C dx : Addr} {ns : List Int} {fs : List (Str × V)} (R : Row K H p a ns) (h : H b = some (.ins C dx fs)) : b ≠ p := fun e => by
  obtain ⟨i, d, t, i0, q⟩ := R.at_
  rw [e, q] at h
  cases h
theorem DictAt.sb {K : PySem.W.Frag} {H H' : Hp} {p a d : Addr} {ns : List Int} {kd : List (Str × MD)} (h : DictAt H d kd) (R : Row K H p a ns) (s : Sb p H H') : DictAt H' d kd := by
  obtain ⟨kvs, h1, h2⟩ := h.ex
  exact ⟨kvs, s _ _ (R.dic h1) h1, L2.Paired.mapP h2 fun _ _ q => ⟨q.1, q.2.sb R s⟩⟩
theorem cutQ {te : TE} {σ : L2.St} {H : Hp} {Q : VK} (M : V → Hp → Prop) (a : ∀ Q' : VK, (∀ w HH, M w HH → Q' w HH) → te σ H Q') (b : ∀ w HH, M w HH → Q w HH) : te σ H Q := a Q b
theorem lamQ : ("law.<locals>." : Str) ++ "<lambda>" = "law.<locals>.<lambda>" := by decide +kernel
def spLaw (K : PySem.W.Frag) (T : List (Addr × Str)) : Sp := fun vs H Q _ => ∃ (a : Addr) (ns : List Int), vs = [.ref a] ∧ Scr K H a (ns.map V.int) ∧ ns.length ≤ 63 ∧ LamX.Tabs T H ∧ ∀ H', Q (.bl true) H'
abbrev stLaw : Stmt := top 39
theorem scLaw : FnScope ["_law_script", "_law_row", "_law_plan", "_law_house", "_law_size", "_law_count", "_law_told", "_law_other", "_law_less", "_law_bad_names", "_law_bad_plates", "_law_wrong", "_law_parts", "_law_names", "_law_signs", "_law_ways", "_law_due", "_law_k"] ["_law_script"] (C8.fnScope stLaw) := ⟨rfl, rfl, rfl, by decide +kernel, rfl, by decide +kernel, by decide +kernel⟩

abbrev nLaw : List Str := ["_law_script", "_law_row", "_law_plan", "_law_house", "_law_size", "_law_count", "_law_told", "_law_other", "_law_less", "_law_bad_names", "_law_bad_plates", "_law_wrong", "_law_parts", "_law_names", "_law_signs", "_law_ways", "_law_due", "_law_k"]
end

/-! ## the law's end -/
section
open LamX (ExtN)
theorem MDAt.nt {H H' : Hp} {v : V} {d : MD} (h : MDAt H v d) (s : ExtN H H') : MDAt H' v d := by
  cases d with
  | txt z => exact h
  | tup xs =>
    obtain ⟨g, e, h⟩ := h
    exact ⟨g, e, s _ _ h (fun _ q => nomatch q)⟩
theorem MP.nt {H H' : Hp} {kvs : List (Key × V)} {kd : List (Str × MD)} (h : MP H kvs kd) (s : ExtN H H') : MP H' kvs kd := L2.Paired.mapP h fun _ _ q => ⟨q.1, q.2.nt s⟩
theorem DictAt.nt {H H' : Hp} {d : Addr} {kd : List (Str × MD)} (h : DictAt H d kd) (s : ExtN H H') : DictAt H' d kd := by
  obtain ⟨kvs, h1, h2⟩ := h.ex
  exact ⟨kvs, s _ _ h1 (fun _ q => nomatch q), MP.nt h2 s⟩
theorem HouseAt.nt {C : Addr} {H H' : Hp} {h : Addr} {names signs : List Str} {kd : List (Str × MD)} (x : HouseAt C H h names signs kd) (s : ExtN H H') : HouseAt C H' h names signs kd := by
  obtain ⟨dx, nm, sg, dm, h1, h2, h3, h4⟩ := x.ex
  exact ⟨dx, nm, sg, dm, s _ _ h1 (fun _ q => nomatch q), s _ _ h2 (fun _ q => nomatch q), s _ _ h3 (fun _ q => nomatch q), h4.nt s⟩
theorem ext_same {H H' : Hp} (s : Same H H') : ExtN H H' := fun b o e _ => s b o e
theorem PlanAt.nt {H H' : Hp} {pl : Addr} {L : Plan} {m : Nat} (x : PlanAt H pl L) (ok : L.Ok m) (s : ExtN H H') : PlanAt H' pl L := by
  obtain ⟨nm, sg, wy, tr, kvs, h1, h2, h3, h4, h5, h6⟩ := x.ex
  exact ⟨nm, sg, wy, tr, kvs, s _ _ h1 (fun _ q => nomatch q), s _ _ h2 (fun _ q => nomatch q), s _ _ h3 (fun _ q => nomatch q), s _ _ h4 (fun _ q => nomatch q), mp_ways ok (MP.nt (ways_paired h5.keys h5.vals) s), s _ _ h6 (fun _ q => nomatch q)⟩
/-- what is due: nothing, or the part -/
def DueAt (H : Hp) (w : V) : Option Str → Prop
  | none => w = .non
  | some part => ∃ g, w = .ref g ∧ H g = some (.tup [V.str "house", .str part])
def duePart (b0 b1 b2 : Bool) : Option Str := if b0 = true then some "names" else if b1 = true then some "plates" else if b2 = true then some "manners" else none
theorem made_any {C CI nm sg d : Addr} {names signs : List Str} {kd : List (Str × MD)} {H : Hp} {Q : Addr → Hp → Prop} {E : XK} (hn : H nm = some (.tup (names.map V.str))) (hs : H sg = some (.tup (signs.map V.str))) (hd : DictAt H d kd) (z1 : ∀ z ∈ names, z.length ≤ 1000) (z2 : names.length ≤ 1000) (z3 : ∀ z ∈ signs, z.length ≤ 1000) (z4 : signs.length ≤ 1000) (hf : ∀ q ∈ kd, q.2.fine)
    (kG : housePart names signs kd = none → kd.map (·.1) = names ∧ names.Nodup ∧ ∀ x H', Same H H' → Q x H') (kB : ∀ part, housePart names signs kd = some part → ∀ H' dd, Same H H' → H' dd = some (.xd [("part", .str part)]) → E (.ref CI) (some dd) H') :
    ∀ x dx, H x = none → H dx = none → dx ≠ x → spHInit C CI (.ref x :: ([.ref nm, .ref sg, .ref d] ++ [])) (upd (upd H dx (.own x)) x (.ins C dx [])) (fun v H2 => v = .non ∧ Q x H2) E := by
  intro x dx nx ndx ne
  have s1 : Same H (upd (upd H dx (.own x)) x (.ins C dx [])) := same_new (same_new (Same.refl H) ndx) nx
  refine ⟨x, nm, sg, d, dx, names, signs, kd, rfl, upd_same, s1 _ _ hn, s1 _ _ hs, hd.same s1, z1, z2, z3, z4, hf, fun hp => ?_, fun part hp H' dd sm _ hdd => kB part hp H' dd (s1.trans sm) hdd⟩
  obtain ⟨e1, e2, k⟩ := kG hp
  exact ⟨e1, e2, fun H' ob _ => ⟨rfl, k x H' fun b o e => ob b o (ne_of_none e nx) (s1 _ _ e)⟩⟩
variable {K : PySem.W.Frag}
abbrev tPart (K : PySem.W.Frag) (i j : Nat) (n : Int) : TE := tIf (tB (tOp (rIx K) (tVar 12) (tC (V.int n)))) (tVar j) (tOp (rIx K) (tVar 2) (tC (V.int n)))
abbrev tDue (K : PySem.W.Frag) : TE := tIf (tTest (tOp (rIn K true) (tC (V.bl true)) (tVar 12))) (tC V.non) (tTup (tCons (tC (V.str "house")) (tCons (tOp (rIx K) (tLst (tCons (tC (V.str "names")) (tCons (tC (V.str "plates")) (tCons (tC (V.str "manners")) tNil)))) (tBM K "list" (rIndex K) (tVar 12) (tCons (tC (.bl true)) tNil))) tNil)))
abbrev tLast (K : PySem.W.Frag) (C CI PL : Addr) : TS := tRet (tAndV (tOp (rPl K false) (LamX.tLam [(PL, "law.<locals>.<lambda>")] (TTr CI) fun E => tMake C (spHInit C CI) [] E (tCons (tVar 13) (tCons (tVar 14) (tCons (tVar 15) tNil)))) (tVar 16)) (tOp (rEqI C (spHEq C) C8.E0 false) (tVar 3) (tCall (spBuilt C) [] C8.E0 (tCons (tVar 2) tNil))))
theorem before_of {ys : List V} {y : V} {j : Nat} (h : (ys.take j).all (fun z => !eqV z y) = true) : ∀ (m : Nat) (z' : V), m < j → ys[m]? = some z' → eqV z' y = false := fun m z' hm e => by
  have hz : (ys.take j)[m]? = some z' := by rw [List.getElem?_take_of_lt hm]; exact e
  have := List.all_eq_true.mp h z' (List.mem_of_getElem? hz)
  simpa using this
theorem due_ok {H : Hp} {D : Addr} {b0 b1 b2 : Bool} {σ : L2.St} (hv : σ[12]? = some (some (.ref D))) (hD : H D = some (.lst [.bl b0, .bl b1, .bl b2])) (Q' : VK) (k : ∀ w HH, (Same H HH ∧ DueAt HH w (duePart b0 b1 b2)) → Q' w HH) : tDue K σ H Q' := by
  have hs : SqL K H D [.bl b0, .bl b1, .bl b2] := SqL.of hD
  cases b0 <;> cases b1 <;> cases b2
  all_goals
    refine rd_ifE ?_
    refine rd_test ?_
    refine ⟨.ref D, hv, D, _, rfl, .inl hs, rfl, rfl, ?_⟩
    refine ⟨_, rfl, ?_⟩
  case false.false.false =>
    rw [if_pos (by decide)]
    exact k _ _ ⟨Same.refl H, rfl⟩
  all_goals
    rw [if_neg (by decide)]
    refine rd_tup ?_
    refine rd_cons ?_
    refine rd_c ?_
    refine rd_cons ?_
    refine rd_op ?_
    refine rd_lst ?_
    refine rd_cons ?_
    refine rd_c ?_
    refine rd_cons ?_
    refine rd_c ?_
    refine rd_cons ?_
    refine rd_c ?_
    refine rd_nil ?_
    refine ⟨small_len (by decide), fun g ng => ?_⟩
    refine rd_bm ?_
    refine ⟨.ref D, hv, tyL ((SqL.new hs ng)), ?_⟩
    refine rd_cons ?_
    refine rd_c ?_
    refine rd_nil ?_
  all_goals
    first
      | refine ⟨D, _, .bl true, 0, .bl true, rfl, rfl, (SqL.new hs ng), rfl, rfl, rfl, rfl, before_of rfl, ?_⟩
      | refine ⟨D, _, .bl true, 1, .bl true, rfl, rfl, (SqL.new hs ng), rfl, rfl, rfl, rfl, before_of rfl, ?_⟩
      | refine ⟨D, _, .bl true, 2, .bl true, rfl, rfl, (SqL.new hs ng), rfl, rfl, rfl, rfl, before_of rfl, ?_⟩
    refine rd_ixL (SqL.of upd_same) (by with_unfolding_all rfl) ?_
    refine rd_nil ?_
    refine ⟨small_len (by decide), fun r nr => k _ _ ⟨same_new (same_new (Same.refl H) ng) ((same_new (Same.refl H) ng).free nr), r, rfl, upd_same⟩⟩
theorem law_tail {C CI PL a p pl ho d6 ot d7 an as ad D : Addr} {L : Plan} {b0 b1 b2 : Bool} {bn bs : List Str} {bk : List (Str × MD)} {H : Hp} {Q : VK} {σ : L2.St}
    (hσ : σ = [some (.ref a), some (.ref p), some (.ref pl), some (.ref ho), some (.int (L.signs.length : Nat)), some (.int (L.names.length : Nat)), some (.ref d6), some (.ref ot), some (.ref d7), some (.ref an), some (.ref as), some (.ref ad), some (.ref D), none, none, none, none, none])
    (ok : L.Ok 6) (hp : PlanAt H pl L) (hh : HouseAt C H ho L.names L.signs (kdOf L)) (hT : LamX.Tabs [(PL, "law.<locals>.<lambda>")] H) (hD : H D = some (.lst [.bl b0, .bl b1, .bl b2]))
    (han : H an = some (.tup (bn.map V.str))) (has : H as = some (.tup (bs.map V.str))) (had : DictAt H ad bk) (nb : namesB bn = false) (pb : platesB bs L.names.length = false) (mb : mannersB bk L.names L.signs.length = false)
    (z1 : ∀ z ∈ bn, z.length ≤ 1000) (z2 : bn.length ≤ 1000) (z3 : ∀ z ∈ bs, z.length ≤ 1000) (z4 : bs.length ≤ 1000) (z5 : ∀ q ∈ bk, q.2.fine) (k : ∀ H', Q (.bl true) H') :
    tSeq (tAsg (tPart K 13 9 0) (gName 13)) (tSeq (tAsg (tPart K 14 10 1) (gName 14)) (tSeq (tAsg (tPart K 15 11 2) (gName 15)) (tSeq (tAsg (tDue K) (gName 16)) (tSeq (tLast K C CI PL) tNext)))) { nx := fun _ H' => Q .non H', rt := Q } σ H := by
  subst hσ
  obtain ⟨nm, sg, wy, tr, kvs, hpl, hnm, hsg, hwy, hw, htr⟩ := id hp.ex
  have hs : SqL K H D [.bl b0, .bl b1, .bl b2] := SqL.of hD
  have sp : SqT K H pl [.ref nm, .ref sg, .ref wy, .ref tr] := SqT.of hpl
  have four := ok.four
  have most := ok.most
  -- the names
  refine rd_seq ?_
  refine rd_asg ?_
  refine cutQ (fun v HH => HH = H ∧ ∃ g N, v = .ref g ∧ H g = some (.tup (N.map V.str)) ∧ (∀ z ∈ N, z.length ≤ 1000) ∧ N.length ≤ 1000 ∧ ((b0 = true ∧ namesB N = false) ∨ (b0 = false ∧ N = L.names))) (fun Q' kQ => ?_) ?_
  · wtm_at "Lrd"
    refine ite2 (fun c => ?_) (fun c => ?_)
    · wtm_at "Lrd"
      exact kQ _ _ ⟨rfl, an, bn, rfl, han, z1, z2, .inl ⟨c, nb⟩⟩
    · wtm_at "Lrd"
      exact kQ _ _ ⟨rfl, nm, L.names, rfl, hnm, small_names ok, by omega, .inr ⟨Bool.eq_false_iff.mpr c, rfl⟩⟩
  rintro v HH ⟨rfl, g1, N, rfl, hg1, y1, y2, hN⟩
  refine rd_gName ?_
  dsimp only
  -- the signs
  refine rd_seq ?_
  refine rd_asg ?_
  refine cutQ (fun v H2 => H2 = HH ∧ ∃ g S, v = .ref g ∧ HH g = some (.tup (S.map V.str)) ∧ (∀ z ∈ S, z.length ≤ 1000) ∧ S.length ≤ 1000 ∧ ((b1 = true ∧ platesB S L.names.length = false) ∨ (b1 = false ∧ S = L.signs))) (fun Q' kQ => ?_) ?_
  · wtm_at "Lrd"
    refine ite2 (fun c => ?_) (fun c => ?_)
    · wtm_at "Lrd"
      exact kQ _ _ ⟨rfl, as, bs, rfl, has, z3, z4, .inl ⟨c, pb⟩⟩
    · wtm_at "Lrd"
      exact kQ _ _ ⟨rfl, sg, L.signs, rfl, hsg, small_signs ok, by omega, .inr ⟨Bool.eq_false_iff.mpr c, rfl⟩⟩
  rintro v H2 ⟨rfl, g2, S, rfl, hg2, y3, y4, hS⟩
  refine rd_gName ?_
  dsimp only
  -- the manners
  refine rd_seq ?_
  refine rd_asg ?_
  refine cutQ (fun v HX => HX = H2 ∧ ∃ g M, v = .ref g ∧ DictAt H2 g M ∧ (∀ q ∈ M, q.2.fine) ∧ ((b2 = true ∧ mannersB M L.names L.signs.length = false) ∨ (b2 = false ∧ M = kdOf L))) (fun Q' kQ => ?_) ?_
  · wtm_at "Lrd"
    refine ite2 (fun c => ?_) (fun c => ?_)
    · wtm_at "Lrd"
      exact kQ _ _ ⟨rfl, ad, bk, rfl, had, z5, .inl ⟨c, mb⟩⟩
    · wtm_at "Lrd"
      exact kQ _ _ ⟨rfl, wy, kdOf L, rfl, hw.dict hwy, kd_fine ok, .inr ⟨Bool.eq_false_iff.mpr c, rfl⟩⟩
  rintro v HX ⟨rfl, g3, M, rfl, hg3, y5, hM⟩
  refine rd_gName ?_
  dsimp only
  -- what is due
  refine rd_seq ?_
  refine rd_asg ?_
  refine cutQ (fun w HD => Same HX HD ∧ DueAt HD w (duePart b0 b1 b2)) (fun Q' kQ => due_ok (by with_unfolding_all rfl) hD Q' kQ) ?_
  rintro w HD ⟨sD, hw1⟩
  refine rd_gName ?_
  dsimp only
  have hpart : housePart N S M = duePart b0 b1 b2 := by
    unfold housePart duePart
    rcases hN with ⟨rfl, h⟩ | ⟨rfl, rfl⟩
    · rw [if_neg (by rw [h]; decide), if_pos rfl]
    · rw [if_pos (names_ok ok), if_neg (by decide : ¬ false = true)]
      rcases hS with ⟨rfl, h⟩ | ⟨rfl, rfl⟩
      · rw [if_neg (by rw [h]; decide), if_pos rfl]
      · rw [if_pos (plates_ok ok (Nat.le_refl 6)), if_neg (by decide : ¬ false = true)]
        rcases hM with ⟨rfl, h⟩ | ⟨rfl, rfl⟩
        · rw [if_neg (by rw [h]; decide), if_pos rfl]
        · rw [if_pos (man_ok ok), if_neg (by decide : ¬ false = true)]
  replace hT := hT.ext sD
  replace hh := hh.same sD
  replace hg1 := sD _ _ hg1
  replace hg2 := sD _ _ hg2
  replace hg3 := hg3.same sD
  replace hp : PlanAt HD pl L := ⟨nm, sg, wy, tr, kvs, sD _ _ hpl, sD _ _ hnm, sD _ _ hsg, sD _ _ hwy, mp_ways ok (MP.same (ways_paired hw.keys hw.vals) sD), sD _ _ htr⟩
  -- the work
  refine rd_seq ?_
  refine rd_ret ?_
  refine rd_andV ?_
  refine rd_op ?_
  have fin : ∀ HE, ExtN HD HE → tOp (rEqI C (spHEq C) C8.E0 false) (tVar 3) (tCall (spBuilt C) [] C8.E0 (tCons (tVar 2) tNil)) [some (.ref a), some (.ref p), some (.ref pl), some (.ref ho), some (.int (L.signs.length : Nat)), some (.int (L.names.length : Nat)), some (.ref d6), some (.ref ot), some (.ref d7), some (.ref an), some (.ref as), some (.ref ad), some (.ref D), some (.ref g1), some (.ref g2), some (.ref g3), some w, none] HE Q := by
    intro HE e
    refine rd_op ?_
    refine rd_var rfl ?_
    refine rd_call ?_
    refine rd_cons ?_
    refine rd_var rfl ?_
    refine rd_nil ?_
    refine ⟨pl, L, rfl, ok, hp.nt ok e, fun h HF nh sF hf => ?_⟩
    have ha := (hh.nt e).same sF
    obtain ⟨dx, _, _, _, hi, _⟩ := id ha.ex
    obtain ⟨dy, _, _, _, hj, _⟩ := id hf.ex
    refine ⟨ho, h, dx, dy, _, _, rfl, rfl, hi, hj, ho, h, _, _, _, _, _, _, rfl, ha, hf, kd_fine ok, kd_fine ok, _, rfl, ?_⟩
    have eT : houEq L.names L.names L.signs L.signs (kdOf L) (kdOf L) = true := by
      unfold houEq
      rw [kdEq_refl (kd_nd ok), decide_eq_true rfl, decide_eq_true rfl]
      rfl
    rw [eT]
    exact k _
  refine ⟨hT, fun H1 eN hT1 => ?_⟩
  unfold TTr
  dsimp only
  refine rd_make ?_
  wtm_at "Lrd"
  refine made_any (eN _ _ hg1 (fun _ q => nomatch q)) (eN _ _ hg2 (fun _ q => nomatch q)) (hg3.nt eN) y1 y2 y3 y4 y5 (fun hp0 => ?_) (fun part hp1 H' dd sm hdd => ?_)
  · rw [hpart] at hp0
    have hb : b0 = false ∧ b1 = false ∧ b2 = false := by
      revert hp0
      cases b0 <;> cases b1 <;> cases b2 <;> intro hp0 <;> first | exact ⟨rfl, rfl, rfl⟩ | cases hp0
    obtain ⟨rfl, rfl, rfl⟩ := hb
    obtain rfl : N = L.names := hN.elim (fun h => nomatch h.1) (fun h => h.2)
    obtain rfl : M = kdOf L := hM.elim (fun h => nomatch h.1) (fun h => h.2)
    refine ⟨kd_keys ok, ok.nd, fun x H' sm => ?_⟩
    obtain rfl : w = .non := hw1
    refine rd_var rfl ?_
    refine ⟨.none, .none, .non, .non, rfl, rfl, by decide, ?_⟩
    refine ⟨true, rfl, ?_⟩
    rw [if_pos rfl]
    exact fin H' fun b o e n => sm _ _ (eN b o e n)
  · rw [hpart] at hp1
    rw [hp1] at hw1
    obtain ⟨gw, rfl, hgw⟩ := hw1
    refine ⟨rfl, dd, part, rfl, hdd, fun r H'' sm2 hr => ?_⟩
    refine rd_var rfl ?_
    have e2 : ExtN HD H'' := fun b o e n => sm2 _ _ (sm _ _ (eN b o e n))
    have hgw2 := e2 _ _ hgw (fun _ q => nomatch q)
    have lf : ∀ x ∈ [V.str "house", V.str part], Leaf x := fun x hx => by
      rcases List.mem_cons.mp hx with rfl | hx
      · exact .inr (.inr (.inr ⟨_, rfl⟩))
      · rw [List.mem_singleton.mp hx]
        exact .inr (.inr (.inr ⟨_, rfl⟩))
    refine ⟨.tuple ([V.str "house", V.str part].map dW), .tuple ([V.str "house", V.str part].map dW), .tup (SqT.of hr) (dw_dp lf), .tup (SqT.of hgw2) (dw_dp lf), (dw_plain _).1, (dw_plain _).1, by unfold PyData.depth; rw [(dw_plain _).2]; decide, ?_⟩
    rw [SeqAt.eqv_refl_plain (.tuple ([V.str "house", V.str part].map dW)) (dw_plain _).1]
    refine ⟨true, rfl, ?_⟩
    rw [if_pos rfl]
    exact fin H'' e2
end

/-! ## the script's list, tracked or not -/
section
theorem frz_hok {P : Program} {w : World} {H : Hp} {h : Heap} {a : Addr} {xs : List V} (hok : HOk P w H h) (ha : H a = some (.lst xs)) : ∃ o, HOk P w (upd H a (.frz o (.lst xs))) h := by
  obtain ⟨z, its, n, r, h1⟩ := (show ObjOk P w H h a (.lst xs) from hok a _ ha)
  refine ⟨{ cls := .type "list", data := .seq its.toArray n }, fun b u e => ?_⟩
  by_cases hb : b = a
  · subst hb
    rw [upd_same] at e
    cases e
    exact ⟨h1, z, its, n, r, h1⟩
  · rw [upd_ne hb] at e
    refine (hok b u e).stay (fun _ _ _ q => q) (fun d q => ?_) fun d ys q => ?_
    · exact (upd_ne fun z => by rw [z, ha] at q; cases q).trans q
    · exact (upd_ne fun z => by rw [z, ha] at q; cases q).trans q
def spLaw2 (K : PySem.W.Frag) (T : List (Addr × Str)) : Sp := fun vs H Q _ => ∃ (a : Addr) (ns : List Int), vs = [.ref a] ∧ SqL K H a (ns.map V.int) ∧ ns.length ≤ 63 ∧ LamX.Tabs T H ∧ ∀ H', Q (.bl true) H'
theorem fn_frz {P : Program} {w : World} {K : PySem.W.Frag} {mg : Str → Option Value} {base : Heap} {k : Nat} {f : Addr} {fd : FuncData} {T : List (Addr × Str)} (F : FnOk P w K mg base C8.CX0 k f fd ["_law_script"] (spLaw K T)) : FnOk P w K mg base C8.CX0 k f fd ["_law_script"] (spLaw2 K T) := by
  refine ⟨fun vs H Q E h => ?_, fun A outer s H args us vs Q E hr e0 hb r h => ?_⟩
  · obtain ⟨a, ns, rfl, _⟩ := h
    rfl
  · obtain ⟨a, ns, rfl, hS, hl, hT, k⟩ := h
    rcases hS with (ha | ha) | ha
    · obtain ⟨o, hok⟩ := frz_hok e0.hok ha
      have none_of : ∀ {b : Addr}, H b = none → upd H a (.frz o (.lst (ns.map V.int))) b = none := fun {b} n => (upd_ne fun z => by rw [z, ha] at n; cases n).trans n
      have keepT : LamX.Tabs T (upd H a (.frz o (.lst (ns.map V.int)))) := fun q hq => by
        obtain ⟨ps, h1, h2, h3⟩ := hT q hq
        refine ⟨ps, (upd_ne fun z => by rw [z, ha] at h1; cases h1).trans h1, h2, fun pos cv hc => ?_⟩
        obtain ⟨c, e1, e2⟩ := h3 pos cv hc
        refine ⟨c, e1, (upd_ne fun z => ?_).trans e2⟩
        rw [z, ha] at e2
        unfold LamX.CodeO at e2
        cases e2
      have e1 : Env0 P w K mg base A outer s (upd H a (.frz o (.lst (ns.map V.int)))) := ⟨e0.frames, e0.mod, fun b ob e => ⟨(e0.bs b ob e).1, none_of (e0.bs b ob e).2⟩, e0.bsz, e0.funs, fun b hb => none_of (e0.frf b hb), hok, e0.bare⟩
      refine codeAny_mono (F.run A outer s _ args us [.ref a] Q E hr e1 hb r ⟨a, ns, rfl, .inl ⟨o, upd_same⟩, hl, keepT, k⟩) fun res s' q => ?_
      cases res with
      | error e => exact (show False from q).elim
      | ok fl =>
        cases fl with
        | ret u =>
          obtain ⟨v, H', h1, h2, un, h4, h5, h6⟩ := q
          refine ⟨v, H', h1, h2, ⟨fun b ob e n => un.keep b ob e (none_of n), fun b ob e n => un.slot b ob e (none_of n), fun b ob e n => un.free b ob e (none_of n), un.there, fun b xs e => un.tups b xs ((upd_ne fun z => by rw [z, ha] at e; cases e).trans e), fun b ob u e => un.frzs b ob u ((upd_ne fun z => by rw [z, ha] at e; cases e).trans e), fun b ps e => un.tbls b ps ((upd_ne fun z => by rw [z, ha] at e; cases e).trans e)⟩, h4, h5, h6⟩
        | next => exact q
        | brk => exact q
        | cont => exact q
    · exact F.run A outer s H args us [.ref a] Q E hr e0 hb r ⟨a, ns, rfl, .inl ha, hl, hT, k⟩
    · exact F.run A outer s H args us [.ref a] Q E hr e0 hb r ⟨a, ns, rfl, .inr ha, hl, hT, k⟩
end

section
open PySem.W PyProof.Rows PySem.Calls PySem.SeqAt
variable {P : Program} {w : World} {K : PySem.W.Frag} {mg : Str → Option Value} {base : Heap}
theorem ok_law {f C CI CP cL PL fR : Addr} {oc od kV doc pm an ct osl} {fdR : FuncData} (lk : K.lookup f = some ⟨oc, od, .func (fnOf "law" "law" (C8.fnArgs stLaw) (C8.fnBody stLaw) (C8.fnScope stLaw) .none kV doc pm an (.ref cL) ct), osl⟩) (hcd : codeIn K (.ref cL) "law" = true)
    (TBl : LamX.TabB base mg cL PL) (n_len : mg "len" = none) (n_dict : mg "dict" = none) (n_list : mg "list" = none) (n_range : mg "range" = none) (n_isinstance : mg "isinstance" = none) (n_ValueError : mg "ValueError" = none)
    (HF : HouF P w K mg base C CI) (KK : Kinds K mg CI CP) (kI : KindsI K mg CI) (FR : Def K mg "_law_raised" stRaised fR fdR) (bR' : Binds K fdR ["_law_work"] [])
    (c__law_taken : Cal P w K mg base 1 "_law_taken" (spTaken K) []) (c__law_scheme : Cal P w K mg base 3 "_law_scheme" (spScheme K) []) (c__law_built : Cal P w K mg base 7 "_law_built" (spBuilt C) []) (c__law_bad : Cal P w K mg base 3 "_law_bad" (spBad K) []) :
    FnOk P w K mg base C8.CX0 9 f (fnOf "law" "law" (C8.fnArgs stLaw) (C8.fnBody stLaw) (C8.fnScope stLaw) .none kV doc pm an (.ref cL) ct) ["_law_script"] (spLaw K [(PL, "law.<locals>.<lambda>")]) := by
  refine fn_of lk hcd scLaw (fun vs H Q E h => ?_) (fun A outer s H vs Q E hr0 h => ?_)
  · obtain ⟨a, ns, rfl, _⟩ := h
    rfl
  · obtain ⟨a, ns, rfl, hS, hl, hT, k⟩ := h
    obtain ⟨pn, gn, fdn, pNm, FNm, bNm⟩ := HF.nm
    obtain ⟨pp, gp, fdp, pPl, FPl, bPl⟩ := HF.pl
    obtain ⟨pm', gm, fdm, pMn, FMn, bMn⟩ := HF.mn
    obtain ⟨fl, fdl, sLn, fLn, FLn, bLn⟩ := HF.ln
    obtain ⟨fe, fde, sEq, fEq, FEq, bEq⟩ := HF.eq
    obtain ⟨fi, fdi, MkH, FH, bH⟩ := HF.made
    have TH := HF.T
    have mgH := HF.mgH
    have sNe := HF.ne
    have sOb := HF.ob
    obtain ⟨ocR, odR, dVR, kVR, docR, pmR, anR, cdR, ctR, oslR, rfl, lkR, hcR⟩ := FR.fn.ex
    have mgR := FR.mgf
    have kpR := FR.kp
    have bR := bR'
    have nd := scLaw.nd
    have hr8 : Room 8 (A.deeper (envOfC "law" (C8.fnScope stLaw) s.heap.objs.size f (.ref cL))) := hr0
    have hr : Room (5 + 1) (A.deeper (envOfC "law" (C8.fnScope stLaw) s.heap.objs.size f (.ref cL))) := hr8.mono (by decide)
    have hr1 : Room (1 + 1) (A.deeper (envOfC "law" (C8.fnScope stLaw) s.heap.objs.size f (.ref cL))) := hr8.mono (by decide)
    have hr2 := hr1
    have hr3 : Room 6 (A.deeper (envOfC "law" (C8.fnScope stLaw) s.heap.objs.size f (.ref cL))) := hr8.mono (by decide)
    have hr4 : Room (6 + 1) (A.deeper (envOfC "law" (C8.fnScope stLaw) s.heap.objs.size f (.ref cL))) := hr8.mono (by decide)
    have hrl : Room (6 + 2) (A.deeper (envOfC "law" (C8.fnScope stLaw) s.heap.objs.size f (.ref cL))) := hr8.mono (by decide)
    have hu := hu_of hr
    have hu67 := hu67_of hr
    have mT : (PL, ("law.<locals>." : Str) ++ "<lambda>") ∈ [(PL, ("law.<locals>.<lambda>" : Str))] := List.mem_singleton.mpr (congrArg (Prod.mk PL) lamQ)
    have uT : ∀ p ∈ [(PL, ("law.<locals>.<lambda>" : Str))], p.1 = PL → p.2 = ("law.<locals>." : Str) ++ "<lambda>" := fun p hp _ => by
      rw [List.mem_singleton.mp hp]
      exact lamQ.symm
    suffices hh : ∃ t, PSs (cxOf C8.CX0 P w K mg base nLaw "law" (C8.fnScope stLaw) f (.ref cL) A outer s H E).nox (C8.fnBody stLaw) t ∧ t { nx := fun _ H' => Q .non H', rt := Q } (L2.start nLaw [.ref a]) H by
      obtain ⟨t, h1, h2⟩ := hh
      exact ⟨t, h1.nox, h2⟩
    refine ⟨_, (pss_cons (ps_set (i := 1) nd rfl (Or.inr rfl) (pe_lst (pa_cons (pv 0) (pa_cons pe_int (pa_cons pe_int (pa_cons pe_int pa_nil))))))
      (pss_cons (ps_set (i := 2) nd rfl (Or.inl rfl) (pe_c c__law_scheme hr (by decide) rfl (pa_cons (pv 1) (pa_cons pe_int pa_nil))))
      (pss_cons (ps_par3 (i := 3) (j := 4) (l := 5) rfl nd rfl rfl rfl (by decide) (by decide) (by decide) rfl rfl rfl (pa_cons (pe_c c__law_built hr8 (by decide) rfl (pa_cons (pv 2) pa_nil)) (pa_cons (pe_callB (r := rLen K) call_lenK rfl n_len (by decide +kernel) (pa_cons (pe_ix (r := rIx K) ix_seq (pv 2) pe_int (fun _ _ => rfl)) pa_nil)) (pa_cons (pe_callB (r := rLen K) call_lenK rfl n_len (by decide +kernel) (pa_cons (pe_ix (r := rIx K) ix_seq (pv 2) pe_int (fun _ _ => rfl)) pa_nil)) pa_nil))) rfl)
      (pss_cons (ps_if (pt_cmpR (op_neT hu67) (pe_tup (pa_cons (pe_prop (E := C8.E0) (pv 3) TH.cl pNm FNm hr1 bNm .nil C8.pass0 rfl) (pa_cons (pe_prop (E := C8.E0) (pv 3) TH.cl pPl FPl hr1 bPl .nil C8.pass0 rfl) (pa_cons (pe_prop (E := C8.E0) (pv 3) TH.cl pMn FMn hr1 bMn .nil C8.pass0 rfl) (pa_cons (pe_callB (call_lenI (E := C8.E0) FLn hr2 sLn fLn bLn C8.pass0) rfl n_len (by decide +kernel) (pa_cons (pv 3) pa_nil)) pa_nil))))) (pe_tup (pa_cons (pe_ix (r := rIx K) ix_seq (pv 2) pe_int (fun _ _ => rfl)) (pa_cons (pe_ix (r := rIx K) ix_seq (pv 2) pe_int (fun _ _ => rfl)) (pa_cons (pe_ix (r := rIx K) ix_seq (pv 2) pe_int (fun _ _ => rfl)) (pa_cons (pv 4) pa_nil))))) (nomark _)) (pss_cons (ps_ret pe_bl)
      pss_nil) pss_nil)
      (pss_cons (ps_expr (pe_dclear (pe_prop (E := C8.E0) (pv 3) TH.cl pMn FMn hr1 bMn .nil C8.pass0 rfl)))
      (pss_cons (ps_set (i := 6) nd rfl (Or.inl rfl) (pe_callTy call_dictD rfl n_dict (by decide +kernel) (pa_cons (pe_ix (r := rIx K) ix_seq (pv 2) pe_int (fun _ _ => rfl)) pa_nil)))
      (pss_cons (ps_set (i := 7) nd rfl (Or.inl rfl) (pe_make MkH FH hr rfl mgH bH .nil passL (pa_cons (pe_ix (r := rIx K) ix_seq (pv 2) pe_int (fun _ _ => rfl)) (pa_cons (pe_ix (r := rIx K) ix_seq (pv 2) pe_int (fun _ _ => rfl)) (pa_cons (pv 6) pa_nil)))))
      (pss_cons (ps_dput hu (pv 6) (pe_ix (r := rIx K) ix_seq (pe_ix (r := rIx K) ix_seq (pv 2) pe_int (fun _ _ => rfl)) pe_int (fun _ _ => rfl)) pe_str rfl)
      (pss_cons (ps_set (i := 8) nd rfl (Or.inl rfl) (pe_callTy call_dictD rfl n_dict (by decide +kernel) (pa_cons (pe_ix (r := rIx K) ix_seq (pv 2) pe_int (fun _ _ => rfl)) pa_nil)))
      (pss_cons (ps_dput hu (pv 8) (pe_ix (r := rIx K) ix_seq (pe_ix (r := rIx K) ix_seq (pv 2) pe_int (fun _ _ => rfl)) (pe_un un_neg pe_int) (fun _ _ => rfl)) (pe_ifExp (pt_cmpR (op_eqPl hu67) (pe_dget hu (pv 8) (pe_ix (r := rIx K) ix_seq (pe_ix (r := rIx K) ix_seq (pv 2) pe_int (fun _ _ => rfl)) (pe_un un_neg pe_int) (fun _ _ => rfl)) (fun _ _ => rfl)) pe_str (nomark _)) pe_str pe_str) rfl)
      (pss_cons (ps_if (pt_cmpR (op_eqI (E := C8.E0) FEq hr3 sEq fEq bEq C8.pass0) (pe_make MkH FH hr rfl mgH bH .nil passL (pa_cons (pe_ix (r := rIx K) ix_seq (pv 2) pe_int (fun _ _ => rfl)) (pa_cons (pe_ix (r := rIx K) ix_seq (pv 2) pe_int (fun _ _ => rfl)) (pa_cons (pv 8) pa_nil)))) (pv 3) (nomark _)) (pss_cons (ps_ret pe_bl)
      pss_nil) pss_nil)
      (pss_cons (ps_if (pt_cmpR (op_nePl hu67) (pe_callTy (call_listD rfl) rfl n_list (by decide +kernel) (pa_cons (pe_prop (E := C8.E0) (pv 7) TH.cl pMn FMn hr1 bMn .nil C8.pass0 rfl) pa_nil)) (pe_callTy call_list_of rfl n_list (by decide +kernel) (pa_cons (pe_ix (r := rIx K) ix_seq (pv 2) pe_int (fun _ _ => rfl)) pa_nil)) (nomark _)) (pss_cons (ps_ret pe_bl)
      pss_nil) pss_nil)
      (pss_cons (ps_if (pt_cmpR (op_neI (E := C8.E0) FEq hr4 sEq sNe sOb fEq bEq C8.pass0) (pv 7) (pv 3) (nomark _)) (pss_cons (ps_ret pe_bl)
      pss_nil) pss_nil)
      (pss_cons (ps_if (pt_cmpR (op_eqI (E := C8.E0) FEq hr3 sEq fEq bEq C8.pass0) (pv 3) (pe_make MkH FH hr rfl mgH bH .nil passL (pa_cons (pe_tup (pa_cons pe_str pa_nil)) (pa_cons (pe_tup (pa_cons pe_str pa_nil)) (pa_cons (pe_disp (pps_cons pe_str pe_str pps_nil) rfl rfl (by simp) (by decide)) pa_nil)))) (nomark _)) (pss_cons (ps_ret pe_bl)
      pss_nil) pss_nil)
      (pss_cons (ps_asg (pe_c c__law_bad hr (by decide) rfl (pa_cons (pv 1) (pa_cons (pv 2) (pa_cons (pv 4) (pa_cons (pv 5) pa_nil))))) (pg_tup rfl (pgs_cons (pg_name (i := 9) nd rfl (Or.inl rfl)) (pgs_cons (pg_name (i := 10) nd rfl (Or.inl rfl)) (pgs_cons (pg_name (i := 11) nd rfl (Or.inl rfl)) pgs_nil)))))
      (pss_cons (ps_setLc (i := 12) (own := [("_law_k", 17)]) (g := gName 17) (tt := tYes) rfl nd rfl rfl (sw_true rfl rfl rfl (by decide +kernel)) (pi_range1 rfl n_range (pa_cons pe_int pa_nil)) (blkOk_by (N := ["_law_script", "_law_row", "_law_plan", "_law_house", "_law_size", "_law_count", "_law_told", "_law_other", "_law_less", "_law_bad_names", "_law_bad_plates", "_law_wrong", "_law_parts", "_law_names", "_law_signs", "_law_ways", "_law_due", "_law_k"]) (sc := C8.fnScope stLaw) (by decide +kernel)) (fun _ _ _ _ _ => pg_name (i := 17) nd rfl (Or.inl rfl)) (fun _ _ _ _ _ => pts_nil) (fun _ _ _ _ _ => (pe_cmpR op_eq (pe_c c__law_taken hr (by decide) rfl (pa_cons (pv 1) (pa_cons pe_int pa_nil))) pe_int (nomark _))))
      (pss_cons (ps_set (i := 13) nd rfl (Or.inr rfl) (pe_ifExp (pt_val (pe_ix (r := rIx K) ix_seq (pv 12) pe_int (fun _ _ => rfl))) (pv 9) (pe_ix (r := rIx K) ix_seq (pv 2) pe_int (fun _ _ => rfl))))
      (pss_cons (ps_set (i := 14) nd rfl (Or.inr rfl) (pe_ifExp (pt_val (pe_ix (r := rIx K) ix_seq (pv 12) pe_int (fun _ _ => rfl))) (pv 10) (pe_ix (r := rIx K) ix_seq (pv 2) pe_int (fun _ _ => rfl))))
      (pss_cons (ps_set (i := 15) nd rfl (Or.inr rfl) (pe_ifExp (pt_val (pe_ix (r := rIx K) ix_seq (pv 12) pe_int (fun _ _ => rfl))) (pv 11) (pe_ix (r := rIx K) ix_seq (pv 2) pe_int (fun _ _ => rfl))))
      (pss_cons (ps_set (i := 16) nd rfl (Or.inl rfl) (pe_ifExp (pt_cmpR (op_notIn_seq) pe_bl (pv 12) (by with_unfolding_all rfl)) pe_non (pe_tup (pa_cons pe_str (pa_cons (pe_ix (r := rIx K) ix_seq (pe_lst (pa_cons pe_str (pa_cons pe_str (pa_cons pe_str pa_nil)))) (pe_bm PySem.F.plainAttrs_list PySem.F.slot_list_index PySem.F.type_list_index mt_index (pv 12) (pa_cons pe_bl pa_nil)) (fun _ _ => rfl)) pa_nil)))))
      (pss_cons (ps_ret (pe_and (pe_cmpR (op_eqPl hu67) (LamX.pe_lamcall rfl mgR kpR lkR hcR bR scRaised rfl (Or.inl rfl) (raised_gives KK hr n_isinstance n_ValueError kI.1 kI.2.1 kI.2.2.1 kI.2.2.2.1 kI.2.2.2.2.1 kI.2.2.2.2.2.1 kI.2.2.2.2.2.2.1 kI.2.2.2.2.2.2.2.1 kI.2.2.2.2.2.2.2.2.1 kI.2.2.2.2.2.2.2.2.2.1 kI.2.2.2.2.2.2.2.2.2.2.1 kI.2.2.2.2.2.2.2.2.2.2.2.1 kI.2.2.2.2.2.2.2.2.2.2.2.2) TBl rfl mT uT hrl (LamX.lamS_by (show LamX.lamSB (C8.fnScope stLaw) _ = true from by decide +kernel)) rfl (fun _ _ _ _ _ => rfl) (fun A outer s H E f c2 hrr => pe_make MkH FH hrr rfl mgH bH .nil (passes_call (L2.takes_of rfl rfl rfl rfl) (fun _ _ _ _ h => h)) (pa_cons (pv 13) (pa_cons (pv 14) (pa_cons (pv 15) pa_nil))))) (pv 16) (nomark _)) (pe_one (pe_cmpR (op_eqI (E := C8.E0) FEq hr3 sEq fEq bEq C8.pass0) (pv 3) (pe_c c__law_built hr8 (by decide) rfl (pa_cons (pv 2) pa_nil)) (nomark _)))))
      pss_nil))))))))))))))))))))), ?_⟩
    try dsimp only [cxOf]
    wtm_at "Lrd"
    intro p np
    have R : Row K (upd H p (.lst [.ref a, .int 0, .int 0, .int 0])) p a ns := ⟨Scr.new hS np, hl, 0, 0, 0, by decide, upd_same⟩
    replace hT := hT.ext (same_new (o := .lst [.ref a, .int 0, .int 0, .int 0]) (Same.refl _) np)
    generalize upd H p (.lst [.ref a, .int 0, .int 0, .int 0]) = H1 at R hT ⊢
    wtm_at "Lrd"
    refine ⟨p, a, ns, 6, rfl, R, by decide, by decide, fun pl L H2 ok hp R2 sb2 => ?_⟩
    replace hT := tabs_sb hT R sb2
    clear R
    have R := R2
    obtain ⟨nm, sg, wy, tr, kvs, hpl, hnm, hsg, hwy, hw, htr⟩ := id hp.ex
    have dA : MP H2 kvs (kdOf L) := ways_paired hw.keys hw.vals
    have four := ok.four
    have most := ok.most
    have pos := ok.pos
    have fit := ok.fit
    have cN : (L.names.map V.str).length = L.names.length := List.length_map ..
    have cS : (L.signs.map V.str).length = L.signs.length := List.length_map ..
    wtm_at "Lrd"
    refine rd_par3 ?_
    wtm_at "Lrd"
    refine ⟨pl, L, rfl, ok, hp, fun ho H3 nho s3 hh => ?_⟩
    replace hpl := s3 _ _ hpl
    replace hnm := s3 _ _ hnm
    replace hsg := s3 _ _ hsg
    replace hwy := s3 _ _ hwy
    replace htr := s3 _ _ htr
    replace dA := dA.same s3
    replace R := R.same s3
    replace hT := hT.ext s3
    wtm_at "Lrd"
    refine ⟨_, _, _, rfl, ?_⟩
    rw [cN, cS]
    wtm_at "Lrd"
    obtain ⟨dx, nmh, sgh, dmh, hi1, hi2, hi3, hi4⟩ := id hh.ex
    refine rd_prop ?_
    wtm_at "Lrd"
    refine ⟨ho, dx, _, rfl, hi1, ho, dx, _, _, rfl, hi1, hF_names _ _ _, ?_⟩
    wtm_at "Lrd"
    refine rd_prop ?_
    wtm_at "Lrd"
    refine ⟨ho, dx, _, rfl, hi1, ho, dx, _, _, rfl, hi1, hF_plates _ _ _, ?_⟩
    wtm_at "Lrd"
    refine rd_prop ?_
    wtm_at "Lrd"
    refine ⟨ho, dx, _, rfl, hi1, ho, _, _, _, rfl, hh, fun d4 kv4 n4 p4 => ?_⟩
    have p4 : MP H3 kv4 (kdOf L) := p4
    try dsimp only
    have s1 : Same H3 (upd H3 d4 (.dK kv4)) := same_new (Same.refl _) n4
    have hd4 : (upd H3 d4 (.dK kv4)) d4 = some (.dK kv4) := upd_same
    generalize upd H3 d4 (.dK kv4) = K1 at s1 hd4 ⊢
    replace hpl := s1 _ _ hpl
    replace hnm := s1 _ _ hnm
    replace hsg := s1 _ _ hsg
    replace hwy := s1 _ _ hwy
    replace htr := s1 _ _ htr
    replace hi1 := s1 _ _ hi1
    replace hi2 := s1 _ _ hi2
    replace hi3 := s1 _ _ hi3
    replace dA := dA.same s1
    replace hh := hh.same s1
    replace hi4 := hi4.same s1
    replace p4 := p4.same s1
    replace R := R.same s1
    replace hT := hT.ext s1
    wtm_at "Lrd"
    refine ⟨ho, dx, _, rfl, hi1, ho, _, _, _, rfl, hh, L.signs.length, rfl, Nat.lt_of_le_of_lt most (by decide), ?_⟩
    wtm_at "Lrd"
    intro t1 m2
    have s2 : Same K1 (upd K1 t1 (.tup [.ref nmh, .ref sgh, .ref d4, .int (L.signs.length : Nat)])) := same_new (Same.refl _) m2
    have ht1 : (upd K1 t1 (.tup [.ref nmh, .ref sgh, .ref d4, .int (L.signs.length : Nat)])) t1 = some (.tup [.ref nmh, .ref sgh, .ref d4, .int (L.signs.length : Nat)]) := upd_same
    generalize upd K1 t1 (.tup [.ref nmh, .ref sgh, .ref d4, .int (L.signs.length : Nat)]) = K2 at s2 ht1 ⊢
    replace hpl := s2 _ _ hpl
    replace hnm := s2 _ _ hnm
    replace hsg := s2 _ _ hsg
    replace hwy := s2 _ _ hwy
    replace htr := s2 _ _ htr
    replace hi1 := s2 _ _ hi1
    replace hi2 := s2 _ _ hi2
    replace hi3 := s2 _ _ hi3
    replace hd4 := s2 _ _ hd4
    replace dA := dA.same s2
    replace hh := hh.same s2
    replace hi4 := hi4.same s2
    replace p4 := p4.same s2
    replace R := R.same s2
    replace hT := hT.ext s2
    wtm_at "Lrd"
    intro t2 m3
    have s3 : Same K2 (upd K2 t2 (.tup [.ref nm, .ref sg, .ref wy, .int (L.signs.length : Nat)])) := same_new (Same.refl _) m3
    have ht2 : (upd K2 t2 (.tup [.ref nm, .ref sg, .ref wy, .int (L.signs.length : Nat)])) t2 = some (.tup [.ref nm, .ref sg, .ref wy, .int (L.signs.length : Nat)]) := upd_same
    generalize upd K2 t2 (.tup [.ref nm, .ref sg, .ref wy, .int (L.signs.length : Nat)]) = K3 at s3 ht2 ⊢
    replace hpl := s3 _ _ hpl
    replace hnm := s3 _ _ hnm
    replace hsg := s3 _ _ hsg
    replace hwy := s3 _ _ hwy
    replace htr := s3 _ _ htr
    replace hi1 := s3 _ _ hi1
    replace hi2 := s3 _ _ hi2
    replace hi3 := s3 _ _ hi3
    replace hd4 := s3 _ _ hd4
    replace ht1 := s3 _ _ ht1
    replace dA := dA.same s3
    replace hh := hh.same s3
    replace hi4 := hi4.same s3
    replace p4 := p4.same s3
    replace R := R.same s3
    replace hT := hT.ext s3
    wtm_at "Lrd"
    have dWy : DictAt K3 wy (kdOf L) := ⟨kvs, hwy, dA⟩
    have dD4 : DictAt K3 d4 (kdOf L) := ⟨kv4, hd4, p4⟩
    refine ⟨t1, t2, _, _, rfl, rfl, SqT.of ht1, SqT.of ht2, .cons (.inr (.inl ⟨nmh, nm, _, rfl, rfl, SqT.of hi2, SqT.of hnm, leaf_strs⟩)) (.cons (.inr (.inl ⟨sgh, sg, _, rfl, rfl, SqT.of hi3, SqT.of hsg, leaf_strs⟩)) (.cons (.inr (.inr ⟨d4, wy, _, _, rfl, rfl, dD4, dWy, kd_fine ok, kd_fine ok, kdEq_refl (kd_nd ok)⟩)) (.cons (.inl ⟨rfl, .inr (.inl ⟨_, rfl⟩)⟩) .nil))), ?_⟩
    clear dD4 dWy
    clear ht1 ht2 hd4 p4
    wtm_at "Lrd"
    refine rd_prop ?_
    wtm_at "Lrd"
    refine ⟨ho, dx, _, rfl, hi1, ho, _, _, _, rfl, hh, fun d5 kv5 n5 p5 => ?_⟩
    try dsimp only
    wtm_at "Lrd"
    refine ⟨d5, kv5, rfl, rfl, upd_same, ?_⟩
    rw [upd_upd]
    try dsimp only
    have s4 : Same K3 (upd K3 d5 (.dK [])) := same_new (Same.refl _) n5
    have hd5 : (upd K3 d5 (.dK [])) d5 = some (.dK []) := upd_same
    generalize upd K3 d5 (.dK []) = K4 at s4 hd5 ⊢
    replace hpl := s4 _ _ hpl
    replace hnm := s4 _ _ hnm
    replace hsg := s4 _ _ hsg
    replace hwy := s4 _ _ hwy
    replace htr := s4 _ _ htr
    replace hi1 := s4 _ _ hi1
    replace hi2 := s4 _ _ hi2
    replace hi3 := s4 _ _ hi3
    replace dA := dA.same s4
    replace hh := hh.same s4
    replace hi4 := hi4.same s4
    replace R := R.same s4
    replace hT := hT.ext s4
    wtm_at "Lrd"
    clear hd5
    have hwy0 := hwy
    obtain ⟨kvh0, hm0, _⟩ := hi4.ex
    refine ⟨wy, kvs, rfl, .inl hwy, fun d6 n6 => ?_⟩
    try dsimp only
    have s5 : Same K4 (upd K4 d6 (.dK kvs)) := same_new (Same.refl _) n6
    have hd6 : (upd K4 d6 (.dK kvs)) d6 = some (.dK kvs) := upd_same
    generalize upd K4 d6 (.dK kvs) = K5 at s5 hd6 ⊢
    replace hpl := s5 _ _ hpl
    replace hnm := s5 _ _ hnm
    replace hsg := s5 _ _ hsg
    replace hwy := s5 _ _ hwy
    replace htr := s5 _ _ htr
    replace hi1 := s5 _ _ hi1
    replace hi2 := s5 _ _ hi2
    replace hi3 := s5 _ _ hi3
    replace dA := dA.same s5
    replace hh := hh.same s5
    replace hi4 := hi4.same s5
    replace R := R.same s5
    replace hT := hT.ext s5
    wtm_at "Lrd"
    have free6 : K4 d6 = none := n6
    refine rd_make ?_
    wtm_at "Lrd"
    have dD6 : DictAt K5 d6 (kdOf L) := ⟨kvs, hd6, dA⟩
    refine made_ok hnm hsg dD6 (small_names ok) (by omega) (small_signs ok) (by omega) (kd_fine ok) (plan_part ok (Nat.le_refl 6)) (kd_keys ok) ok.nd fun ot H7 no s7 hot => ?_
    clear dD6
    have w6 : wy ≠ d6 := ne_of_none hwy0 n6
    have h6 : dmh ≠ d6 := ne_of_none hm0 n6
    obtain ⟨dxo, nmo, sgo, dmo, ho1, ho2, ho3, ho4, ho5⟩ := hot.ex
    have d6o : d6 ≠ dmo := fun e => by rw [e, ho5] at hd6; cases hd6
    replace hpl := s7 _ _ hpl
    replace hnm := s7 _ _ hnm
    replace hsg := s7 _ _ hsg
    replace hwy := s7 _ _ hwy
    replace htr := s7 _ _ htr
    replace hi1 := s7 _ _ hi1
    replace hi2 := s7 _ _ hi2
    replace hi3 := s7 _ _ hi3
    replace hd6 := s7 _ _ hd6
    replace dA := dA.same s7
    replace hh := hh.same s7
    replace hi4 := hi4.same s7
    replace R := R.same s7
    replace hT := hT.ext s7
    have hi4x := hi4.ex
    have ho4x := ho4.ex
    wtm_at "Lrd"
    obtain ⟨kvh, hmh, dB⟩ := hi4x
    obtain ⟨kvo, hmo, dO⟩ := ho4x
    have dB : MP H7 kvh (kdOf L) := dB
    have dO : MP H7 kvo (kdOf L) := dO
    clear hh hot
    have hx0 : atI (L.names.map V.str) 0 = some (.str L.names[0]) := first_at pos
    wtm_at "Lrd"
    have kl : kvs.length = (kdOf L).length := paired_len dA
    have kl2 := kd_len ok
    refine ⟨d6, _, rfl, DPut.k (k := Sum.inr L.names[0]) hd6 (small_lt (by omega)), ?_⟩
    have tp6 : Tp H7 (upd H7 d6 (.dK (putK kvs (Sum.inr L.names[0]) (V.str "keep")))) := Tp.upd hd6 (fun _ q => nomatch q)
    replace hpl := tp6 _ _ hpl
    replace hnm := tp6 _ _ hnm
    replace hsg := tp6 _ _ hsg
    replace htr := tp6 _ _ htr
    replace hi2 := tp6 _ _ hi2
    replace hi3 := tp6 _ _ hi3
    replace ho2 := tp6 _ _ ho2
    replace ho3 := tp6 _ _ ho3
    replace hi1 := (upd_ne (o := .dK (putK kvs (Sum.inr L.names[0]) (V.str "keep"))) (ne_of hi1 hd6 (by intro q; cases q))).trans hi1
    replace ho1 := (upd_ne (o := .dK (putK kvs (Sum.inr L.names[0]) (V.str "keep"))) (ne_of ho1 hd6 (by intro q; cases q))).trans ho1
    replace hwy := (upd_ne (o := .dK (putK kvs (Sum.inr L.names[0]) (V.str "keep"))) w6).trans hwy
    replace hmh := (upd_ne (o := .dK (putK kvs (Sum.inr L.names[0]) (V.str "keep"))) h6).trans hmh
    replace hmo := (upd_ne (o := .dK (putK kvs (Sum.inr L.names[0]) (V.str "keep"))) (Ne.symm d6o)).trans hmo
    replace dA := dA.tp tp6
    replace dB := dB.tp tp6
    replace dO := dO.tp tp6
    replace R := R.dct (o := .dK (putK kvs (Sum.inr L.names[0]) (V.str "keep"))) hd6
    replace hT := tabs_dk (o := .dK (putK kvs (Sum.inr L.names[0]) (V.str "keep"))) hT hd6
    have hN : (upd H7 d6 (.dK (putK kvs (Sum.inr L.names[0]) (V.str "keep")))) d6 = some (.dK (putK kvs (Sum.inr L.names[0]) (V.str "keep"))) := upd_same
    clear hd6
    have hd6 := hN
    clear hN
    generalize upd H7 d6 (.dK (putK kvs (Sum.inr L.names[0]) (V.str "keep"))) = K6 at tp6 hd6 R hT hpl hnm hsg htr hi2 hi3 ho2 ho3 hi1 ho1 hwy hmh hmo dA dB dO ⊢
    clear hd6
    wtm_at "Lrd"
    refine ⟨wy, kvs, rfl, .inl hwy, fun d7 n7 => ?_⟩
    have w7 : wy ≠ d7 := ne_of_none hwy n7
    have h7 : dmh ≠ d7 := ne_of_none hmh n7
    have o7 : dmo ≠ d7 := ne_of_none hmo n7
    try dsimp only
    have s7 : Same K6 (upd K6 d7 (.dK kvs)) := same_new (Same.refl _) n7
    have hd7 : (upd K6 d7 (.dK kvs)) d7 = some (.dK kvs) := upd_same
    generalize upd K6 d7 (.dK kvs) = K7 at s7 hd7 ⊢
    replace hpl := s7 _ _ hpl
    replace hnm := s7 _ _ hnm
    replace hsg := s7 _ _ hsg
    replace hwy := s7 _ _ hwy
    replace htr := s7 _ _ htr
    replace hi1 := s7 _ _ hi1
    replace hi2 := s7 _ _ hi2
    replace hi3 := s7 _ _ hi3
    replace ho1 := s7 _ _ ho1
    replace ho2 := s7 _ _ ho2
    replace ho3 := s7 _ _ ho3
    replace hmh := s7 _ _ hmh
    replace hmo := s7 _ _ hmo
    replace dA := dA.same s7
    replace dB := dB.same s7
    replace dO := dO.same s7
    replace R := R.same s7
    replace hT := hT.ext s7
    wtm_at "Lrd"
    have hla : atI (L.names.map V.str) (-1) = some (.str L.names[L.names.length - 1]) := last_at pos
    have ln : L.names[L.names.length - 1] ∈ L.names := List.getElem_mem _
    have lnk : L.names[L.names.length - 1] ∈ (kdOf L).map (·.1) := by rw [kd_keys ok]; exact ln
    wtm_at "Lrd"
    obtain ⟨dd, vd, lk1, lk2, hvd⟩ : ∃ d v, (kdOf L).lookup L.names[L.names.length - 1] = some d ∧ valV kvs (Sum.inr L.names[L.names.length - 1]) = some v ∧ MDAt K7 v d := by
      rcases dict_look (n := L.names[L.names.length - 1]) dA with ⟨e1, _⟩ | h
      · obtain ⟨d, e2, _⟩ := kd_look ok ln
        rw [e2] at e1
        cases e1
      · exact h
    obtain ⟨qd, hqd, eqd⟩ := lookup_mem lk1
    have fdd : dd.fine := eqd ▸ kd_fine ok qd hqd
    refine ⟨d7, vd, rfl, lk2 ▸ DGet.k (k := Sum.inr L.names[L.names.length - 1]) hd7, ?_⟩
    wtm_at "Lrd"
    refine ⟨dd.dat, .str "back", hvd.dp fdd, .str _, (MD.plain dd).1, rfl, Nat.le_trans (MD.plain dd).2 (by decide), ?_⟩
    rw [Bool.false_xor]
    wtm_at "Lrd"
    refine ite_str fun vv hv => ?_
    have hvv : vv = "keep" ∨ vv = "back" := hv.elim (fun z => .inl z.2) fun z => .inr z.2
    have hne : mdEq (.txt vv) dd = false := less_ne hv
    clear hv
    wtm_at "Lrd"
    refine ⟨d7, _, rfl, DPut.k (k := Sum.inr L.names[L.names.length - 1]) hd7 (small_lt (by omega)), ?_⟩
    have pm := putK_md dA (v := V.str vv) (d := .txt vv) rfl (n := L.names[L.names.length - 1]) lnk
    have pm : MP K7 (putK kvs (Sum.inr L.names[L.names.length - 1]) (V.str vv)) (putMD (kdOf L) L.names[L.names.length - 1] (.txt vv)) := pm
    have tp8 : Tp K7 (upd K7 d7 (.dK (putK kvs (Sum.inr L.names[L.names.length - 1]) (V.str vv)))) := Tp.upd hd7 (fun _ q => nomatch q)
    replace hpl := tp8 _ _ hpl
    replace hnm := tp8 _ _ hnm
    replace hsg := tp8 _ _ hsg
    replace htr := tp8 _ _ htr
    replace hi2 := tp8 _ _ hi2
    replace hi3 := tp8 _ _ hi3
    replace ho2 := tp8 _ _ ho2
    replace ho3 := tp8 _ _ ho3
    replace hi1 := (upd_ne (o := .dK (putK kvs (Sum.inr L.names[L.names.length - 1]) (V.str vv))) (ne_of hi1 hd7 (by intro q; cases q))).trans hi1
    replace ho1 := (upd_ne (o := .dK (putK kvs (Sum.inr L.names[L.names.length - 1]) (V.str vv))) (ne_of ho1 hd7 (by intro q; cases q))).trans ho1
    replace hwy := (upd_ne (o := .dK (putK kvs (Sum.inr L.names[L.names.length - 1]) (V.str vv))) w7).trans hwy
    replace hmh := (upd_ne (o := .dK (putK kvs (Sum.inr L.names[L.names.length - 1]) (V.str vv))) h7).trans hmh
    replace hmo := (upd_ne (o := .dK (putK kvs (Sum.inr L.names[L.names.length - 1]) (V.str vv))) o7).trans hmo
    replace dA := dA.tp tp8
    replace dB := dB.tp tp8
    replace dO := dO.tp tp8
    replace pm := pm.tp tp8
    replace R := R.dct (o := .dK (putK kvs (Sum.inr L.names[L.names.length - 1]) (V.str vv))) hd7
    replace hT := tabs_dk (o := .dK (putK kvs (Sum.inr L.names[L.names.length - 1]) (V.str vv))) hT hd7
    have hN : (upd K7 d7 (.dK (putK kvs (Sum.inr L.names[L.names.length - 1]) (V.str vv)))) d7 = some (.dK (putK kvs (Sum.inr L.names[L.names.length - 1]) (V.str vv))) := upd_same
    clear hd7
    have hd7 := hN
    clear hN
    generalize upd K7 d7 (.dK (putK kvs (Sum.inr L.names[L.names.length - 1]) (V.str vv))) = K8 at tp8 hd7 R hT hpl hnm hsg htr hi2 hi3 ho2 ho3 hi1 ho1 hwy hmh hmo dA dB dO pm ⊢
    wtm_at "Lrd"
    refine rd_make ?_
    wtm_at "Lrd"
    refine made_ok hnm hsg ⟨_, hd7, pm⟩ (small_names ok) (by omega) (small_signs ok) (by omega) (put_fine (kd_fine ok) trivial) (put_part ok (Nat.le_refl 6) hvv ln) (by rw [put_keys]; exact kd_keys ok) ok.nd fun h2 H8 nh2 s8 hh2 => ?_
    clear hd7 pm
    replace hpl := s8 _ _ hpl
    replace hnm := s8 _ _ hnm
    replace hsg := s8 _ _ hsg
    replace hwy := s8 _ _ hwy
    replace htr := s8 _ _ htr
    replace hi1 := s8 _ _ hi1
    replace hi2 := s8 _ _ hi2
    replace hi3 := s8 _ _ hi3
    replace ho1 := s8 _ _ ho1
    replace ho2 := s8 _ _ ho2
    replace ho3 := s8 _ _ ho3
    replace hmh := s8 _ _ hmh
    replace hmo := s8 _ _ hmo
    replace dA := dA.same s8
    replace dB := dB.same s8
    replace dO := dO.same s8
    replace R := R.same s8
    replace hT := hT.ext s8
    wtm_at "Lrd"
    have hhA : HouseAt C H8 ho L.names L.signs (kdOf L) := ⟨dx, nmh, sgh, dmh, hi1, hi2, hi3, kvh, hmh, dB⟩
    obtain ⟨dxq, nmq, sgq, dmq, hq1, _⟩ := id hh2.ex
    refine ⟨h2, ho, dxq, dx, _, _, rfl, rfl, hq1, hi1, h2, ho, _, _, _, _, _, _, rfl, hh2.at_, hhA, put_fine (kd_fine ok) trivial, kd_fine ok, _, rfl, ?_⟩
    clear hq1 hh2 hhA
    have eF : houEq L.names L.names L.signs L.signs (putMD (kdOf L) L.names[L.names.length - 1] (.txt vv)) (kdOf L) = false := by
      unfold houEq
      rw [kdEq_put lnk lk1 hne, Bool.and_false, Bool.and_false]
    rw [eF]
    wtm_at "Lrd"
    refine ite2 (fun c => absurd c (by decide)) (fun _ => ?_)
    wtm_at "Lrd"
    have hhO : HouseAt C H8 ot L.names L.signs (kdOf L) := ⟨dxo, nmo, sgo, dmo, ho1, ho2, ho3, kvo, hmo, dO⟩
    refine rd_prop ?_
    wtm_at "Lrd"
    refine ⟨ot, dxo, _, rfl, ho1, ot, _, _, _, rfl, hhO, fun d8 kv8 n8 p8 => ?_⟩
    clear hhO
    have p8 : MP H8 kv8 (kdOf L) := p8
    try dsimp only
    have s9 : Same H8 (upd H8 d8 (.dK kv8)) := same_new (Same.refl _) n8
    have hd8 : (upd H8 d8 (.dK kv8)) d8 = some (.dK kv8) := upd_same
    generalize upd H8 d8 (.dK kv8) = K9 at s9 hd8 ⊢
    replace hpl := s9 _ _ hpl
    replace hnm := s9 _ _ hnm
    replace hsg := s9 _ _ hsg
    replace hwy := s9 _ _ hwy
    replace htr := s9 _ _ htr
    replace hi1 := s9 _ _ hi1
    replace hi2 := s9 _ _ hi2
    replace hi3 := s9 _ _ hi3
    replace ho1 := s9 _ _ ho1
    replace ho2 := s9 _ _ ho2
    replace ho3 := s9 _ _ ho3
    replace hmh := s9 _ _ hmh
    replace hmo := s9 _ _ hmo
    replace dA := dA.same s9
    replace dB := dB.same s9
    replace dO := dO.same s9
    replace p8 := p8.same s9
    replace R := R.same s9
    replace hT := hT.ext s9
    wtm_at "Lrd"
    refine ⟨d8, kv8, rfl, .inl hd8, fun g9 n9 => ?_⟩
    rw [keys_list p8 ok]
    try dsimp only
    have s10 : Same K9 (upd K9 g9 (.lst (L.names.map V.str))) := same_new (Same.refl _) n9
    have hg9 : (upd K9 g9 (.lst (L.names.map V.str))) g9 = some (.lst (L.names.map V.str)) := upd_same
    generalize upd K9 g9 (.lst (L.names.map V.str)) = K10 at s10 hg9 ⊢
    replace hpl := s10 _ _ hpl
    replace hnm := s10 _ _ hnm
    replace hsg := s10 _ _ hsg
    replace hwy := s10 _ _ hwy
    replace htr := s10 _ _ htr
    replace hi1 := s10 _ _ hi1
    replace hi2 := s10 _ _ hi2
    replace hi3 := s10 _ _ hi3
    replace ho1 := s10 _ _ ho1
    replace ho2 := s10 _ _ ho2
    replace ho3 := s10 _ _ ho3
    replace hmh := s10 _ _ hmh
    replace hmo := s10 _ _ hmo
    replace hd8 := s10 _ _ hd8
    replace dA := dA.same s10
    replace dB := dB.same s10
    replace dO := dO.same s10
    replace p8 := p8.same s10
    replace R := R.same s10
    replace hT := hT.ext s10
    wtm_at "Lrd"
    refine ⟨nm, _, rfl, .inr (SqT.of hnm), fun g10 n10 => ?_⟩
    try dsimp only
    have s11 : Same K10 (upd K10 g10 (.lst (L.names.map V.str))) := same_new (Same.refl _) n10
    have hg10 : (upd K10 g10 (.lst (L.names.map V.str))) g10 = some (.lst (L.names.map V.str)) := upd_same
    generalize upd K10 g10 (.lst (L.names.map V.str)) = K11 at s11 hg10 ⊢
    replace hpl := s11 _ _ hpl
    replace hnm := s11 _ _ hnm
    replace hsg := s11 _ _ hsg
    replace hwy := s11 _ _ hwy
    replace htr := s11 _ _ htr
    replace hi1 := s11 _ _ hi1
    replace hi2 := s11 _ _ hi2
    replace hi3 := s11 _ _ hi3
    replace ho1 := s11 _ _ ho1
    replace ho2 := s11 _ _ ho2
    replace ho3 := s11 _ _ ho3
    replace hmh := s11 _ _ hmh
    replace hmo := s11 _ _ hmo
    replace hd8 := s11 _ _ hd8
    replace hg9 := s11 _ _ hg9
    replace dA := dA.same s11
    replace dB := dB.same s11
    replace dO := dO.same s11
    replace p8 := p8.same s11
    replace R := R.same s11
    replace hT := hT.ext s11
    wtm_at "Lrd"
    refine ⟨.list ((L.names.map V.str).map dW), .list ((L.names.map V.str).map dW), .lst (SqL.of hg9) (dw_dp leaf_strs), .lst (SqL.of hg10) (dw_dp leaf_strs), (dw_plain _).1, (dw_plain _).1, by unfold PyData.depth; rw [(dw_plain _).2]; decide, ?_⟩
    rw [eqv_refl_plain (.list ((L.names.map V.str).map dW)) (dw_plain _).1]
    clear hd8 hg9 hg10 p8
    wtm_at "Lrd"
    refine ite2 (fun c => absurd c (by decide)) (fun _ => ?_)
    wtm_at "Lrd"
    have hhO : HouseAt C K11 ot L.names L.signs (kdOf L) := ⟨dxo, nmo, sgo, dmo, ho1, ho2, ho3, kvo, hmo, dO⟩
    have hhA : HouseAt C K11 ho L.names L.signs (kdOf L) := ⟨dx, nmh, sgh, dmh, hi1, hi2, hi3, kvh, hmh, dB⟩
    have eT : houEq L.names L.names L.signs L.signs (kdOf L) (kdOf L) = true := by
      unfold houEq
      rw [kdEq_refl (kd_nd ok), decide_eq_true rfl, decide_eq_true rfl]
      rfl
    refine ⟨ot, ho, dxo, dx, _, _, rfl, rfl, ho1, hi1, ot, ho, _, _, _, _, _, _, rfl, hhO, hhA, kd_fine ok, kd_fine ok, _, rfl, ?_⟩
    rw [eT]
    clear hhO hhA
    clear ho1 ho2 ho3 hmo dO
    wtm_at "Lrd"
    refine ite2 (fun c => absurd c (by decide)) (fun _ => ?_)
    refine rd_next ?_
    wtm_at "Lrd"
    refine rd_make ?_
    wtm_at "Lrd"
    intro z1 m12
    have s12 : Same K11 (upd K11 z1 (.tup [.str "zoe"])) := same_new (Same.refl _) m12
    have hz1 : (upd K11 z1 (.tup [.str "zoe"])) z1 = some (.tup [.str "zoe"]) := upd_same
    generalize upd K11 z1 (.tup [.str "zoe"]) = K12 at s12 hz1 ⊢
    replace hpl := s12 _ _ hpl
    replace hnm := s12 _ _ hnm
    replace hsg := s12 _ _ hsg
    replace hwy := s12 _ _ hwy
    replace htr := s12 _ _ htr
    replace hi1 := s12 _ _ hi1
    replace hi2 := s12 _ _ hi2
    replace hi3 := s12 _ _ hi3
    replace hmh := s12 _ _ hmh
    replace dA := dA.same s12
    replace dB := dB.same s12
    replace R := R.same s12
    replace hT := hT.ext s12
    wtm_at "Lrd"
    intro z2 m13
    have s13 : Same K12 (upd K12 z2 (.tup [.str ""])) := same_new (Same.refl _) m13
    have hz2 : (upd K12 z2 (.tup [.str ""])) z2 = some (.tup [.str ""]) := upd_same
    generalize upd K12 z2 (.tup [.str ""]) = K13 at s13 hz2 ⊢
    replace hpl := s13 _ _ hpl
    replace hnm := s13 _ _ hnm
    replace hsg := s13 _ _ hsg
    replace hwy := s13 _ _ hwy
    replace htr := s13 _ _ htr
    replace hi1 := s13 _ _ hi1
    replace hi2 := s13 _ _ hi2
    replace hi3 := s13 _ _ hi3
    replace hmh := s13 _ _ hmh
    replace hz1 := s13 _ _ hz1
    replace dA := dA.same s13
    replace dB := dB.same s13
    replace R := R.same s13
    replace hT := hT.ext s13
    wtm_at "Lrd"
    refine rd_disp1 fun z3 n3 => ?_
    try dsimp only
    have s14 : Same K13 (upd K13 z3 (.dK [(Sum.inr "zoe", .str "back")])) := same_new (Same.refl _) n3
    have hz3 : (upd K13 z3 (.dK [(Sum.inr "zoe", .str "back")])) z3 = some (.dK [(Sum.inr "zoe", .str "back")]) := upd_same
    generalize upd K13 z3 (.dK [(Sum.inr "zoe", .str "back")]) = K14 at s14 hz3 ⊢
    replace hpl := s14 _ _ hpl
    replace hnm := s14 _ _ hnm
    replace hsg := s14 _ _ hsg
    replace hwy := s14 _ _ hwy
    replace htr := s14 _ _ htr
    replace hi1 := s14 _ _ hi1
    replace hi2 := s14 _ _ hi2
    replace hi3 := s14 _ _ hi3
    replace hmh := s14 _ _ hmh
    replace hz1 := s14 _ _ hz1
    replace hz2 := s14 _ _ hz2
    replace dA := dA.same s14
    replace dB := dB.same s14
    replace R := R.same s14
    replace hT := hT.ext s14
    wtm_at "Lrd"
    refine made_ok (names := ["zoe"]) (signs := [""]) (kd := [("zoe", .txt "back")]) hz1 hz2 ⟨_, hz3, .cons ⟨rfl, rfl⟩ .nil⟩ zoeF.1 (by decide) zoeF.2.1 (by decide) zoeF.2.2.1 zoeF.2.2.2 rfl (by simp) fun hz H12 nhz s12 hhz => ?_
    clear hz1 hz2 hz3
    replace hpl := s12 _ _ hpl
    replace hnm := s12 _ _ hnm
    replace hsg := s12 _ _ hsg
    replace hwy := s12 _ _ hwy
    replace htr := s12 _ _ htr
    replace hi1 := s12 _ _ hi1
    replace hi2 := s12 _ _ hi2
    replace hi3 := s12 _ _ hi3
    replace hmh := s12 _ _ hmh
    replace dA := dA.same s12
    replace dB := dB.same s12
    replace R := R.same s12
    replace hT := hT.ext s12
    have hhA : HouseAt C H12 ho L.names L.signs (kdOf L) := ⟨dx, nmh, sgh, dmh, hi1, hi2, hi3, kvh, hmh, dB⟩
    obtain ⟨dxz, nmz, sgz, dmz, hzi, _⟩ := id hhz.ex
    refine ⟨ho, hz, dx, dxz, _, _, rfl, rfl, hi1, hzi, ho, hz, _, _, _, _, _, _, rfl, hhA, hhz.at_, kd_fine ok, zoeF.2.2.1, _, rfl, ?_⟩
    clear hhA hhz hzi
    have eZ : ∀ x y z, houEq L.names ["zoe"] L.signs x y z = false := fun x y z => by
      unfold houEq
      have nz : ¬ L.names = [("zoe" : Str)] := fun e => zoe_new (ok.sub _ (by rw [e]; exact List.mem_singleton.mpr rfl))
      rw [decide_eq_false nz, Bool.false_and]
    rw [eZ]
    wtm_at "Lrd"
    refine ite2 (fun c => absurd c (by decide)) (fun _ => ?_)
    wtm_at "Lrd"
    refine ⟨p, a, pl, ns, L, rfl, R, ok, ⟨nm, sg, wy, tr, kvs, hpl, hnm, hsg, hwy, mp_ways ok dA, htr⟩, fun rb bn bs bk H13 R13 sb13 bad => ?_⟩
    replace hT := tabs_sb hT R sb13
    replace hpl := sb13 _ _ (R.tup hpl) hpl
    replace hnm := sb13 _ _ (R.tup hnm) hnm
    replace hsg := sb13 _ _ (R.tup hsg) hsg
    replace hi2 := sb13 _ _ (R.tup hi2) hi2
    replace hi3 := sb13 _ _ (R.tup hi3) hi3
    replace hwy := sb13 _ _ (R.dic hwy) hwy
    replace hmh := sb13 _ _ (R.dic hmh) hmh
    replace hi1 := sb13 _ _ (R.insc hi1) hi1
    replace dA := dA.sb R sb13
    replace dB := dB.sb R sb13
    replace htr := sb13 _ _ (R.tup htr) htr
    clear R
    have R := R13
    obtain ⟨⟨an, as, ad, hrb, han, has, had⟩, nb, pb, mb, z1, z2, z3, z4, z5⟩ := bad
    wtm_at "Lrd"
    refine ⟨rb, _, rfl, SqT.of hrb, rfl, _, _, rfl, ?_⟩
    wtm_at "Lrd"
    refine ⟨_, _, rfl, ?_⟩
    wtm_at "Lrd"
    refine ⟨_, _, rfl, ?_⟩
    wtm_at "Lrd"
    refine ⟨rfl, ?_⟩
    wtm_at "Lrd"
    refine ⟨by decide, by decide, fun D mD => ?_⟩
    have npD : D ≠ p := R.there mD
    refine lc_it walk_range (fun j H' => ∃ bs : List Bool, H' D = some (.lst (bs.map V.bl)) ∧ bs.length = j ∧ Row K H' p a ns ∧ Sb p H13 H') ⟨[], upd_same, rfl, R.new mD, Sb.new Sb.refl mD⟩ (fun _ _ _ _ => trivial) ?lt ?le
    case lt =>
      rintro j x H1 H1' hj ⟨bs, hD, hbl, R1, sb1⟩ ⟨rfl, rfl⟩
      refine rd_gName ?_
      refine ⟨rfl, ?_⟩
      wtm_at "Lrd"
      refine ⟨p, a, ns, 2, rfl, R1, by decide, by decide, fun r H2 r0 r1 R2 sb2 => ?_⟩
      have hD2 := sb2 _ _ npD hD
      wtm_at "Lrd"
      have hbl2 : bs.length < 3 := by rw [hbl]; exact hj
      refine ⟨_, hD2, by rw [List.length_map]; exact small_lt (by omega), bs ++ [decide (V.int r = V.int 0)], by rw [List.map_append]; exact upd_same, by rw [List.length_append, hbl]; rfl, R2.lst hD2 npD, Sb.new (sb1.trans sb2) mD⟩
    rintro H14 ⟨bs, hD, hbl, R14, sb14⟩
    obtain ⟨b0, b1, b2, rfl⟩ : ∃ b0 b1 b2, bs = [b0, b1, b2] := by
      match bs, hbl with
      | [x, y, z], _ => exact ⟨x, y, z, rfl⟩
    clear hbl
    have hT14 : LamX.Tabs [(PL, "law.<locals>.<lambda>")] H14 := tabs_sb hT R sb14
    clear hT
    have hT := hT14
    clear hT14
    replace hpl := sb14 _ _ (R.tup hpl) hpl
    replace hnm := sb14 _ _ (R.tup hnm) hnm
    replace hsg := sb14 _ _ (R.tup hsg) hsg
    replace hi2 := sb14 _ _ (R.tup hi2) hi2
    replace hi3 := sb14 _ _ (R.tup hi3) hi3
    replace htr := sb14 _ _ (R.tup htr) htr
    replace hrb := sb14 _ _ (R.tup hrb) hrb
    replace han := sb14 _ _ (R.tup han) han
    replace has := sb14 _ _ (R.tup has) has
    replace hwy := sb14 _ _ (R.dic hwy) hwy
    replace hmh := sb14 _ _ (R.dic hmh) hmh
    replace hi1 := sb14 _ _ (R.insc hi1) hi1
    replace dA := dA.sb R sb14
    replace dB := dB.sb R sb14
    replace had := had.sb R sb14
    clear R
    have R := R14
    refine rd_gName ?_
    try dsimp only
    exact law_tail rfl ok ⟨nm, sg, wy, tr, kvs, hpl, hnm, hsg, hwy, mp_ways ok dA, htr⟩ ⟨dx, nmh, sgh, dmh, hi1, hi2, hi3, kvh, hmh, dB⟩ hT hD han has had nb pb mb z1 z2 z3 z4 z5 k
end

/-! ## what the top has left -/
section
open PySem.W PyProof.Rows PySem.Calls
theorem getD_of {vs : Array Value} {i : Nat} {v d : Value} (h : vs[i]? = some v) : vs.getD i d = v := by
  rw [Array.getD_eq_getD_getElem?, h]
  rfl
theorem all_mk {l : PySem.W.OpenLaw} {w : World} {K : PySem.W.Frag} {h : Heap} {mg : Str → Option Value} {fa C CI CP fI cda cc fL cL PL f0 f1 f2 f3 f4 f5 f6 f7 f8 f9 f10 f11 f12 f13 f14 f15 f20 f21 f22 f30 p30 f31 p31 f32 p32 k0C k1C k2C k3C k4C k5C k6C k7C k8C k9C k10C : Addr} {oc0 kV0 dc0 pm0 cd0 ct0 oc1 kV1 dc1 pm1 cd1 ct1 oc2 kV2 dc2 pm2 cd2 ct2 oc3 kV3 dc3 pm3 cd3 ct3 oc4 kV4 dc4 pm4 cd4 ct4 oc5 kV5 dc5 pm5 cd5 ct5 oc6 kV6 dc6 pm6 cd6 ct6 oc7 kV7 dc7 pm7 cd7 ct7 oc8 kV8 dc8 pm8 cd8 ct8 oc9 kV9 dc9 pm9 cd9 ct9 oc10 kV10 dc10 pm10 cd10 ct10 oc11 kV11 dc11 pm11 cd11 ct11 oc12 kV12 dc12 pm12 cd12 ct12 oc13 kV13 dc13 pm13 cd13 ct13 oc14 kV14 dc14 pm14 cd14 ct14 oc15 kV15 dc15 pm15 cd15 ct15 oc20 kV20 dc20 pm20 cd20 ct20 oc21 kV21 dc21 pm21 cd21 ct21 oc22 kV22 dc22 pm22 cd22 ct22 oc30 kV30 dc30 pm30 cd30 ct30 oc31 kV31 dc31 pm31 cd31 ct31 oc32 kV32 dc32 pm32 cd32 ct32 ocI kVI dcI pmI ctI cclI clI ocL kVL dcL pmL ctL : Value} {od0 an0 od1 an1 od2 an2 od3 an3 od4 an4 od5 an5 od6 an6 od7 an7 od8 an8 od9 an9 od10 an10 od11 an11 od12 an12 od13 an13 od14 an14 od15 an15 od20 an20 od21 an21 od22 an22 od30 an30 od31 an31 od32 an32 odI anI cddI cldI odL anL ddC : Option Addr} {sl0 sl1 sl2 sl3 sl4 sl5 sl6 sl7 sl8 sl9 sl10 sl11 sl12 sl13 sl14 sl15 sl20 sl21 sl22 sl30 sl31 sl32 slI ccsI cslI slL slC : Array (Option Value)} {rest30 rest31 rest32 : List Value}
    {t_LETTERS t_PATTERN_SIGNS t_LONGEST_WORD t_MOST_NAMES t_MOST_BOXES tfI tfC tgC ttC : Tok} {vsI vsC : Array Value} {fileI fileC nmE qE : Str} {flC txC : Int} {inC abE : Bool} {cdI : ClassData} {NE : Addr} {bsE bmE subE : List Value} {snE : List Str} {colE : Option Bool} {ddE : Option Addr} {q0 q1 q2 q3 q5 : Option Value}
    (X : K.In h) (G : h.Ns mainGlobals mg) (hfa : mg "law" = some (.ref fa)) (own : LamX.OwnTab K fa h)
    (a0 : PySem.W.nsIn K mainGlobals "consists_of" = some (some (.ref f0)))
    (l0 : K.lookup f0 = some ⟨oc0, od0, .func (PySem.W.fnOf "consists_of" "consists_of" (C8.fnArgs stCons) (C8.fnBody stCons) (C8.fnScope stCons) .none kV0 dc0 pm0 an0 cd0 ct0), sl0⟩)
    (c0 : PySem.W.codeIn K cd0 "consists_of" = true)
    (k0 : PySem.W.keepIn K (.ref f0) = true)
    (a1 : PySem.W.nsIn K mainGlobals "is_word" = some (some (.ref f1)))
    (l1 : K.lookup f1 = some ⟨oc1, od1, .func (PySem.W.fnOf "is_word" "is_word" (C8.fnArgs stWord) (C8.fnBody stWord) (C8.fnScope stWord) .none kV1 dc1 pm1 an1 cd1 ct1), sl1⟩)
    (c1 : PySem.W.codeIn K cd1 "is_word" = true)
    (k1 : PySem.W.keepIn K (.ref f1) = true)
    (a2 : PySem.W.nsIn K mainGlobals "is_pattern" = some (some (.ref f2)))
    (l2 : K.lookup f2 = some ⟨oc2, od2, .func (PySem.W.fnOf "is_pattern" "is_pattern" (C8.fnArgs stPat) (C8.fnBody stPat) (C8.fnScope stPat) .none kV2 dc2 pm2 an2 cd2 ct2), sl2⟩)
    (c2 : PySem.W.codeIn K cd2 "is_pattern" = true)
    (k2 : PySem.W.keepIn K (.ref f2) = true)
    (a3 : PySem.W.nsIn K mainGlobals "is_box" = some (some (.ref f3)))
    (l3 : K.lookup f3 = some ⟨oc3, od3, .func (PySem.W.fnOf "is_box" "is_box" (C8.fnArgs stBox) (C8.fnBody stBox) (C8.fnScope stBox) .none kV3 dc3 pm3 an3 cd3 ct3), sl3⟩)
    (c3 : PySem.W.codeIn K cd3 "is_box" = true)
    (k3 : PySem.W.keepIn K (.ref f3) = true)
    (a4 : PySem.W.nsIn K mainGlobals "are_names" = some (some (.ref f4)))
    (l4 : K.lookup f4 = some ⟨oc4, od4, .func (PySem.W.fnOf "are_names" "are_names" (C8.fnArgs stNames) (C8.fnBody stNames) (C8.fnScope stNames) .none kV4 dc4 pm4 an4 cd4 ct4), sl4⟩)
    (c4 : PySem.W.codeIn K cd4 "are_names" = true)
    (k4 : PySem.W.keepIn K (.ref f4) = true)
    (a5 : PySem.W.nsIn K mainGlobals "are_plates" = some (some (.ref f5)))
    (l5 : K.lookup f5 = some ⟨oc5, od5, .func (PySem.W.fnOf "are_plates" "are_plates" (C8.fnArgs stPlates) (C8.fnBody stPlates) (C8.fnScope stPlates) .none kV5 dc5 pm5 an5 cd5 ct5), sl5⟩)
    (c5 : PySem.W.codeIn K cd5 "are_plates" = true)
    (k5 : PySem.W.keepIn K (.ref f5) = true)
    (a6 : PySem.W.nsIn K mainGlobals "is_manner" = some (some (.ref f6)))
    (l6 : K.lookup f6 = some ⟨oc6, od6, .func (PySem.W.fnOf "is_manner" "is_manner" (C8.fnArgs stManner) (C8.fnBody stManner) (C8.fnScope stManner) .none kV6 dc6 pm6 an6 cd6 ct6), sl6⟩)
    (c6 : PySem.W.codeIn K cd6 "is_manner" = true)
    (k6 : PySem.W.keepIn K (.ref f6) = true)
    (a7 : PySem.W.nsIn K mainGlobals "are_manners" = some (some (.ref f7)))
    (l7 : K.lookup f7 = some ⟨oc7, od7, .func (PySem.W.fnOf "are_manners" "are_manners" (C8.fnArgs stManners) (C8.fnBody stManners) (C8.fnScope stManners) .none kV7 dc7 pm7 an7 cd7 ct7), sl7⟩)
    (c7 : PySem.W.codeIn K cd7 "are_manners" = true)
    (k7 : PySem.W.keepIn K (.ref f7) = true)
    (a8 : PySem.W.nsIn K mainGlobals "_law_taken" = some (some (.ref f8)))
    (l8 : K.lookup f8 = some ⟨oc8, od8, .func (PySem.W.fnOf "_law_taken" "_law_taken" (C8.fnArgs stTaken) (C8.fnBody stTaken) (C8.fnScope stTaken) .none kV8 dc8 pm8 an8 cd8 ct8), sl8⟩)
    (c8 : PySem.W.codeIn K cd8 "_law_taken" = true)
    (k8 : PySem.W.keepIn K (.ref f8) = true)
    (a9 : PySem.W.nsIn K mainGlobals "_law_pick" = some (some (.ref f9)))
    (l9 : K.lookup f9 = some ⟨oc9, od9, .func (PySem.W.fnOf "_law_pick" "_law_pick" (C8.fnArgs stPick) (C8.fnBody stPick) (C8.fnScope stPick) .none kV9 dc9 pm9 an9 cd9 ct9), sl9⟩)
    (c9 : PySem.W.codeIn K cd9 "_law_pick" = true)
    (k9 : PySem.W.keepIn K (.ref f9) = true)
    (a10 : PySem.W.nsIn K mainGlobals "_law_mixed" = some (some (.ref f10)))
    (l10 : K.lookup f10 = some ⟨oc10, od10, .func (PySem.W.fnOf "_law_mixed" "_law_mixed" (C8.fnArgs stMixed) (C8.fnBody stMixed) (C8.fnScope stMixed) .none kV10 dc10 pm10 an10 cd10 ct10), sl10⟩)
    (c10 : PySem.W.codeIn K cd10 "_law_mixed" = true)
    (k10 : PySem.W.keepIn K (.ref f10) = true)
    (a11 : PySem.W.nsIn K mainGlobals "_law_raised" = some (some (.ref f11)))
    (l11 : K.lookup f11 = some ⟨oc11, od11, .func (PySem.W.fnOf "_law_raised" "_law_raised" (C8.fnArgs stRaised) (C8.fnBody stRaised) (C8.fnScope stRaised) .none kV11 dc11 pm11 an11 cd11 ct11), sl11⟩)
    (c11 : PySem.W.codeIn K cd11 "_law_raised" = true)
    (k11 : PySem.W.keepIn K (.ref f11) = true)
    (a12 : PySem.W.nsIn K mainGlobals "_law_scheme" = some (some (.ref f12)))
    (l12 : K.lookup f12 = some ⟨oc12, od12, .func (PySem.W.fnOf "_law_scheme" "_law_scheme" (C8.fnArgs stScheme) (C8.fnBody stScheme) (C8.fnScope stScheme) .none kV12 dc12 pm12 an12 cd12 ct12), sl12⟩)
    (c12 : PySem.W.codeIn K cd12 "_law_scheme" = true)
    (k12 : PySem.W.keepIn K (.ref f12) = true)
    (a13 : PySem.W.nsIn K mainGlobals "_law_built" = some (some (.ref f13)))
    (l13 : K.lookup f13 = some ⟨oc13, od13, .func (PySem.W.fnOf "_law_built" "_law_built" (C8.fnArgs stBuilt) (C8.fnBody stBuilt) (C8.fnScope stBuilt) .none kV13 dc13 pm13 an13 cd13 ct13), sl13⟩)
    (c13 : PySem.W.codeIn K cd13 "_law_built" = true)
    (k13 : PySem.W.keepIn K (.ref f13) = true)
    (a14 : PySem.W.nsIn K mainGlobals "_law_bad" = some (some (.ref f14)))
    (l14 : K.lookup f14 = some ⟨oc14, od14, .func (PySem.W.fnOf "_law_bad" "_law_bad" (C8.fnArgs stBad) (C8.fnBody stBad) (C8.fnScope stBad) .none kV14 dc14 pm14 an14 cd14 ct14), sl14⟩)
    (c14 : PySem.W.codeIn K cd14 "_law_bad" = true)
    (k14 : PySem.W.keepIn K (.ref f14) = true)
    (a15 : PySem.W.nsIn K mainGlobals "is_number" = some (some (.ref f15)))
    (l15 : K.lookup f15 = some ⟨oc15, od15, .func (PySem.W.fnOf "is_number" "is_number" (C8.fnArgs stNumb) (C8.fnBody stNumb) (C8.fnScope stNumb) .none kV15 dc15 pm15 an15 cd15 ct15), sl15⟩)
    (c15 : PySem.W.codeIn K cd15 "is_number" = true)
    (k15 : PySem.W.keepIn K (.ref f15) = true)
    (z_len : PySem.W.nsIn K mainGlobals "len" = some none)
    (z_isinstance : PySem.W.nsIn K mainGlobals "isinstance" = some none)
    (z_str : PySem.W.nsIn K mainGlobals "str" = some none)
    (z_all : PySem.W.nsIn K mainGlobals "all" = some none)
    (z_int : PySem.W.nsIn K mainGlobals "int" = some none)
    (z_bool : PySem.W.nsIn K mainGlobals "bool" = some none)
    (z_tuple : PySem.W.nsIn K mainGlobals "tuple" = some none)
    (z_range : PySem.W.nsIn K mainGlobals "range" = some none)
    (z_dict : PySem.W.nsIn K mainGlobals "dict" = some none)
    (z_list : PySem.W.nsIn K mainGlobals "list" = some none)
    (z_min : PySem.W.nsIn K mainGlobals "min" = some none)
    (z_sorted : PySem.W.nsIn K mainGlobals "sorted" = some none)
    (z_ValueError : PySem.W.nsIn K mainGlobals "ValueError" = some none)
    (z_super : PySem.W.nsIn K mainGlobals "super" = some none)
    (g_LETTERS : PySem.W.nsIn K mainGlobals "LETTERS" = some (some (.str (Str.ofString "abcdefghijklmnopqrstuvwxyz") t_LETTERS)))
    (g_PATTERN_SIGNS : PySem.W.nsIn K mainGlobals "PATTERN_SIGNS" = some (some (.str (Str.ofString "abcdefghijklmnopqrstuvwxyz.") t_PATTERN_SIGNS)))
    (g_LONGEST_WORD : PySem.W.nsIn K mainGlobals "LONGEST_WORD" = some (some (.int 8 t_LONGEST_WORD)))
    (g_MOST_NAMES : PySem.W.nsIn K mainGlobals "MOST_NAMES" = some (some (.int 6 t_MOST_NAMES)))
    (g_MOST_BOXES : PySem.W.nsIn K mainGlobals "MOST_BOXES" = some (some (.int 6 t_MOST_BOXES)))
    (aC : PySem.W.nsIn K mainGlobals "House" = some (some (.ref C)))
    (a20 : PySem.W.findIn K (.ref C) "__init__" = some (some (.ref f20)))
    (i20 : PySem.W.isFn K (.ref f20) = true)
    (l20 : K.lookup f20 = some ⟨oc20, od20, .func (PySem.W.fnOf "__init__" "House.__init__" (defArgs stHI) (defBody stHI) (defScope stHI) .none kV20 dc20 pm20 an20 cd20 ct20), sl20⟩)
    (c20 : PySem.W.codeIn K cd20 "House.__init__" = true)
    (k20 : PySem.W.keepIn K (.ref f20) = true)
    (a21 : PySem.W.findIn K (.ref C) "__len__" = some (some (.ref f21)))
    (i21 : PySem.W.isFn K (.ref f21) = true)
    (l21 : K.lookup f21 = some ⟨oc21, od21, .func (PySem.W.fnOf "__len__" "House.__len__" (defArgs stHLn) (defBody stHLn) (defScope stHLn) .none kV21 dc21 pm21 an21 cd21 ct21), sl21⟩)
    (c21 : PySem.W.codeIn K cd21 "House.__len__" = true)
    (k21 : PySem.W.keepIn K (.ref f21) = true)
    (a22 : PySem.W.findIn K (.ref C) "__eq__" = some (some (.ref f22)))
    (i22 : PySem.W.isFn K (.ref f22) = true)
    (l22 : K.lookup f22 = some ⟨oc22, od22, .func (PySem.W.fnOf "__eq__" "House.__eq__" (defArgs stHEq) (defBody stHEq) (defScope stHEq) .none kV22 dc22 pm22 an22 cd22 ct22), sl22⟩)
    (c22 : PySem.W.codeIn K cd22 "House.__eq__" = true)
    (k22 : PySem.W.keepIn K (.ref f22) = true)
    (a30 : PySem.W.findIn K (.ref C) "names" = some (some (.ref p30)))
    (s30 : PySem.W.specialIn K (.ref p30) "__get__" = some (some (.builtin "property.__get__")))
    (t30 : PySem.W.takesIn K (.ref p30) = some true)
    (r30 : PySem.W.recIn K p30 "property" = some (.ref f30 :: rest30))
    (l30 : K.lookup f30 = some ⟨oc30, od30, .func (PySem.W.fnOf "names" "House.names" (defArgs stHNm) (defBody stHNm) (defScope stHNm) .none kV30 dc30 pm30 an30 cd30 ct30), sl30⟩)
    (c30 : PySem.W.codeIn K cd30 "House.names" = true)
    (k30 : PySem.W.keepIn K (.ref f30) = true)
    (a31 : PySem.W.findIn K (.ref C) "plates" = some (some (.ref p31)))
    (s31 : PySem.W.specialIn K (.ref p31) "__get__" = some (some (.builtin "property.__get__")))
    (t31 : PySem.W.takesIn K (.ref p31) = some true)
    (r31 : PySem.W.recIn K p31 "property" = some (.ref f31 :: rest31))
    (l31 : K.lookup f31 = some ⟨oc31, od31, .func (PySem.W.fnOf "plates" "House.plates" (defArgs stHPl) (defBody stHPl) (defScope stHPl) .none kV31 dc31 pm31 an31 cd31 ct31), sl31⟩)
    (c31 : PySem.W.codeIn K cd31 "House.plates" = true)
    (k31 : PySem.W.keepIn K (.ref f31) = true)
    (a32 : PySem.W.findIn K (.ref C) "manners" = some (some (.ref p32)))
    (s32 : PySem.W.specialIn K (.ref p32) "__get__" = some (some (.builtin "property.__get__")))
    (t32 : PySem.W.takesIn K (.ref p32) = some true)
    (r32 : PySem.W.recIn K p32 "property" = some (.ref f32 :: rest32))
    (l32 : K.lookup f32 = some ⟨oc32, od32, .func (PySem.W.fnOf "manners" "House.manners" (defArgs stHMn) (defBody stHMn) (defScope stHMn) .none kV32 dc32 pm32 an32 cd32 ct32), sl32⟩)
    (c32 : PySem.W.codeIn K cd32 "House.manners" = true)
    (k32 : PySem.W.keepIn K (.ref f32) = true)
    (pg : PySem.W.plainGet K C Str.empty = true)
    (hd : PySem.W.hasDictIn K C = true)
    (po : PySem.W.plainOver K C = true)
    (sa : PySem.W.findIn K (.ref C) "__setattr__" = some (some (.builtin "object.__setattr__")))
    (mk : PySem.W.makesIn K C = true)
    (kc : PySem.W.keepIn K (.ref C) = true)
    (x1 : PySem.W.findIn K (.ref C) "_names" = some none)
    (x2 : PySem.W.findIn K (.ref C) "_plates" = some none)
    (x3 : PySem.W.findIn K (.ref C) "_manners" = some none)
    (w1 : PySem.W.findIn K (.ref C) "__class__" = some (some (.builtin "object.__class__")))
    (w2 : PySem.W.specialIn K (.builtin "object.__class__") "__get__" = some (some (.builtin "getset_descriptor.__get__")))
    (w3 : PySem.W.takesIn K (.builtin "object.__class__") = some true)
    (w4 : PySem.W.mroIn K C (.type "object") = some true)
    (w5 : PySem.W.kitOne K (.ref C) (.ref C) = some true)
    (ne : PySem.W.findIn K (.ref C) "__ne__" = some (some (.builtin "object.__ne__")))
    (ob : PySem.W.subIn K (.ref C) (.type "object") = some true)
    (aI : PySem.W.nsIn K mainGlobals "InvalidHouse" = some (some (.ref CI)))
    (aP : PySem.W.nsIn K mainGlobals "PlateError" = some (some (.ref CP)))
    (fI1 : PySem.W.findIn K (.ref CI) "__init__" = some (some (.ref fI)))
    (fI2 : PySem.W.typeIn K (.ref fI) = some (.type "function"))
    (fI3 : K.lookup fI = some ⟨ocI, odI, .func (ksFn "__init__" "InvalidHouse.__init__" (defArgs stInvH) (defBody stInvH) (defScope stInvH) .none kVI dcI pmI anI (.ref cda) ctI cc), slI⟩)
    (fI4 : PySem.W.codeIn K (.ref cda) "InvalidHouse.__init__" = true)
    (fI5 : K.lookup cda = some ⟨cclI, cddI, .fields vsI, ccsI⟩)
    (fI6 : vsI[2]? = some (.str fileI tfI))
    (fI7 : ((l.prog.main.file : Str) == fileI) = true)
    (fI8 : K.lookup cc = some ⟨clI, cldI, .cell (some (.ref CI)), cslI⟩)
    (e1 : PySem.W.clsIn K CI = some cdI)
    (e2 : ks_superIn K CI CI "__init__" = some (some (.builtin "ValueError.__init__")))
    (e3 : PySem.W.subIn K (.ref CI) (.type "ValueError") = some true)
    (e4 : PySem.W.mroIn K CI (.ref CI) = some true)
    (e5 : PySem.W.nsIn K PySem.cStatics "thirdparty.any" = some none)
    (e6 : (l.prog.main.scope.names.lookup ("super" : Str)).isSome = false)
    (e7 : K.lookup CI = some (excClassObj nmE qE CI NE bsE bmE true snE subE abE colE ddE q0 q1 q2 q3 q5 "ValueError.__new__"))
    (e8 : PySem.HandSPX.refsVE bmE = true)
    (e9 : PySem.W.findIn K (.ref CI) "__setattr__" = some (some (.builtin "object.__setattr__")))
    (e10 : PySem.W.subIn K (.ref CI) (.type "BaseException") = some true)
    (e11 : PySem.W.typeIn K (.ref CI) = some (.type "type"))
    (e12 : PySem.W.keepIn K (.ref CI) = true)
    (e13 : PySem.W.findIn K (.ref CI) "part" = some none)
    (e14 : PySem.W.findIn K (.ref CI) "index" = some none)
    (e15 : PySem.W.findIn K (.ref CI) "__getattribute__" = some (some (.builtin "BaseException.__getattribute__")))
    (e16 : PySem.W.findIn K (.ref CI) "__getattr__" = some none)
    (e17 : PySem.W.hasDictIn K CI = true)
    (e18 : PySem.W.findIn K (.ref CI) "__class__" = some (some (.builtin "object.__class__")))
    (e19 : PySem.W.mroIn K CI (.type "object") = some true)
    (e20 : PySem.W.exmOne K (.ref CI) (.ref CP) = some true)
    (e21 : PySem.W.kitOne K (.ref CI) (.type "ValueError") = some true)
    (y0 : PySem.W.kitOne K (.ref CI) (.ref CI) = some true)
    (m0 : PySem.W.nsIn K mainGlobals "InvalidLog" = some (some (.ref k0C)))
    (y1 : PySem.W.kitOne K (.ref CI) (.ref k0C) = some false)
    (m1 : PySem.W.nsIn K mainGlobals "InvalidHint" = some (some (.ref k1C)))
    (y2 : PySem.W.kitOne K (.ref CI) (.ref k1C) = some false)
    (m2 : PySem.W.nsIn K mainGlobals "InvalidManners" = some (some (.ref k2C)))
    (y3 : PySem.W.kitOne K (.ref CI) (.ref k2C) = some false)
    (m3 : PySem.W.nsIn K mainGlobals "InvalidOrder" = some (some (.ref k3C)))
    (y4 : PySem.W.kitOne K (.ref CI) (.ref k3C) = some false)
    (m4 : PySem.W.nsIn K mainGlobals "UnknownName" = some (some (.ref k4C)))
    (y5 : PySem.W.kitOne K (.ref CI) (.ref k4C) = some false)
    (m5 : PySem.W.nsIn K mainGlobals "InvalidBox" = some (some (.ref k5C)))
    (y6 : PySem.W.kitOne K (.ref CI) (.ref k5C) = some false)
    (m6 : PySem.W.nsIn K mainGlobals "UnknownEntry" = some (some (.ref k6C)))
    (y7 : PySem.W.kitOne K (.ref CI) (.ref k6C) = some false)
    (m7 : PySem.W.nsIn K mainGlobals "NoOrder" = some (some (.ref k7C)))
    (y8 : PySem.W.kitOne K (.ref CI) (.ref k7C) = some false)
    (m8 : PySem.W.nsIn K mainGlobals "TooMany" = some (some (.ref k8C)))
    (y9 : PySem.W.kitOne K (.ref CI) (.ref k8C) = some false)
    (m9 : PySem.W.nsIn K mainGlobals "InvalidNumber" = some (some (.ref k9C)))
    (y10 : PySem.W.kitOne K (.ref CI) (.ref k9C) = some false)
    (m10 : PySem.W.nsIn K mainGlobals "InvalidRow" = some (some (.ref k10C)))
    (y11 : PySem.W.kitOne K (.ref CI) (.ref k10C) = some false)
    (aL : PySem.W.nsIn K mainGlobals "law" = some (some (.ref fL)))
    (lL : K.lookup fL = some ⟨ocL, odL, .func (PySem.W.fnOf "law" "law" (C8.fnArgs stLaw) (C8.fnBody stLaw) (C8.fnScope stLaw) .none kVL dcL pmL anL (.ref cL) ctL), slL⟩)
    (cLc : PySem.W.codeIn K (.ref cL) "law" = true)
    (lC : K.lookup cL = some ⟨.type "code", ddC, .fields vsC, slC⟩)
    (v11 : vsC[11]? = some (.ref PL))
    (v18 : vsC[18]? = some (.str fileC tfC))
    (v7 : vsC[7]? = some (.int flC tgC))
    (v9 : vsC[9]? = some (.bool inC))
    (v10 : vsC[10]? = some (.int txC ttC))
    (cneP : cL ≠ PL)
    (nP : K.lookup PL = none) : LamX.LawAtS l w K C8.CX0 9 63 "_law_script" mg fa h := by
  have e := hfa.symm.trans (PySem.W.mg_of X G aL)
  cases e
  have F0 : Def K mg "consists_of" stCons f0 _ := ⟨⟨_, _, _, _, _, _, _, _, _, _, rfl, l0, c0⟩, PySem.W.mg_of X G a0, k0⟩
  have b0 : Binds K _ ["text", "signs"] [] := C8.Fun.binds F0.fn rfl fun _ _ _ _ _ _ us hl => match us, hl with | [_, _], _ => rfl
  have F1 : Def K mg "is_word" stWord f1 _ := ⟨⟨_, _, _, _, _, _, _, _, _, _, rfl, l1, c1⟩, PySem.W.mg_of X G a1, k1⟩
  have b1 : Binds K _ ["text"] [] := C8.Fun.binds F1.fn rfl fun _ _ _ _ _ _ us hl => match us, hl with | [_], _ => rfl
  have F2 : Def K mg "is_pattern" stPat f2 _ := ⟨⟨_, _, _, _, _, _, _, _, _, _, rfl, l2, c2⟩, PySem.W.mg_of X G a2, k2⟩
  have b2 : Binds K _ ["text"] [] := C8.Fun.binds F2.fn rfl fun _ _ _ _ _ _ us hl => match us, hl with | [_], _ => rfl
  have F3 : Def K mg "is_box" stBox f3 _ := ⟨⟨_, _, _, _, _, _, _, _, _, _, rfl, l3, c3⟩, PySem.W.mg_of X G a3, k3⟩
  have b3 : Binds K _ ["box", "boxes"] [] := C8.Fun.binds F3.fn rfl fun _ _ _ _ _ _ us hl => match us, hl with | [_, _], _ => rfl
  have F4 : Def K mg "are_names" stNames f4 _ := ⟨⟨_, _, _, _, _, _, _, _, _, _, rfl, l4, c4⟩, PySem.W.mg_of X G a4, k4⟩
  have b4 : Binds K _ ["names"] [] := C8.Fun.binds F4.fn rfl fun _ _ _ _ _ _ us hl => match us, hl with | [_], _ => rfl
  have F5 : Def K mg "are_plates" stPlates f5 _ := ⟨⟨_, _, _, _, _, _, _, _, _, _, rfl, l5, c5⟩, PySem.W.mg_of X G a5, k5⟩
  have b5 : Binds K _ ["plates", "many"] [] := C8.Fun.binds F5.fn rfl fun _ _ _ _ _ _ us hl => match us, hl with | [_, _], _ => rfl
  have F6 : Def K mg "is_manner" stManner f6 _ := ⟨⟨_, _, _, _, _, _, _, _, _, _, rfl, l6, c6⟩, PySem.W.mg_of X G a6, k6⟩
  have b6 : Binds K _ ["manner", "many", "boxes"] [] := C8.Fun.binds F6.fn rfl fun _ _ _ _ _ _ us hl => match us, hl with | [_, _, _], _ => rfl
  have F7 : Def K mg "are_manners" stManners f7 _ := ⟨⟨_, _, _, _, _, _, _, _, _, _, rfl, l7, c7⟩, PySem.W.mg_of X G a7, k7⟩
  have b7 : Binds K _ ["manners", "names", "boxes"] [] := C8.Fun.binds F7.fn rfl fun _ _ _ _ _ _ us hl => match us, hl with | [_, _, _], _ => rfl
  have F8 : Def K mg "_law_taken" stTaken f8 _ := ⟨⟨_, _, _, _, _, _, _, _, _, _, rfl, l8, c8⟩, PySem.W.mg_of X G a8, k8⟩
  have b8 : Binds K _ ["_law_row", "_law_many"] [] := C8.Fun.binds F8.fn rfl fun _ _ _ _ _ _ us hl => match us, hl with | [_, _], _ => rfl
  have F9 : Def K mg "_law_pick" stPick f9 _ := ⟨⟨_, _, _, _, _, _, _, _, _, _, rfl, l9, c9⟩, PySem.W.mg_of X G a9, k9⟩
  have b9 : Binds K _ ["_law_row", "_law_some"] [] := C8.Fun.binds F9.fn rfl fun _ _ _ _ _ _ us hl => match us, hl with | [_, _], _ => rfl
  have F10 : Def K mg "_law_mixed" stMixed f10 _ := ⟨⟨_, _, _, _, _, _, _, _, _, _, rfl, l10, c10⟩, PySem.W.mg_of X G a10, k10⟩
  have b10 : Binds K _ ["_law_row", "_law_things"] [] := C8.Fun.binds F10.fn rfl fun _ _ _ _ _ _ us hl => match us, hl with | [_, _], _ => rfl
  have F11 : Def K mg "_law_raised" stRaised f11 _ := ⟨⟨_, _, _, _, _, _, _, _, _, _, rfl, l11, c11⟩, PySem.W.mg_of X G a11, k11⟩
  have b11 : Binds K _ ["_law_work"] [] := C8.Fun.binds F11.fn rfl fun _ _ _ _ _ _ us hl => match us, hl with | [_], _ => rfl
  have F12 : Def K mg "_law_scheme" stScheme f12 _ := ⟨⟨_, _, _, _, _, _, _, _, _, _, rfl, l12, c12⟩, PySem.W.mg_of X G a12, k12⟩
  have b12 : Binds K _ ["_law_row", "_law_most"] [] := C8.Fun.binds F12.fn rfl fun _ _ _ _ _ _ us hl => match us, hl with | [_, _], _ => rfl
  have F13 : Def K mg "_law_built" stBuilt f13 _ := ⟨⟨_, _, _, _, _, _, _, _, _, _, rfl, l13, c13⟩, PySem.W.mg_of X G a13, k13⟩
  have b13 : Binds K _ ["_law_plan"] [] := C8.Fun.binds F13.fn rfl fun _ _ _ _ _ _ us hl => match us, hl with | [_], _ => rfl
  have F14 : Def K mg "_law_bad" stBad f14 _ := ⟨⟨_, _, _, _, _, _, _, _, _, _, rfl, l14, c14⟩, PySem.W.mg_of X G a14, k14⟩
  have b14 : Binds K _ ["_law_row", "_law_plan", "_law_size", "_law_count"] [] := C8.Fun.binds F14.fn rfl fun _ _ _ _ _ _ us hl => match us, hl with | [_, _, _, _], _ => rfl
  have F15 : Def K mg "is_number" stNumb f15 _ := ⟨⟨_, _, _, _, _, _, _, _, _, _, rfl, l15, c15⟩, PySem.W.mg_of X G a15, k15⟩
  have b15 : Binds K _ ["number", "least", "most"] [] := C8.Fun.binds F15.fn rfl fun _ _ _ _ _ _ us hl => match us, hl with | [_, _, _], _ => rfl
  have n_len := PySem.W.mg_none_of X G z_len
  have n_isinstance := PySem.W.mg_none_of X G z_isinstance
  have n_str := PySem.W.mg_none_of X G z_str
  have n_all := PySem.W.mg_none_of X G z_all
  have n_int := PySem.W.mg_none_of X G z_int
  have n_bool := PySem.W.mg_none_of X G z_bool
  have n_tuple := PySem.W.mg_none_of X G z_tuple
  have n_range := PySem.W.mg_none_of X G z_range
  have n_dict := PySem.W.mg_none_of X G z_dict
  have n_list := PySem.W.mg_none_of X G z_list
  have n_min := PySem.W.mg_none_of X G z_min
  have n_sorted := PySem.W.mg_none_of X G z_sorted
  have n_ValueError := PySem.W.mg_none_of X G z_ValueError
  have n_super := PySem.W.mg_none_of X G z_super
  have F20 : L2.Fun K "__init__" "House.__init__" stHI f20 _ := fun_mk (st := stHI) l20 c20 k20
  have b20 := F20.binds (ps := ["self", "names", "plates", "manners"]) fun _ _ _ _ _ _ us hl => match us, hl with | [_, _, _, _], _ => rfl
  have F21 : L2.Fun K "__len__" "House.__len__" stHLn f21 _ := fun_mk (st := stHLn) l21 c21 k21
  have b21 := F21.binds (ps := ["self"]) fun _ _ _ _ _ _ us hl => match us, hl with | [_], _ => rfl
  have F22 : L2.Fun K "__eq__" "House.__eq__" stHEq f22 _ := fun_mk (st := stHEq) l22 c22 k22
  have b22 := F22.binds (ps := ["self", "other"]) fun _ _ _ _ _ _ us hl => match us, hl with | [_, _], _ => rfl
  have F30 : L2.Fun K "names" "House.names" stHNm f30 _ := fun_mk (st := stHNm) l30 c30 k30
  have b30 := F30.binds (ps := ["self"]) fun _ _ _ _ _ _ us hl => match us, hl with | [_], _ => rfl
  have F31 : L2.Fun K "plates" "House.plates" stHPl f31 _ := fun_mk (st := stHPl) l31 c31 k31
  have b31 := F31.binds (ps := ["self"]) fun _ _ _ _ _ _ us hl => match us, hl with | [_], _ => rfl
  have F32 : L2.Fun K "manners" "House.manners" stHMn f32 _ := fun_mk (st := stHMn) l32 c32 k32
  have b32 := F32.binds (ps := ["self"]) fun _ _ _ _ _ _ us hl => match us, hl with | [_], _ => rfl
  have hnames : ∀ {p q : Prop}, p → q → p ∧ q := fun a b => ⟨a, b⟩
  clear hnames
  have gL : ∃ u, mg "LETTERS" = some u ∧ RelV (.str lettersS) u := ⟨_, PySem.W.mg_of X G g_LETTERS, _, rfl⟩
  have gPt : ∃ u, mg "PATTERN_SIGNS" = some u ∧ RelV (.str patternS) u := ⟨_, PySem.W.mg_of X G g_PATTERN_SIGNS, _, rfl⟩
  have gW : ∃ u, mg "LONGEST_WORD" = some u ∧ RelV (.int 8) u := ⟨_, PySem.W.mg_of X G g_LONGEST_WORD, _, rfl⟩
  have gN : ∃ u, mg "MOST_NAMES" = some u ∧ RelV (.int 6) u := ⟨_, PySem.W.mg_of X G g_MOST_NAMES, _, rfl⟩
  have gB : ∃ u, mg "MOST_BOXES" = some u ∧ RelV (.int 6) u := ⟨_, PySem.W.mg_of X G g_MOST_BOXES, _, rfl⟩
  have TH : HouC K C := ⟨⟨pg, hd, po, sa⟩, x1, x2, x3⟩
  have TS : SupC l.prog K mg CI fI (ksFn "__init__" "InvalidHouse.__init__" (defArgs stInvH) (defBody stInvH) (defScope stInvH) .none kVI dcI pmI anI (.ref cda) ctI cc) "InvalidHouse.__init__" stInvH "part" :=
    ⟨⟨ocI, odI, slI, kVI, dcI, pmI, ctI, anI, cda, cc, rfl, fI3, fI4, ⟨cclI, cddI, vsI, ccsI, fileI, tfI, fI5, fI6, fI7⟩, clI, cldI, cslI, fI8⟩, ⟨cdI, e1⟩, e2, e3, e4, e5, n_super, e6, ⟨⟨nmE, qE, NE, bsE, bmE, snE, subE, abE, colE, ddE, q0, q1, q2, q3, q5, e7, e8⟩, e9, e10, e11, e12⟩, e13⟩
  have bI : Binds K (ksFn "__init__" "InvalidHouse.__init__" (defArgs stInvH) (defBody stInvH) (defScope stInvH) .none kVI dcI pmI anI (.ref cda) ctI cc) ["self", "part"] [] := .all fun us hl => match us, hl with | [_, _], _ => rfl
  have KK : Kinds K mg CI CP := ⟨⟨e15, e16, e10, e17, e18, w2, w3, e19⟩, ⟨e15, e16, e10, e17⟩, e13, e14, PySem.W.mg_of X G aP, e20⟩
  have kI : KindsI K mg CI := ⟨⟨CI, ⟨_, PySem.W.mg_of X G aI, rfl⟩, y0⟩, ⟨k0C, ⟨_, PySem.W.mg_of X G m0, rfl⟩, y1⟩, ⟨k1C, ⟨_, PySem.W.mg_of X G m1, rfl⟩, y2⟩, ⟨k2C, ⟨_, PySem.W.mg_of X G m2, rfl⟩, y3⟩, ⟨k3C, ⟨_, PySem.W.mg_of X G m3, rfl⟩, y4⟩, ⟨k4C, ⟨_, PySem.W.mg_of X G m4, rfl⟩, y5⟩, ⟨k5C, ⟨_, PySem.W.mg_of X G m5, rfl⟩, y6⟩, ⟨k6C, ⟨_, PySem.W.mg_of X G m6, rfl⟩, y7⟩, ⟨k7C, ⟨_, PySem.W.mg_of X G m7, rfl⟩, y8⟩, ⟨k8C, ⟨_, PySem.W.mg_of X G m8, rfl⟩, y9⟩, ⟨k9C, ⟨_, PySem.W.mg_of X G m9, rfl⟩, y10⟩, ⟨k10C, ⟨_, PySem.W.mg_of X G m10, rfl⟩, y11⟩, e21⟩
  have CD : PySem.W.CodeHd h cL PL := ⟨_, vsC, fileC, tfC, flC, tgC, inC, txC, ttC, X _ _ lC, rfl, rfl, v11, getD_of v11, getD_of v18, getD_of v7, getD_of v9, getD_of v10, cneP⟩
  have ePL : h.get? PL = some { cls := .none, data := .fields #[] } := own cL PL _ _ _ _ vsC _ lL rfl rfl lC v11
  refine ⟨PySem.W.fnOf "law" "law" (C8.fnArgs stLaw) (C8.fnBody stLaw) (C8.fnScope stLaw) .none kVL dcL pmL anL (.ref cL) ctL, [(cL, PL)], spLaw2 K [(PL, "law.<locals>.<lambda>")], fun p hp => ?_, fun p hp => ?_, fun p hp => ?_, fun s v => .of_eq rfl, fun H a ns hl _ hH hS => ⟨a, ns, rfl, hS, hl, fun p hp => ?_, fun _ => rfl⟩, fun base KB GB hTB => fn_frz ?_⟩
  · rw [List.mem_singleton.mp hp]
    exact ePL
  · rw [List.mem_singleton.mp hp]
    exact nP
  · rw [List.mem_singleton.mp hp]
    exact CD
  · rw [List.mem_singleton.mp hp]
    exact LamX.TabS.nil (hH (cL, PL) (List.mem_singleton.mpr rfl))
  · have TBl := hTB (cL, PL) (List.mem_singleton.mpr rfl)
    have C0 : Cal l.prog w K mg base 1 "consists_of" spConsists [] := cal_consists F0 b0 n_len n_isinstance n_str n_all gW
    have C1 : Cal l.prog w K mg base 2 "is_word" (spText lettersS) [] := cal_word F1 b1 gL C0
    have C2 : Cal l.prog w K mg base 2 "is_pattern" (spText patternS) [] := cal_pattern F2 b2 gPt C0
    have CN : Cal l.prog w K mg base 1 "is_number" spNumber [] := cal_number F15 b15 n_isinstance n_int n_bool
    have C3 : Cal l.prog w K mg base 2 "is_box" spBox [] := cal_box F3 b3 CN
    have C4 : Cal l.prog w K mg base 3 "are_names" spNames [] := cal_names F4 b4 n_len n_isinstance n_tuple n_all n_range gN C1
    have C5 : Cal l.prog w K mg base 3 "are_plates" spPlates [] := cal_plates F5 b5 n_len n_isinstance n_tuple n_all gB C2
    have C6 : Cal l.prog w K mg base 3 "is_manner" spManner [] := cal_manner F6 b6 n_len n_isinstance n_tuple n_all C3
    have C7 : Cal l.prog w K mg base 4 "are_manners" spManners [] := cal_manners F7 b7 n_len n_isinstance n_dict n_all C6
    have Q8 : Cal l.prog w K mg base 1 "_law_taken" (spTaken K) [] := cal_taken F8 b8 n_int n_len
    have C9 : Cal l.prog w K mg base 2 "_law_pick" (spPick K) [] := cal_pick F9 b9 n_len Q8
    have C10 : Cal l.prog w K mg base 2 "_law_mixed" (spMixed K) [] := cal_mixed F10 b10 n_len n_list Q8
    have C12 : Cal l.prog w K mg base 3 "_law_scheme" (spScheme K) [] := cal_scheme F12 b12 n_len n_list n_tuple n_range n_min n_sorted Q8 C9 C10
    have FH : FnOk l.prog w K mg base (L2.CX l.prog w) 5 f20 _ ["self", "names", "plates", "manners"] (spHInit C CI) := ok_hinit F20 TH TS fI1 fI2 bI (PySem.W.mg_of X G aI) n_len C4 C5 C7
    have MkH : Mk K C f20 := ⟨mk, a20, i20, kc⟩
    have mgH := PySem.W.mg_of X G aC
    have C13 : Cal l.prog w K mg base 7 "_law_built" (spBuilt C) [] := cal_built F13 b13 n_dict MkH mgH b20 FH
    have C14 : Cal l.prog w K mg base 3 "_law_bad" (spBad K) [] := cal_bad F14 b14 n_dict Q8 C9
    have iC : C8.InsC K C := ⟨TH.cl, w1, w2, w3, w4, w5⟩
    have HF : HouF l.prog w K mg base C CI := ⟨TH, mgH, ⟨p30, f30, _, ⟨a30, s30, t30, rest30, r30⟩, ok_names F30 TH, b30⟩, ⟨p31, f31, _, ⟨a31, s31, t31, rest31, r31⟩, ok_plates F31 TH, b31⟩, ⟨p32, f32, _, ⟨a32, s32, t32, rest32, r32⟩, ok_mnrs F32 TH n_dict, b32⟩,
      ⟨f21, _, a21, i21, ok_hlen F21 TH n_len, b21⟩, ⟨f22, _, a22, i22, ok_heq F22 TH iC n_isinstance ⟨_, mgH, rfl⟩, b22⟩, ne, ob, ⟨f20, _, MkH, FH, b20⟩⟩
    exact ok_law lL cLc TBl n_len n_dict n_list n_range n_isinstance n_ValueError HF KK kI F11 b11 Q8 C12 C13 C14
end

end Lp
open PySem PySem.W PyProof.Rows
set_option maxRecDepth 100000 in
set_option maxHeartbeats 0 in
theorem PySem.Challenge.cw_lostplates_k01_houses_validated_holds : PySem.Challenge.rw_lostplates_k01_houses_validated.Holds := by
  w_on; o_law; k_head; (case hw => w_witness2)
  k_fill
  refine LamX.walk_ofOwn (l := PySem.Challenge.rw_lostplates_k01_houses_validated) (n := 63) (k := 9) (x := "_law_script") (CX := fun _ => C8.CX0) rfl (by decide) rfl ⟨rfl, by decide, by decide⟩ ?hrec (fun w h Y => PySem.W.km_in_of Y) ?F (fun _ _ _ _ _ z => z)
  case hrec => decide +kernel
  case F =>
    intro w mg fa h Y KX G hmg own
    refine' Lp.all_mk KX G hmg own ?a0 ?l0 ?c0 ?k0 ?a1 ?l1 ?c1 ?k1 ?a2 ?l2 ?c2 ?k2 ?a3 ?l3 ?c3 ?k3 ?a4 ?l4 ?c4 ?k4 ?a5 ?l5 ?c5 ?k5 ?a6 ?l6 ?c6 ?k6 ?a7 ?l7 ?c7 ?k7 ?a8 ?l8 ?c8 ?k8 ?a9 ?l9 ?c9 ?k9 ?a10 ?l10 ?c10 ?k10 ?a11 ?l11 ?c11 ?k11 ?a12 ?l12 ?c12 ?k12 ?a13 ?l13 ?c13 ?k13 ?a14 ?l14 ?c14 ?k14 ?a15 ?l15 ?c15 ?k15 ?z_len ?z_isinstance ?z_str ?z_all ?z_int ?z_bool ?z_tuple ?z_range ?z_dict ?z_list ?z_min ?z_sorted ?z_ValueError ?z_super ?g_LETTERS ?g_PATTERN_SIGNS ?g_LONGEST_WORD ?g_MOST_NAMES ?g_MOST_BOXES ?aC ?a20 ?i20 ?l20 ?c20 ?k20 ?a21 ?i21 ?l21 ?c21 ?k21 ?a22 ?i22 ?l22 ?c22 ?k22 ?a30 ?s30 ?t30 ?r30 ?l30 ?c30 ?k30 ?a31 ?s31 ?t31 ?r31 ?l31 ?c31 ?k31 ?a32 ?s32 ?t32 ?r32 ?l32 ?c32 ?k32 ?pg ?hd ?po ?sa ?mk ?kc ?x1 ?x2 ?x3 ?w1 ?w2 ?w3 ?w4 ?w5 ?ne ?ob ?aI ?aP ?fI1 ?fI2 ?fI3 ?fI4 ?fI5 ?fI6 ?fI7 ?fI8 ?e1 ?e2 ?e3 ?e4 ?e5 ?e6 ?e7 ?e8 ?e9 ?e10 ?e11 ?e12 ?e13 ?e14 ?e15 ?e16 ?e17 ?e18 ?e19 ?e20 ?e21 ?y0 ?m0 ?y1 ?m1 ?y2 ?m2 ?y3 ?m3 ?y4 ?m4 ?y5 ?m5 ?y6 ?m6 ?y7 ?m7 ?y8 ?m8 ?y9 ?m9 ?y10 ?m10 ?y11 ?aL ?lL ?cLc ?lC ?v11 ?v18 ?v7 ?v9 ?v10 ?cneP ?nP
    (case a0 => k_is)
    (case l0 => k_is)
    (case c0 => k_is)
    (case k0 => k_is)
    (case a1 => k_is)
    (case l1 => k_is)
    (case c1 => k_is)
    (case k1 => k_is)
    (case a2 => k_is)
    (case l2 => k_is)
    (case c2 => k_is)
    (case k2 => k_is)
    (case a3 => k_is)
    (case l3 => k_is)
    (case c3 => k_is)
    (case k3 => k_is)
    (case a4 => k_is)
    (case l4 => k_is)
    (case c4 => k_is)
    (case k4 => k_is)
    (case a5 => k_is)
    (case l5 => k_is)
    (case c5 => k_is)
    (case k5 => k_is)
    (case a6 => k_is)
    (case l6 => k_is)
    (case c6 => k_is)
    (case k6 => k_is)
    (case a7 => k_is)
    (case l7 => k_is)
    (case c7 => k_is)
    (case k7 => k_is)
    (case a8 => k_is)
    (case l8 => k_is)
    (case c8 => k_is)
    (case k8 => k_is)
    (case a9 => k_is)
    (case l9 => k_is)
    (case c9 => k_is)
    (case k9 => k_is)
    (case a10 => k_is)
    (case l10 => k_is)
    (case c10 => k_is)
    (case k10 => k_is)
    (case a11 => k_is)
    (case l11 => k_is)
    (case c11 => k_is)
    (case k11 => k_is)
    (case a12 => k_is)
    (case l12 => k_is)
    (case c12 => k_is)
    (case k12 => k_is)
    (case a13 => k_is)
    (case l13 => k_is)
    (case c13 => k_is)
    (case k13 => k_is)
    (case a14 => k_is)
    (case l14 => k_is)
    (case c14 => k_is)
    (case k14 => k_is)
    (case a15 => k_is)
    (case l15 => k_is)
    (case c15 => k_is)
    (case k15 => k_is)
    (case z_len => k_is)
    (case z_isinstance => k_is)
    (case z_str => k_is)
    (case z_all => k_is)
    (case z_int => k_is)
    (case z_bool => k_is)
    (case z_tuple => k_is)
    (case z_range => k_is)
    (case z_dict => k_is)
    (case z_list => k_is)
    (case z_min => k_is)
    (case z_sorted => k_is)
    (case z_ValueError => k_is)
    (case z_super => k_is)
    (case g_LETTERS => k_is)
    (case g_PATTERN_SIGNS => k_is)
    (case g_LONGEST_WORD => k_is)
    (case g_MOST_NAMES => k_is)
    (case g_MOST_BOXES => k_is)
    (case aC => k_is)
    (case a20 => k_is)
    (case i20 => k_is)
    (case l20 => k_is)
    (case c20 => k_is)
    (case k20 => k_is)
    (case a21 => k_is)
    (case i21 => k_is)
    (case l21 => k_is)
    (case c21 => k_is)
    (case k21 => k_is)
    (case a22 => k_is)
    (case i22 => k_is)
    (case l22 => k_is)
    (case c22 => k_is)
    (case k22 => k_is)
    (case a30 => k_is)
    (case s30 => k_is)
    (case t30 => k_is)
    (case r30 => k_is)
    (case l30 => k_is)
    (case c30 => k_is)
    (case k30 => k_is)
    (case a31 => k_is)
    (case s31 => k_is)
    (case t31 => k_is)
    (case r31 => k_is)
    (case l31 => k_is)
    (case c31 => k_is)
    (case k31 => k_is)
    (case a32 => k_is)
    (case s32 => k_is)
    (case t32 => k_is)
    (case r32 => k_is)
    (case l32 => k_is)
    (case c32 => k_is)
    (case k32 => k_is)
    (case pg => k_is)
    (case hd => k_is)
    (case po => k_is)
    (case sa => k_is)
    (case mk => k_is)
    (case kc => k_is)
    (case x1 => k_is)
    (case x2 => k_is)
    (case x3 => k_is)
    (case w1 => k_is)
    (case w2 => k_is)
    (case w3 => k_is)
    (case w4 => k_is)
    (case w5 => first | kernel_rfl | rfl | decide +kernel)
    (case ne => k_is)
    (case ob => k_is)
    (case aI => k_is)
    (case aP => k_is)
    (case fI1 => k_is)
    (case fI2 => k_is)
    (case fI3 => k_is)
    (case fI4 => k_is)
    (case fI5 => k_is)
    (case fI6 => first | k_is | rfl | decide +kernel)
    (case fI7 => first | k_is | rfl | decide +kernel)
    (case fI8 => k_is)
    (case e1 => k_is)
    (case e2 => first | kernel_rfl | rfl | decide +kernel)
    (case e3 => k_is)
    (case e4 => k_is)
    (case e5 => k_is)
    (case e6 => first | k_is | rfl | decide +kernel)
    (case e7 => k_is)
    (case e8 => first | k_is | rfl | decide +kernel)
    (case e9 => k_is)
    (case e10 => k_is)
    (case e11 => k_is)
    (case e12 => k_is)
    (case e13 => k_is)
    (case e14 => k_is)
    (case e15 => k_is)
    (case e16 => k_is)
    (case e17 => k_is)
    (case e18 => k_is)
    (case e19 => k_is)
    (case e20 => first | kernel_rfl | rfl | decide +kernel)
    (case e21 => first | kernel_rfl | rfl | decide +kernel)
    (case y0 => first | kernel_rfl | rfl | decide +kernel)
    (case m0 => k_is)
    (case y1 => first | kernel_rfl | rfl | decide +kernel)
    (case m1 => k_is)
    (case y2 => first | kernel_rfl | rfl | decide +kernel)
    (case m2 => k_is)
    (case y3 => first | kernel_rfl | rfl | decide +kernel)
    (case m3 => k_is)
    (case y4 => first | kernel_rfl | rfl | decide +kernel)
    (case m4 => k_is)
    (case y5 => first | kernel_rfl | rfl | decide +kernel)
    (case m5 => k_is)
    (case y6 => first | kernel_rfl | rfl | decide +kernel)
    (case m6 => k_is)
    (case y7 => first | kernel_rfl | rfl | decide +kernel)
    (case m7 => k_is)
    (case y8 => first | kernel_rfl | rfl | decide +kernel)
    (case m8 => k_is)
    (case y9 => first | kernel_rfl | rfl | decide +kernel)
    (case m9 => k_is)
    (case y10 => first | kernel_rfl | rfl | decide +kernel)
    (case m10 => k_is)
    (case y11 => first | kernel_rfl | rfl | decide +kernel)
    (case aL => k_is)
    (case lL => k_is)
    (case cLc => k_is)
    (case lC => k_is)
    (case v11 => first | k_is | rfl | decide +kernel)
    (case v18 => first | k_is | rfl | decide +kernel)
    (case v7 => first | k_is | rfl | decide +kernel)
    (case v9 => first | k_is | rfl | decide +kernel)
    (case v10 => first | k_is | rfl | decide +kernel)
    (case cneP => first | k_is | rfl | decide +kernel)
    (case nP => first | kernel_rfl | rfl | decide +kernel)
