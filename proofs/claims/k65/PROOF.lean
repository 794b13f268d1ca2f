import PyProof.Rows.All
import Wide.All
import OpenK.AllK
import Wide.FinOn
import HandS.Base
import HandS.Call
import HandS.List
import HandS.Comp
import HandS.Ends
import HandS.Dict
import HandS.Iter
import HandS.Text
import HandS.Words
import HandS.IsInst
import HandS.TupAny
import HandS.Exc
import HandS.ExcIs
import HandS.ExcInit
import HandS.ExcField
import HandS.ExcOwn
import HandS.ExcValue
import HandS.WordsExc
import KE.KExcIs
import KE.KDflt
import HandS.Lambda
import HandS.EndTab
import HandS.EndOwn
import KE.KNestM
import HandS.Zip
import HandS.Walk
import HandS.Conv
import HandS.Small
import HandS.Iter
import KE.GoesMore
import HandS.Sort
import HandS.SortKw
import HandS.More
import HandS.RevTup
import HandS.Rev
import HandS.WideBits
import HandS.Wide
import HandS.Style
import PyProof.StrOps2
import HandS.MakeKwOnly
import HandS.MakeKw
import KE.GoesZip
import KE.GoesEnum
import HandS.OwnEq
import PyProof.InstNe
import HandS.TupMul
import HandS.SetFor
import HandS.SortInts
import HandS.TryOnly
import HandS.Star
import PySem.Challenge.RW_ropesays_k65_images_and_closed_tangles
set_option Elab.async false
set_option linter.all false
set_option maxRecDepth 100000
set_option maxHeartbeats 4000000
namespace Rp
open PySem PySem.Spec PyProof.Rows L2

/-! ### readings, a step each -/
section
variable {t u : TS} {D : Ends} {σ : L2.St} {H : Hp} {Q : VK} {v x y : V} {ta tb te : TE} {r : R2} {i j : Int} {g : Int → Int → V} {tt tt' : TT} {tl tr : TA}
theorem r_start {N : List Str} {vs : List V} {l : L2.St} (e : L2.start N vs = l) (h : t D l H) : t D (L2.start N vs) H := e ▸ h
theorem r_seq (h : t { D with nx := u D } σ H) : tSeq t u D σ H := h
/-- the ways meet: M -/
theorem r_cut (M : L2.St → Hp → Prop) (hu : ∀ σ H, M σ H → u D σ H) (h : (∀ σ H, M σ H → u D σ H) → t { D with nx := u D } σ H) : tSeq t u D σ H := h hu
theorem r_next (h : D.nx σ H) : tNext D σ H := h
theorem r_drop (h : te σ H fun _ H1 => D.nx σ H1) : tDrop te D σ H := h
theorem r_var {k : Nat} (h : σ[k]? = some (some v)) (q : Q v H) : tVar k σ H Q := ⟨v, h, q⟩
theorem r_varE {k : Nat} (h : ∃ v, σ[k]? = some (some v) ∧ Q v H) : tVar k σ H Q := h
theorem r_c (q : Q v H) : tC v σ H Q := q
theorem r_op (h : ta σ H fun x H1 => tb σ H1 fun y H2 => r x y H2 Q) : tOp r ta tb σ H Q := h
theorem r_I0 (q : Q (g i j) H) : rI0 g (.int i) (.int j) H Q := ⟨i, j, rfl, rfl, q⟩
theorem r_I {C : Int → Int → Prop} (c : C i j) (q : Q (g i j) H) : rI C g (.int i) (.int j) H Q := ⟨i, j, rfl, rfl, c, q⟩
theorem r_test {Q : Bool → Hp → Prop} (h : te σ H fun x H' => ∃ k, x = .bl k ∧ Q k H') : tTest te σ H Q := h
theorem r_tb {Q : Bool → Hp → Prop} (h : te σ H fun x H' => ∃ k, x = .bl k ∧ Q k H') : tB te σ H Q := h
theorem r_bl {k : Bool} {P : Bool → Prop} (q : P k) : ∃ k', V.bl k = .bl k' ∧ P k' := ⟨k, rfl, q⟩
theorem r_if (h : tt σ H fun b H1 => if b = true then t D σ H1 else u D σ H1) : tIfS tt t u D σ H := h
theorem r_not {Q : Bool → Hp → Prop} (h : tt σ H fun c H1 => Q (!c) H1) : tNot tt σ H Q := h
theorem r_and {Q : Bool → Hp → Prop} (h : tt σ H fun c H1 => if c = true then tt' σ H1 Q else Q false H1) : tAnd tt tt' σ H Q := h
theorem r_or {Q : Bool → Hp → Prop} (h : tt σ H fun c H1 => if c = true then Q true H1 else tt' σ H1 Q) : tOr tt tt' σ H Q := h
theorem r_andV (h : ta σ H fun x H1 => ∃ c, x = .bl c ∧ if c = true then tb σ H1 Q else Q (.bl false) H1) : tAndV ta tb σ H Q := h
theorem r_orV (h : ta σ H fun x H1 => ∃ c, x = .bl c ∧ if c = true then Q (.bl true) H1 else tb σ H1 Q) : tOrV ta tb σ H Q := h
theorem r_notV (h : ta σ H fun x H1 => ∃ c, x = .bl c ∧ Q (.bl (!c)) H1) : tNotV ta σ H Q := h
theorem r_ifx (h : tt σ H fun c H1 => if c = true then ta σ H1 Q else tb σ H1 Q) : tIf tt ta tb σ H Q := h
theorem r_asg {g : TG} (h : te σ H fun x H1 => g x σ H1 D.nx) : tAsg te g D σ H := h
theorem r_gname {k : Nat} {Q : L2.St → Hp → Prop} (h : Q (List.set σ k (some v)) H) : gName k v σ H Q := h
theorem r_gsub {to ti : TE} {ts : TSet} {Q : L2.St → Hp → Prop} (h : to σ H fun o H1 => ti σ H1 fun i H2 => ts o i v H2 fun H3 => Q σ H3) : gSub to ti ts v σ H Q := h
theorem r_ret (h : te σ H D.rt) : tRet te D σ H := h
theorem r_cb {r : List V → Hp → VK → Prop} (h : tl σ H fun vs H1 => r vs H1 Q) : tCB r tl σ H Q := h
theorem r_cons {Q : List V → Hp → Prop} (h : ta σ H fun x H1 => tr σ H1 fun xs H2 => Q (x :: xs) H2) : tCons ta tr σ H Q := h
theorem r_nil {Q : List V → Hp → Prop} (h : Q [] H) : tNil σ H Q := h
theorem r_ixL {K : PySem.W.Frag} {p : Addr} {xs : List V} (hs : SqL K H p xs) (ha : atI xs i = some v) (q : Q v H) : rIxL K (.ref p) (.int i) H Q := ⟨p, xs, i, v, rfl, rfl, hs, ha, q⟩
theorem r_setL {p : Addr} {xs : List V} {k : Nat} {Q : Hp → Prop} (hs : H p = some (.lst xs)) (hi : ixN xs.length i = some k) (q : Q (upd H p (.lst (xs.set k v)))) : rSetL (.ref p) (.int i) v H Q := ⟨p, xs, i, k, rfl, rfl, hs, hi, q⟩
theorem r_sl {r : V → Option Int → Option Int → Hp → VK → Prop} {tlo thi : TO} (h : te σ H fun x H1 => tlo σ H1 fun l H2 => thi σ H2 fun u H3 => r x l u H3 Q) : tSl r te tlo thi σ H Q := h
theorem r_pnone {Q : Option Int → Hp → Prop} (h : Q none H) : tNoPart σ H Q := h
theorem r_pint {Q : Option Int → Hp → Prop} (h : te σ H fun x H1 => ∃ i, x = .int i ∧ Q (some i) H1) : tPart te σ H Q := h
theorem r_un {ru : V → Hp → VK → Prop} (h : ta σ H fun x H1 => ru x H1 Q) : tUn ru ta σ H Q := h
theorem r_lst (h : tl σ H fun xs H1 => xs.length ≤ sizeLine ∧ ∀ p, H1 p = none → Q (.ref p) (upd H1 p (.lst xs))) : tLst tl σ H Q := h
theorem r_tup (h : tl σ H fun xs H1 => xs.length ≤ sizeLine ∧ ∀ p, H1 p = none → Q (.ref p) (upd H1 p (.tup xs))) : tTup tl σ H Q := h
theorem len_ok {n : Nat} (h : Nat.ble n sizeLine = true) : n ≤ sizeLine := Nat.le_of_ble_eq_true h
theorem r_lc {wi : TI} {g : TG} {vs : List Nat} (h : wi σ H fun J G => ∀ L, G L = none → ∃ M : Nat → Nat → Hp → Prop, (∃ n, M 0 n (upd G L (.lst []))) ∧ ∀ k n G, M k n G →
    (J.stop k G ∧ Q (.ref L) G) ∨ (J.go k G ∧ ∃ Z : Hp → Prop, (∀ G', Z G' → ∃ n', n' < n ∧ M (k + 1) n' G') ∧
      ∀ e G', J.yld k G e G' → g e (wipe σ vs) G' fun τ G2 => wipe τ vs = wipe σ vs ∧ tt τ G2 fun b G3 =>
        if b = true then te τ G3 fun y G4 => ∃ ac, G4 L = some (.lst ac) ∧ ac.length < sizeLine ∧ Z (upd G4 L (.lst (ac ++ [y]))) else Z G3)) : tLc wi g tt te vs σ H Q := h
theorem r_ilist {K : PySem.W.Frag} {R : It → Hp → Prop} (h : te σ H fun x G => ∃ a, x = .ref a ∧ (∃ xs, SqL K G a xs) ∧ R (Itl K a) G) : iList K te σ H R := h
theorem r_itup {K : PySem.W.Frag} {R : It → Hp → Prop} (h : te σ H fun x G => ∃ a, x = .ref a ∧ (∃ xs, SqT K G a xs) ∧ R (Itt K a) G) : iTup K te σ H R := h
theorem r_irng1 {R : It → Hp → Prop} (h : tl σ H fun vs G => ∃ j : Int, vs = [.int j] ∧ -(2 ^ 62) ≤ j ∧ j < 2 ^ 62 ∧ R (Itr 0 j.toNat) G) : iRng1 tl σ H R := h
theorem r_irng2 {R : It → Hp → Prop} (h : tl σ H fun vs G => ∃ i j : Int, vs = [.int i, .int j] ∧ (-(2 ^ 62) ≤ i ∧ i < 2 ^ 62 ∧ -(2 ^ 62) ≤ j ∧ j < 2 ^ 62) ∧ R (Itr i (j - i).toNat) G) : iRng2 tl σ H R := h
theorem r_for {wi : TI} {g : TG} {tb : TS} (h : wi σ H fun J G => ∃ M : Nat → Nat → L2.St → Hp → Prop, (∃ n, M 0 n σ G) ∧ ∀ k n τ G, M k n τ G →
    (J.stop k G ∧ D.nx τ G) ∨ (J.go k G ∧ ∃ Z : L2.St → Hp → Prop, (∀ τ' G', Z τ' G' → ∃ n', n' < n ∧ M (k + 1) n' τ' G') ∧
      ∀ e G', J.yld k G e G' → g e τ G' fun τ2 G2 => tb { D with nx := Z, ct := Z, bk := D.nx } τ2 G2)) : tFor wi g tb D σ H := h
theorem r_par {m n : Nat} (h : tl σ H fun vs G => ∃ v w, vs = [v, w] ∧ D.nx ((σ.set m (some v)).set n (some w)) G) : tPar m n tl D σ H := h
theorem r_isN (q : Q (.bl (decide (x = .non))) H) : (fun (x y : V) (H : Hp) (Q : VK) => y = .non ∧ Q (.bl (decide (x = .non))) H) x .non H Q := ⟨rfl, q⟩
theorem r_notN (q : Q (.bl (!decide (x = .non))) H) : (fun (x y : V) (H : Hp) (Q : VK) => y = .non ∧ Q (.bl (!decide (x = .non))) H) x .non H Q := ⟨rfl, q⟩
theorem r_call {sp : Sp} {dvs : List V} {E : XK} (h : tl σ H fun vs H1 => sp (vs ++ dvs) H1 Q E) : tCall sp dvs E tl σ H Q := h
theorem r_yes {Q : Bool → Hp → Prop} (h : Q true H) : tYes σ H Q := h
theorem r_true {A B : Prop} (h : A) : if true = true then A else B := iteT h
theorem r_false {A B : Prop} (h : B) : if false = true then A else B := iteF h
theorem r_truen {A B : Prop} (h : B) : if (!true) = true then A else B := iteF h
theorem r_falsen {A B : Prop} (h : A) : if (!false) = true then A else B := iteT h
/-- int(x) -/
theorem r_int (q : Q (.int i) H) : (fun (xs : List V) (H : Hp) (Q : VK) => (∃ i, xs = [.int i] ∧ Q (.int i) H) ∨ ∃ k, xs = [.bl k] ∧ Q (.int (if k then 1 else 0)) H) [.int i] H Q := .inl ⟨i, rfl, q⟩
end
end Rp
namespace Rp
open PySem PySem.Spec PyProof.Rows L2
/-! ### what draws: a box [cells, laps, rest] at q, its cells at c -/
/-- all but what stands at q stays -/
def But (q : Addr) (H H' : Hp) : Prop := ∀ b o, b ≠ q → H b = some o → H' b = some o
theorem But.refl (q : Addr) (H : Hp) : But q H H := fun _ _ _ h => h
theorem But.trans {q : Addr} {H H1 H2 : Hp} (a : But q H H1) (b : But q H1 H2) : But q H H2 := fun c o n h => b c o n (a c o n h)
theorem But.upd {q : Addr} {H : Hp} (o : HO) : But q H (upd H q o) := fun b u n h => by rw [upd_ne n]; exact h
theorem But.upd2 {q : Addr} {H H' : Hp} (e : But q H H') (o : HO) : But q H (L2.upd H' q o) := fun b u n h => by rw [upd_ne n]; exact e b u n h
theorem But.neu {q : Addr} {H H' : Hp} (e : But q H H') {p : Addr} {o : HO} (h : H' p = none) (hq : H p = none ∨ True := .inr True.intro) : But q H (L2.upd H' p o) := fun b u n k => by
  have k' := e b u n k
  rw [upd_ne (ne_of_none k' h)]
  exact k'
structure Dr (q c : Addr) (ns : List Int) (lap : Nat) (H : Hp) : Prop where
  ne : c ≠ q
  box : ∃ rest : Int, H q = some (.lst [.ref c, .int (lap : Int), .int rest])
  cells : H c = some (.lst (ns.map V.int))
  len : ns.length ≤ 60
theorem Dr.neu {q c : Addr} {ns : List Int} {lap : Nat} {H : Hp} (d : Dr q c ns lap H) {p : Addr} {o : HO} (h : H p = none) : Dr q c ns lap (upd H p o) := by
  obtain ⟨ne, ⟨rest, b⟩, cl, ln⟩ := d
  exact ⟨ne, ⟨rest, by rw [upd_ne (ne_of_none b h)]; exact b⟩, by rw [upd_ne (ne_of_none cl h)]; exact cl, ln⟩
/-- a number is drawn -/
def spDraw : Sp := fun vs H Q _ => ∃ (q c : Addr) (ns : List Int) (lap : Nat) (many : Int), vs = [.ref q, .int many] ∧ 0 < many ∧ many < 1073741824 ∧ lap < 2 ^ 20 ∧ Dr q c ns lap H ∧
  ∀ (H' : Hp) (lap' : Nat) (r : Int), lap' ≤ lap + 1 → Dr q c ns lap' H' → But q H H' → 0 ≤ r → r < many → Q (.int r) H'
theorem at0 {a b c : V} : atI [a, b, c] 0 = some a := rfl
theorem at1 {a b c : V} : atI [a, b, c] 1 = some b := rfl
theorem at2 {a b c : V} : atI [a, b, c] 2 = some c := rfl
theorem box_at {q c : Addr} {ns : List Int} {lap : Nat} {H : Hp} {rest : Int} (ne : c ≠ q) (b : H q = some (.lst [.ref c, .int (lap : Int), .int rest])) (cl : H c = some (.lst (ns.map V.int))) (ln : ns.length ≤ 60) : Dr q c ns lap H := ⟨ne, ⟨rest, b⟩, cl, ln⟩
theorem fmod_in {i j : Int} (h : 0 < j) : 0 ≤ i.fmod j ∧ i.fmod j < j := by
  rw [Int.fmod_eq_emod_of_nonneg i (by omega)]
  exact ⟨Int.emod_nonneg _ (by omega), Int.emod_lt_of_pos _ h⟩
theorem fits3 {m a b c : Int} {lap : Nat} (h0 : 0 ≤ m) (h1 : m < 2147483648) (hl : lap < 2 ^ 20) (ha : 0 ≤ a) (ha' : a < 131072) (hb : 0 ≤ b) (hb' : b < 131072) (hc : 0 ≤ c) (hc' : c < 131072) :
    (m * (2 * (lap : Int) + a) + b * (lap : Int) * (lap : Int) + c).natAbs < 2 ^ 64 := by
  have l0 : (0 : Int) ≤ (lap : Int) := by omega
  have l1 : (lap : Int) ≤ 1048576 := by omega
  have e1 : 0 ≤ m * (2 * (lap : Int) + a) := Int.mul_nonneg h0 (by omega)
  have e2 : m * (2 * (lap : Int) + a) ≤ 2147483648 * 2228224 := Int.mul_le_mul (by omega) (by omega) (by omega) (by omega)
  have e3 : 0 ≤ b * (lap : Int) := Int.mul_nonneg hb l0
  have e4 : b * (lap : Int) ≤ 131072 * 1048576 := Int.mul_le_mul (by omega) l1 l0 (by omega)
  have e5 : 0 ≤ b * (lap : Int) * (lap : Int) := Int.mul_nonneg e3 l0
  have e6 : b * (lap : Int) * (lap : Int) ≤ (131072 * 1048576) * 1048576 := Int.mul_le_mul e4 l1 l0 (by omega)
  omega
theorem fits1 {m b : Int} {lap : Nat} (hb : 0 ≤ b) (hb' : b < 131072) (hl : lap < 2 ^ 20) : -(2 ^ 64) < b * (lap : Int) ∧ b * (lap : Int) < 2 ^ 64 := by
  have e3 : 0 ≤ b * (lap : Int) := Int.mul_nonneg hb (by omega)
  have e4 : b * (lap : Int) ≤ 131072 * 1048576 := Int.mul_le_mul (by omega) (by omega) (by omega) (by omega)
  omega
theorem dp_ints {K : PySem.W.Frag} {H : Hp} : ∀ (ns : List Int), DpAll K H (ns.map V.int) (ns.map PyData.int)
  | [] => .nil
  | n :: r => .cons (.int n) (dp_ints r)
theorem canLay_ints : ∀ (ns : List Int), PyData.canLayAll0 (ns.map PyData.int) = true
  | [] => by simp [PyData.canLayAll0]
  | n :: r => by simp [PyData.canLayAll0, PyData.canLay0, canLay_ints r]
theorem depth_ints : ∀ (ns : List Int), PyData.depthAll (ns.map PyData.int) = 0
  | [] => by simp [PyData.depthAll]
  | n :: r => by simp [PyData.depthAll, PyData.depth, depth_ints r]
theorem shaped_ints (ns : List Int) : SeqAt.shaped (.list (ns.map PyData.int)) = true := by
  simp [SeqAt.shaped, PyData.canLay0, PyData.depth, canLay_ints, depth_ints]
theorem eqv_nil_ints (ns : List Int) : PyData.eqv (.list (ns.map PyData.int)) (.list []) = ns.isEmpty := by
  cases ns <;> simp [PyData.eqv, PyData.eqvAll]
/-- an int list, compared with a new [] -/
theorem ne_nil {K : PySem.W.Frag} {H : Hp} {c p : Addr} {ns : List Int} {Q : VK} (hc : H c = some (.lst (ns.map V.int))) (hp : H p = some (.lst [])) (q : Q (.bl (!ns.isEmpty)) H) : rNeD K (.ref c) (.ref p) H Q :=
  ⟨_, _, .lst (SqL.of hc) (dp_ints ns), .lst (SqL.of hp) .nil, shaped_ints ns, (shaped_ints []), by rw [eqv_nil_ints]; exact q⟩
theorem map_len {ns : List Int} : (ns.map V.int).length = ns.length := List.length_map ..
theorem at_ints {ns : List Int} {k : Int} (h0 : 0 ≤ k) (h1 : k < (ns.length : Int)) : ∃ n, atI (ns.map V.int) k = some (.int n) := by
  obtain ⟨j, rfl⟩ : ∃ j : Nat, k = (j : Int) := ⟨k.toNat, by omega⟩
  have hk : j < ns.length := by omega
  refine ⟨ns[j], atI_nat ?_⟩
  rw [List.getElem?_map, List.getElem?_eq_getElem hk]
  rfl
/-- the box of cells is made -/
def spBox (K : PySem.W.Frag) : Sp := fun vs H Q _ => ∃ (a : Addr) (ns : List Int), vs = [.ref a] ∧ SqL K H a (ns.map V.int) ∧ ∀ (H' : Hp) (q c : Addr) (ns' : List Int), Dr q c ns' 0 H' → Same H H' → H q = none → Q (.ref q) H'
/-- one of some things -/
def spOf (K : PySem.W.Frag) : Sp := fun vs H Q _ => ∃ (q c a : Addr) (ns : List Int) (lap : Nat) (xs : List V), vs = [.ref q, .ref a] ∧ SqL K H a xs ∧ 0 < xs.length ∧ xs.length < 1000000 ∧ lap < 2 ^ 20 ∧ a ≠ q ∧ Dr q c ns lap H ∧
  ∀ (H' : Hp) (lap' : Nat) (i : Nat) (v : V), lap' ≤ lap + 1 → Dr q c ns lap' H' → But q H H' → xs[i]? = some v → Q v H'
theorem cut60 (ns : List Int) : ∃ ns' : List Int, cutV (ns.map V.int) none (some 60) = ns'.map V.int ∧ ns'.length ≤ 60 := by
  refine ⟨((ns.drop (HT.sIx (ns.map V.int).length 0 none)).take (HT.sIx (ns.map V.int).length (ns.map V.int).length (some 60) - HT.sIx (ns.map V.int).length 0 none)), ?_, ?_⟩
  · unfold cutV
    rw [List.map_take, List.map_drop]
  · refine Nat.le_trans (List.length_take_le _ _) ?_
    have e : (60 : Int) = ((60 : Nat) : Int) := rfl
    rw [e, HT.sIx_nat]
    omega
theorem same_neu {H H' : Hp} (e : Same H H') {p : Addr} {o : HO} (h : H' p = none) : Same H (upd H' p o) := fun b u k => by
  have k' := e b u k
  rw [upd_ne (ne_of_none k' h)]
  exact k'
theorem But.seq {K : PySem.W.Frag} {q : Addr} {H H' : Hp} {a : Addr} {xs : List V} (e : But q H H') (n : a ≠ q) (h : SqL K H a xs) : SqL K H' a xs := by
  rcases h with (h | ⟨o, h⟩) | h
  · exact .inl (.inl (e _ _ n h))
  · exact .inl (.inr ⟨o, e _ _ n h⟩)
  · exact .inr h
theorem at_some {xs : List V} {k : Int} (h0 : 0 ≤ k) (h1 : k < (xs.length : Int)) : ∃ (i : Nat) (v : V), atI xs k = some v ∧ xs[i]? = some v := by
  obtain ⟨j, rfl⟩ : ∃ j : Nat, k = (j : Int) := ⟨k.toNat, by omega⟩
  have hk : j < xs.length := by omega
  exact ⟨j, xs[j], atI_nat (List.getElem?_eq_getElem hk), List.getElem?_eq_getElem hk⟩
end Rp
namespace Rp
open PySem PySem.Spec PyProof.Rows L2
/-! ### defs that are called while no builtin of containers runs: what repr asks -/
/-- the def at f keeps the promise sp, called where nothing is being shown -/
structure FnG (P : Program) (w : World) (K : PySem.W.Frag) (mg : Str → Option Value) (base : Heap) (k : Nat) (f : Addr) (fd : FuncData) (ps : List Str) (sp : Sp) : Prop where
  arity : ∀ {vs H Q E}, sp vs H Q E → vs.length = ps.length
  go : ∀ {A : Around} {fr : List Env} {s : Shared} {H : Hp} {args : Args} {us : List Value} {vs : List V} {Q : VK} {E : XK}, A.guards = some [] → Room k A → Env0 P w K mg base A fr s H →
    BindsTo s fd args (ps.zip us) → Vals vs us → sp vs H Q E → codeAny (model P w) A (.call (.ref f) args) (CR CX0 fr P w H s Q E) s
section
variable {P : Program} {w : World} {K : PySem.W.Frag} {mg : Str → Option Value} {base : Heap} {k j : Nat} {f : Addr} {fd : FuncData} {ps : List Str} {sp : Sp}
theorem FnG.of (F : FnOk P w K mg base CX0 k f fd ps sp) : FnG P w K mg base k f fd ps sp := ⟨F.len _ _ _ _, fun _ r e b v q => F.run _ _ _ _ _ _ _ _ _ r e b v q⟩
theorem FnG.up (F : FnG P w K mg base j f fd ps sp) (h : j ≤ k) : FnG P w K mg base k f fd ps sp := ⟨F.arity, fun g r => F.go g (r.mono h)⟩
/-- the rule for a def -/
theorem fng {x qual : Str} {st : Stmt} {N : List Str} (F : Fun K x qual st f fd) (S : FnScope N ps (defScope st)) (ar : ∀ {vs H Q E}, sp vs H Q E → vs.length = ps.length)
    (body : ∀ {cdv : Value} {A : Around} {fr : List Env} {s : Shared} {H : Hp} {vs : List V} {Q : VK} {E : XK}, A.guards = some [] → Room k (A.deeper (envOfC qual (defScope st) s.heap.objs.size f cdv)) → sp vs H Q E →
      ∃ t, PSs (cxOf CX0 P w K mg base N qual (defScope st) f cdv A fr s H E).nox (defBody st) t ∧ t ⟨fun _ G => Q .non G, Q, fun _ _ => False, fun _ _ => False⟩ (L2.start N vs) H) : FnG P w K mg base (k + 1) f fd ps sp := by
  obtain ⟨oc, od, kV, dc, pm, an, cdv, ct, sl, e, look, code⟩ := F.ex
  subst e
  constructor
  · exact ar
  intro A fr s H args us vs Q E hg room env bind rel q
  have size := ar q
  have kin := env.mod.kin.keeps fun b o z => (env.bs b o z).1
  have nolim := env.mod.nolimit.keeps fun b o z => (env.bs b o z).1
  have knd : ∀ p ∈ ps.zip us, (defScope st).names.lookup p.1 = some .local ∨ ((defScope st).names.lookup p.1 = some .cell ∧ ((cellsFrom (s.heap.objs.size + 1) (defScope st).names []).lookup p.1).isSome = true) := by
    rintro ⟨n, v⟩ hp
    exact (S.par n (List.of_mem_zip hp).1).imp id fun z => ⟨z, PySem.W.cellsFrom_some _ _ _ (.inl z)⟩
  apply codeAny_call_function room.depth (kin _ _ look) rfl S.co S.gen rfl (PySem.W.codeRec_of kin code)
  apply bind
  apply wpAny_newFunctionEnv_cells S.kind knd
  intro en he s1 ic
  subst he
  refine ⟨nolim.keeps ic.toInCall.keep, codeAny_func ?_⟩
  obtain ⟨t, pt, rd⟩ := body (cdv := cdv) (fr := fr) (E := E) hg (room.deeper _) q
  have inv : Inv (cxOf CX0 P w K mg base N qual (defScope st) f cdv A fr s H E) [] (L2.start N vs) H s1 := inv_start S room.hd env size rel ic
  apply wpAny_mono (pt.nox.run [] s1 (L2.start N vs) H _ inv rd)
  · intro fl s2 hs
    cases fl with
    | ret u => obtain ⟨v, τ, G, J, r, z⟩ := hs; exact ⟨v, G, J.os, J.bare, J.base, J.hok, r, z⟩
    | next => obtain ⟨τ, G, J, z⟩ := hs; exact ⟨.non, G, J.os, J.bare, J.base, J.hok, rfl, z⟩
    | brk => obtain ⟨_, _, _, z⟩ := hs; exact z.elim
    | cont => obtain ⟨_, _, _, z⟩ := hs; exact z.elim
  · intro er s2 hs
    exact hs
end
section
variable {X : Cx} {k : Nat} {f : Addr} {fd : FuncData} {ps ks : List Str} {sp : Sp} {E : XK} {x : Str} {p pos : Pos} {e : Expr} {es : List Expr} {t tk : TA} {kws : List Keyword}
/-- what the callee does, from the caller's state -/
theorem goes {pins : List (Addr × Obj)} {σ : L2.St} {H : Hp} {s : Shared} {Q : VK} {args : Args} {us : List Value} {vs : List V} (F : FnG X.prog X.w X.K X.mg X.base k f fd ps sp) (g : X.A.guards = some []) (r : Room k X.A)
    (I : Inv X pins σ H s) (b : BindsTo s fd args (ps.zip us)) (rel : Vals vs us) (q : sp vs H Q E) : codeAny (model X.prog X.w) X.A (.call (.ref f) args) (fun a s2 => ∃ u, a = .ok (.ret u) ∧ EP X pins σ Q u s2) s := by
  apply codeAny_mono (F.go g r I.env0 b rel q)
  intro a s2 h
  rcases a with er | fl
  · exact h.elim
  · cases fl with
    | ret u => exact ⟨u, rfl, I.after h⟩
    | next => exact h.elim
    | brk => exact h.elim
    | cont => exact h.elim
theorem pe_callG (F : FnG X.prog X.w X.K X.mg X.base k f fd ps sp) (g : X.A.guards = some []) (r : Room k X.A) (hg : Gl X x) (hm : X.mg x = some (.ref f)) (hk : PySem.W.keepIn X.K (.ref f) = true) (hb : Binds X.K fd ps [])
    (ha : PA X (e :: es) t) (d1 : (x == ("__debug__" : Str)) = false := by decide) (d2 : starEach (e :: es) X.env = (false, eval e X.env) :: starEach es X.env := by rfl) (d3 : (backTo pos (starEach es X.env)).any (·.1) = false := by rfl) :
    PE X (.Call (.Name x p) (e :: es) [] pos) (fun σ H Q => t σ H fun vs G => sp vs G Q E) := by
  constructor
  intro pins s σ H Q I h
  apply wpAny_Call_Name_kw (ld_glob I hg hm ?_ d1)
  apply PySem.W.callWith_K (h₀ := X.base) I.ok.mod.kin hk ?_ d2 d3
  apply thn (ha.run pos pins s σ H _ I h)
  rintro us s1 ⟨vs, H1, I1, rel, q⟩
  refine ⟨I1.kIn, wpAny_call ?_⟩
  have n : (us ++ ([] : List Value)).length = ps.length := by
    rw [List.append_nil, ← rel.length]
    exact F.arity q
  have bb := hb s1 us I1.kIn n
  rw [List.append_nil] at bb
  apply codeAny_mono (goes F g r I1 bb rel q)
  rintro a s2 ⟨u, rfl, z⟩
  exact z
/-- how written keywords ks, behind n arguments by place, come to the parameters: parameter i is value number ix[i] -/
structure KBx (K : PySem.W.Frag) (fd : FuncData) (ps : List Str) (n : Nat) (ks : List Str) (ix : List Nat) : Prop where
  to : ∀ (s : Shared) (us ws : List Value), us.length = n → ws.length = ks.length → BindsTo s fd ⟨us, ks.zip ws⟩ (ps.zip (ix.map fun i => (us ++ ws).getD i .none))
theorem vals_ix {vs : List V} {us : List Value} (r : Vals vs us) : ∀ ix : List Nat, Vals (ix.map fun i => vs.getD i .non) (ix.map fun i => us.getD i .none)
  | [] => .nil
  | i :: l => by
    refine .cons ?_ (vals_ix r l)
    show L2.RelV (vs.getD i .non) (us.getD i .none)
    rw [List.getD_eq_getElem?_getD, List.getD_eq_getElem?_getD]
    cases h : vs[i]? with
    | none => rw [r.none_of h]; rfl
    | some v =>
      obtain ⟨u, hu, z⟩ := r.get h
      rw [hu]
      exact z
def tKw (sp : Sp) (n m : Nat) (ix : List Nat) (E : XK) (t tk : TA) : TE := fun σ H Q => t σ H fun vs G => tk σ G fun zs G2 => vs.length = n ∧ zs.length = m ∧ sp (ix.map fun i => (vs ++ zs).getD i .non) G2 Q E
theorem pe_callGK0 {ix : List Nat} (F : FnG X.prog X.w X.K X.mg X.base k f fd ps sp) (g : X.A.guards = some []) (r : Room k X.A) (hg : Gl X x) (hm : X.mg x = some (.ref f)) (hk : PySem.W.keepIn X.K (.ref f) = true) (hb : KBx X.K fd ps 0 ks ix)
    (hkw : PK X kws tk) (d4 : (backToKw pos (keywordEach kws X.env)).all (·.1.isSome) = true := by rfl) (d5 : (backToKw pos (keywordEach kws X.env)).filterMap (·.1) = ks := by rfl) (d1 : (x == ("__debug__" : Str)) = false := by decide)
    (d3 : (backToKw pos (keywordEach kws X.env)).any (·.1.isNone) = false := by rfl) :
    PE X (.Call (.Name x p) [] kws pos) (tKw sp 0 ks.length ix E L2.tNil tk) := by
  constructor
  intro pins s σ H Q I h
  apply wpAny_Call_Name_kw (ld_glob I hg hm ?_ d1)
  apply PySem.W.callWith_KW0 (h₀ := X.base) I.ok.mod.kin hk d4 ?_ d3
  apply thn (hkw.run pos pins s σ H _ I h)
  rintro ws s2 ⟨zs, H2, I2, rz, _, lz, q⟩
  refine ⟨I2.kIn, ?_⟩
  rw [d5]
  apply wpAny_call
  have lw : ws.length = ks.length := by rw [← rz.length]; exact lz
  apply codeAny_mono (goes F g r I2 (hb.to s2 [] ws rfl lw) (vals_ix (.append .nil rz) ix) q)
  rintro a s3 ⟨u, rfl, z⟩
  exact z
end
/-- sys.modules stands in the base -/
def HasMods (base : Heap) : Prop := ∃ mm, base.Ns sysModules mm
/-! ### the law's call, from its promise -/
theorem law_go {P : Program} {w : World} {K : PySem.W.Frag} {mg mb : Str → Option Value} {k : Nat} {fa a : Addr} {fd : FuncData} {x : Str} {sp : Sp} {s : Shared} {us : List Value} {ns : List Int}
    (kin : K.In s.heap) (gl : s.heap.Ns mainGlobals mg) (bl : s.heap.Ns builtinsNs mb) (boot : ∀ y : Str, y ≠ "__name__" → mb y = bootBuiltins y) (nolim : s.heap.NoLimit) (mods : HasMods s.heap) (gen : s.gens = #[])
    (ob : s.heap.get? a = some { cls := .type "list", data := .seq us.toArray }) (nums : IntsAre us ns) (size : ns.length ≤ sizeLine) (room : Room k callerA)
    (F : ∀ base : Heap, K.In base → base.Ns mainGlobals mg → HasMods base → FnG P w K mg base k fa fd [x] sp) (bind : ∀ (t : Shared) (u : Value), BindsTo t fd ⟨[u], []⟩ [(x, u)])
    (prom : ∀ H : Hp, SqL K H a (ns.map V.int) → sp [.ref a] H (fun v _ => v = .bl true) fun _ _ _ => False) :
    codeAny (model P w) callerA (.call (.ref fa) ⟨[.ref a], []⟩) (fun r t => r = .ok (.ret (.bool true)) ∧ OldK s.heap t.heap ∧ t.os = s.os ∧ AllBare t.gens) s := by
  have rel := vals_ints nums
  -- H tracks nothing, or the script alone, as the object that it is
  suffices main : ∀ H : Hp, SqL K H a (ns.map V.int) → HOk P w H s.heap → (∀ b u, H b = some u → b = a ∧ K.lookup a = none ∧ ∃ o y, u = .frz o y ∧ s.heap.get? b = some o) →
      codeAny (model P w) callerA (.call (.ref fa) ⟨[.ref a], []⟩) (fun r t => r = .ok (.ret (.bool true)) ∧ OldK s.heap t.heap ∧ t.os = s.os ∧ AllBare t.gens) s by
    by_cases hk : K.lookup a = none
    · let o : Obj := { cls := .type "list", data := .seq us.toArray }
      refine main (fun b => if b = a then some (.frz o (.lst (ns.map V.int))) else none) (.inl (.inr ⟨o, if_pos rfl⟩)) ?_ ?_
      · intro b u z
        by_cases h : b = a
        · subst h
          cases (if_pos rfl).symm.trans z
          exact ⟨ob, by rw [List.length_map]; exact size, us, _, rel, ob⟩
        · cases (if_neg h).symm.trans z
      · intro b u z
        by_cases h : b = a
        · subst h
          cases (if_pos rfl).symm.trans z
          exact ⟨rfl, hk, o, _, rfl, ob⟩
        · cases (if_neg h).symm.trans z
    · obtain ⟨o, ho⟩ := Option.ne_none_iff_exists'.mp hk
      have e := kin a o ho
      rw [ob] at e
      cases e
      exact main (fun _ => none) (.inr ⟨_, us.toArray, _, ho, rfl, rfl, rfl, by rw [List.size_toArray, nums.length]; exact size, by simpa using rel⟩) (fun b u z => nomatch z) fun b u z => nomatch z
  intro H seq hok only
  have hid : ∀ {b o}, s.heap.get? b = some o → H b = none → (hidT s.heap H).get? b = some o := fun e n => hidT_get e n
  have free : ∀ {b o} {es : Array DictEntry} {n : Nat}, s.heap.get? b = some o → o.data = .dict es n → H b = none := by
    intro b o es n e d
    cases z : H b with
    | none => rfl
    | some u =>
      obtain ⟨rfl, _⟩ := only b u z
      rw [ob] at e
      cases e
      cases d
  have names : ∀ {b} {m : Str → Option Value}, s.heap.Ns b m → (hidT s.heap H).Ns b m := by
    rintro b m ⟨o, es, n, e, d, z⟩
    exact ⟨o, es, n, hid e (free e d), d, z⟩
  have kin' : K.In (hidT s.heap H) := by
    intro b o e
    refine hid (kin b o e) ?_
    cases z : H b with
    | none => rfl
    | some u =>
      obtain ⟨rfl, n, _⟩ := only b u z
      rw [n] at e
      cases e
  obtain ⟨mc, l1, l2⟩ := nolim
  have mod : Mod K mg (hidT s.heap H) := ⟨kin', names gl, ⟨mb, names bl, boot⟩, ⟨mc, names l1, l2⟩⟩
  have env : Env0 P w K mg (hidT s.heap H) callerA [] s H := ⟨rfl, mod, fun b o e => of_hidT e, Nat.le_of_eq (hidT_size _ _), trivial, fun b h => absurd (show b ∈ ([] : List Addr) from h) (by simp), hok, .of_eq gen⟩
  apply codeAny_mono ((F _ kin' (names gl) (mods.imp fun _ z => names z)).go (us := [.ref a]) (vs := [.ref a]) rfl room env (bind s (.ref a)) (.cons rfl .nil) (prom H seq))
  intro r t h
  rcases r with er | fl
  · exact h.elim
  cases fl with
  | next => exact h.elim
  | brk => exact h.elim
  | cont => exact h.elim
  | ret u =>
    obtain ⟨v, G, os, bare, un, hok', rl, q⟩ := h
    cases (show v = .bl true from q)
    obtain rfl : u = Value.bool true := rl
    refine ⟨rfl, OldK.of_keep fun b o e => ?_, os, bare⟩
    cases z : H b with
    | none => exact un.keep b o e z (by intro m; exact absurd (show b ∈ ([] : List Addr) from m) (by simp)) (by simp)
    | some u =>
      obtain ⟨_, _, o', y, rfl, e'⟩ := only b u z
      rw [e] at e'
      cases e'
      exact (hok' b _ (un.frzs b o y z)).1
/-- what k_head leaves, from the law's promise -/
theorem walk_G {l : PySem.W.OpenLaw} {n k : Nat} {q : Program} {loose : List Str} {XP : (Str → Option Value) → Heap → Prop} {YP : World → Heap → Prop} {d : DefRec} {K : Params → PySem.W.Frag} {sp : PySem.W.Frag → Sp} {x : Str}
    (none : importsNone q = true) (hn : l.most = some n) (hn2 : n ≤ sizeLine) (hdf : d.params.defaults = []) (room : Room k callerA) (hY : ∀ (w : World) (h : Heap), YP w h → (K w.params).In h)
    (F : ∀ (w : World) (mg : Str → Option Value) (fa : Addr) (h : Heap), (K w.params).In h → h.Ns mainGlobals mg → mg d.name = some (.ref fa) →
      ∃ fd : FuncData, (∀ (t : Shared) (u : Value), BindsTo t fd ⟨[u], []⟩ [(x, u)]) ∧ ∀ base : Heap, (K w.params).In base → base.Ns mainGlobals mg → HasMods base → FnG l.prog w (K w.params) mg base k fa fd [x] (sp (K w.params)))
    (prom : ∀ (K : PySem.W.Frag) (H : Hp) (a : Addr) (ns : List Int), ns.length ≤ n → SqL K H a (ns.map V.int) → sp K [.ref a] H (fun v _ => v = .bl true) fun _ _ _ => False) :
    PySem.W.WalkO q loose XP YP l.row.toRowW d [] (fun f vs => PySem.call f vs) := by
  apply Att.attach_call hn hdf
  intro w s0 s1 mg mb fa o pm cd dc a us ns G Y _ _ _ hmg hobj nums hlen hg
  have md : HasMods s1.heap := let ⟨mm, z, _⟩ := (G.T.seer none).mods; ⟨mm, z⟩
  obtain ⟨fd, hb, hF⟩ := F w mg fa _ (hY w _ Y) G.T.g hmg
  exact law_go (hY w _ Y) G.T.g G.T.b G.T.builtins G.T.nolimit md hg hobj nums (Nat.le_trans hlen hn2) room hF hb fun H hS => prom _ H a ns hlen hS
/-- a def as its callers know it -/
structure Cal (P : Program) (w : World) (K : PySem.W.Frag) (mg : Str → Option Value) (base : Heap) (x : Str) (k : Nat) (f : Addr) (fd : FuncData) (ps : List Str) (sp : Sp) : Prop where
  G : FnG P w K mg base k f fd ps sp
  mgf : mg x = some (.ref f)
  kp : PySem.W.keepIn K (.ref f) = true
  b : Binds K fd ps []
/-- keywords come to the parameters -/
theorem kb_of {K : PySem.W.Frag} {x qual : Str} {st : Stmt} {f : Addr} {fd : FuncData} {ps ks : List Str} {n : Nat} {ix : List Nat} (F : Fun K x qual st f fd)
    (h : ∀ (kV dc pm : Value) (an : Option Addr) (cd ct : Value) (us ws : List Value), us.length = n → ws.length = ks.length → bindArgs (PySem.W.fnOf x qual (defArgs st) (defBody st) (defScope st) .none kV dc pm an cd ct) ⟨us, ks.zip ws⟩ = pure (ps.zip (ix.map fun i => (us ++ ws).getD i .none))) : KBx K fd ps n ks ix := by
  obtain ⟨oc, od, kV, dc, pm, an, cd, ct, sl, e, _, _⟩ := F.ex
  subst e
  exact ⟨fun s us ws l1 l2 => .of_eq (h kV dc pm an cd ct us ws l1 l2)⟩
def tGo (sp : Sp) (t : TA) : TE := fun σ H Q => t σ H fun vs G => sp vs G Q E0
theorem r_go {sp : Sp} {t : TA} {σ : L2.St} {H : Hp} {Q : VK} (h : t σ H fun vs G => sp vs G Q E0) : tGo sp t σ H Q := h
theorem r_kw {sp : Sp} {n m : Nat} {ix : List Nat} {E : XK} {t tk : TA} {σ : L2.St} {H : Hp} {Q : VK} (h : t σ H fun vs G => tk σ G fun zs G2 => vs.length = n ∧ zs.length = m ∧ sp (ix.map fun i => (vs ++ zs).getD i .non) G2 Q E) : tKw sp n m ix E t tk σ H Q := h
section
variable {X : Cx} {k : Nat} {f : Addr} {fd : FuncData} {ps ks : List Str} {sp : Sp} {x : Str} {p pos : Pos} {e : Expr} {es : List Expr} {t tk : TA} {kws : List Keyword}
theorem pe_go (c : Cal X.prog X.w X.K X.mg X.base x k f fd ps sp) (g : X.A.guards = some []) (r : Room k X.A) (hg : Gl X x) (ha : PA X (e :: es) t) (d1 : (x == ("__debug__" : Str)) = false := by decide)
    (d2 : starEach (e :: es) X.env = (false, eval e X.env) :: starEach es X.env := by rfl) (d3 : (backTo pos (starEach es X.env)).any (·.1) = false := by rfl) : PE X (.Call (.Name x p) (e :: es) [] pos) (tGo sp t) :=
  pe_callG (E := E0) c.G g r hg c.mgf c.kp c.b ha d1 d2 d3
theorem pe_kw0 {ix : List Nat} (c : Cal X.prog X.w X.K X.mg X.base x k f fd ps sp) (hb : KBx X.K fd ps 0 ks ix) (g : X.A.guards = some []) (r : Room k X.A) (hg : Gl X x) (hkw : PK X kws tk)
    (d4 : (backToKw pos (keywordEach kws X.env)).all (·.1.isSome) = true := by rfl) (d5 : (backToKw pos (keywordEach kws X.env)).filterMap (·.1) = ks := by rfl) (d1 : (x == ("__debug__" : Str)) = false := by decide)
    (d3 : (backToKw pos (keywordEach kws X.env)).any (·.1.isNone) = false := by rfl) : PE X (.Call (.Name x p) [] kws pos) (tKw sp 0 ks.length ix E0 L2.tNil tk) :=
  pe_callGK0 c.G g r hg c.mgf c.kp hb hkw d4 d5 d1 d3
end
end Rp
namespace Rp
open PySem PySem.Spec PyProof.Rows L2
/-! ### data on the heap, dicts in it too; what repr shows of them -/
def kD : Key → PyData
  | .inl i => .int i
  | .inr x => .str x
mutual
inductive Dd (K : PySem.W.Frag) (H : Hp) : V → PyData → Prop
  | non : Dd K H .non .none
  | bl (b : Bool) : Dd K H (.bl b) (.bool b)
  | num (i : Int) : Dd K H (.int i) (.int i)
  | str (x : Str) : Dd K H (.str x) (.str x)
  | lst {a : Addr} {xs : List V} {ds : List PyData} (e : SqL K H a xs) (h : DdAll K H xs ds) : Dd K H (.ref a) (.list ds)
  | tup {a : Addr} {xs : List V} {ds : List PyData} (e : SqT K H a xs) (h : DdAll K H xs ds) : Dd K H (.ref a) (.tuple ds)
  | dic {a : Addr} {kvs : List (Key × V)} {ds : List (PyData × PyData)} (e : H a = some (.dK kvs)) (h : DdKv K H kvs ds) : Dd K H (.ref a) (.dict ds)
inductive DdAll (K : PySem.W.Frag) (H : Hp) : List V → List PyData → Prop
  | nil : DdAll K H [] []
  | cons {v : V} {vs : List V} {d : PyData} {ds : List PyData} (h : Dd K H v d) (t : DdAll K H vs ds) : DdAll K H (v :: vs) (d :: ds)
inductive DdKv (K : PySem.W.Frag) (H : Hp) : List (Key × V) → List (PyData × PyData) → Prop
  | nil : DdKv K H [] []
  | cons {k : Key} {v : V} {r : List (Key × V)} {d : PyData} {ds : List (PyData × PyData)} (h : Dd K H v d) (t : DdKv K H r ds) : DdKv K H ((k, v) :: r) ((kD k, d) :: ds)
end
section
variable {X : Cx} {pins : List (Addr × Obj)} {σ : L2.St} {H : Hp} {s : Shared}
theorem mods_ne (I : Inv X pins σ H s) (M : HasMods X.base) {a : Addr} {o : Obj} {vs : Array Value} {n : Nat} (e : s.heap.get? a = some o) (d : o.data = .seq vs n) : sysModules ≠ a := by
  intro z
  obtain ⟨mm, ob, es, ep, h1, h2, _⟩ := M
  have h3 := (I.bs _ _ h1).1
  rw [z, e] at h3
  cases h3
  rw [d] at h2
  cases h2
theorem key_reads {h : Heap} {k : Key} {v : Value} (e : keyIs k v = true) : Reads h v (kD k) [] := by
  rcases keyIs_shape e with ⟨i, t, rfl, rfl⟩ | ⟨x, t, rfl, rfl⟩
  · exact .int i t
  · exact .str x t
mutual
theorem dd_reads (I : Inv X pins σ H s) (M : HasMods X.base) : ∀ {v : V} {d : PyData}, Dd X.K H v d → ∀ u, RelV v u → ∃ as, Reads s.heap u d as ∧ sysModules ∉ as
  | _, _, .non, u, r => by cases r; exact ⟨[], .none, by simp⟩
  | _, _, .bl b, u, r => by cases r; exact ⟨[], .bool b, by simp⟩
  | _, _, .num i, u, r => by obtain ⟨t, rfl⟩ := r; exact ⟨[], .int i t, by simp⟩
  | _, _, .str x, u, r => by obtain ⟨t, rfl⟩ := r; exact ⟨[], .str x t, by simp⟩
  | _, _, .lst e h, u, r => by
    cases r
    obtain ⟨its, rv, ⟨o, n, h1, h2, _, h4⟩, _⟩ := I.list e
    obtain ⟨as, ra, na⟩ := dd_readsAll I M h its rv
    refine ⟨_, .list h1 h2 h4 (by simpa using ra), ?_⟩
    intro m
    rcases List.mem_cons.mp m with z | z
    · exact mods_ne I M h1 h4 z
    · exact na z
  | _, _, .tup e h, u, r => by
    cases r
    obtain ⟨its, rv, ⟨o, h1, h2, n, h4⟩, _⟩ := I.tuple e
    obtain ⟨as, ra, na⟩ := dd_readsAll I M h its rv
    exact ⟨_, .tuple h1 h2 h4 (by simpa using ra), na⟩
  | _, _, .dic e h, u, r => by
    cases r
    obtain ⟨_, ns, vs, kv, o, es, ep, h1, h2, h3, _, pr, _⟩ := I.hok _ _ e
    obtain ⟨bs, rk, rvs, nb⟩ := dd_readsKv I M h vs es.toList kv pr
    refine ⟨_, .dict h1 h2.1 h3 rk rvs, ?_⟩
    intro m
    rcases List.mem_cons.mp (by simpa using m) with z | z
    · rw [z] at ns
      simp at ns
    · exact nb (by simpa using z)
theorem dd_readsAll (I : Inv X pins σ H s) (M : HasMods X.base) : ∀ {vs : List V} {ds : List PyData}, DdAll X.K H vs ds → ∀ us, Vals vs us → ∃ as, ReadsAll s.heap us ds as ∧ sysModules ∉ as
  | _, _, .nil, us, r => by cases r; exact ⟨[], .nil, by simp⟩
  | _, _, .cons h t, us, r => by
    cases r with
    | cons r1 r2 =>
      obtain ⟨as, q1, n1⟩ := dd_reads I M h _ r1
      obtain ⟨bs, q2, n2⟩ := dd_readsAll I M t _ r2
      exact ⟨as ++ bs, .cons q1 q2, by rw [List.mem_append]; exact fun z => z.elim n1 n2⟩
theorem dd_readsKv (I : Inv X pins σ H s) (M : HasMods X.base) : ∀ {kvs : List (Key × V)} {ds : List (PyData × PyData)}, DdKv X.K H kvs ds → ∀ (vs : List (Key × Value)) (es : List DictEntry), KV kvs vs → Pairs (mixKind X.prog X.w) es vs →
    ∃ bs, ReadsAll s.heap (es.map (·.key)) (ds.map (·.1)) [] ∧ ReadsAll s.heap (es.map (·.val)) (ds.map (·.2)) bs ∧ sysModules ∉ bs
  | _, _, .nil, vs, es, kv, pr => by
    cases kv
    cases pr
    exact ⟨[], .nil, .nil, by simp⟩
  | _, _, .cons h t, vs, es, kv, pr => by
    cases kv with
    | cons k1 k2 =>
      cases pr with
      | cons p1 p2 p3 =>
        obtain ⟨e1, e2⟩ := k1
        rw [← p2] at e2
        rw [← e1] at p1
        obtain ⟨as, q1, n1⟩ := dd_reads I M h _ e2
        obtain ⟨bs, q2, q3, n2⟩ := dd_readsKv I M t _ _ k2 p3
        refine ⟨as ++ bs, ?_, .cons q1 q3, by rw [List.mem_append]; exact fun z => z.elim n1 n2⟩
        exact ReadsAll.cons (as := []) (key_reads p1) q2
end
/-- repr of a list, a tuple, a dict: of data -/
def rRepr (K : PySem.W.Frag) : List V → Hp → VK → Prop := fun xs H Q => ∃ (a : Addr) (d : PyData), xs = [.ref a] ∧ Dd K H (.ref a) d ∧ d.showable = true ∧ d.depth ≤ 64 ∧ d.shown.length ≤ sizeLine ∧ Q (.str d.shown) H
theorem call_reprD {k : Nat} (hr : Room k X.A) (g : X.A.guards = some []) (M : HasMods X.base) : CallR X (.builtin "repr") (rRepr X.K) := by
  intro pins s σ H xs us Q I r h
  obtain ⟨a, d, rfl, dd, hs, hdp, hsz, q⟩ := h
  obtain ⟨u, rfl, r1⟩ := vals1 r
  cases (show u = Value.ref a from r1)
  obtain ⟨as, rd, na⟩ := dd_reads I M dd _ rfl
  have un := hr.un
  exact repr_of_reads' rd hs (fun _ => na) g (by omega) (fun _ _ e => e) (fun h' t tk hk => ⟨.str d.shown, H, I.kept hk, ⟨_, rfl⟩, q⟩) hsz
end
end Rp
namespace Rp
open PySem PySem.Spec PyProof.Rows L2
/-! ### values of any kind, off the box -/
inductive Any (q : Addr) (H : Hp) : V → Prop
  | non : Any q H .non
  | bl (b : Bool) : Any q H (.bl b)
  | num (i : Int) : Any q H (.int i)
  | str (x : Str) : Any q H (.str x)
  | lst {a : Addr} {xs : List V} (n : a ≠ q) (e : H a = some (.lst xs)) : Any q H (.ref a)
  | tup {a : Addr} {xs : List V} (n : a ≠ q) (e : H a = some (.tup xs)) : Any q H (.ref a)
  | dic {a : Addr} {kvs : List (Key × V)} (n : a ≠ q) (e : H a = some (.dK kvs)) : Any q H (.ref a)
/-- a value that is a list or tuple of some values, or none -/
inductive RowV (q : Addr) (H : Hp) : V → Option (List V) → Prop
  | non : RowV q H .non none
  | bl (b : Bool) : RowV q H (.bl b) none
  | num (i : Int) : RowV q H (.int i) none
  | str (x : Str) : RowV q H (.str x) none
  | lst {a : Addr} {xs : List V} (n : a ≠ q) (e : H a = some (.lst xs)) (h : ∀ x ∈ xs, Any q H x) : RowV q H (.ref a) (some xs)
  | tup {a : Addr} {xs : List V} (n : a ≠ q) (e : H a = some (.tup xs)) (h : ∀ x ∈ xs, Any q H x) : RowV q H (.ref a) (some xs)
  | dic {a : Addr} {kvs : List (Key × V)} (n : a ≠ q) (e : H a = some (.dK kvs)) : RowV q H (.ref a) none
section
variable {q : Addr} {H H' : Hp} {v : V} {o : Option (List V)} {K : PySem.W.Frag}
theorem Any.but (h : Any q H v) (b : But q H H') : Any q H' v := by
  cases h with
  | non => exact .non
  | bl b => exact .bl b
  | num i => exact .num i
  | str x => exact .str x
  | lst n e => exact .lst n (b _ _ n e)
  | tup n e => exact .tup n (b _ _ n e)
  | dic n e => exact .dic n (b _ _ n e)
theorem RowV.but (h : RowV q H v o) (b : But q H H') : RowV q H' v o := by
  cases h with
  | non => exact .non
  | bl b => exact .bl b
  | num i => exact .num i
  | str x => exact .str x
  | lst n e it => exact .lst n (b _ _ n e) fun x m => (it x m).but b
  | tup n e it => exact .tup n (b _ _ n e) fun x m => (it x m).but b
  | dic n e => exact .dic n (b _ _ n e)
def isI : V → Bool
  | .int _ => true
  | _ => false
def isIB : V → Bool
  | .int _ => true
  | .bl _ => true
  | _ => false
def isB : V → Bool
  | .bl _ => true
  | _ => false
theorem isI_eq (v : V) : (isIB v && !isB v) = isI v := by cases v <;> rfl
theorem any_int (h : Any q H v) : ∃ t : Value, TyX K H v t ∧ PySem.W.kitOne K t (.type "int") = some (isIB v) := by
  cases h with
  | non => exact ⟨_, .base .non, kit_ty (r := false) (by decide +kernel)⟩
  | bl b => exact ⟨_, .base (.bl b), kit_ty (r := true) (by decide +kernel)⟩
  | num i => exact ⟨_, .base (.int i), kit_ty (r := true) (by decide +kernel)⟩
  | str x => exact ⟨_, .base (.str x), kit_ty (r := false) (by decide +kernel)⟩
  | lst n e => exact ⟨_, .base (.lst e), kit_ty (r := false) (by decide +kernel)⟩
  | tup n e => exact ⟨_, .base (.tup e), kit_ty (r := false) (by decide +kernel)⟩
  | dic n e => exact ⟨_, .base (.dK e), kit_ty (r := false) (by decide +kernel)⟩
theorem any_bool (h : Any q H v) : ∃ t : Value, TyX K H v t ∧ PySem.W.kitOne K t (.type "bool") = some (isB v) := by
  cases h with
  | non => exact ⟨_, .base .non, kit_ty (r := false) (by decide +kernel)⟩
  | bl b => exact ⟨_, .base (.bl b), kit_ty (r := true) (by decide +kernel)⟩
  | num i => exact ⟨_, .base (.int i), kit_ty (r := false) (by decide +kernel)⟩
  | str x => exact ⟨_, .base (.str x), kit_ty (r := false) (by decide +kernel)⟩
  | lst n e => exact ⟨_, .base (.lst e), kit_ty (r := false) (by decide +kernel)⟩
  | tup n e => exact ⟨_, .base (.tup e), kit_ty (r := false) (by decide +kernel)⟩
  | dic n e => exact ⟨_, .base (.dK e), kit_ty (r := false) (by decide +kernel)⟩
theorem kit2 {t a b : String} {x y : Bool} (h1 : kitB t a = some x) (h2 : kitB t b = some y) : PySem.W.kitAny K (.type t) [.type a, .type b] = some (x || y) := by
  refine kitAny_cons (kit_ty h1) (fun e => ?_) (fun e => by rw [e]; rfl)
  rw [e]
  refine kitAny_cons (kit_ty h2) (fun e => ?_) (fun e => by rw [e]; rfl)
  rw [e]
  exact kitAny_nil
theorem row_seq (h : RowV q H v o) : ∃ t : Value, TyX K H v t ∧ PySem.W.kitAny K t [.type "list", .type "tuple"] = some o.isSome := by
  cases h with
  | non => exact ⟨_, .base .non, kit2 (x := false) (y := false) (by decide +kernel) (by decide +kernel)⟩
  | bl b => exact ⟨_, .base (.bl b), kit2 (x := false) (y := false) (by decide +kernel) (by decide +kernel)⟩
  | num i => exact ⟨_, .base (.int i), kit2 (x := false) (y := false) (by decide +kernel) (by decide +kernel)⟩
  | str x => exact ⟨_, .base (.str x), kit2 (x := false) (y := false) (by decide +kernel) (by decide +kernel)⟩
  | lst n e => exact ⟨_, .base (.lst e), kit2 (x := true) (y := false) (by decide +kernel) (by decide +kernel)⟩
  | tup n e => exact ⟨_, .base (.tup e), kit2 (x := false) (y := true) (by decide +kernel) (by decide +kernel)⟩
  | dic n e => exact ⟨_, .base (.dK e), kit2 (x := false) (y := false) (by decide +kernel) (by decide +kernel)⟩
end
/-- any value is, is not a truth -/
def rIsAny (neg : Bool) : R2 := fun x y H Q => ∃ b, y = .bl b ∧ Q (.bl (if neg then !decide (x = .bl b) else decide (x = .bl b))) H
section
variable {X : Cx}
theorem bl_ne {x : V} {v : Value} {b : Bool} (rx : RelV x v) (ne : x ≠ .bl b) : v ≠ Value.bool b := by
  intro e
  subst e
  cases x with
  | bl c => exact ne (by rw [Value.bool.inj (show Value.bool b = Value.bool c from rx)])
  | non => cases (show Value.bool b = Value.none from rx)
  | int i => obtain ⟨t, z⟩ := rx; cases z
  | str y => obtain ⟨t, z⟩ := rx; cases z
  | byt y => obtain ⟨t, z⟩ := rx; cases z
  | flt y => obtain ⟨t, z⟩ := rx; cases z
  | ref a => cases (show Value.bool b = Value.ref a from rx)
  | ty n => cases (show Value.bool b = Value.type n from rx)
theorem plain_bl {x : V} {v : Value} {b : Bool} (rx : RelV x v) : plainIs v (.bool b) = true := by
  cases x with
  | bl c => cases rx; rfl
  | non => cases rx; rfl
  | int i => obtain ⟨t, rfl⟩ := rx; rfl
  | str y => obtain ⟨t, rfl⟩ := rx; rfl
  | byt y => obtain ⟨t, rfl⟩ := rx; rfl
  | flt y => obtain ⟨t, rfl⟩ := rx; rfl
  | ref a => cases rx; rfl
  | ty n => cases rx; rfl
theorem op_is_any : OpR X (compareOp .Is) (rIsAny false) := by
  intro pins s σ H x y v u Q I rx ry h
  obtain ⟨b, rfl, q⟩ := h
  cases (show u = Value.bool b from ry)
  by_cases e : x = .bl b
  · subst e
    cases (show v = Value.bool b from rx)
    exact wpAny_is_self rfl ⟨.bl true, H, I, rfl, by simpa using q⟩
  · exact wpAny_is_other (plain_bl rx) (bl_ne rx e) ⟨.bl false, H, I, rfl, by simpa [e] using q⟩
theorem op_isnot_any : OpR X (compareOp .IsNot) (rIsAny true) := by
  intro pins s σ H x y v u Q I rx ry h
  obtain ⟨b, rfl, q⟩ := h
  cases (show u = Value.bool b from ry)
  by_cases e : x = .bl b
  · subst e
    cases (show v = Value.bool b from rx)
    exact wpAny_isNot_self rfl ⟨.bl false, H, I, rfl, by simpa using q⟩
  · exact wpAny_isNot_other (plain_bl rx) (bl_ne rx e) ⟨.bl true, H, I, rfl, by simpa [e] using q⟩
end
end Rp
namespace Rp
open PySem PySem.Spec PyProof.Rows L2
section
variable {K : PySem.W.Frag} {H : Hp} {Q : VK} {x v : V} {t : Value} {b : Bool} {q : Addr}
theorem r_isi {n : String} (ty : TyX K H x t) (k : PySem.W.kitOne K t (.type n) = some b) (h : Q (.bl b) H) : rIsi K [x, .ty n] H Q := ⟨x, _, t, _, b, rfl, .ty n, ty, k, h⟩
theorem r_isiT {p : Addr} {n m : String} (e : H p = some (.tup [.ty n, .ty m])) (ty : TyX K H x t) (k : PySem.W.kitAny K t [.type n, .type m] = some b) (h : Q (.bl b) H) : rIsiT K [x, .ref p] H Q :=
  ⟨x, p, _, t, _, b, rfl, e, .cons (.ty n) (.cons (.ty m) .nil), ty, k, h⟩
theorem r_isAny {neg : Bool} {c : Bool} (h : Q (.bl (if neg then !decide (x = .bl c) else decide (x = .bl c))) H) : rIsAny neg x (.bl c) H Q := ⟨c, rfl, h⟩
@[reducible] def oV : Option Int → V
  | none => .non
  | some i => .int i
/-- an integer from lo to hi -/
def inB (v : V) (lo hi : Option Int) : Bool :=
  match v with
  | .int i => (match lo with | none => true | some l => decide (l ≤ i)) && (match hi with | none => true | some u => decide (i ≤ u))
  | _ => false
def clocks : List Int := [3, 5, 7, 11, 13, 17, 19, 23, 29, 31]
def clk (v : V) : Bool :=
  match v with
  | .int i => clocks.contains i
  | _ => false
def rowB (o : Option (List V)) (clock size : Int) : Bool :=
  match o with
  | none => false
  | some xs => decide ((xs.length : Int) = size) && xs.all fun x => inB x (some 0) (some (clock - 1))
def spIsInt : Sp := fun vs H Q _ => ∃ q v, vs = [v] ∧ Any q H v ∧ Q (.bl (isI v)) H
def spWithin : Sp := fun vs H Q _ => ∃ q v lo hi, vs = [v, oV lo, oV hi] ∧ Any q H v ∧ Q (.bl (inB v lo hi)) H
def spClock : Sp := fun vs H Q _ => ∃ q v, vs = [v] ∧ Any q H v ∧ Q (.bl (clk v)) H
def spRow : Sp := fun vs H Q _ => ∃ q v o clock size, vs = [v, .int clock, .int size] ∧ RowV q H v o ∧ clk (.int clock) = true ∧ (∀ xs, o = some xs → xs.length < sizeLine) ∧ ∀ H', Same H H' → Q (.bl (rowB o clock size)) H'
end
end Rp
namespace Rp
open PySem PySem.Spec PyProof.Rows L2
/-! ### steps at the box -/
section
variable {K : PySem.W.Frag} {q c p : Addr} {ns : List Int} {lap : Nat} {H0 H G : Hp} {o : HO} {Q : VK} {σ : L2.St} {x y v : V} {te tk tv : TE} {b : Bool}
theorem alloc (hG : upd H p o = G) (D : Dr q c ns lap H) (B : But q H0 H) (hp : H p = none) : Dr q c ns lap G ∧ But q H0 G ∧ But q H G ∧ p ≠ q ∧ G p = some o := by
  subst hG
  refine ⟨D.neu hp, B.neu hp, (But.refl q H).neu hp, ?_, upd_same⟩
  intro e
  obtain ⟨_, ⟨_, h⟩, _⟩ := D
  rw [e, h] at hp
  cases hp
/-- what stood at p is exchanged -/
theorem stored {u : HO} (hG : upd H p o = G) (D : Dr q c ns lap H) (np : p ≠ q) (ep : H p = some u) (d : ∀ xs, u ≠ .lst xs) : Dr q c ns lap G ∧ G p = some o := by
  subst hG
  obtain ⟨ne, ⟨rest, h⟩, hc, hl⟩ := D
  exact ⟨⟨ne, ⟨rest, by rw [upd_ne np.symm]; exact h⟩, by rw [upd_ne (ne_of hc ep (d _).symm)]; exact hc, hl⟩, upd_same⟩
theorem but_put {H1 : Hp} (hG : upd H p o = G) (B : But q H1 H) (hp : H1 p = none) : But q H1 G := by
  subst hG
  intro b u n e
  rw [upd_ne (ne_of_none e hp)]
  exact B b u n e
/-- a fact of each item -/
inductive EachP (F : V → Prop) : List V → Prop
  | nil : EachP F []
  | cons {x : V} {r : List V} (h : F x) (t : EachP F r) : EachP F (x :: r)
theorem EachP.get {F : V → Prop} {v : V} : ∀ {xs : List V} {i : Nat}, EachP F xs → xs[i]? = some v → F v
  | _, i, .nil, h => by simp at h
  | _, 0, .cons h _, e => by
    have e' := Option.some.inj e
    rw [← e']
    exact h
  | _, i + 1, .cons _ t, e => EachP.get (i := i) t (by simpa using e)
theorem EachP.mem {F : V → Prop} {xs : List V} (h : EachP F xs) : ∀ x ∈ xs, F x := fun x m => by
  obtain ⟨i, hi⟩ := List.mem_iff_getElem?.mp m
  exact h.get hi
theorem EachP.imp {F F' : V → Prop} (f : ∀ v, F v → F' v) : ∀ {xs : List V}, EachP F xs → EachP F' xs
  | _, .nil => .nil
  | _, .cons h t => .cons (f _ h) (EachP.imp f t)
theorem lt_ok {n m : Nat} (h : Nat.ble (n + 1) m = true) : n < m := Nat.le_of_ble_eq_true h
theorem le_ok {n m : Nat} (h : Nat.ble n m = true) : n ≤ m := Nat.le_of_ble_eq_true h
/-- an int within bounds -/
def IntIn (lo hi : Int) (v : V) : Prop := ∃ i, v = .int i ∧ lo ≤ i ∧ i ≤ hi
theorem log_ok {i : Int} (h : i.natAbs < 2 ^ 80) : i.natAbs.log2 < 1920 := by
  by_cases e : i.natAbs = 0
  · rw [e]
    decide
  · exact Nat.lt_of_lt_of_le ((Nat.log2_lt e).mpr h) (by decide)
theorem r_disp {trs : List (TE × TE)} (h : ∀ p, H p = none → tPairs trs σ (upd H p (.dK [])) fun ps G => G p = some (.dK []) ∧ ∃ kvs : List (Key × V), ps = kvs.map (fun kv => (kV kv.1, kv.2)) ∧ kvs.length ≤ 15 ∧ Q (.ref p) (upd G p (.dK (mergeK [] kvs)))) : tDisp trs σ H Q := h
theorem r_pair {r : List (TE × TE)} {R : List (V × V) → Hp → Prop} (h : tk σ H fun x G => tv σ G fun y G2 => tPairs r σ G2 fun ps G3 => R ((x, y) :: ps) G3) : tPairs ((tk, tv) :: r) σ H R := h
theorem r_pair0 {R : List (V × V) → Hp → Prop} (h : R [] H) : tPairs [] σ H R := h
theorem r_chain {r r' : R2} {ta tb tc : TE} (h : ta σ H fun x G => tb σ G fun y G2 => r x y G2 fun z G3 => ∃ k, z = .bl k ∧ (if k = true then tc σ G3 fun w G4 => r' y w G4 Q else Q (.bl false) G3)) : tChain r r' ta tb tc σ H Q := h
theorem r_U {g : Int → V} {i : Int} (h : Q (g i) H) : rU g (.int i) H Q := ⟨i, rfl, h⟩
theorem r_gtup {n : Nat} {t : TGs} {R : L2.St → Hp → Prop} (h : ∃ a xs, v = .ref a ∧ SqT K H a xs ∧ xs.length = n ∧ t xs σ H R) : gTup K n t v σ H R := h
end
end Rp
namespace Rp
open PySem PySem.Spec PyProof.Rows L2
section
variable {K : PySem.W.Frag} {q c p : Addr} {ns : List Int} {lap : Nat} {H0 H G : Hp} {o : HO} {Q : VK} {σ : L2.St} {x y v : V} {b : Bool} {F : V → Prop}
theorem eq_nil {nums : List Int} (hc : H c = some (.lst (nums.map V.int))) (hp : H p = some (.lst [])) (h : Q (.bl nums.isEmpty) H) : rEqD K (.ref c) (.ref p) H Q :=
  ⟨_, _, .lst (SqL.of hc) (dp_ints nums), .lst (SqL.of hp) .nil, shaped_ints nums, shaped_ints [], by rw [eqv_nil_ints]; exact h⟩
theorem bools_len (a b : Bool) : (PyData.list [.bool a, .bool b]).shown.length ≤ sizeLine := by
  cases a <;> cases b <;> exact Nat.le_trans (m := 100) (by decide +kernel) (by decide)
/-- repr of two truths -/
theorem r_bools {a b : Bool} (e : H p = some (.lst [.bl a, .bl b])) (h : Q (.str (PyData.list [.bool a, .bool b]).shown) H) : rRepr K [.ref p] H Q :=
  ⟨p, _, rfl, .lst (SqL.of e) (.cons (.bl a) (.cons (.bl b) .nil)), by simp [PyData.showable, PyData.showableAll], by simp [PyData.depth, PyData.depthAll], bools_len a b, h⟩
theorem r_ne_same {s : Str} (h : Q (.bl false) H) : rNe (.str s) (.str s) H Q := ⟨rfl, by rw [decide_eq_true rfl]; exact h⟩
theorem r_eq_same {s : Str} (h : Q (.bl true) H) : rEq (.str s) (.str s) H Q := ⟨rfl, by rw [decide_eq_true rfl]; exact h⟩
theorem inB_no {lo hi : Option Int} (h : isI v = false) : inB v lo hi = false := by cases v <;> first | rfl | cases h
theorem clk_no (h : isI v = false) : clk v = false := by cases v <;> first | rfl | cases h
/-- prime, as the law reckons it -/
def prB (n : Int) : Bool := (((List.range (n - 2).toNat).filter fun j : Nat => decide (n.fmod (2 + (j : Int)) = 0)).map fun j : Nat => 2 + (j : Int)).isEmpty
theorem clk_pr {n : Int} (h0 : 3 ≤ n) (h1 : n ≤ 31) : clk (.int n) = prB n := by
  have key : ∀ k : _root_.Fin 29, clk (.int (3 + (k.val : Int))) = prB (3 + (k.val : Int)) := by decide +kernel
  have e : n = 3 + (((n - 3).toNat : Nat) : Int) := by omega
  have z := key ⟨(n - 3).toNat, by omega⟩
  rw [e]
  exact z
theorem clk_out {n : Int} (h : n < 3 ∨ 31 < n) : clk (.int n) = false := by
  simp only [clk, clocks, List.contains_cons, List.contains_nil, Bool.or_false, Bool.or_eq_false_iff, beq_eq_false_iff_ne]
  omega
theorem EachP.append {xs ys : List V} (h : EachP F xs) (k : EachP F ys) : EachP F (xs ++ ys) := by
  induction h with
  | nil => exact k
  | cons a _ ih => exact .cons a ih
theorem EachP.of {xs : List V} (h : ∀ x ∈ xs, F x) : EachP F xs := by
  induction xs with
  | nil => exact .nil
  | cons a r ih => exact .cons (h a (List.mem_cons_self ..)) (ih fun x m => h x (List.mem_cons_of_mem _ m))
theorem EachP.sub {xs ys : List V} (h : EachP F ys) (s : ∀ x ∈ xs, x ∈ ys) : EachP F xs := .of fun x m => h.mem x (s x m)
theorem cut_lo {xs : List V} {n : Nat} (h : n ≤ xs.length) : cutV xs none (some (n : Int)) = xs.take n := by
  unfold cutV
  rw [HT.sIx_nat, HT.sIx_none, Nat.sub_zero, Nat.min_eq_left h, List.drop_zero]
theorem cut_hi {xs : List V} {n : Nat} (h : n ≤ xs.length) : cutV xs (some (n : Int)) none = xs.drop n := by
  unfold cutV
  rw [HT.sIx_nat, HT.sIx_none, Nat.min_eq_left h]
  exact List.take_of_length_le (by rw [List.length_drop]; omega)
theorem row_yes {xs : List V} {clock : Int} (h : EachP (IntIn 0 (clock - 1)) xs) : rowB (some xs) clock (xs.length : Int) = true := by
  simp only [rowB, decide_true, Bool.true_and, List.all_eq_true]
  intro x m
  obtain ⟨i, rfl, h0, h1⟩ := h.mem x m
  simp [inB, h0, h1]
theorem row_no {xs : List V} {clock size : Int} (m : x ∈ xs) (h : inB x (some 0) (some (clock - 1)) = false) : rowB (some xs) clock size = false := by
  simp only [rowB, Bool.and_eq_false_iff, List.all_eq_false]
  exact .inr ⟨x, m, by rw [h]; exact Bool.false_ne_true⟩
theorem row_size {xs : List V} {clock size : Int} (h : (xs.length : Int) ≠ size) : rowB (some xs) clock size = false := by simp [rowB, h]
theorem Dr.same (d : Dr q c ns lap H) (s : Same H G) : Dr q c ns lap G := by
  obtain ⟨ne, ⟨rest, h⟩, hc, hl⟩ := d
  exact ⟨ne, ⟨rest, s _ _ h⟩, s _ _ hc, hl⟩
theorem same_but (s : Same H G) : But q H G := fun b u _ e => s b u e
theorem IntIn.any {lo hi : Int} (h : IntIn lo hi v) : Any q H v := by
  obtain ⟨i, rfl, _⟩ := h
  exact .num i
end
end Rp
namespace Rp
open PySem PySem.Spec PyProof.Rows L2
/-- (value, many, due) with due what is_row tells of value -/
def RowItem (q : Addr) (clock : Int) (H : Hp) (v : V) : Prop := ∃ (t a : Addr) (m : Int) (d : Bool) (xs : List V), v = .ref t ∧ t ≠ q ∧ H t = some (.tup [.ref a, .int m, .bl d]) ∧ RowV q H (.ref a) (some xs) ∧ xs.length < 1000 ∧ rowB (some xs) clock m = d
section
variable {q : Addr} {clock : Int} {H H' : Hp} {v : V}
theorem RowItem.but (h : RowItem q clock H v) (b : But q H H') : RowItem q clock H' v := by
  obtain ⟨t, a, m, d, xs, e, n, ht, hr, hl, hd⟩ := h
  exact ⟨t, a, m, d, xs, e, n, b _ _ n ht, hr.but b, hl, hd⟩
theorem any_all {xs : List V} (h : EachP (Any q H) xs) : ∀ x ∈ xs, Any q H x := h.mem
theorem rep_one {n : Nat} {x : V} : (List.replicate n [x]).flatten = List.replicate n x := by
  induction n with
  | zero => rfl
  | succ n ih => rw [List.replicate_succ, List.flatten_cons, ih, List.replicate_succ]; rfl
theorem all_rep {F : V → Prop} {n : Nat} {x : V} (h : F x) : EachP F (List.replicate n x) := .of fun y m => by
  rw [(List.mem_replicate.mp m).2]
  exact h
theorem r_catA {K : PySem.W.Frag} {a b : Addr} {xs ys : List V} {Q : VK} (ha : SqT K H a xs) (hb : H b = some (.tup ys)) (hz : xs.length + ys.length ≤ sizeLine) (ny : ys ≠ [])
    (h : ∀ p G, G p = some (.tup (xs ++ ys)) → (G = H ∧ p = b ∨ H p = none ∧ G = upd H p (.tup (xs ++ ys))) → Q (.ref p) G) : rCatA K (.ref a) (.ref b) H Q := by
  refine ⟨a, b, xs, ys, rfl, rfl, ha, SqT.of hb, hz, fun e => ?_, fun _ e => absurd e ny, fun _ _ p hp => h p _ upd_same (.inr ⟨hp, rfl⟩)⟩
  subst e
  exact h b H hb (.inl ⟨rfl, rfl⟩)
theorem alloc_or {c p b : Addr} {ns : List Int} {lap : Nat} {H0 G : Hp} {o : HO} (z : G = H ∧ p = b ∨ H p = none ∧ G = upd H p o) (D : Dr q c ns lap H) (B : But q H0 H) (nb : b ≠ q) : Dr q c ns lap G ∧ But q H0 G ∧ But q H G ∧ p ≠ q := by
  rcases z with ⟨rfl, rfl⟩ | ⟨hp, rfl⟩
  · exact ⟨D, B, But.refl _ _, nb⟩
  · obtain ⟨a1, a2, a3, a4, _⟩ := alloc rfl D B hp
    exact ⟨a1, a2, a3, a4⟩
end
end Rp
namespace Rp
open PySem PySem.Spec PyProof.Rows L2
section
variable {K : PySem.W.Frag} {c p : Addr} {H : Hp} {Q : VK}
/-- two int lists that are the same -/
theorem eq_nums {nums : List Int} (hc : H c = some (.lst (nums.map V.int))) (hp : H p = some (.lst (nums.map V.int))) (h : Q (.bl true) H) : rEqD K (.ref c) (.ref p) H Q :=
  ⟨_, _, .lst (SqL.of hc) (dp_ints nums), .lst (SqL.of hp) (dp_ints nums), shaped_ints nums, shaped_ints nums, by
    rw [SeqAt.eqv_refl _ (by rw [PyData.canLay0]; exact canLay_ints nums)]
    exact h⟩
end
/-- the law: True, whatever the script -/
def spLaw (K : PySem.W.Frag) : Sp := fun vs H Q _ => ∃ (a : Addr) (ns : List Int), vs = [.ref a] ∧ SqL K H a (ns.map V.int) ∧ ∀ H', Q (.bl true) H'
end Rp
namespace Rp
open PySem PySem.Spec PyProof.Rows L2
/-! ### data off some places -/
/-- the heap without what stands at S -/
def hid (S : List Addr) (H : Hp) : Hp := fun b => if b ∈ S then none else H b
/-- all but what stands at S is as it was -/
def Keep (S : List Addr) (H H' : Hp) : Prop := ∀ b o, b ∉ S → H b = some o → H' b = some o
section
variable {K : PySem.W.Frag} {S S' : List Addr} {H H' H2 : Hp} {q p b : Addr} {o : HO} {v : V} {d : PyData}
theorem hid_in (h : b ∈ S) : hid S H b = none := by unfold hid; rw [if_pos h]
theorem hid_out (h : b ∉ S) : hid S H b = H b := by unfold hid; rw [if_neg h]
theorem hid_some (h : hid S H b = some o) : b ∉ S ∧ H b = some o := by
  by_cases m : b ∈ S
  · rw [hid_in m] at h
    cases h
  · rw [hid_out m] at h
    exact ⟨m, h⟩
theorem Keep.refl (S : List Addr) (H : Hp) : Keep S H H := fun _ _ _ h => h
theorem Keep.trans (a : Keep S H H') (c : Keep S H' H2) : Keep S H H2 := fun b o n h => c b o n (a b o n h)
theorem Keep.of (s : Same H H') : Keep S H H' := fun b o _ h => s b o h
theorem Keep.but (B : But q H H') : Keep [q] H H' := fun b o n h => B b o (fun e => n (by simp [e])) h
theorem Keep.toBut (k : Keep [q] H H') : But q H H' := fun b o n h => k b o (by simp [n]) h
theorem Keep.sub (k : Keep S H H') (s : ∀ b ∈ S, b ∈ S') : Keep S' H H' := fun b o n h => k b o (fun m => n (s b m)) h
theorem Keep.neu (k : Keep S H H') (h : H' p = none) : Keep S H (upd H' p o) := fun b u n e => by
  have e' := k b u n e
  rw [upd_ne (ne_of_none e' h)]
  exact e'
theorem Keep.put (k : Keep S H H') (h : H p = none) : Keep S H (upd H' p o) := fun b u n e => by
  rw [upd_ne (ne_of_none e h)]
  exact k b u n e
theorem Keep.hid (k : Keep S H H') : Same (hid S H) (hid S H') := fun b u e => by
  obtain ⟨n, e'⟩ := hid_some e
  rw [hid_out n]
  exact k b u n e'
theorem hid_up : Same (hid S H) H := fun b u e => (hid_some e).2
theorem hid_less (s : ∀ b ∈ S, b ∈ S') : Same (hid S' H) (hid S H) := fun b u e => by
  obtain ⟨n, e'⟩ := hid_some e
  rw [hid_out fun m => n (s b m)]
  exact e'
theorem hid_nil : hid [] H = H := by
  funext b
  exact hid_out (by simp)
theorem hid_upd (h : p ∈ S) : hid S (upd H p o) = hid S H := by
  funext b
  by_cases m : b ∈ S
  · rw [hid_in m, hid_in m]
  · rw [hid_out m, hid_out m, upd_ne fun e => m (by rw [e]; exact h)]
theorem Same.tupS {xs : List V} (s : Same H H') (h : SqT K H p xs) : SqT K H' p xs := by
  rcases h with (h | ⟨o, h⟩) | h
  · exact .inl (.inl (s _ _ h))
  · exact .inl (.inr ⟨o, s _ _ h⟩)
  · exact .inr h
mutual
theorem dd_same (s : Same H H') : ∀ {v : V} {d : PyData}, Dd K H v d → Dd K H' v d
  | _, _, .non => .non
  | _, _, .bl b => .bl b
  | _, _, .num i => .num i
  | _, _, .str x => .str x
  | _, _, .lst e h => .lst (s.seq e) (dd_sameAll s h)
  | _, _, .tup e h => .tup (Same.tupS s e) (dd_sameAll s h)
  | _, _, .dic e h => .dic (s _ _ e) (dd_sameKv s h)
theorem dd_sameAll (s : Same H H') : ∀ {vs : List V} {ds : List PyData}, DdAll K H vs ds → DdAll K H' vs ds
  | _, _, .nil => .nil
  | _, _, .cons h t => .cons (dd_same s h) (dd_sameAll s t)
theorem dd_sameKv (s : Same H H') : ∀ {kvs : List (Key × V)} {ds : List (PyData × PyData)}, DdKv K H kvs ds → DdKv K H' kvs ds
  | _, _, .nil => .nil
  | _, _, .cons h t => .cons (dd_same s h) (dd_sameKv s t)
end
theorem DdAll.append {xs ys : List V} {ds es : List PyData} (h : DdAll K H xs ds) (k : DdAll K H ys es) : DdAll K H (xs ++ ys) (ds ++ es) := by
  match xs, ds, h with
  | [], [], .nil => exact k
  | _ :: _, _ :: _, .cons a t => exact .cons a (DdAll.append t k)
theorem DdAll.len : ∀ {xs : List V} {ds : List PyData}, DdAll K H xs ds → xs.length = ds.length
  | _, _, .nil => rfl
  | _, _, .cons _ t => congrArg Nat.succ (DdAll.len t)
theorem DdAll.at : ∀ {xs : List V} {ds : List PyData} {i : Nat} {x : V}, DdAll K H xs ds → xs[i]? = some x → ∃ d, ds[i]? = some d ∧ Dd K H x d
  | _, _, i, _, .nil, e => by simp at e
  | _, _, 0, x, .cons (d := d) h _, e => by
    have e' := Option.some.inj e
    rw [← e']
    exact ⟨d, rfl, h⟩
  | _, _, i + 1, x, .cons _ t, e => DdAll.at (i := i) t (by simpa using e)
end
/-! ### a tuple for each list, all the way in -/
mutual
def fixD : PyData → PyData
  | .list xs => .tuple (fixAll xs)
  | .tuple xs => .tuple (fixAll xs)
  | d => d
def fixAll : List PyData → List PyData
  | [] => []
  | x :: r => fixD x :: fixAll r
end
theorem fixAll_map : ∀ xs : List PyData, fixAll xs = xs.map fixD
  | [] => by simp [fixAll]
  | x :: r => by simp [fixAll, fixAll_map r]
mutual
theorem fix_fix : ∀ d : PyData, fixD (fixD d) = fixD d
  | .list xs => by simp only [fixD]; rw [fix_fixAll xs]
  | .tuple xs => by simp only [fixD]; rw [fix_fixAll xs]
  | .none => by simp only [fixD]
  | .bool _ => by simp only [fixD]
  | .int _ => by simp only [fixD]
  | .str _ => by simp only [fixD]
  | .dict _ => by simp only [fixD]
theorem fix_fixAll : ∀ xs : List PyData, fixAll (fixAll xs) = fixAll xs
  | [] => by simp only [fixAll]
  | x :: r => by simp only [fixAll]; rw [fix_fix x, fix_fixAll r]
end
/-! ### how long it is shown -/
mutual
def cost : PyData → Nat
  | .list xs => 3 + costAll xs
  | .tuple xs => 3 + costAll xs
  | d => d.shown.length
def costAll : List PyData → Nat
  | [] => 0
  | x :: r => cost x + 2 + costAll r
end
mutual
theorem cost_fix : ∀ d : PyData, cost (fixD d) = cost d
  | .list xs => by simp only [fixD, cost]; rw [cost_fixAll xs]
  | .tuple xs => by simp only [fixD, cost]; rw [cost_fixAll xs]
  | .none => by simp only [fixD]
  | .bool _ => by simp only [fixD]
  | .int _ => by simp only [fixD]
  | .str _ => by simp only [fixD]
  | .dict _ => by simp only [fixD]
theorem cost_fixAll : ∀ xs : List PyData, costAll (fixAll xs) = costAll xs
  | [] => by simp only [fixAll]
  | x :: r => by simp only [fixAll, costAll]; rw [cost_fix x, cost_fixAll r]
end
mutual
theorem shown_cost : ∀ d : PyData, d.shown.length ≤ cost d
  | .list xs => by
    simp only [PyData.shown, cost]
    have h1 := listText_len_le (PyData.shownAll xs)
    have h2 := shown_costAll xs
    rw [PyData.shownAll_length] at h1
    omega
  | .tuple xs => by
    simp only [PyData.shown, cost]
    have h1 := tupleText_len_le (PyData.shownAll xs)
    have h2 := shown_costAll xs
    rw [PyData.shownAll_length] at h1
    omega
  | .none => by simp only [cost]; exact Nat.le_refl _
  | .bool _ => by simp only [cost]; exact Nat.le_refl _
  | .int _ => by simp only [cost]; exact Nat.le_refl _
  | .str _ => by simp only [cost]; exact Nat.le_refl _
  | .dict _ => by simp only [cost]; exact Nat.le_refl _
theorem shown_costAll : ∀ xs : List PyData, ((PyData.shownAll xs).map (·.length)).sum + 2 * xs.length ≤ costAll xs
  | [] => by simp [PyData.shownAll, costAll]
  | x :: r => by
    have h1 := shown_cost x
    have h2 := shown_costAll r
    simp only [PyData.shownAll, costAll, List.map_cons, List.sum_cons, List.length_cons]
    omega
end
mutual
theorem fix_showable : ∀ d : PyData, (fixD d).showable = d.showable
  | .list xs => by simp only [fixD, PyData.showable]; rw [fix_showableAll xs]
  | .tuple xs => by simp only [fixD, PyData.showable]; rw [fix_showableAll xs]
  | .none => by simp only [fixD]
  | .bool _ => by simp only [fixD]
  | .int _ => by simp only [fixD]
  | .str _ => by simp only [fixD]
  | .dict _ => by simp only [fixD]
theorem fix_showableAll : ∀ xs : List PyData, PyData.showableAll (fixAll xs) = PyData.showableAll xs
  | [] => by simp only [fixAll]
  | x :: r => by simp only [fixAll, PyData.showableAll]; rw [fix_showable x, fix_showableAll r]
end
mutual
theorem fix_depth : ∀ d : PyData, (fixD d).depth = d.depth
  | .list xs => by simp only [fixD, PyData.depth]; rw [fix_depthAll xs]
  | .tuple xs => by simp only [fixD, PyData.depth]; rw [fix_depthAll xs]
  | .none => by simp only [fixD]
  | .bool _ => by simp only [fixD]
  | .int _ => by simp only [fixD]
  | .str _ => by simp only [fixD]
  | .dict _ => by simp only [fixD]
theorem fix_depthAll : ∀ xs : List PyData, PyData.depthAll (fixAll xs) = PyData.depthAll xs
  | [] => by simp only [fixAll]
  | x :: r => by simp only [fixAll, PyData.depthAll]; rw [fix_depth x, fix_depthAll r]
end
/-- fit to be shown: not deep, not long -/
structure Fit (n c : Nat) (d : PyData) : Prop where
  sh : d.showable = true
  dp : d.depth ≤ n
  co : cost d ≤ c
theorem Fit.fix {n c : Nat} {d : PyData} (f : Fit n c d) : Fit n c (fixD d) := ⟨by rw [fix_showable]; exact f.sh, by rw [fix_depth]; exact f.dp, by rw [cost_fix]; exact f.co⟩
theorem Fit.le {n c m e : Nat} {d : PyData} (f : Fit n c d) (h : n ≤ m) (k : c ≤ e) : Fit m e d := ⟨f.sh, Nat.le_trans f.dp h, Nat.le_trans f.co k⟩
inductive FitAll (n : Nat) : Nat → List PyData → Prop
  | nil : FitAll n 0 []
  | cons {c e : Nat} {d : PyData} {ds : List PyData} (h : Fit n c d) (t : FitAll n e ds) : FitAll n (c + 2 + e) (d :: ds)
theorem FitAll.facts {n c : Nat} {ds : List PyData} (h : FitAll n c ds) : PyData.showableAll ds = true ∧ PyData.depthAll ds ≤ n ∧ costAll ds ≤ c := by
  induction h with
  | nil => exact ⟨by simp only [PyData.showableAll], by simp only [PyData.depthAll]; exact Nat.zero_le _, by simp only [costAll]; exact Nat.le_refl _⟩
  | cons h t ih =>
    obtain ⟨a, b, e⟩ := ih
    refine ⟨by simp only [PyData.showableAll, h.sh, a]; rfl, ?_, ?_⟩
    · simp only [PyData.depthAll]
      exact Nat.max_le.mpr ⟨h.dp, b⟩
    · simp only [costAll]
      have := h.co
      omega
theorem FitAll.list {n c : Nat} {ds : List PyData} (h : FitAll n c ds) : Fit (n + 1) (3 + c) (.list ds) := by
  obtain ⟨a, b, e⟩ := h.facts
  exact ⟨by simp only [PyData.showable]; exact a, by simp only [PyData.depth]; omega, by simp only [cost]; omega⟩
theorem FitAll.tuple {n c : Nat} {ds : List PyData} (h : FitAll n c ds) : Fit (n + 1) (3 + c) (.tuple ds) := by
  obtain ⟨a, b, e⟩ := h.facts
  exact ⟨by simp only [PyData.showable]; exact a, by simp only [PyData.depth]; omega, by simp only [cost]; omega⟩
theorem costAll_len : ∀ xs : List PyData, 2 * xs.length ≤ costAll xs
  | [] => by simp [costAll]
  | x :: r => by
    have := costAll_len r
    simp only [costAll, List.length_cons]
    omega
theorem costAll_mem : ∀ {xs : List PyData} {d : PyData}, d ∈ xs → cost d ≤ costAll xs
  | [], d, m => by cases m
  | x :: r, d, m => by
    simp only [costAll]
    rcases List.mem_cons.mp m with e | m
    · rw [e]
      omega
    · have := costAll_mem m
      omega
theorem depthAll_mem : ∀ {xs : List PyData} {d : PyData}, d ∈ xs → d.depth ≤ PyData.depthAll xs
  | [], d, m => by cases m
  | x :: r, d, m => by
    simp only [PyData.depthAll]
    rcases List.mem_cons.mp m with e | m
    · rw [e]
      exact Nat.le_max_left _ _
    · exact Nat.le_trans (depthAll_mem m) (Nat.le_max_right _ _)
theorem showableAll_mem : ∀ {xs : List PyData} {d : PyData}, PyData.showableAll xs = true → d ∈ xs → d.showable = true
  | [], d, _, m => by cases m
  | x :: r, d, h, m => by
    simp only [PyData.showableAll, Bool.and_eq_true] at h
    rcases List.mem_cons.mp m with e | m
    · rw [e]
      exact h.1
    · exact showableAll_mem h.2 m
/-- a list's or a tuple's item -/
theorem Fit.item {n c : Nat} {xs : List PyData} {d : PyData} (f : Fit (n + 1) c (.list xs) ∨ Fit (n + 1) c (.tuple xs)) (m : d ∈ xs) : Fit n c d := by
  rcases f with f | f
  · obtain ⟨a, b, e⟩ := f
    simp only [PyData.showable, PyData.depth, cost] at a b e
    have h1 := depthAll_mem m
    have h2 := costAll_mem m
    exact ⟨showableAll_mem a m, by omega, by omega⟩
  · obtain ⟨a, b, e⟩ := f
    simp only [PyData.showable, PyData.depth, cost] at a b e
    have h1 := depthAll_mem m
    have h2 := costAll_mem m
    exact ⟨showableAll_mem a m, by omega, by omega⟩
/-! ### repr of any data -/
/-- repr of a value that is data: its text -/
def rReprA (K : PySem.W.Frag) : List V → Hp → VK → Prop := fun xs H Q => ∃ (v : V) (d : PyData), xs = [v] ∧ Dd K H v d ∧ Fit 64 15000000 d ∧ Q (.str d.shown) H
section
variable {X : Cx}
theorem call_reprA {k : Nat} (hr : Room k X.A) (g : X.A.guards = some []) (M : HasMods X.base) : CallR X (.builtin "repr") (rReprA X.K) := by
  intro pins s σ H xs us Q I r h
  obtain ⟨v, d, rfl, dd, ⟨hs, hdp, hco⟩, q⟩ := h
  have hsz : d.shown.length ≤ sizeLine := Nat.le_trans (shown_cost d) (Nat.le_trans hco (by decide))
  cases dd with
  | non =>
    obtain ⟨u, rfl, r1⟩ := vals1 r
    cases (show u = Value.none from r1)
    exact PySem.P.repr_of_none ⟨.str _, H, I.tok _, ⟨_, rfl⟩, by rw [PyData.shown_none] at q; exact q⟩
  | bl b =>
    obtain ⟨u, rfl, r1⟩ := vals1 r
    cases (show u = Value.bool b from r1)
    refine PySem.P.repr_of_bool ⟨.str _, H, I.tok _, ⟨_, rfl⟩, ?_⟩
    rw [PyData.shown_bool] at q
    cases b <;> exact q
  | num i =>
    obtain ⟨u, rfl, t, rfl⟩ := vals1 r
    refine PySem.P.repr_of_int (by simpa [PyData.showable] using hs) ⟨.str _, H, I.tok _, ⟨_, rfl⟩, ?_⟩
    rw [PyData.shown_int] at q
    exact q
  | str x =>
    obtain ⟨u, rfl, t, rfl⟩ := vals1 r
    rw [PyData.shown_str] at hsz q
    exact PySem.P.repr_of_str ⟨.str _, H, I.tok _, ⟨_, rfl⟩, q⟩ hsz
  | lst e h => exact call_reprD hr g M pins s σ H _ us Q I r ⟨_, _, rfl, .lst e h, hs, hdp, hsz, q⟩
  | tup e h => exact call_reprD hr g M pins s σ H _ us Q I r ⟨_, _, rfl, .tup e h, hs, hdp, hsz, q⟩
  | dic e h => exact call_reprD hr g M pins s σ H _ us Q I r ⟨_, _, rfl, .dic e h, hs, hdp, hsz, q⟩
end
theorem r_reprA {K : PySem.W.Frag} {H : Hp} {Q : VK} {v : V} {d : PyData} (e : Dd K H v d) (f : Fit 64 15000000 d) (h : Q (.str d.shown) H) : rReprA K [v] H Q := ⟨v, d, rfl, e, f, h⟩
/-- what isinstance tells of data -/
def seqD : PyData → Bool
  | .list _ => true
  | .tuple _ => true
  | _ => false
theorem dd_seq {K : PySem.W.Frag} {H : Hp} {v : V} {d : PyData} (h : Dd K H v d) : ∃ t : Value, TyX K H v t ∧ PySem.W.kitAny K t [.type "list", .type "tuple"] = some (seqD d) := by
  cases h with
  | non => exact ⟨_, .base .non, kit2 (x := false) (y := false) (by decide +kernel) (by decide +kernel)⟩
  | bl b => exact ⟨_, .base (.bl b), kit2 (x := false) (y := false) (by decide +kernel) (by decide +kernel)⟩
  | num i => exact ⟨_, .base (.int i), kit2 (x := false) (y := false) (by decide +kernel) (by decide +kernel)⟩
  | str x => exact ⟨_, .base (.str x), kit2 (x := false) (y := false) (by decide +kernel) (by decide +kernel)⟩
  | lst e _ =>
    have k := kit2 (K := K) (t := "list") (a := "list") (b := "tuple") (x := true) (y := false) (by decide +kernel) (by decide +kernel)
    rcases e with (e | ⟨o, e⟩) | ⟨o, _, _, e, c, _⟩
    · exact ⟨_, .base (.lst e), k⟩
    · exact ⟨_, .base (.frz e), k⟩
    · exact ⟨_, .kList e c, k⟩
  | tup e _ =>
    have k := kit2 (K := K) (t := "tuple") (a := "list") (b := "tuple") (x := false) (y := true) (by decide +kernel) (by decide +kernel)
    rcases e with (e | ⟨o, e⟩) | ⟨o, _, _, e, c, _⟩
    · exact ⟨_, .base (.tup e), k⟩
    · exact ⟨_, .fTuple e, k⟩
    · exact ⟨_, .kTuple e c, k⟩
  | dic e _ => exact ⟨_, .base (.dK e), kit2 (x := false) (y := false) (by decide +kernel) (by decide +kernel)⟩
def isLst : PyData → Bool
  | .list _ => true
  | _ => false
def isTup : PyData → Bool
  | .tuple _ => true
  | _ => false
theorem dd_list {K : PySem.W.Frag} {H : Hp} {v : V} {d : PyData} (h : Dd K H v d) : ∃ t : Value, TyX K H v t ∧ PySem.W.kitOne K t (.type "list") = some (isLst d) ∧ PySem.W.kitOne K t (.type "tuple") = some (isTup d) := by
  cases h with
  | non => exact ⟨_, .base .non, kit_ty (r := false) (by decide +kernel), kit_ty (r := false) (by decide +kernel)⟩
  | bl b => exact ⟨_, .base (.bl b), kit_ty (r := false) (by decide +kernel), kit_ty (r := false) (by decide +kernel)⟩
  | num i => exact ⟨_, .base (.int i), kit_ty (r := false) (by decide +kernel), kit_ty (r := false) (by decide +kernel)⟩
  | str x => exact ⟨_, .base (.str x), kit_ty (r := false) (by decide +kernel), kit_ty (r := false) (by decide +kernel)⟩
  | lst e _ =>
    have k1 := kit_ty (K := K) (a := "list") (b := "list") (r := true) (by decide +kernel)
    have k2 := kit_ty (K := K) (a := "list") (b := "tuple") (r := false) (by decide +kernel)
    rcases e with (e | ⟨o, e⟩) | ⟨o, _, _, e, c, _⟩
    · exact ⟨_, .base (.lst e), k1, k2⟩
    · exact ⟨_, .base (.frz e), k1, k2⟩
    · exact ⟨_, .kList e c, k1, k2⟩
  | tup e _ =>
    have k1 := kit_ty (K := K) (a := "tuple") (b := "list") (r := false) (by decide +kernel)
    have k2 := kit_ty (K := K) (a := "tuple") (b := "tuple") (r := true) (by decide +kernel)
    rcases e with (e | ⟨o, e⟩) | ⟨o, _, _, e, c, _⟩
    · exact ⟨_, .base (.tup e), k1, k2⟩
    · exact ⟨_, .fTuple e, k1, k2⟩
    · exact ⟨_, .kTuple e c, k1, k2⟩
  | dic e _ => exact ⟨_, .base (.dK e), kit_ty (r := false) (by decide +kernel), kit_ty (r := false) (by decide +kernel)⟩
end Rp
namespace Rp
open PySem PySem.Spec PyProof.Rows L2
/-- data, with tuples for lists; S: what may change meanwhile -/
def spFix (K : PySem.W.Frag) (n : Nat) : Sp := fun vs H Q _ => ∃ (S : List Addr) (v : V) (d : PyData), vs = [v] ∧ (∀ b ∈ S, H b ≠ none) ∧ Dd K (hid S H) v d ∧ d.depth < n ∧ cost d ≤ 15000000 ∧
  ∀ (H' : Hp) (v' : V), Same H H' → Dd K (hid S H') v' (fixD d) → Q v' H'
section
variable {S : List Addr} {H H1 G : Hp} {D p b : Addr} {o : HO}
theorem Keep.own : Keep [D] H (upd H D o) := fun b u n e => by
  rw [upd_ne fun z => n (by simp [z])]
  exact e
theorem Keep.own2 (k : Keep [D] H G) : Keep [D] H (upd G D o) := fun b u n e => by
  rw [upd_ne fun z => n (by simp [z])]
  exact k b u n e
theorem hid_new (hD : H1 D = none) (k : Keep [D] H1 G) : Same (hid S H1) (hid (D :: S) G) := fun b u e => by
  obtain ⟨n, e'⟩ := hid_some e
  have nb : b ≠ D := ne_of_none e' hD
  rw [hid_out (by simp [nb, n])]
  exact k b u (by simp [nb]) e'
theorem live_new {o : HO} (hS : ∀ b ∈ S, H1 b ≠ none) (hD : H1 D = none) (k : Keep [D] H1 G) (e : G D = some o) : ∀ b ∈ D :: S, G b ≠ none := fun b m => by
  rcases List.mem_cons.mp m with z | m
  · rw [z, e]
    exact fun q => nomatch q
  · intro q
    cases z : H1 b with
    | none => exact hS b m z
    | some u =>
      have nb : b ≠ D := ne_of_none z hD
      rw [k b u (by simp [nb]) z] at q
      cases q
theorem live_same (hS : ∀ b ∈ S, H b ≠ none) (s : Same H G) : ∀ b ∈ S, G b ≠ none := fun b m q => by
  cases z : H b with
  | none => exact hS b m z
  | some u =>
    rw [s b u z] at q
    cases q
theorem live_not (hS : ∀ b ∈ S, H b ≠ none) (h : H p = none) : p ∉ S := fun m => hS p m h
theorem fixAll_take {ds : List PyData} {i : Nat} {d : PyData} (h : ds[i]? = some d) : fixAll (ds.take (i + 1)) = fixAll (ds.take i) ++ [fixD d] := by
  rw [fixAll_map, fixAll_map, List.take_succ, h, Option.toList_some, List.map_append]
  rfl
theorem len_cost {ds : List PyData} {c : Nat} (h : costAll ds ≤ c) (hc : c ≤ 15000000) : ds.length < sizeLine := by
  have := costAll_len ds
  exact Nat.lt_of_lt_of_le (m := 8000000) (by omega) (len_ok rfl)
end
end Rp
namespace Rp
open PySem PySem.Spec PyProof.Rows L2
section
variable {K : PySem.W.Frag} {S : List Addr} {H H1 G : Hp} {q p b l : Addr} {o u : HO} {v : V} {d : PyData} {n c : Nat}
theorem notin (hS : ∀ b ∈ S, H b ≠ none) (B : But q H G) (np : p ≠ q) (hp : G p = none) : p ∉ S := fun m => by
  cases z : H p with
  | none => exact hS p m z
  | some o =>
    rw [B p o np z] at hp
    cases hp
theorem dd_but (hq : q ∈ S) (B : But q H G) (h : Dd K (hid S H) v d) : Dd K (hid S G) v d := dd_same ((Keep.but B).sub fun b m => by rw [List.mem_singleton.mp m]; exact hq).hid h
theorem live_but {c0 : Addr} {nums : List Int} {lap : Nat} (hS : ∀ b ∈ S, H b ≠ none) (B : But q H G) (D : Dr q c0 nums lap G) : ∀ b ∈ S, G b ≠ none := fun b m z => by
  by_cases e : b = q
  · obtain ⟨_, ⟨_, h⟩, _⟩ := D
    rw [e, h] at z
    cases z
  · cases y : H b with
    | none => exact hS b m y
    | some o =>
      rw [B b o e y] at z
      cases z
theorem at_put (hG : upd H p o = G) (n : l ≠ p) : G l = H l := by rw [← hG, upd_ne n]
/-- data in a row, fit to be shown -/
def FitA (n c : Nat) (ds : List PyData) : Prop := PyData.showableAll ds = true ∧ PyData.depthAll ds ≤ n ∧ costAll ds ≤ c
theorem FitA.nil : FitA n c [] := ⟨by simp only [PyData.showableAll], by simp only [PyData.depthAll]; exact Nat.zero_le _, by simp only [costAll]; exact Nat.zero_le _⟩
theorem FitA.cons {e : Nat} {ds : List PyData} (h : Fit n c d) (t : FitA n e ds) : FitA n (c + 2 + e) (d :: ds) := by
  obtain ⟨a, b, f⟩ := t
  refine ⟨by simp only [PyData.showableAll, h.sh, a]; rfl, ?_, ?_⟩
  · simp only [PyData.depthAll]
    exact Nat.max_le.mpr ⟨h.dp, b⟩
  · simp only [costAll]
    have := h.co
    omega
theorem FitA.app {e : Nat} : ∀ {ds : List PyData} {m : Nat}, FitA n m ds → Fit n e d → FitA n (m + (e + 2)) (ds ++ [d])
  | [], m, _, f => by
    obtain ⟨a, b, g⟩ := FitA.cons (e := 0) f FitA.nil
    exact ⟨a, b, by show costAll [d] ≤ _; omega⟩
  | x :: r, m, ⟨a, b, g⟩, f => by
    simp only [PyData.showableAll, Bool.and_eq_true] at a
    simp only [PyData.depthAll] at b
    simp only [costAll] at g
    obtain ⟨a', b', g'⟩ := FitA.app (ds := r) (m := m - (cost x + 2)) ⟨a.2, by omega, by omega⟩ f
    refine ⟨?_, ?_, ?_⟩
    · show PyData.showableAll (x :: (r ++ [d])) = true
      simp only [PyData.showableAll, a.1, a']
      rfl
    · show PyData.depthAll (x :: (r ++ [d])) ≤ n
      simp only [PyData.depthAll]
      omega
    · show costAll (x :: (r ++ [d])) ≤ _
      simp only [costAll]
      omega
theorem FitA.le {m e : Nat} {ds : List PyData} (f : FitA n c ds) (h : n ≤ m) (k : c ≤ e) : FitA m e ds := ⟨f.1, Nat.le_trans f.2.1 h, Nat.le_trans f.2.2 k⟩
theorem FitA.list {ds : List PyData} (f : FitA n c ds) : Fit (n + 1) (3 + c) (.list ds) := by
  obtain ⟨a, b, e⟩ := f
  exact ⟨by simp only [PyData.showable]; exact a, by simp only [PyData.depth]; omega, by simp only [cost]; omega⟩
theorem FitA.tuple {ds : List PyData} (f : FitA n c ds) : Fit (n + 1) (3 + c) (.tuple ds) := by
  obtain ⟨a, b, e⟩ := f
  exact ⟨by simp only [PyData.showable]; exact a, by simp only [PyData.depth]; omega, by simp only [cost]; omega⟩
theorem fit_int {i : Int} (h : i.natAbs < 10 ^ 12) : Fit n 13 (.int i) :=
  ⟨by simp only [PyData.showable, decide_eq_true_eq]; exact log_ok (Nat.lt_of_lt_of_le h (by decide)), by simp only [PyData.depth]; exact Nat.zero_le _, by simp only [cost]; exact PyData.shown_int_le h⟩
end
end Rp
namespace Rp
open PySem
theorem leaf_fit {n c : Nat} {d : PyData} (a : d.showable = true) (b : d.depth ≤ n) (e : cost d ≤ c) : Fit n c d := ⟨a, b, e⟩
end Rp
namespace Rp
open PySem PySem.Spec PyProof.Rows L2
section
variable {K : PySem.W.Frag} {H : Hp} {q c p : Addr} {ns : List Int} {lap : Nat} {Q : VK} {xs : List V} {i : Int} {v : V}
theorem live_q (D : Dr q c ns lap H) : ∀ b ∈ [q], H b ≠ none := fun b m z => by
  obtain ⟨_, ⟨_, h⟩, _⟩ := D
  rw [List.mem_singleton.mp m, h] at z
  cases z
theorem r_ixT (hs : SqT K H p xs) (ha : atI xs i = some v) (h : Q v H) : rIxT K (.ref p) (.int i) H Q := ⟨p, xs, i, v, rfl, rfl, hs, ha, h⟩
end
end Rp
namespace Rp
open PySem PySem.Spec PyProof.Rows L2
/-! ### a caught error that outlives its suite -/
/-- the error at a: its class, its own dict -/
def ErO (a : Addr) (cls : Value) (d : Option Addr) : HO := .ext fun h => ∃ (oe : Obj) (vs : Array Value), h.get? a = some oe ∧ Zc cls d oe ∧ oe.data = .fields vs
theorem erO_ok {P : Program} {w : World} {H : Hp} {h : Heap} {a : Addr} {cls : Value} {d : Option Addr} {oe : Obj} {vs : Array Value} (e : h.get? a = some oe) (z : Zc cls d oe) (f : oe.data = .fields vs) : ObjOk P w H h a (ErO a cls d) :=
  ⟨⟨oe, vs, e, z, f⟩, ⟨oe, e⟩, fun _ _ ⟨o, us, e1, z1, f1⟩ st => ⟨o, us, st _ e1, z1, f1⟩⟩
theorem inv_track {X : Cx} {pins : List (Addr × Obj)} {σ : L2.St} {H : Hp} {s : Shared} {a : Addr} {o : HO} (I : Inv X pins σ H s) (n : H a = none) (new : ObjOk X.prog X.w (upd H a o) s.heap a o) (fresh : X.s_0.heap.get? a = none)
    (nL : a ≠ X.env.locals) (nC : ∀ x c, X.env.cells.lookup x = some c → c ≠ a) (np : ∀ p ∈ X.pn ++ pins, p.1 ≠ a) : Inv X pins σ (upd H a o) s := by
  have some_ : ∀ {b u}, H b = some u → b ≠ a := fun e => ne_of_none e n
  have keep_ : ∀ {b u}, H b = some u → upd H a o b = some u := fun e => by rw [upd_ne (some_ e)]; exact e
  refine ⟨I.ok, I.os, I.bare, ⟨I.base.keep, I.base.slot, fun b ob e n0 hx => ?_, I.base.there, fun b xs e => keep_ (I.base.tups b xs e), fun b ob u e => keep_ (I.base.frzs b ob u e), fun b ps e => ?_⟩, I.loc, I.cell, ?_, fun y c e => ?_, fun p hp => ?_, fun b u e => ?_, I.len⟩
  · rw [upd_ne (fun z => by rw [z, fresh] at e; cases e)]
    exact I.base.free b ob e n0 hx
  · obtain ⟨more, z⟩ := I.base.tbls b ps e
    exact ⟨more, keep_ z⟩
  · rw [upd_ne (Ne.symm nL)]
    exact I.free
  · rw [upd_ne (nC y c e)]
    exact I.freeC y c e
  · obtain ⟨h1, h2, h3⟩ := I.pin p hp
    exact ⟨h1, by rw [upd_ne (np p hp)]; exact h2, h3⟩
  · by_cases hb : b = a
    · subst hb
      rw [upd_same] at e
      cases e
      exact new
    · rw [upd_ne hb] at e
      exact (I.hok b u e).stay (fun _ _ _ q => q) (fun _ q => keep_ q) fun _ _ q => keep_ q
/-- what 'except x as n' wishes where the error is held on: as wAs, and behind the suite the error is tracked -/
def wAsT (K : PySem.W.Frag) (c : Value) (i : Nat) (ts : Addr → Value → Option Addr → TS) (Wout : WX) (D : Ends) : WX := fun cls d σ H =>
  ∃ b, PySem.W.exmOne K cls c = some b ∧ (b = true → ∀ a, H a = none → ts a cls d { nx := fun σ' H' => D.nx (σ'.set i none) (upd H' a (ErO a cls d)), rt := D.rt, bk := fun σ' H' => D.bk (σ'.set i none) H', ct := fun σ' H' => D.ct (σ'.set i none) H' } (σ.set i (some (.ref a))) H) ∧
    (b = false → Wout cls d σ H)
/-- a place that nothing of the state before knows -/
structure Unseen (X : Cx) (pins : List (Addr × Obj)) (a : Addr) : Prop where
  old : X.s_0.heap.get? a = none
  loc : a ≠ X.env.locals
  fs : a ∉ X.fs
  cel : ∀ x c, X.env.cells.lookup x = some c → c ≠ a
  pin : ∀ p ∈ X.pn ++ pins, p.1 ≠ a
/-- an error in flight stands where nothing stood -/
theorem unseen {X : Cx} {pins : List (Addr × Obj)} {σ : L2.St} {H : Hp} {s : Shared} {B h : Heap} {a : Addr} {o : Obj} {vs : Array Value} (I : Inv X pins σ H s) (st : X.stack = X.env :: X.outer) (fr : X.env.frame = some X.env.locals) (ex : X.ex = [])
    (sub : ∀ b u, s.heap.get? b = some u → b ∉ frs X.stack → B.get? b = some u) (new : B.get? a = none) (ff : h.FunFrames B (X.env :: X.outer)) (at_ : h.get? a = some o) (dt : o.data = .fields vs) : Unseen X pins a := by
  have off : a ∉ frs (X.env :: X.outer) := by
    intro m
    obtain ⟨_, u, eu, no⟩ := ff.mem m
    cases at_.symm.trans eu
    exact no vs dt
  have none_ : ∀ u, s.heap.get? a = some u → False := by
    intro u e
    have z := sub a u e (st ▸ off)
    cases new.symm.trans z
  constructor
  · cases e : X.s_0.heap.get? a with
    | none => rfl
    | some u =>
      obtain ⟨u', e'⟩ := I.base.there a u e (by rw [ex]; simp)
      exact (none_ u' e').elim
  · rintro rfl
    exact off (List.mem_filterMap.mpr ⟨X.env, .head _, fr⟩)
  · intro m
    obtain ⟨e, me, q⟩ := List.mem_filterMap.mp m
    exact off (List.mem_filterMap.mpr ⟨e, .tail _ me, q⟩)
  · rintro y c e rfl
    obtain ⟨_, u, eu, _⟩ := I.cell y c e
    exact none_ u eu
  · rintro p m rfl
    exact none_ _ (I.pin p m).1
section
variable {X : Cx} {x n : Str} {c : Value} {i : Nat} {body suite : List Stmt} {b₀ : Stmt} {np pos pos' : Pos} {tb : WX → TS} {ts : Addr → Value → Option Addr → TS} {Wout : WX}
/-- the clause's name goes, and the error is tracked from then on -/
theorem hold_on {pins : List (Addr × Obj)} {σ : L2.St} {H : Hp} {s : Shared} {a : Addr} {oe : Obj} {vs : Array Value} {cls : Value} {d : Option Addr} {Q : Unit → Shared → Prop} {Z : Value → Shared → Prop} (ok : X.Ok) (u : Unseen X pins a) (nd : X.N.Nodup) (at_ : X.N[i]? = some n) (lc : X.env.kindOf n = some .local)
    (z : Zc cls d oe) (dt : oe.data = .fields vs) (S : Inv (X.suite a ((a, oe) :: (X.pn ++ pins))) [] σ H s) (k : ∀ t, Inv X pins (σ.set i none) (upd H a (ErO a cls d)) t → Q () t) :
    wpAny (model X.prog X.w) X.A (do bindName X.env n .none; unbindBehindTheSuite X.env n pos) Q Z s := by
  apply gone_ok (X := X.suite a ((a, oe) :: (X.pn ++ pins))) S nd at_ lc
  intro t S'
  have pa := S'.pin (a, oe) (List.mem_append_left _ (.head _))
  exact k t (inv_track (S'.unsuite ok) pa.2.1 (erO_ok pa.1 z dt) u.old u.loc u.cel u.pin)
theorem ps_tryT (st : X.stack = X.env :: X.outer) (fr : X.env.frame = some X.env.locals) (ex : X.ex = []) (nd : X.N.Nodup) (at_ : X.N[i]? = some n) (lc : X.env.kindOf n = some .local) (nm : Names X x c) (tk : Takes X Wout)
    (B : ∀ (W : WX) (pn : List (Addr × Obj)) (xe : Value → Shared → Prop), Takes (X.tr pn xe) W → PassesOwn (model X.prog X.w) X.A X.env xe → PSs (X.tr pn xe) body (tb W))
    (S : ∀ (a : Addr) (oe : Obj) (cls : Value) (d : Option Addr) (pn : List (Addr × Obj)), Zc cls d oe → (∃ vs, oe.data = .fields vs) → PSs (X.suite a ((a, oe) :: pn)) (b₀ :: suite) (ts a cls d)) :
    PS X (.Try body [.ExceptHandler (some (.Name x np)) (some n) (b₀ :: suite) pos'] [] [] pos) (fun D σ H => tb (wAsT X.K c i ts Wout D) D σ H) := by
  constructor
  intro pins s σ H D I q
  have ok := I.ok
  have top : X.A.frames = some (X.env :: X.outer) := ok.frames.trans (congrArg some st)
  have own := B (wAsT X.K c i ts Wout D) (X.pn ++ pins) (fun e s1 => wpAny (model X.prog X.w) X.A (noteFrame e X.env) (fun _ s2 => wpAny (model X.prog X.w) X.A (setFlight e none) (fun _ s3 =>
    wpAny (model X.prog X.w) X.A (handleBy e X.env [.ExceptHandler (some (.Name x np)) (some n) (b₀ :: suite) pos']) (SP X pins D) X.xe s3) X.xe s2) X.xe s1) ?_ PassesOwn.looking
  · apply wpAny_Try_except
    apply wpAny_mono (own.run [] s σ H D (I.toTry _) q)
    · intro fl t z
      rcases fl with _ | _ | _ | v
      · obtain ⟨σ', G, J, r⟩ := z
        exact wpAny_execs_nil ⟨σ', G, J.ofTry ok, r⟩
      · obtain ⟨σ', G, J, r⟩ := z
        exact ⟨σ', G, J.ofTry ok, r⟩
      · obtain ⟨σ', G, J, r⟩ := z
        exact ⟨σ', G, J.ofTry ok, r⟩
      · obtain ⟨v', σ', G, J, r⟩ := z
        exact ⟨v', σ', G, J.ofTry ok, r⟩
    · intro e t z
      exact z
  -- an error comes out of the body
  rintro u t ⟨a, B0, sI, pI, σI, G, cls, d, rfl, JI, sub, up, sky, nG, os, bare, b, eb, yes, no⟩
  have J := JI.ofTry (pins := pins) ok
  rw [st] at sky
  show wpAny (model X.prog X.w) X.A (noteFrame (.ref a) X.env) _ _ _
  apply Sky.land Zc.steady top fr sky
  intro h1 fly1 up1
  obtain ⟨o1, v1, e1, z1, d1⟩ := fly1.there
  have un := unseen J st fr ex sub fly1.2.1 fly1.2.2.1 e1 d1
  have J1 : Inv X pins σI G { t with heap := h1 } := J.landed sub fly1.1 (up.trans up1) os bare
  have T1 := J1.suite e1 d1 nG un.loc un.fs
  refine wpAny_handleBy_cons (codeAny_handlers_test ?_) (fun z => nomatch z)
  -- the clause's class
  have ty : PySem.W.Looks (model X.prog X.w) h1 (typeOf (.ref a)) cls := fun _ _ _ _ k z => wpAny_typeOf_ref (k _ _ e1) (z1.1.symm ▸ z)
  have is_ := PySem.W.exm_one (M := model X.prog X.w) J1.kIn ty eb
  have named : ∀ {Q E : Value → Shared → Prop}, Q c { t with heap := h1 } → wpAny (model X.prog X.w) (X.A.mark (some (.ref a))) (eval (.Name x np) X.env) Q E { t with heap := h1 } := by
    intro Q E z
    rcases nm with ⟨g, db, m | ⟨m, v, nn⟩⟩
    · exact ld_glob (X := X.suite a ((a, o1) :: (X.pn ++ pins))) T1 g m z db
    · exact ld_blt (X := X.suite a ((a, o1) :: (X.pn ++ pins))) T1 g m v z nn db
  refine named (is_.here ?_)
  cases b with
  | false =>
    show wpAny _ X.A (handleBy (.ref a) X.env []) _ _ _
    apply wpAny_handleBy_nil
    obtain ⟨_, _, _, o2, v2, T, _, _, e2, _, d2, w2, _⟩ := id fly1
    have away : wpAny (model X.prog X.w) X.A (setFlight (.ref a) X.env.frame) (fun _ s4 => wpAny (model X.prog X.w) X.A (throw (.ref a) : Sem Flow) (SP X pins D) X.xe s4) X.xe { t with heap := h1 } := by
      rw [fr]
      apply HandSPX.setFlight_upZ fly1
      intro h2 sky2 up2
      apply wpAny_throw
      apply tk
      exact ⟨a, B0, sI, pins, σI, G, cls, d, rfl, J, sub, (up.trans up1).trans up2, .inr (.inr (st.symm ▸ sky2)), nG, os, bare, no rfl⟩
    unfold PySem.passOn
    apply wpAny_bind
    apply wpAny_field e2 d2 w2
    have ne : ¬ ((Value.ref T == Value.none) = true) := by simp
    rw [if_neg ne]
    first
      | exact wpAny_bind (wpAny_pure (wpAny_bind away))
      | exact wpAny_bind away
  | true =>
    apply codeAny_handlers_suite_as
    apply HandSPX.lands_againZ fly1
    intro h2 fly2 up2
    obtain ⟨o2, v2, e2, z2, d2⟩ := fly2.there
    have J2 : Inv X pins σI G { t with heap := h2 } := J.landed sub fly2.1 ((up.trans up1).trans up2) os bare
    have T2 := J2.suite e2 d2 nG un.loc un.fs
    refine store_ok (X := X.suite a ((a, o2) :: (X.pn ++ pins))) (v := .ref a) T2 nd at_ (.inl lc) rfl (fun t5 T5 => ?_) (.inr lc)
    apply wpAny_mono ((S a o2 cls d (X.pn ++ pins) z2 ⟨_, d2⟩).run [] t5 _ G _ T5 (yes rfl a nG))
    · intro fl t6 z
      rcases fl with _ | _ | _ | v
      · obtain ⟨σ6, G6, T6, r⟩ := z
        exact hold_on ok un nd at_ lc z2 d2 T6 fun t7 J7 => ⟨_, _, J7, r⟩
      · obtain ⟨σ6, G6, T6, r⟩ := z
        exact gone_ok (T6.unsuite ok) nd at_ lc fun t7 J7 => ⟨_, _, J7, r⟩
      · obtain ⟨σ6, G6, T6, r⟩ := z
        exact gone_ok (T6.unsuite ok) nd at_ lc fun t7 J7 => ⟨_, _, J7, r⟩
      · obtain ⟨w6, σ6, G6, T6, r6, r⟩ := z
        exact gone_ok (T6.unsuite ok) nd at_ lc fun t7 J7 => ⟨_, _, _, J7, r6, r⟩
    · intro e t6 z
      exact z.elim
end
/-! ### what is asked of a tracked error -/
/-- isinstance(e, c), e a tracked error -/
def rIsT (K : PySem.W.Frag) : List V → Hp → VK → Prop := fun xs H Q => ∃ (a D dx : Addr) (fs : List (Str × V)) (c : V) (cv : Value) (b : Bool), xs = [.ref a, c] ∧ ExcC K D ∧ H a = some (ErO a (.ref D) (some dx)) ∧ H dx = some (.xd fs) ∧
  (∀ u, RelV c u → u = cv) ∧ PySem.W.kitOne K (.ref D) cv = some b ∧ Q (.bl b) H
theorem erO_at {X : Cx} {pins : List (Addr × Obj)} {σ : L2.St} {H : Hp} {s : Shared} {a D dx : Addr} {fs : List (Str × V)} (I : Inv X pins σ H s) (h : H a = some (ErO a (.ref D) (some dx))) (hx : H dx = some (.xd fs)) :
    ∃ oe od, PySem.W.InstAt s.heap a oe D (some od) ∧ s.heap.get? dx = some od := by
  obtain ⟨⟨oe, vs, e, z, f⟩, _, _⟩ := I.hok a _ h
  obtain ⟨mA, hns, hr⟩ := I.hok dx _ hx
  obtain ⟨od, ho, _⟩ := lookIn_ns hns
  exact ⟨oe, od, ⟨e, z.1, by unfold PySem.W.notCls; rw [f] <;> rfl, by rw [z.2]; exact ho⟩, ho⟩
theorem call_isT {X : Cx} : CallR X (.builtin "isinstance") (rIsT X.K) := by
  intro pins s σ H xs us Q I r h
  obtain ⟨a, D, dx, fs, c, cv, b, rfl, C, ha, hd, hcv, e, q⟩ := h
  cases r with
  | cons rx rr =>
    cases rr with
    | cons rt rr =>
      cases rr
      cases rx
      have ec := hcv _ rt
      subst ec
      obtain ⟨oe, od, J, _⟩ := erO_at I ha hd
      have hcl : (PySem.W.clsIn X.K D).isSome = true := by
        obtain ⟨cd, hc, _⟩ := PySem.W.any_some C.hd
        rw [hc]
        rfl
      exact PySem.W.kia_one (PySem.W.kitx_exc (od := some od) hcl C.hg C.hk C.hs C.ha C.hn C.ht C.hm) I.kIn J e (fun z => nomatch z) fun tk => ⟨.bl b, H, I.kept (t' := tk) fun _ _ z => z, rfl, q⟩
/-- e.n, e a tracked error -/
def tXt (K : PySem.W.Frag) (f : Str) (te : TE) : TE := fun σ H Q => te σ H fun x H1 => ∃ (a C dd : Addr) (fs : List (Str × V)) (v : V), x = .ref a ∧ XfC K C ∧ PySem.W.findIn K (.ref C) f = some none ∧ H1 a = some (ErO a (.ref C) (some dd)) ∧ H1 dd = some (.xd fs) ∧ fs.lookup f = some v ∧ Q v H1
theorem pe_xt {X : Cx} {e : Expr} {te : TE} {pos : Pos} {n : Str} (he : PE X e te) (hb : attributeBase e n X.env (eval e X.env) = eval e X.env := by rfl) : PE X (.Attribute e n pos) (tXt X.K n te) := by
  refine ⟨fun pins s σ H Q I h => ?_⟩
  refine attr_of hb (thn (he.run pins s σ H _ I h) fun u s1 hh => ?_)
  obtain ⟨x, H1, I1, rx, a, C, dd, fs, v, ex, T, hno, ha, hd, l, q⟩ := hh
  subst ex
  obtain rfl : u = Value.ref a := rx
  obtain ⟨oe, od, J, ho⟩ := erO_at I1 ha hd
  obtain ⟨mA, hns, hr⟩ := I1.hok dd _ hd
  obtain ⟨od', ho', hl⟩ := lookIn_ns hns
  rw [ho] at ho'
  cases ho'
  obtain ⟨w', hu, ru⟩ := RelO.some_of (v := v) (o := mA n) (by rw [← l]; exact hr n)
  exact HandSPX.exc_get I1.kIn J T.ga T.gg T.exC (PySem.W.findObj_own T.hdC hno rfl (by rw [hl, hu])) (handed_of ru) ⟨v, H1, I1.tok _, ru, q⟩
end Rp
namespace Rp
open PySem PySem.Spec PyProof.Rows L2 LamX
/-! ### lambdas with given values, handed to a def -/
/-- where a lambda's given values stand -/
def DvOk (dV : Value) (us : List Value) (H : Hp) (stk : List Env) (h : Heap) : Prop := (us = [] ∧ dV = .none) ∨ (us ≠ [] ∧ ∃ t, dV = .ref t ∧ h.get? t = some (PySem.W.kdv_tup us) ∧ H t = none ∧ t ∉ frs stk)
abbrev lamObj (X : Cx) (params : Arguments) (body : Expr) (scope : Scope) (dV doc pm : Value) (c' : Addr) (ctv : Value) : Obj := PySem.W.kdv_obj "<lambda>" (X.env.qual ++ "<lambda>") params (.expr body) scope (cloFrom X.env.cells scope.names []) dV doc pm c' ctv
section
variable {X : Cx} {pins : List (Addr × Obj)} {σ : L2.St} {H : Hp} {s : Shared}
/-- a place that is not there yet is no frame's -/
theorem unframed (I : Inv X pins σ H s) {f : Addr} (h : s.heap.objs.size ≤ f) : f ∉ frs X.stack := by
  intro m
  cases I.stkSub _ m with
  | head => exact absurd I.lt (Nat.not_lt.mpr h)
  | tail _ z => exact I.nofs h z
theorem lam_tail {T : List (Addr × Str)} {c P : Addr} {params : Arguments} {body : Expr} {scope : Scope} {pos : Pos} {line : Nat} {dV : Value} {us : List Value} {Z : Value → Shared → Prop} {Q : Value → Shared → Prop} (I : Inv X pins σ H s) (TB : TabB X.base X.mg c P) (cd : X.env.code = .ref c)
    (mem : (P, X.env.qual ++ "<lambda>") ∈ T) (one : ∀ p ∈ T, p.1 = P → p.2 = X.env.qual ++ "<lambda>") (tabs : Tabs T H) (cap : ∀ y ∈ scope.names, y.2 = .free → ∃ c, X.env.cells.lookup y.1 = some c) (dv : DvOk dV us H X.stack s.heap)
    (k : ∀ (f c' : Addr) (doc pm ctv : Value) (G : Hp) (t : Shared), Inv X pins σ G t → ExtN H G → Tabs T G → t.heap.get? f = some (lamObj X params body scope dV doc pm c' ctv) → G f = none → f ∉ frs X.stack → DvOk dV us G X.stack t.heap → G c' = some (CodeO c' (X.env.qual ++ "<lambda>")) → Q (.ref f) t) :
    wpAny (model X.prog X.w) X.A (makeTail "<lambda>" (X.env.qual ++ "<lambda>") params (.expr body) scope X.env dV .none none pos line) Q Z s := by
  obtain ⟨ps, isP, trip, told⟩ := tabs _ mem
  have atP : s.heap.get? P = some { cls := .none, data := .fields ps } := I.hok P _ isP
  have clo := closure_ok cap
  have names := I.mod.glob.keeps I.bk
  have code := TB.code.keeps I.bk
  have blt : s.heap.BuiltinsAt X.mg P := TB.bm.keeps I.bk
  rcases found : codeAmong pos ps.toList with _ | cv
  · -- a code object is made, and noted in the table
    apply PySem.W.kdv_makeTail clo I.ok.glob names cd code atP trip found TB.gP blt
    rintro c' ctv doc h tk other fresh lt ⟨c2, oc, vs, t, rfl', hoc, dat, nm⟩ tab
    cases rfl'
    have nc : H c' = none := I.hok.fresh fresh
    have le : s.heap.objs.size ≤ h.objs.size := Nat.le_trans fresh (Nat.le_of_lt lt)
    have cP : P ≠ c' := ne_of_none isP nc
    have J := inv_table (q := X.env.qual ++ "<lambda>") (t' := tk) (h' := h.push (lamObj X params body scope dV doc ((X.mg "__name__").getD .none) c' ctv)) I isP (fun b o n e => Heap.get?_push_of_some _ (other b o n e)) (Heap.get?_push_of_some _ tab) fresh ⟨oc, vs, t, Heap.get?_push_of_some _ hoc, dat, nm⟩
    generalize hG : upd (upd H P _) c' _ = G at J
    have Gc : G c' = some (CodeO c' (X.env.qual ++ "<lambda>")) := by rw [← hG, upd_same]
    have GP : G P = some (.tbl (ps ++ #[rawInt pos.line, rawInt pos.col, .ref c'])) := by rw [← hG, upd_ne cP, upd_same]
    have Go : ∀ b, b ≠ P → b ≠ c' → G b = H b := fun b n1 n2 => by rw [← hG, upd_ne n2, upd_ne n1]
    have grow : ExtN H G := by
      intro b o e n
      rw [Go b (by rintro rfl; exact n ps (Option.some.inj (e.symm.trans isP))) (ne_of_none e nc)]
      exact e
    have snoc : (ps ++ #[rawInt pos.line, rawInt pos.col, Value.ref c']).toList = ps.toList ++ [rawInt pos.line, rawInt pos.col, .ref c'] := by simp
    refine k h.objs.size c' doc _ ctv G _ J grow ?_ (Heap.get?_push_size _ rfl) ?_ (unframed I le) ?_ Gc
    · intro p mp
      by_cases eP : p.1 = P
      · rw [one p mp eP, eP]
        refine ⟨_, GP, snoc ▸ PySem.TriplesOk_snoc _ _ _ _ trip, ?_⟩
        intro at_ cv z
        rw [snoc] at z
        rcases among_app _ trip z with z | rfl
        · obtain ⟨c0, rfl, z0⟩ := told at_ cv z
          exact ⟨c0, rfl, grow _ _ z0 codeO_ne⟩
        · exact ⟨c', rfl, Gc⟩
      · obtain ⟨ps2, t1, t2, t3⟩ := tabs p mp
        refine ⟨ps2, (Go _ eP (ne_of_none t1 nc)).trans t1, t2, ?_⟩
        intro at_ cv z
        obtain ⟨c0, rfl, z0⟩ := t3 at_ cv z
        exact ⟨c0, rfl, grow _ _ z0 codeO_ne⟩
    · rw [Go _ (Nat.ne_of_gt (Nat.lt_of_lt_of_le (Heap.lt_size atP) le)) (Nat.ne_of_gt lt)]
      exact I.hok.fresh le
    · rcases dv with z | ⟨nz, t, rfl, et, nt, ft⟩
      · exact .inl z
      · have tP : t ≠ P := by
          rintro rfl
          cases nt.symm.trans isP
        exact .inr ⟨nz, t, rfl, Heap.get?_push_of_some _ (other _ _ tP et), (Go t tP (Nat.ne_of_lt (Nat.lt_of_lt_of_le (Heap.lt_size et) fresh))).trans nt, ft⟩
  · -- it is there already
    obtain ⟨c', rfl, isC⟩ := told pos cv found
    apply PySem.W.kdv_makeTailHit clo I.ok.glob names cd code atP trip found blt
    intro ctv doc h tk all le
    refine k h.objs.size c' doc _ ctv H _ (I.kept fun b o e => Heap.get?_push_of_some _ (all b o e)) (ExtN.refl H) tabs (Heap.get?_push_size _ rfl) (I.hok.fresh le) (unframed I le) ?_ isC
    exact dv.imp id fun ⟨nz, t, e1, e2, e3⟩ => ⟨nz, t, e1, Heap.get?_push_of_some _ (all _ _ e2), e3⟩
/-- what comes of a lambda's expression -/
def LamMade (X : Cx) (pins : List (Addr × Obj)) (σ : L2.St) (H : Hp) (T : List (Addr × Str)) (params : Arguments) (body : Expr) (scope : Scope) (dvs : List V) (f : Addr) (s' : Shared) : Prop := ∃ (c' : Addr) (dV doc pm ctv : Value) (us : List Value) (H1 : Hp), Inv X pins σ H1 s' ∧ ExtN H H1 ∧ Tabs T H1 ∧
  s'.heap.get? f = some (lamObj X params body scope dV doc pm c' ctv) ∧ H1 f = none ∧ f ∉ frs X.stack ∧ DvOk dV us H1 X.stack s'.heap ∧ Vals dvs us ∧ H1 c' = some (CodeO c' (X.env.qual ++ "<lambda>"))
theorem lam_make0 {T : List (Addr × Str)} {c P : Addr} {params : Arguments} {body : Expr} {scope : Scope} {pos : Pos} {E : Value → Shared → Prop} {Q : Value → Shared → Prop} (I : Inv X pins σ H s) (TB : TabB X.base X.mg c P) (hcode : X.env.code = .ref c)
    (hm : (P, X.env.qual ++ "<lambda>") ∈ T) (hu : ∀ p ∈ T, p.1 = P → p.2 = X.env.qual ++ "<lambda>") (hT : Tabs T H) (hdef : defaultsOf params X.env = ([], [])) (hfree : ∀ y ∈ scope.names, y.2 = .free → ∃ c, X.env.cells.lookup y.1 = some c)
    (h : ∀ (f : Addr) (s' : Shared), LamMade X pins σ H T params body scope [] f s' → Q (.ref f) s') :
    wpAny (model X.prog X.w) X.A (eval (.Lambda params body scope pos) X.env) Q E s := by
  refine PySem.W.kla_eval hdef ?_
  rw [makeFunction_eq]
  simp only [List.zip_nil_right, List.filterMap_nil, List.isEmpty_nil, if_true, pure_bind]
  exact lam_tail I TB hcode hm hu hT hfree (.inl ⟨rfl, rfl⟩) fun f c' doc pm ctv H1 s' I1 e T1 h1 h2 h3 h4 h5 => h f s' ⟨c', _, doc, pm, ctv, [], H1, I1, e, T1, h1, h2, h3, h4, .nil, h5⟩
theorem lam_make1 {T : List (Addr × Str)} {c P : Addr} {params : Arguments} {body : Expr} {scope : Scope} {pos : Pos} {i : Int} {j : Nat} {dp : Pos} {E : Value → Shared → Prop} {Q : Value → Shared → Prop} (I : Inv X pins σ H s) (TB : TabB X.base X.mg c P) (hcode : X.env.code = .ref c)
    (hm : (P, X.env.qual ++ "<lambda>") ∈ T) (hu : ∀ p ∈ T, p.1 = P → p.2 = X.env.qual ++ "<lambda>") (hT : Tabs T H) (hdef : params.defaults = [.Constant (.int i) j dp]) (hkd : params.kw_defaults = []) (hfree : ∀ y ∈ scope.names, y.2 = .free → ∃ c, X.env.cells.lookup y.1 = some c)
    (h : ∀ (f : Addr) (s' : Shared), LamMade X pins σ H T params body scope [.int i] f s' → Q (.ref f) s') :
    wpAny (model X.prog X.w) X.A (eval (.Lambda params body scope pos) X.env) Q E s := by
  refine PySem.W.kdv_lam (by rw [hdef]; rfl) hkd ?_
  rw [hdef]
  refine PySem.W.kdv_all1 (wpAny_Constant_int ?_)
  refine PySem.W.kdv_all0 ?_
  generalize hv : (Value.int i _) = v
  have rv : L2.RelV (.int i) v := by rw [← hv]; exact ⟨_, rfl⟩
  rw [makeFunction_eq]
  simp only [List.zip_nil_right, List.filterMap_nil, List.isEmpty_nil, if_true, pure_bind, List.isEmpty_cons, Bool.false_eq_true, if_false]
  refine wpAny_bind (wpAny_newTextTuple ?_)
  have I1 := (I.tok (s.toks + 1)).kept (t' := s.toks + 1) (h' := s.heap.push (PySem.W.kdv_tup [v])) fun b u e => Heap.get?_push_of_some _ e
  exact lam_tail I1 TB hcode hm hu hT hfree (.inr ⟨by simp, _, rfl, Heap.get?_push_size _ rfl, I.hok.fresh (Nat.le_refl _), unframed I (Nat.le_refl _)⟩) fun f c' doc pm ctv H1 s' I1 e T1 h1 h2 h3 h4 h5 => h f s' ⟨c', _, doc, pm, ctv, [v], H1, I1, e, T1, h1, h2, h3, h4, .cons rv .nil, h5⟩
end
/-- a lambda's names: its parameters (no slot is called so), captured ones and globals -/
structure LamT (N : List Str) (sc scope : Scope) : Prop where
  kind : scope.kind = .function
  co : scope.isCoroutine = false
  gen : scope.isGenerator = false
  each : ∀ y ∈ scope.names, y.2 ≠ .cell ∧ (y.2 = .local → y.1 ∉ N) ∧ (y.2 = .free → sc.names.lookup y.1 = some .cell ∨ sc.names.lookup y.1 = some .free)
def lamTB (N : List Str) (sc scope : Scope) : Bool :=
  (scope.kind == .function) && (!scope.isCoroutine && (!scope.isGenerator && scope.names.all fun y => decide (y.2 ≠ .cell ∧ (y.2 = .local → y.1 ∉ N) ∧ (y.2 = .free → sc.names.lookup y.1 = some .cell ∨ sc.names.lookup y.1 = some .free))))
theorem lamT_by {N : List Str} {sc scope : Scope} (h : lamTB N sc scope = true) : LamT N sc scope := by
  obtain ⟨h1, h⟩ := Bool.and_eq_true_iff.mp h
  obtain ⟨h2, h⟩ := Bool.and_eq_true_iff.mp h
  obtain ⟨h3, h4⟩ := Bool.and_eq_true_iff.mp h
  exact ⟨by simpa using h1, by simpa using h2, by simpa using h3, fun y m => of_decide_eq_true (List.all_eq_true.mp h4 y m)⟩
theorem LamT.has {X : Cx} {scope : Scope} (L : LamT X.N X.env.scope scope) (ok : X.Ok) : ∀ y ∈ scope.names, y.2 = .free → ∃ c, X.env.cells.lookup y.1 = some c :=
  fun y m e => ok.has _ ((L.each y m).2.2 e)
section
variable {X : Cx} {pins : List (Addr × Obj)} {σ : L2.St} {H HZ : Hp} {s s1 : Shared}
/-- what a lambda captures, it captures of its maker's cells -/
theorem clo_of {scope : Scope} (cap : ∀ y ∈ scope.names, y.2 = .free → ∃ c, X.env.cells.lookup y.1 = some c) {y : Str} {c : Addr} (e : (cloFrom X.env.cells scope.names []).lookup y = some c) : X.env.cells.lookup y = some c := by
  rcases cloFrom_mem (PySem.mem_of_lookup e) with m | ⟨m, q⟩
  · cases m
  · obtain ⟨c', e'⟩ := cap _ m rfl
    have e2 : X.env.cells.lookup y = some c' := e'
    rw [e2] at q
    rw [e2, q] <;> rfl
theorem to_clo {scope : Scope} {y : Str} (m : scope.names.lookup y = some .free) : ∃ c, (cloFrom X.env.cells scope.names []).lookup y = some c :=
  mem_lookup (cloFrom_has (cells := X.env.cells) (acc := []) (PySem.mem_of_lookup m))
/-- the state as the lambda's body finds it -/
theorem lam_start3 {A : Around} {outer : List Env} {E : XK} {scope : Scope} {f c' : Addr} {h₁ : Heap} {tk : Nat} {m : Str → Option Value} (I : Inv X pins σ H s) (L : LamT X.N X.env.scope scope) (e0 : Env0 X.prog X.w X.K X.mg X.base A outer s1 HZ) (calm : A.handled = none)
    (un : Un (frs X.stack) [] H HZ s.heap s1.heap) (ns : h₁.Ns s1.heap.objs.size m) (kp : ∀ b o, s1.heap.get? b = some o → h₁.get? b = some o) :
    Inv (lamCx X A outer s1 HZ E scope f c') [] σ HZ { s1 with heap := h₁, toks := tk } := by
  have cap := L.has I.ok
  have cells : ∀ {y c}, (cloFrom X.env.cells scope.names []).lookup y = some c → X.env.cells.lookup y = some c := fun e => clo_of cap e
  have noCell : ∀ {y}, scope.names.lookup y = some .cell → False := fun e => (L.each _ (PySem.mem_of_lookup e)).1 rfl
  have cell_ : ∀ {c : Addr} {v : Option Value}, H c = none → s.heap.IsCell c v → h₁.IsCell c v := by
    rintro c v n ⟨o, e, d⟩
    obtain ⟨sl, e'⟩ := un.any e n (by simp)
    exact ⟨_, kp _ _ e', d⟩
  have nil_ : ∀ b : Addr, b ∉ ([] : List Addr) := by simp
  constructor
  case ok =>
    refine ⟨e0.mod, L.kind, rfl, rfl, Nat.le_refl _, fun y z c a b => I.ok.inj y z c (cells a) (cells b), ?_, ?_, fun _ => calm, Around.frames_deeper e0.frames, .inr ⟨rfl, rfl⟩, fun b z => (nil_ b z).elim, e0.bs, e0.bsz, fun b _ _ => nil_ b, fun b z => (nil_ b z).elim, e0.funs, e0.frf⟩
    · rintro y (z | z)
      · exact (noCell z).elim
      · exact to_clo z
    · intro y c z
      cases (show false = true from z)
  case os => rfl
  case bare => exact e0.bare
  case base => exact Un.kept kp
  case loc =>
    refine ⟨_, ns, ?_⟩
    rintro i y v at_ val (z | z | z)
    · exact ((L.each _ (PySem.mem_of_lookup z)).2.1 rfl (List.mem_of_getElem? at_)).elim
    · exact (noCell z).elim
    · obtain ⟨m', _, look⟩ := I.loc
      have seen := (L.each _ (PySem.mem_of_lookup z)).2.2 rfl
      obtain ⟨u, r, l⟩ := look i y v at_ val (.inr seen)
      obtain ⟨c, ec⟩ := to_clo (X := X) z
      refine ⟨u, r, .inr ⟨.inr z, c, ec, ?_⟩⟩
      rcases l with ⟨l, _⟩ | ⟨_, c2, e2, isc⟩
      · have l' : X.env.scope.names.lookup y = some .local := l
        rcases seen with k | k <;> cases l'.symm.trans k
      · cases (cells ec).symm.trans e2
        exact cell_ (I.freeC y _ e2) isc
  case cell =>
    intro y c e
    obtain ⟨v, z⟩ := I.cell y c (cells e)
    exact ⟨v, cell_ (I.freeC y c (cells e)) z⟩
  case free => exact e0.hok.fresh (Nat.le_refl _)
  case freeC =>
    intro y c e
    obtain ⟨v, o, at_, _⟩ := I.cell y c (cells e)
    exact un.free c o at_ (I.freeC y c (cells e)) (by simp)
  case pin =>
    intro p m
    exact absurd (show p ∈ ([] : List (Addr × Obj)) from m) (by simp)
  case hok => exact e0.hok.kept kp
  case len => exact I.len
/-- the parameters are bound by the given values -/
def LamBinds (params : Arguments) (body : Expr) (scope : Scope) (ps : List Str) (dvs : List V) : Prop := ∀ (q : Str) (cl : List (Str × Addr)) (dV doc pm cv ctv : Value) (us : List Value) (H : Hp) (stk : List Env) (s : Shared), Vals dvs us → DvOk dV us H stk s.heap →
  BindsTo s (PySem.W.kdv_fn "<lambda>" q params (.expr body) scope cl dV doc pm cv ctv) ⟨[], []⟩ (ps.zip us)
/-- the lambda called, from where its taker stands -/
theorem lam_runs {A : Around} {outer : List Env} {ps : List Str} {dvs : List V} {f c' : Addr} {dV doc pm ctv : Value} {us : List Value} {params : Arguments} {body : Expr} {scope : Scope} {k : Nat} {Q : VK} {E : XK} {tb : TE} (I : Inv X pins σ H s) (L : LamT X.N X.env.scope scope)
    (isF : s1.heap.get? f = some (lamObj X params body scope dV doc pm c' ctv)) (isC : HZ c' = some (CodeO c' (X.env.qual ++ "<lambda>"))) (dv : DvOk dV us H X.stack s1.heap) (rv : Vals dvs us) (bind : LamBinds params body scope ps dvs) (par : ∀ p ∈ ps, scope.names.lookup p = some .local)
    (e0 : Env0 X.prog X.w X.K X.mg X.base A outer s1 HZ) (lim : s1.heap.NoLimit) (un : Un (frs X.stack) [] H HZ s.heap s1.heap) (room : Room (k + 1) A)
    (B : ∀ (A : Around) (outer : List Env) (s : Shared) (H : Hp), Room k (A.deeper (lamEnv X scope s.heap.objs.size f c')) → PE (lamCx X A outer s H E scope f c') body tb) (q : tb σ HZ Q) :
    codeAny (model X.prog X.w) A (.call (.ref f) ⟨[], []⟩) (CR (L2.CX X.prog X.w) outer X.prog X.w HZ s1 Q E) s1 := by
  obtain ⟨⟨oc, vs, t, eo, ed, en⟩, _, _⟩ := e0.hok c' _ isC
  apply PySem.W.kla_callFunE room.depth isF rfl L.co L.gen rfl ⟨c', oc, vs, t, rfl, eo, ed, en⟩
  apply bind _ _ _ _ _ _ _ _ _ _ _ rv dv
  apply wpAny_newFunctionEnv (fun y m => (L.each y m).1) (fun p m => par p.1 (List.of_mem_zip (a := p.1) (b := p.2) m).1) ?_ L.kind
  intro h₁ ns but
  refine ⟨lim.fresh _ but, ?_⟩
  have kp : ∀ b o, s1.heap.get? b = some o → h₁.get? b = some o := fun b o e => but.extBut b o (Nat.ne_of_lt (Heap.lt_size e)) (Heap.get?_push_of_some _ e)
  apply PySem.W.kla_codeExpr
  apply wpAny_mono ((B A outer s1 HZ (room.deeper _)).run [] _ _ HZ Q (lam_start3 (f := f) (c' := c') I L e0 room.hd un ns kp) q)
  · rintro v t ⟨w', G, J, r, z⟩
    exact ⟨w', G, J.os, J.bare, J.base, J.hok, r, z⟩
  · intro e t z
    exact z
/-- x(), in the def that got the lambda -/
theorem pe_act3 {Eg : XK} {Ng ps : List Str} {dvs : List V} {qg : Str} {sg : Scope} {g f c' : Addr} {cdg dV doc pm ctv : Value} {us : List Value} {params : Arguments} {body : Expr} {scope : Scope} {k i : Nat} {a : Str} {pn : List (Addr × Obj)} {xe : Value → Shared → Prop} {W : WX} {E : XK} {tb : TE} {p1 p2 : Pos}
    (I : Inv X pins σ H s) (L : LamT X.N X.env.scope scope) (isF : s.heap.get? f = some (lamObj X params body scope dV doc pm c' ctv)) (nF : H f = none) (oF : f ∉ frs X.stack) (dv : DvOk dV us H X.stack s.heap) (rv : Vals dvs us)
    (bind : LamBinds params body scope ps dvs) (par : ∀ p ∈ ps, scope.names.lookup p = some .local)
    (tk : Takes ((cxOf CX0 X.prog X.w X.K X.mg X.base Ng qg sg g cdg X.A X.stack s H Eg).tr pn xe) W) (sub : ∀ cls d σ' H', E cls d H' → W cls d σ' H') (room : Room (k + 1) (X.A.deeper (envOfC qg sg s.heap.objs.size g cdg)))
    (B : ∀ (A : Around) (outer : List Env) (s : Shared) (H : Hp), Room k (A.deeper (lamEnv X scope s.heap.objs.size f c')) → PE (lamCx X A outer s H E scope f c') body tb)
    (at_ : Ng[i]? = some a) (vis : Vis sg a) (d1 : (a == ("__debug__" : Str)) = false := by decide) (d2 : (a == ("__classdict__" : Str)) = false := by decide) :
    PE ((cxOf CX0 X.prog X.w X.K X.mg X.base Ng qg sg g cdg X.A X.stack s H Eg).tr pn xe) (.Call (.Name a p1) [] [] p2)
      (fun σZ HZ Q => σZ[i]? = some (some (.ref f)) ∧ HZ c' = some (CodeO c' (X.env.qual ++ "<lambda>")) ∧ tb σ HZ Q) := by
  constructor
  rintro pinsZ sZ σZ HZ Q IZ ⟨slot, isC, q⟩
  apply wpAny_Call_Name_kw
  apply thn ((pe_var (pos := p1) (i := i) at_ vis d1 d2).run pinsZ sZ σZ HZ (fun v G => v = .ref f ∧ G = HZ) IZ ⟨.ref f, slot, rfl, rfl⟩)
  rintro u t ⟨_, _, J, r, rfl, rfl⟩
  cases (show u = Value.ref f from r)
  have old : ∀ {b o}, s.heap.get? b = some o → H b = none → b ∉ frs X.stack → t.heap.get? b = some o := fun e n nf => J.base.keep _ _ e n nf (by simp [cxOf])
  have isF1 := old isF nF oF
  have dv1 : DvOk dV us H X.stack t.heap := dv.imp id fun ⟨nz, b, e1, e2, e3, e4⟩ => ⟨nz, b, e1, old e2 e3 e4, e3, e4⟩
  apply PySem.W.callWith_F0 ⟨_, _, _, _, isF1⟩
  apply wpAny_call
  apply codeAny_mono (lam_runs I L isF1 isC dv1 rv bind par J.env0 J.nolimit J.base room B q)
  rintro (e | fl) t2 z
  · exact passes_call tk sub pinsZ σZ _ t e t2 J z
  · cases fl with
    | ret u => exact J.after z
    | next => exact z.elim
    | brk => exact z.elim
    | cont => exact z.elim
end
/-- lambda: .. -/
theorem lamBinds0 {body : Expr} {scope : Scope} : LamBinds { posonlyargs := [], args := [], vararg := none, kwonlyargs := [], kw_defaults := [], kwarg := none, defaults := [] } body scope [] [] := by
  intro q cl dV doc pm cv ctv us H stk s r d
  cases r
  rcases d with ⟨_, rfl⟩ | ⟨z, _⟩
  · exact .of_eq rfl
  · exact (z rfl).elim
/-! lambda a1=i: .. (and so on: the name must be written) -/
theorem lamBinds_a0 {i : Int} {j : Nat} {ap dp : Pos} {body : Expr} {scope : Scope} : LamBinds { posonlyargs := [], args := [{ arg := "a0", annotation := none, pos := ap }], vararg := none, kwonlyargs := [], kw_defaults := [], kwarg := none, defaults := [.Constant (.int i) j dp] } body scope ["a0"] [.int i] := by
  intro q cl dV doc pm cv ctv us H stk s r d
  cases r with
  | cons rx rr =>
    cases rr
    rcases d with ⟨z, _⟩ | ⟨_, t, rfl, e, _⟩
    · cases z
    · refine BindsTo.of_defaults (k := ?k) rfl e rfl ?h1 ?h2
      case h1 => exact rfl
      case h2 => exact rfl
theorem lamBinds_a1 {i : Int} {j : Nat} {ap dp : Pos} {body : Expr} {scope : Scope} : LamBinds { posonlyargs := [], args := [{ arg := "a1", annotation := none, pos := ap }], vararg := none, kwonlyargs := [], kw_defaults := [], kwarg := none, defaults := [.Constant (.int i) j dp] } body scope ["a1"] [.int i] := by
  intro q cl dV doc pm cv ctv us H stk s r d
  cases r with
  | cons rx rr =>
    cases rr
    rcases d with ⟨z, _⟩ | ⟨_, t, rfl, e, _⟩
    · cases z
    · refine BindsTo.of_defaults (k := ?k) rfl e rfl ?h1 ?h2
      case h1 => exact rfl
      case h2 => exact rfl
theorem lamBinds_a2 {i : Int} {j : Nat} {ap dp : Pos} {body : Expr} {scope : Scope} : LamBinds { posonlyargs := [], args := [{ arg := "a2", annotation := none, pos := ap }], vararg := none, kwonlyargs := [], kw_defaults := [], kwarg := none, defaults := [.Constant (.int i) j dp] } body scope ["a2"] [.int i] := by
  intro q cl dV doc pm cv ctv us H stk s r d
  cases r with
  | cons rx rr =>
    cases rr
    rcases d with ⟨z, _⟩ | ⟨_, t, rfl, e, _⟩
    · cases z
    · refine BindsTo.of_defaults (k := ?k) rfl e rfl ?h1 ?h2
      case h1 => exact rfl
      case h2 => exact rfl
theorem lamBinds_a3 {i : Int} {j : Nat} {ap dp : Pos} {body : Expr} {scope : Scope} : LamBinds { posonlyargs := [], args := [{ arg := "a3", annotation := none, pos := ap }], vararg := none, kwonlyargs := [], kw_defaults := [], kwarg := none, defaults := [.Constant (.int i) j dp] } body scope ["a3"] [.int i] := by
  intro q cl dV doc pm cv ctv us H stk s r d
  cases r with
  | cons rx rr =>
    cases rr
    rcases d with ⟨z, _⟩ | ⟨_, t, rfl, e, _⟩
    · cases z
    · refine BindsTo.of_defaults (k := ?k) rfl e rfl ?h1 ?h2
      case h1 => exact rfl
      case h2 => exact rfl
theorem lamBinds_a4 {i : Int} {j : Nat} {ap dp : Pos} {body : Expr} {scope : Scope} : LamBinds { posonlyargs := [], args := [{ arg := "a4", annotation := none, pos := ap }], vararg := none, kwonlyargs := [], kw_defaults := [], kwarg := none, defaults := [.Constant (.int i) j dp] } body scope ["a4"] [.int i] := by
  intro q cl dV doc pm cv ctv us H stk s r d
  cases r with
  | cons rx rr =>
    cases rr
    rcases d with ⟨z, _⟩ | ⟨_, t, rfl, e, _⟩
    · cases z
    · refine BindsTo.of_defaults (k := ?k) rfl e rfl ?h1 ?h2
      case h1 => exact rfl
      case h2 => exact rfl
theorem lamBinds_a5 {i : Int} {j : Nat} {ap dp : Pos} {body : Expr} {scope : Scope} : LamBinds { posonlyargs := [], args := [{ arg := "a5", annotation := none, pos := ap }], vararg := none, kwonlyargs := [], kw_defaults := [], kwarg := none, defaults := [.Constant (.int i) j dp] } body scope ["a5"] [.int i] := by
  intro q cl dV doc pm cv ctv us H stk s r d
  cases r with
  | cons rx rr =>
    cases rr
    rcases d with ⟨z, _⟩ | ⟨_, t, rfl, e, _⟩
    · cases z
    · refine BindsTo.of_defaults (k := ?k) rfl e rfl ?h1 ?h2
      case h1 => exact rfl
      case h2 => exact rfl
theorem lamBinds_a6 {i : Int} {j : Nat} {ap dp : Pos} {body : Expr} {scope : Scope} : LamBinds { posonlyargs := [], args := [{ arg := "a6", annotation := none, pos := ap }], vararg := none, kwonlyargs := [], kw_defaults := [], kwarg := none, defaults := [.Constant (.int i) j dp] } body scope ["a6"] [.int i] := by
  intro q cl dV doc pm cv ctv us H stk s r d
  cases r with
  | cons rx rr =>
    cases rr
    rcases d with ⟨z, _⟩ | ⟨_, t, rfl, e, _⟩
    · cases z
    · refine BindsTo.of_defaults (k := ?k) rfl e rfl ?h1 ?h2
      case h1 => exact rfl
      case h2 => exact rfl
theorem lamBinds_a7 {i : Int} {j : Nat} {ap dp : Pos} {body : Expr} {scope : Scope} : LamBinds { posonlyargs := [], args := [{ arg := "a7", annotation := none, pos := ap }], vararg := none, kwonlyargs := [], kw_defaults := [], kwarg := none, defaults := [.Constant (.int i) j dp] } body scope ["a7"] [.int i] := by
  intro q cl dV doc pm cv ctv us H stk s r d
  cases r with
  | cons rx rr =>
    cases rr
    rcases d with ⟨z, _⟩ | ⟨_, t, rfl, e, _⟩
    · cases z
    · refine BindsTo.of_defaults (k := ?k) rfl e rfl ?h1 ?h2
      case h1 => exact rfl
      case h2 => exact rfl
theorem lamBinds_a8 {i : Int} {j : Nat} {ap dp : Pos} {body : Expr} {scope : Scope} : LamBinds { posonlyargs := [], args := [{ arg := "a8", annotation := none, pos := ap }], vararg := none, kwonlyargs := [], kw_defaults := [], kwarg := none, defaults := [.Constant (.int i) j dp] } body scope ["a8"] [.int i] := by
  intro q cl dV doc pm cv ctv us H stk s r d
  cases r with
  | cons rx rr =>
    cases rr
    rcases d with ⟨z, _⟩ | ⟨_, t, rfl, e, _⟩
    · cases z
    · refine BindsTo.of_defaults (k := ?k) rfl e rfl ?h1 ?h2
      case h1 => exact rfl
      case h2 => exact rfl
theorem lamBinds_a9 {i : Int} {j : Nat} {ap dp : Pos} {body : Expr} {scope : Scope} : LamBinds { posonlyargs := [], args := [{ arg := "a9", annotation := none, pos := ap }], vararg := none, kwonlyargs := [], kw_defaults := [], kwarg := none, defaults := [.Constant (.int i) j dp] } body scope ["a9"] [.int i] := by
  intro q cl dV doc pm cv ctv us H stk s r d
  cases r with
  | cons rx rr =>
    cases rr
    rcases d with ⟨z, _⟩ | ⟨_, t, rfl, e, _⟩
    · cases z
    · refine BindsTo.of_defaults (k := ?k) rfl e rfl ?h1 ?h2
      case h1 => exact rfl
      case h2 => exact rfl
theorem lamBinds_a10 {i : Int} {j : Nat} {ap dp : Pos} {body : Expr} {scope : Scope} : LamBinds { posonlyargs := [], args := [{ arg := "a10", annotation := none, pos := ap }], vararg := none, kwonlyargs := [], kw_defaults := [], kwarg := none, defaults := [.Constant (.int i) j dp] } body scope ["a10"] [.int i] := by
  intro q cl dV doc pm cv ctv us H stk s r d
  cases r with
  | cons rx rr =>
    cases rr
    rcases d with ⟨z, _⟩ | ⟨_, t, rfl, e, _⟩
    · cases z
    · refine BindsTo.of_defaults (k := ?k) rfl e rfl ?h1 ?h2
      case h1 => exact rfl
      case h2 => exact rfl
theorem lamBinds_a11 {i : Int} {j : Nat} {ap dp : Pos} {body : Expr} {scope : Scope} : LamBinds { posonlyargs := [], args := [{ arg := "a11", annotation := none, pos := ap }], vararg := none, kwonlyargs := [], kw_defaults := [], kwarg := none, defaults := [.Constant (.int i) j dp] } body scope ["a11"] [.int i] := by
  intro q cl dV doc pm cv ctv us H stk s r d
  cases r with
  | cons rx rr =>
    cases rr
    rcases d with ⟨z, _⟩ | ⟨_, t, rfl, e, _⟩
    · cases z
    · refine BindsTo.of_defaults (k := ?k) rfl e rfl ?h1 ?h2
      case h1 => exact rfl
      case h2 => exact rfl
theorem lamBinds_a12 {i : Int} {j : Nat} {ap dp : Pos} {body : Expr} {scope : Scope} : LamBinds { posonlyargs := [], args := [{ arg := "a12", annotation := none, pos := ap }], vararg := none, kwonlyargs := [], kw_defaults := [], kwarg := none, defaults := [.Constant (.int i) j dp] } body scope ["a12"] [.int i] := by
  intro q cl dV doc pm cv ctv us H stk s r d
  cases r with
  | cons rx rr =>
    cases rr
    rcases d with ⟨z, _⟩ | ⟨_, t, rfl, e, _⟩
    · cases z
    · refine BindsTo.of_defaults (k := ?k) rfl e rfl ?h1 ?h2
      case h1 => exact rfl
      case h2 => exact rfl
/-! ### the def that a lambda is handed to -/
/-- the taker's context: the def x at g, entered at s with H -/
abbrev takerCx (X : Cx) (Ng : List Str) (x : Str) (sg : Scope) (g : Addr) (cdg : Value) (s : Shared) (H : Hp) : Cx := cxOf CX0 X.prog X.w X.K X.mg X.base Ng x sg g cdg X.A X.stack s H E0
/-- the taker keeps TT: what it makes of the lambda's reading; a is the name by which it calls what it got -/
def GivesG (X : Cx) (Ng : List Str) (x : Str) (sg : Scope) (g : Addr) (cdg : Value) (bg : List Stmt) (a : Str) (q : Str) (TT : (XK → Hp → VK → Prop) → Hp → VK → Prop) : Prop :=
  ∀ (f c' : Addr) (s : Shared) (H : Hp) (Q : VK) (tl : XK → Hp → VK → Prop),
    (∀ (W : WX) (pn : List (Addr × Obj)) (xe : Value → Shared → Prop) (E : XK) (p1 p2 : Pos), Takes ((takerCx X Ng x sg g cdg s H).tr pn xe) W → (∀ cls d σ' H', E cls d H' → W cls d σ' H') →
      PE ((takerCx X Ng x sg g cdg s H).tr pn xe) (.Call (.Name a p1) [] [] p2) (fun σZ HZ Q => σZ[0]? = some (some (.ref f)) ∧ HZ c' = some (CodeO c' q) ∧ tl E HZ Q)) →
    H c' = some (CodeO c' q) → TT tl H Q → ∃ t, PSs (takerCx X Ng x sg g cdg s H).nox bg t ∧ t ⟨fun _ G => Q .non G, Q, fun _ _ => False, fun _ _ => False⟩ (L2.start Ng [.ref f]) H
section
variable {X : Cx}
/-- a lambda's call, as the def that got it knows it -/
structure LamGo (X : Cx) (T : List (Addr × Str)) (c P : Addr) (params : Arguments) (body : Expr) (scope : Scope) (ps : List Str) (dvs : List V) : Prop where
  TB : TabB X.base X.mg c P
  code : X.env.code = .ref c
  mem : (P, X.env.qual ++ "<lambda>") ∈ T
  one : ∀ p ∈ T, p.1 = P → p.2 = X.env.qual ++ "<lambda>"
  L : LamT X.N X.env.scope scope
  binds : LamBinds params body scope ps dvs
  pl : ∀ p ∈ ps, scope.names.lookup p = some .local
/-- the given values: none, or one integer -/
def DefsOk (X : Cx) (params : Arguments) (dvs : List V) : Prop := (dvs = [] ∧ defaultsOf params X.env = ([], [])) ∨ (∃ i j dp, dvs = [.int i] ∧ params.defaults = [.Constant (.int i) j dp] ∧ params.kw_defaults = [])
theorem lam_make {pins : List (Addr × Obj)} {σ : L2.St} {H : Hp} {s : Shared} {T : List (Addr × Str)} {c P : Addr} {params : Arguments} {body : Expr} {scope : Scope} {ps : List Str} {dvs : List V} {pos : Pos} {E : Value → Shared → Prop} {Q : Value → Shared → Prop} (I : Inv X pins σ H s) (G : LamGo X T c P params body scope ps dvs) (D : DefsOk X params dvs) (hT : Tabs T H)
    (h : ∀ (f : Addr) (s' : Shared), LamMade X pins σ H T params body scope dvs f s' → Q (.ref f) s') : wpAny (model X.prog X.w) X.A (eval (.Lambda params body scope pos) X.env) Q E s := by
  rcases D with ⟨rfl, d⟩ | ⟨i, j, dp, rfl, d, kd⟩
  · exact lam_make0 I G.TB G.code G.mem G.one hT d (G.L.has I.ok) h
  · exact lam_make1 I G.TB G.code G.mem G.one hT d kd (G.L.has I.ok) h
/-- a def whose object is known: its call, where its body's reading is told of the very state -/
theorem taken {P : Program} {w : World} {K : PySem.W.Frag} {mg : Str → Option Value} {base : Heap} {k : Nat} {f : Addr} {x qual : Str} {pg : Arguments} {bg : List Stmt} {sg : Scope} {dV kV dc pm cdv ct oc : Value} {an od : Option Addr} {sl : Array (Option Value)} {N : List Str} {a : Str} (look : K.lookup f = some ⟨oc, od, .func (PySem.W.fnOf x qual pg bg sg dV kV dc pm an cdv ct), sl⟩)
    (code : PySem.W.codeIn K cdv qual = true) (S : FnScope N [a] sg) {A : Around} {fr : List Env} {s : Shared} {H : Hp} {args : Args} {u : Value} {v : V} {Q : VK} (room : Room (k + 1) A) (env : Env0 P w K mg base A fr s H) (bind : BindsTo s (PySem.W.fnOf x qual pg bg sg dV kV dc pm an cdv ct) args [(a, u)]) (rel : L2.RelV v u)
    (body : Room k (A.deeper (envOfC qual sg s.heap.objs.size f cdv)) → ∃ t, PSs (cxOf CX0 P w K mg base N qual sg f cdv A fr s H E0).nox bg t ∧ t ⟨fun _ G => Q .non G, Q, fun _ _ => False, fun _ _ => False⟩ (L2.start N [v]) H) :
    codeAny (model P w) A (.call (.ref f) args) (CR CX0 fr P w H s Q E0) s :=
  run_ofS (CX := CX0) (ps := [a]) (us := [u]) (vs := [v]) look code S room env bind (.cons rel .nil) rfl fun r => (body r).imp fun _ z => ⟨z.1.nox, z.2⟩
/-- x(lambda ..: body) -/
theorem pe_lamX {T : List (Addr × Str)} {TT : (XK → Hp → VK → Prop) → Hp → VK → Prop} {x a : Str} {g c P : Addr} {k : Nat} {pg : Arguments} {bg : List Stmt} {sg : Scope} {dV kV dc pm cdv ct oc : Value} {an od : Option Addr} {sl : Array (Option Value)} {Ng ps : List Str} {dvs : List V} {params : Arguments} {body : Expr} {scope : Scope} {t : XK → TE} {p lp pos : Pos}
    (glob : Gl X x) (mgx : X.mg x = some (.ref g)) (kp : PySem.W.keepIn X.K (.ref g) = true) (look : X.K.lookup g = some ⟨oc, od, .func (PySem.W.fnOf x x pg bg sg dV kV dc pm an cdv ct), sl⟩) (code : PySem.W.codeIn X.K cdv x = true)
    (b : L2.Binds X.K (PySem.W.fnOf x x pg bg sg dV kV dc pm an cdv ct) [a] []) (S : FnScope Ng [a] sg) (first : Ng[0]? = some a) (vis : Vis sg a) (give : GivesG X Ng x sg g cdv bg a (X.env.qual ++ "<lambda>") TT) (room : Room (k + 2) X.A) (G : LamGo X T c P params body scope ps dvs) (D : DefsOk X params dvs)
    (B : ∀ (A : Around) (outer : List Env) (s : Shared) (H : Hp) (E : XK) (f c' : Addr), Room k (A.deeper (lamEnv X scope s.heap.objs.size f c')) → PE (lamCx X A outer s H E scope f c') body (t E))
    (d0 : (x == ("__debug__" : Str)) = false := by decide) (d1 : (a == ("__debug__" : Str)) = false := by decide) (d2 : (a == ("__classdict__" : Str)) = false := by decide) :
    PE X (.Call (.Name x p) [.Lambda params body scope lp] [] pos) (tLam T TT t) := by
  constructor
  rintro pins s σ H Q I ⟨tabs, q⟩
  apply wpAny_Call_Name_kw (ld_glob I glob mgx ?_ d0)
  refine PySem.W.callWith_K (h₀ := X.base) I.ok.mod.kin kp ?_ (by rfl) (by rfl)
  refine Calls.spliced_cons (lam_make I G D tabs ?_)
  rintro f t1 ⟨c', dV', dc', pm', ctv, us, H1, J, grow, T1, isF, nF, oF, dv, rv, isC⟩
  refine Calls.spliced_nil ⟨J.kIn, wpAny_call ?_⟩
  have go := taken (Q := Q) look code S room J.env0 (b t1 [.ref f] J.kIn rfl) (show L2.RelV (.ref f) (.ref f) from rfl) fun r =>
    give f c' t1 H1 Q (fun E G Q' => t E σ G Q') (fun W pn xe E p1 p2 tk sub => pe_act3 (i := 0) J G.L isF nF oF dv rv G.binds G.pl tk sub r (fun A outer s H r2 => B A outer s H E f c' r2) first vis d1 d2) isC (q H1 grow T1)
  apply codeAny_mono go
  rintro (e | fl) t2 z
  · exact (show False from z).elim
  · cases fl with
    | ret u => exact J.after z
    | next => exact z.elim
    | brk => exact z.elim
    | cont => exact z.elim
end
end Rp
namespace Rp
open PySem PySem.Spec PyProof.Rows L2 LamX
/-! ### defs that errors may leave -/
theorem pass0X {X : Cx} {σ : L2.St} : PassesAt (L2.CX X.prog X.w) X σ E0 := fun _ _ _ _ _ _ c => by
  obtain ⟨_, _, _, _, _, _, _, _, _, _, _, _, z⟩ := c
  exact z.elim
/-- a def that errors may leave, as its callers know it -/
structure CalX (P : Program) (w : World) (K : PySem.W.Frag) (mg : Str → Option Value) (base : Heap) (x : Str) (k : Nat) (f : Addr) (fd : FuncData) (ps : List Str) (sp : Sp) : Prop where
  F : FnOk P w K mg base (L2.CX P w) k f fd ps sp
  mgf : mg x = some (.ref f)
  kp : PySem.W.keepIn K (.ref f) = true
  b : Binds K fd ps []
def tGoE (sp : Sp) (E : XK) (t : TA) : TE := fun σ H Q => t σ H fun vs G => sp vs G Q E
theorem r_goE {sp : Sp} {E : XK} {t : TA} {σ : L2.St} {H : Hp} {Q : VK} (h : t σ H fun vs G => sp vs G Q E) : tGoE sp E t σ H Q := h
section
variable {X : Cx} {k : Nat} {f : Addr} {fd : FuncData} {ps ks : List Str} {sp : Sp} {x : Str} {p pos : Pos} {e : Expr} {es : List Expr} {t tk : TA} {kws : List Keyword} {E : XK}
/-- called where no error may come -/
theorem pe_goX (c : CalX X.prog X.w X.K X.mg X.base x k f fd ps sp) (r : Room k X.A) (hg : Gl X x) (ha : PA X (e :: es) t) (d1 : (x == ("__debug__" : Str)) = false := by decide)
    (d2 : starEach (e :: es) X.env = (false, eval e X.env) :: starEach es X.env := by rfl) (d3 : (backTo pos (starEach es X.env)).any (·.1) = false := by rfl) : PE X (.Call (.Name x p) (e :: es) [] pos) (tGo sp t) :=
  pe_callS (E := fun _ => E0) c.F r hg c.mgf c.kp c.b (fun _ => pass0X) ha d1 d2 d3
/-- called where an error is E's -/
theorem pe_goE (c : CalX X.prog X.w X.K X.mg X.base x k f fd ps sp) (r : Room k X.A) (tk : Takes X (fun cls d _ H => E cls d H)) (hg : Gl X x) (ha : PA X (e :: es) t) (d1 : (x == ("__debug__" : Str)) = false := by decide)
    (d2 : starEach (e :: es) X.env = (false, eval e X.env) :: starEach es X.env := by rfl) (d3 : (backTo pos (starEach es X.env)).any (·.1) = false := by rfl) : PE X (.Call (.Name x p) (e :: es) [] pos) (tGoE sp E t) :=
  pe_callS (E := WE fun cls d _ H => E cls d H) c.F r hg c.mgf c.kp c.b (fun σ => passAt tk σ) ha d1 d2 d3
/-- what the callee does, from the caller's state -/
theorem goesX {pins : List (Addr × Obj)} {σ : L2.St} {H : Hp} {s : Shared} {Q : VK} {args : Args} {us : List Value} {vs : List V} (F : FnOk X.prog X.w X.K X.mg X.base (L2.CX X.prog X.w) k f fd ps sp) (r : Room k X.A)
    (I : Inv X pins σ H s) (b : BindsTo s fd args (ps.zip us)) (rel : Vals vs us) (q : sp vs H Q E0) : codeAny (model X.prog X.w) X.A (.call (.ref f) args) (fun a s2 => ∃ u, a = .ok (.ret u) ∧ EP X pins σ Q u s2) s := by
  apply codeAny_mono (F.run X.A X.stack s H args us vs Q E0 r I.env0 b rel q)
  intro a s2 h
  rcases a with er | fl
  · obtain ⟨_, _, _, _, _, _, _, _, _, _, _, _, z⟩ := h
    exact z.elim
  · cases fl with
    | ret u => exact ⟨u, rfl, I.after h⟩
    | next => exact h.elim
    | brk => exact h.elim
    | cont => exact h.elim
theorem pe_kwX {ix : List Nat} (c : CalX X.prog X.w X.K X.mg X.base x k f fd ps sp) (hb : KBx X.K fd ps 0 ks ix) (r : Room k X.A) (hg : Gl X x) (hkw : PK X kws tk)
    (d4 : (backToKw pos (keywordEach kws X.env)).all (·.1.isSome) = true := by rfl) (d5 : (backToKw pos (keywordEach kws X.env)).filterMap (·.1) = ks := by rfl) (d1 : (x == ("__debug__" : Str)) = false := by decide)
    (d3 : (backToKw pos (keywordEach kws X.env)).any (·.1.isNone) = false := by rfl) : PE X (.Call (.Name x p) [] kws pos) (tKw sp 0 ks.length ix E0 L2.tNil tk) := by
  constructor
  intro pins s σ H Q I h
  apply wpAny_Call_Name_kw (ld_glob I hg c.mgf ?_ d1)
  apply PySem.W.callWith_KW0 (h₀ := X.base) I.ok.mod.kin c.kp d4 ?_ d3
  apply thn (hkw.run pos pins s σ H _ I h)
  rintro ws s2 ⟨zs, H2, I2, rz, _, lz, q⟩
  refine ⟨I2.kIn, ?_⟩
  rw [d5]
  apply wpAny_call
  have lw : ws.length = ks.length := by rw [← rz.length]; exact lz
  apply codeAny_mono (goesX c.F r I2 (hb.to s2 [] ws rfl lw) (vals_ix (.append .nil rz) ix) q)
  rintro a s3 ⟨u, rfl, z⟩
  exact z
end
/-! ### own errors with one field -/
def spIni1 (C : Addr) (f : Str) : Sp := fun vs H Q _ => ∃ a v, vs = [.ref a, v] ∧ H a = some (exo a C none) ∧ ∀ dx, H dx = none → dx ≠ a → Q .non (upd (upd H dx (exd dx [(f, v)])) a (exo a C (some dx)))
/-- what the written part says of an error's class x at C, whose __init__ at fI keeps its one argument as f -/
structure Err1 (P : Program) (w : World) (K : PySem.W.Frag) (mg : Str → Option Value) (base : Heap) (x : Str) (C : Addr) (f : Str) : Prop where
  g : mg x = some (.ref C)
  oex : OexC K C
  no : PySem.W.findIn K (.ref C) f = some none
  xf : XfC K C
  ini : ∃ (fI : Addr) (fd : FuncData) (ps : List Str), PySem.W.findIn K (.ref C) "__init__" = some (some (.ref fI)) ∧ PySem.W.typeIn K (.ref fI) = some (.type "function") ∧ Binds K fd ps [] ∧
    FnOk P w K mg base CX0 1 fI fd ps (spIni1 C f)
/-- x(e), raised: the error's own dict is new -/
def tErr (C : Addr) (f : Str) (te : TE) : L2.St → Hp → XK → Prop := fun σ H Q => te σ H fun v H1 => ∀ d, H1 d = none → Q (.ref C) (some d) (upd H1 d (.xd [(f, v)]))
theorem del_put {H : Hp} {a d : Addr} {o u o2 : HO} {fs : List (Str × V)} (na : H a = none) (ne : d ≠ a) : upd (del (upd (upd (upd H a o) d u) a o2) a) d (.xd fs) = upd H d (.xd fs) := by
  funext b
  by_cases hd : b = d
  · rw [hd, upd_same, upd_same]
  · rw [upd_ne hd, upd_ne hd]
    by_cases ha : b = a
    · rw [ha, del_same, na]
    · rw [del_ne ha, upd_ne ha, upd_ne hd, upd_ne ha]
/-- a reading with room: weaker ends follow -/
def tMono (te : TE) : TE := fun σ H R => ∃ R0 : VK, te σ H R0 ∧ ∀ v G, R0 v G → R v G
theorem pe_mono {X : Cx} {e : Expr} {te : TE} (he : PE X e te) : PE X e (tMono te) :=
  ⟨fun pins s σ H Q I ⟨R0, h, m⟩ => wpAny_mono (he.run pins s σ H R0 I h) (fun u s1 ⟨v, G, J, r, q⟩ => ⟨v, G, J, r, m v G q⟩) fun _ _ z => z⟩
theorem pmk_err1 {X : Cx} {x f : Str} {C : Addr} {e : Expr} {te : TE} {p pos : Pos} (T : Err1 X.prog X.w X.K X.mg X.base x C f) (hr : Room 2 X.A) (hg : Gl X x) (he : PE X e te) (d1 : (x == ("__debug__" : Str)) = false := by decide)
    (d2 : starEach (e :: []) X.env = (false, eval e X.env) :: starEach [] X.env := by rfl) (d3 : (backTo pos (starEach [] X.env)).any (·.1) = false := by rfl) : PMk X (.Call (.Name x p) [e] [] pos) (tErr C f te) := by
  obtain ⟨fI, fd, ps, h1, h2, h3, h4⟩ := T.ini
  intro pins s σ H Q I h
  refine pmk_oex T.oex h1 h2 h4 hr h3 .nil (fun _ _ _ _ _ _ _ z => z.elim) hg T.g (pa_cons (pe_mono he) pa_nil d2) d1 d2 d3 pins s σ H Q I ?_
  refine ⟨_, h, fun v H1 k => ⟨by show 1 ≤ 1000; decide, fun a na => ⟨a, v, rfl, upd_same, fun dx nd ne => ⟨rfl, dx, [(f, v)], upd_same, ?_, ?_, ?_⟩⟩⟩⟩
  · rw [upd_ne ne, upd_same]
  · rw [upd_ne ne] at nd
    exact nd
  · rw [upd_ne ne] at nd
    rw [del_put na ne]
    exact k dx nd
/-! ### a def whose code object is known -/
structure FunC (K : PySem.W.Frag) (x qual : Str) (st : Stmt) (f : Addr) (fd : FuncData) (c : Addr) : Prop where
  ex : ∃ (oc : Value) (od : Option Addr) (kV doc pm : Value) (an : Option Addr) (ct : Value) (osl : Array (Option Value)),
    fd = PySem.W.fnOf x qual (defArgs st) (defBody st) (defScope st) .none kV doc pm an (.ref c) ct ∧ K.lookup f = some ⟨oc, od, .func fd, osl⟩ ∧ PySem.W.codeIn K (.ref c) qual = true
section
variable {P : Program} {w : World} {K : PySem.W.Frag} {mg : Str → Option Value} {base : Heap} {k : Nat} {f : Addr} {fd : FuncData} {ps : List Str} {sp : Sp}
theorem fngC {x qual : Str} {st : Stmt} {N : List Str} {c : Addr} (F : FunC K x qual st f fd c) (S : FnScope N ps (defScope st)) (ar : ∀ {vs H Q E}, sp vs H Q E → vs.length = ps.length)
    (body : ∀ {A : Around} {fr : List Env} {s : Shared} {H : Hp} {vs : List V} {Q : VK} {E : XK}, A.guards = some [] → Room k (A.deeper (envOfC qual (defScope st) s.heap.objs.size f (.ref c))) → sp vs H Q E →
      ∃ t, PSs (cxOf CX0 P w K mg base N qual (defScope st) f (.ref c) A fr s H E).nox (defBody st) t ∧ t ⟨fun _ G => Q .non G, Q, fun _ _ => False, fun _ _ => False⟩ (L2.start N vs) H) : FnG P w K mg base (k + 1) f fd ps sp := by
  generalize hcd : Value.ref c = cdv at body
  obtain ⟨oc, od, kV, dc, pm, an, ct, sl, e, look, code⟩ := F.ex
  rw [hcd] at e code
  subst e
  constructor
  · exact ar
  intro A fr s H args us vs Q E hg room env bind rel q
  have size := ar q
  have kin := env.mod.kin.keeps fun b o z => (env.bs b o z).1
  have nolim := env.mod.nolimit.keeps fun b o z => (env.bs b o z).1
  have knd : ∀ p ∈ ps.zip us, (defScope st).names.lookup p.1 = some .local ∨ ((defScope st).names.lookup p.1 = some .cell ∧ ((cellsFrom (s.heap.objs.size + 1) (defScope st).names []).lookup p.1).isSome = true) := by
    rintro ⟨n, v⟩ hp
    exact (S.par n (List.of_mem_zip hp).1).imp id fun z => ⟨z, PySem.W.cellsFrom_some _ _ _ (.inl z)⟩
  apply codeAny_call_function room.depth (kin _ _ look) rfl S.co S.gen rfl (PySem.W.codeRec_of kin code)
  apply bind
  apply wpAny_newFunctionEnv_cells S.kind knd
  intro en he s1 ic
  subst he
  refine ⟨nolim.keeps ic.toInCall.keep, codeAny_func ?_⟩
  obtain ⟨t, pt, rd⟩ := body (fr := fr) (E := E) hg (room.deeper _) q
  have inv : Inv (cxOf CX0 P w K mg base N qual (defScope st) f cdv A fr s H E) [] (L2.start N vs) H s1 := inv_start S room.hd env size rel ic
  apply wpAny_mono (pt.nox.run [] s1 (L2.start N vs) H _ inv rd)
  · intro fl s2 hs
    cases fl with
    | ret u => obtain ⟨v, τ, G, J, r, z⟩ := hs; exact ⟨v, G, J.os, J.bare, J.base, J.hok, r, z⟩
    | next => obtain ⟨τ, G, J, z⟩ := hs; exact ⟨.non, G, J.os, J.bare, J.base, J.hok, rfl, z⟩
    | brk => obtain ⟨_, _, _, z⟩ := hs; exact z.elim
    | cont => obtain ⟨_, _, _, z⟩ := hs; exact z.elim
  · intro er s2 hs
    exact hs
end
/-! ### the law's call, with tables of code objects -/

/-- what is tracked as the law begins: the tables, empty, and the script, if it is not written -/
def begun (cs : List (Addr × Addr)) (own : Option (Addr × HO)) : Hp := fun b => match own with
  | some (a, o) => if b = a then some o else if b ∈ cs.map (·.2) then some (.tbl #[]) else none
  | none => if b ∈ cs.map (·.2) then some (.tbl #[]) else none
theorem law_goTs {P : Program} {w : World} {K : PySem.W.Frag} {mg mb : Str → Option Value} {k : Nat} {fa a : Addr} {cs : List (Addr × Addr)} {fd : FuncData} {x : Str} {sp : Sp} {s : Shared} {us : List Value} {ns : List Int}
    (kin : K.In s.heap) (gl : s.heap.Ns mainGlobals mg) (bl : s.heap.Ns builtinsNs mb) (boot : ∀ y : Str, y ≠ "__name__" → mb y = bootBuiltins y) (nolim : s.heap.NoLimit) (mods : HasMods s.heap) (gen : s.gens = #[])
    (tab : ∀ p ∈ cs, s.heap.get? p.2 = some { cls := .none, data := .fields #[] }) (unw : ∀ p ∈ cs, K.lookup p.2 = none) (code : ∀ p ∈ cs, PySem.W.CodeHd s.heap p.1 p.2)
    (bmod : ∃ (bm : Addr) (ob : Obj), mg "__builtins__" = some (.ref bm) ∧ bm ≠ builtinsNs ∧ s.heap.get? bm = some ob ∧ ob.cls = .type "module" ∧ ob.dict = some builtinsNs ∧ ob.data = .plain)
    (ob : s.heap.get? a = some { cls := .type "list", data := .seq us.toArray }) (nums : IntsAre us ns) (size : ns.length ≤ sizeLine) (room : Room k callerA)
    (F : ∀ base : Heap, K.In base → base.Ns mainGlobals mg → HasMods base → (∀ p ∈ cs, TabB base mg p.1 p.2) → FnG P w K mg base k fa fd [x] sp) (bind : ∀ (t : Shared) (u : Value), BindsTo t fd ⟨[u], []⟩ [(x, u)])
    (prom : ∀ H : Hp, (∀ p ∈ cs, H p.2 = some (.tbl #[])) → SqL K H a (ns.map V.int) → sp [.ref a] H (fun v _ => v = .bl true) fun _ _ _ => False) :
    codeAny (model P w) callerA (.call (.ref fa) ⟨[.ref a], []⟩) (fun r t => r = .ok (.ret (.bool true)) ∧ OldK s.heap t.heap ∧ t.os = s.os ∧ AllBare t.gens) s := by
  have rel := vals_ints nums
  have seen : ∀ p ∈ cs, p.2 ∈ cs.map (·.2) := fun p m => List.mem_map_of_mem m
  have isTab : ∀ b ∈ cs.map (·.2), s.heap.get? b = some { cls := .none, data := .fields #[] } := by
    intro b m
    obtain ⟨p, mp, rfl⟩ := List.mem_map.mp m
    exact tab p mp
  have notA : a ∉ cs.map (·.2) := fun m => by
    have z := congrArg (Option.map Obj.data) (ob.symm.trans (isTab a m))
    cases z
  -- H tracks the tables, and the script, or not the script
  suffices main : ∀ own : Option (Addr × HO), (∀ b o, own = some (b, o) → b = a ∧ K.lookup a = none ∧ o = .frz { cls := .type "list", data := .seq us.toArray } (.lst (ns.map V.int))) → SqL K (begun cs own) a (ns.map V.int) →
      codeAny (model P w) callerA (.call (.ref fa) ⟨[.ref a], []⟩) (fun r t => r = .ok (.ret (.bool true)) ∧ OldK s.heap t.heap ∧ t.os = s.os ∧ AllBare t.gens) s by
    cases written : K.lookup a with
    | none => exact main (some (a, .frz { cls := .type "list", data := .seq us.toArray } (.lst (ns.map V.int)))) (fun b o z => by cases z; exact ⟨rfl, written, rfl⟩) (.inl (.inr ⟨_, if_pos rfl⟩))
    | some o =>
      cases ob.symm.trans (kin a o written)
      exact main none (fun b o z => nomatch z) (.inr ⟨_, us.toArray, _, written, rfl, rfl, rfl, by rw [List.size_toArray, nums.length]; exact size, by simpa using rel⟩)
  intro own isOwn seq
  generalize hH : begun cs own = H at seq
  -- what H tracks
  have kinds : ∀ b u, H b = some u → (b = a ∧ K.lookup a = none ∧ u = .frz { cls := .type "list", data := .seq us.toArray } (.lst (ns.map V.int))) ∨ (b ∈ cs.map (·.2) ∧ u = .tbl #[]) := by
    intro b u e
    rw [← hH] at e
    rcases own with _ | ⟨a', o⟩
    · have e' : (if b ∈ cs.map (·.2) then some (HO.tbl #[]) else none) = some u := e
      split at e'
      · exact .inr ⟨‹_›, (Option.some.inj e').symm⟩
      · cases e'
    · obtain ⟨rfl, n, rfl⟩ := isOwn a' o rfl
      have e' : (if b = a' then some _ else if b ∈ cs.map (·.2) then some (HO.tbl #[]) else none) = some u := e
      split at e'
      · exact .inl ⟨‹_›, n, (Option.some.inj e').symm⟩
      · split at e'
        · exact .inr ⟨‹_›, (Option.some.inj e').symm⟩
        · cases e'
  have tabs : ∀ b ∈ cs.map (·.2), H b = some (.tbl #[]) := by
    intro b m
    rw [← hH]
    rcases own with _ | ⟨a', o⟩
    · exact if_pos m
    · obtain ⟨rfl, _⟩ := isOwn a' o rfl
      exact (if_neg (by rintro rfl; exact notA m)).trans (if_pos m)
  have hok : HOk P w H s.heap := by
    intro b u e
    rcases kinds b u e with ⟨rfl, _, rfl⟩ | ⟨m, rfl⟩
    · exact ⟨ob, by rw [List.length_map]; exact size, us, _, rel, ob⟩
    · exact isTab b m
  have clear_ : ∀ {b o}, s.heap.get? b = some o → (∀ us n, o.data ≠ .seq us n) → o.data ≠ .fields #[] → H b = none := by
    intro b o e n1 n2
    cases z : H b with
    | none => rfl
    | some u =>
      rcases kinds b u z with ⟨rfl, _⟩ | ⟨m, _⟩
      · cases ob.symm.trans e
        exact (n1 _ _ rfl).elim
      · cases (isTab b m).symm.trans e
        exact (n2 rfl).elim
  have names : ∀ {b} {m : Str → Option Value}, s.heap.Ns b m → (hidT s.heap H).Ns b m := by
    rintro b m ⟨o, es, n, e, d, z⟩
    exact ⟨o, es, n, hidT_get e (clear_ e (by rw [d]; intro _ _ q; cases q) (by rw [d]; intro q; cases q)), d, z⟩
  have kin' : K.In (hidT s.heap H) := by
    intro b o e
    refine hidT_get (kin b o e) ?_
    cases z : H b with
    | none => rfl
    | some u =>
      rcases kinds b u z with ⟨rfl, n, _⟩ | ⟨m, _⟩
      · cases n.symm.trans e
      · obtain ⟨p, mp, rfl⟩ := List.mem_map.mp m
        cases (unw p mp).symm.trans e
  obtain ⟨mc, l1, l2⟩ := nolim
  have mod : L2.Mod K mg (hidT s.heap H) := ⟨kin', names gl, ⟨mb, names bl, boot⟩, ⟨mc, names l1, l2⟩⟩
  have TB : ∀ p ∈ cs, TabB (hidT s.heap H) mg p.1 p.2 := by
    intro p mp
    constructor
    · obtain ⟨o, vs, f1, t1, f2, t2, b3, i4, t4, e, kc, dt, tb, more⟩ := code p mp
      refine ⟨o, vs, f1, t1, f2, t2, b3, i4, t4, hidT_get e (clear_ e (by rw [dt]; intro _ _ q; cases q) ?_), kc, dt, tb, more⟩
      rw [dt]
      intro q
      cases q
      cases (show (none : Option Value) = some _ from tb)
    · obtain ⟨bm, o, g1, g2, g3, g4, g5, g6⟩ := bmod
      have apart : ∀ {b u}, s.heap.get? b = some u → u.data ≠ .plain → bm ≠ b := by
        rintro b u e n rfl
        cases g3.symm.trans e
        exact n g6
      refine ⟨bm, o, g1, g2, ?_, ?_, hidT_get g3 (clear_ g3 (by rw [g6]; intro _ _ q; cases q) (by rw [g6]; intro q; cases q)), g4, g5, g6⟩
      · obtain ⟨u, _, _, e, d, _⟩ := gl
        exact apart e (by rw [d]; intro q; cases q)
      · exact apart (tab p mp) (by intro q; cases q)
    · obtain ⟨u, _, _, e, d, _⟩ := gl
      intro q
      rw [q] at e
      cases (tab p mp).symm.trans e
      cases d
  have env : Env0 P w K mg (hidT s.heap H) callerA [] s H := ⟨rfl, mod, fun b o e => of_hidT e, Nat.le_of_eq (hidT_size _ _), trivial, fun b h => absurd (show b ∈ ([] : List Addr) from h) (by simp), hok, .of_eq gen⟩
  apply codeAny_mono ((F _ kin' (names gl) (mods.imp fun _ z => names z) TB).go (us := [.ref a]) (vs := [.ref a]) rfl room env (bind s (.ref a)) (.cons rfl .nil) (prom H (fun p mp => tabs _ (seen p mp)) seq))
  rintro (e | fl) t z
  · exact z.elim
  cases fl with
  | next => exact z.elim
  | brk => exact z.elim
  | cont => exact z.elim
  | ret u =>
    obtain ⟨v, G, os, bare, un, hok', rl, q⟩ := z
    cases (show v = .bl true from q)
    cases (show u = Value.bool true from rl)
    refine ⟨rfl, ?_, os, bare⟩
    have stay : ∀ b o, b ∉ cs.map (·.2) → s.heap.get? b = some o → t.heap.get? b = some o := by
      intro b o n e
      cases z : H b with
      | none => exact un.keep b o e z (by simp [frs]) (by simp)
      | some u =>
        rcases kinds b u z with ⟨rfl, _, rfl⟩ | ⟨m, _⟩
        · cases ob.symm.trans e
          exact (hok' b _ (un.frzs b _ _ z)).1
        · exact (n m).elim
    have grown : ∀ p ∈ cs, ∃ more : Array Value, t.heap.get? p.2 = some { cls := .none, data := .fields more } := by
      intro p mp
      obtain ⟨more, z⟩ := un.tbls p.2 #[] (tabs _ (seen p mp))
      exact ⟨_, hok' p.2 _ z⟩
    constructor
    · intro b o e
      by_cases m : b ∈ cs.map (·.2)
      · obtain ⟨p, mp, rfl⟩ := List.mem_map.mp m
        obtain ⟨more, z⟩ := grown p mp
        cases (tab p mp).symm.trans e
        exact .inr (.inl ⟨((code p mp).tab (tab p mp)).isCodeTable, rfl, #[], more, rfl, by rw [Array.empty_append]; exact z⟩)
      · exact .inl (stay b o m e)
    · intro b o e
      by_cases m : b ∈ cs.map (·.2)
      · obtain ⟨p, mp, rfl⟩ := List.mem_map.mp m
        obtain ⟨more, z⟩ := grown p mp
        exact ⟨_, z⟩
      · exact ⟨o, stay b o m e⟩
/-- what k_head leaves, from the law's promise, with tables -/
theorem walk_GT {l : PySem.W.OpenLaw} {n k : Nat} {q : Program} {loose : List Str} {XP : (Str → Option Value) → Heap → Prop} {YP : World → Heap → Prop} {d : DefRec} {K : Params → PySem.W.Frag} {cs : List (Addr × Addr)} {sp : PySem.W.Frag → Sp} {x : Str}
    (none : importsNone q = true) (hn : l.most = some n) (hn2 : n ≤ sizeLine) (hdf : d.params.defaults = []) (room : Room k callerA) (hY : ∀ (w : World) (h : Heap), YP w h → (K w.params).In h)
    (hT : ∀ (w : World) (h : Heap), YP w h → ∀ p ∈ cs, h.get? p.2 = some { cls := .none, data := .fields #[] }) (hC : ∀ (w : World) (h : Heap), YP w h → ∀ p ∈ cs, PySem.W.CodeHd h p.1 p.2) (nT : ∀ w : World, ∀ p ∈ cs, (K w.params).lookup p.2 = .none)
    (F : ∀ (w : World) (mg : Str → Option Value) (fa : Addr) (h : Heap), (K w.params).In h → h.Ns mainGlobals mg → mg d.name = some (.ref fa) →
      ∃ fd : FuncData, (∀ (t : Shared) (u : Value), BindsTo t fd ⟨[u], []⟩ [(x, u)]) ∧ ∀ base : Heap, (K w.params).In base → base.Ns mainGlobals mg → HasMods base → (∀ p ∈ cs, TabB base mg p.1 p.2) → FnG l.prog w (K w.params) mg base k fa fd [x] (sp (K w.params)))
    (prom : ∀ (K : PySem.W.Frag) (H : Hp) (a : Addr) (ns : List Int), ns.length ≤ n → (∀ p ∈ cs, H p.2 = some (.tbl #[])) → SqL K H a (ns.map V.int) → sp K [.ref a] H (fun v _ => v = .bl true) fun _ _ _ => False) :
    PySem.W.WalkO q loose XP YP l.row.toRowW d [] (fun f vs => PySem.call f vs) := by
  apply Att.attach_call hn hdf
  intro w s0 s1 mg mb fa o pm cd dc a us ns G Y _ _ _ hmg hobj nums hlen hg
  have md : HasMods s1.heap := let ⟨mm, z, _⟩ := (G.T.seer none).mods; ⟨mm, z⟩
  obtain ⟨fd, hb, hF⟩ := F w mg fa _ (hY w _ Y) G.T.g hmg
  exact law_goTs (hY w _ Y) G.T.g G.T.b G.T.builtins G.T.nolimit md hg (hT w _ Y) (nT w) (hC w _ Y) G.T.bmain hobj nums (Nat.le_trans hlen hn2) room hF hb fun H hH hS => prom _ H a ns hlen hH hS
end Rp
namespace Rp
open PySem PySem.Spec PyProof.Rows L2
/-- the rule for a def that errors may leave -/
theorem fnx {P : Program} {w : World} {K : PySem.W.Frag} {mg : Str → Option Value} {base : Heap} {k : Nat} {f : Addr} {fd : FuncData} {ps : List Str} {sp : Sp} {x qual : Str} {st : Stmt} {N : List Str} (F : Fun K x qual st f fd) (S : FnScope N ps (defScope st)) (ar : ∀ {vs H Q E}, sp vs H Q E → vs.length = ps.length)
    (body : ∀ {cdv : Value} {A : Around} {fr : List Env} {s : Shared} {H : Hp} {vs : List V} {Q : VK} {E : XK}, Room k (A.deeper (envOfC qual (defScope st) s.heap.objs.size f cdv)) → sp vs H Q E →
      ∃ t, PSs (cxOf (L2.CX P w) P w K mg base N qual (defScope st) f cdv A fr s H E) (defBody st) t ∧ t ⟨fun _ G => Q .non G, Q, fun _ _ => False, fun _ _ => False⟩ (L2.start N vs) H) : FnOk P w K mg base (L2.CX P w) (k + 1) f fd ps sp :=
  F.okX S (fun _ _ _ _ h => ar h) fun _ _ _ _ _ _ _ _ r h => body r h
/-- an error of one field is E's -/
def errAt (E : XK) (C : Addr) (f : Str) (v : V) (H : Hp) : Prop := ∀ d, H d = none → E (.ref C) (some d) (upd H d (.xd [(f, v)]))
def spDemClock (C : Addr) : Sp := fun vs H Q E => ∃ q v, vs = [v] ∧ Any q H v ∧ (clk v = true → Q .non H) ∧ (clk v = false → errAt E C "part" (.str "clock") H)
def spDemWithin (C : Addr) : Sp := fun vs H Q E => ∃ q v lo hi part, vs = [v, oV lo, oV hi, .str part] ∧ Any q H v ∧ (inB v lo hi = true → Q .non H) ∧ (inB v lo hi = false → errAt E C "part" (.str part) H)
/-- a row of the clock, of lo to hi numbers -/
def rowOk (o : Option (List V)) (clock lo hi : Int) : Bool :=
  match o with
  | none => false
  | some xs => (decide (lo ≤ (xs.length : Int)) && decide ((xs.length : Int) ≤ hi)) && xs.all fun x => inB x (some 0) (some (clock - 1))
def spDemRow (C : Addr) : Sp := fun vs H Q E => ∃ q v o clock lo hi part, vs = [v, .int clock, .int lo, .int hi, .str part] ∧ RowV q H v o ∧ clk (.int clock) = true ∧ (∀ xs, o = some xs → xs.length < sizeLine) ∧
  ∀ H', Same H H' → (rowOk o clock lo hi = true → Q .non H') ∧ (rowOk o clock lo hi = false → errAt E C "part" (.str part) H')
section
variable {K : PySem.W.Frag} {σ : L2.St} {H : Hp} {Q : XK} {W : WX} {D : Ends} {te : TE} {C : Addr} {f : Str} {sp : Sp} {t : TA} {E : XK} {Q' : VK} {tm : L2.St → Hp → XK → Prop}
theorem r_izipA {K : PySem.W.Frag} {ta : TA} {σ : L2.St} {H : Hp} {R : It → Hp → Prop} (h : ta σ H fun vs H1 => ∃ a b xs ys, vs = [.ref a, .ref b] ∧ ((SqL K H1 a xs ∧ SqL K H1 b ys ∧ R (Itz K a b) H1) ∨ (SqT K H1 a xs ∧ SqT K H1 b ys ∧ R (RZ.ItzT K a b) H1))) : RZ.iZipA K ta σ H R := h
theorem r_izip {K : PySem.W.Frag} {ta : TA} {σ : L2.St} {H : Hp} {R : It → Hp → Prop} (h : ta σ H fun vs H1 => ∃ a b xs ys, vs = [.ref a, .ref b] ∧ SqL K H1 a xs ∧ SqL K H1 b ys ∧ R (Itz K a b) H1) : iZip K ta σ H R := h
theorem r_err (h : te σ H fun v H1 => ∀ d, H1 d = none → Q (.ref C) (some d) (upd H1 d (.xd [(f, v)]))) : tErr C f te σ H Q := h
theorem r_raise (h : tm σ H fun cls d H' => E cls d H') : (fun (_ : Ends) σ H => tm σ H fun cls d H' => (fun cls d (_ : L2.St) H => E cls d H) cls d σ H') D σ H := h
end
end Rp
namespace Rp
open PySem PySem.Spec PyProof.Rows L2
/-! ### what a caught error is asked -/
/-- isinstance(e, C): e a tracked error, or any value of a kind that is known -/
def rIsO (K : PySem.W.Frag) : List V → Hp → VK → Prop := fun xs H Q => rIsT K xs H Q ∨ rIsi K xs H Q
theorem call_isO {X : Cx} : CallR X (.builtin "isinstance") (rIsO X.K) := by
  intro pins s σ H xs us Q I r h
  rcases h with h | h
  · exact call_isT pins s σ H xs us Q I r h
  · exact call_isi pins s σ H xs us Q I r h
/-- an error's class, as a clause and isinstance see it -/
structure ErrK (K : PySem.W.Frag) (C top : Addr) (f : Str) : Prop where
  ex : ExcC K C
  xf : XfC K C
  no : PySem.W.findIn K (.ref C) f = some none
  up : PySem.W.exmOne K (.ref C) (.ref top) = some true
  nn : PySem.W.kitOne K (.type "NoneType") (.ref C) = some false
section
variable {K : PySem.W.Frag} {H : Hp} {Q : VK} {a C D top dx : Addr} {fs : List (Str × V)} {f : Str} {b : Bool} {σ : L2.St} {te : TE}
theorem r_isE (T : ErrK K C top f) (ha : H a = some (ErO a (.ref C) (some dx))) (hd : H dx = some (.xd fs)) (k : PySem.W.kitOne K (.ref C) (.ref D) = some b) (h : Q (.bl b) H) : rIsO K [.ref a, .ref D] H Q :=
  .inl ⟨a, C, dx, fs, .ref D, .ref D, b, rfl, T.ex, ha, hd, fun _ r => r, k, h⟩
theorem r_isNo (T : ErrK K D top f) (h : Q (.bl false) H) : rIsO K [.non, .ref D] H Q := .inr ⟨.non, .ref D, _, .ref D, false, rfl, .own D, .base .non, T.nn, h⟩
theorem r_xt {n : Str} (h : te σ H fun x H1 => ∃ (a C dd : Addr) (fs : List (Str × V)) (v : V), x = .ref a ∧ XfC K C ∧ PySem.W.findIn K (.ref C) n = some none ∧ H1 a = some (ErO a (.ref C) (some dd)) ∧ H1 dd = some (.xd fs) ∧ fs.lookup n = some v ∧ Q v H1) : tXt K n te σ H Q := h
end
/-- the slots are as many as the names -/
theorem takes_len {X : Cx} {W : WX} (h : Takes X W) : Takes X (fun cls d σ H => σ.length = X.N.length → W cls d σ H) := by
  rintro u s' ⟨a, B, sI, pins, σ, H, cls, d, e1, I, e2, e3, e4, e5, e6, e7, w⟩
  exact h u s' ⟨a, B, sI, pins, σ, H, cls, d, e1, I, e2, e3, e4, e5, e6, e7, w I.len⟩
/-- the try's body, where what was got is called -/
def tTake (f c' : Addr) (q : Str) (n : Nat) (tl : XK → Hp → VK → Prop) (W : WX) : TS := fun D σ H => ∃ (Ech : XK) (R0 : VK), (∀ cls d σ' H', Ech cls d H' → σ'.length = n → W cls d σ' H') ∧ σ[0]? = some (some (.ref f)) ∧ H c' = some (LamX.CodeO c' q) ∧ tl Ech H R0 ∧ ∀ v G, R0 v G → D.nx σ G
theorem pss_take {X : Cx} {f c' : Addr} {q a : Str} {n : Nat} {tl : XK → Hp → VK → Prop} {W : WX} {p1 p2 p3 : Pos} (ln : X.N.length = n) (tk : Takes X W)
    (act : ∀ E : XK, Takes X (fun cls d σ H => σ.length = X.N.length → W cls d σ H) → (∀ cls d σ' H', E cls d H' → σ'.length = X.N.length → W cls d σ' H') → PE X (.Call (.Name a p1) [] [] p2) (fun σZ HZ Q => σZ[0]? = some (some (.ref f)) ∧ HZ c' = some (LamX.CodeO c' q) ∧ tl E HZ Q))
    (sw : swapsWith (.Call (.Name a p1) [] [] p2) none p3.line X.env = pure false := by rfl) : PSs X [.Expr (.Call (.Name a p1) [] [] p2) p3] (tTake f c' q n tl W) := by
  constructor
  rintro pins s σ H D I ⟨Ech, R0, h1, h2, h3, h4, h5⟩
  have hp := act Ech (takes_len tk) fun cls d σ' H' e l => h1 cls d σ' H' e (l.trans ln)
  exact (pss_one (ps_expr (pe_mono hp) sw)).run pins s σ H D I ⟨R0, ⟨h2, h3, h4⟩, h5⟩
end Rp
namespace Rp
open PySem PySem.Spec PyProof.Rows L2 LamX
section
variable {K : PySem.W.Frag} {σ : L2.St} {H : Hp} {Q : VK} {T : List (Addr × Str)} {TT : (XK → Hp → VK → Prop) → Hp → VK → Prop} {t : XK → TE}
theorem r_lam (h : Tabs T H ∧ ∀ H1, ExtN H H1 → Tabs T H1 → TT (fun E H' Q' => t E σ H' Q') H1 Q) : tLam T TT t σ H Q := h
end
theorem any_ext {q : Addr} {H H' : Hp} {v : V} (h : Any q H v) (x : ExtN H H') : Any q H' v := by
  cases h with
  | non => exact .non
  | bl b => exact .bl b
  | num i => exact .num i
  | str z => exact .str z
  | lst n e => exact .lst n (x _ _ e fun _ z => by cases z)
  | tup n e => exact .tup n (x _ _ e fun _ z => by cases z)
  | dic n e => exact .dic n (x _ _ e fun _ z => by cases z)
theorem row_ext {q : Addr} {H H' : Hp} {v : V} {o : Option (List V)} (h : RowV q H v o) (x : ExtN H H') : RowV q H' v o := by
  cases h with
  | non => exact .non
  | bl b => exact .bl b
  | num i => exact .num i
  | str z => exact .str z
  | lst n e it => exact .lst n (x _ _ e fun _ z => by cases z) fun v m => any_ext (it v m) x
  | tup n e it => exact .tup n (x _ _ e fun _ z => by cases z) fun v m => any_ext (it v m) x
  | dic n e => exact .dic n (x _ _ e fun _ z => by cases z)
theorem ext_same {H H1 H2 : Hp} (x : ExtN H H1) (s : Same H1 H2) : ExtN H H2 := x.trans (ExtN.of s)
theorem ext_neu {H H1 : Hp} {p : Addr} {o : HO} (x : ExtN H H1) (hp : H1 p = none) : ExtN H (upd H1 p o) := ext_same x (same_neu (Same.refl _) hp)
theorem tabs_same {T : List (Addr × Str)} {H H' : Hp} (t : Tabs T H) (s : Same H H') : Tabs T H' := t.ext s
end Rp
namespace Rp
open PySem PySem.Spec PyProof.Rows L2 LamX
/-! ### deeds: pairs of a word and a gap -/
theorem at20 {a b : V} : atI [a, b] 0 = some a := rfl
theorem at21 {a b : V} : atI [a, b] 1 = some b := rfl
abbrev Dl := List (Str × Int)
def W5 : List Str := ["over", "under", "join", "open", "turn"]
inductive DsV (q : Addr) (H : Hp) : List V → Dl → Prop
  | nil : DsV q H [] []
  | cons {t : Addr} {w : Str} {g : Int} {vs : List V} {ds : Dl} (n : t ≠ q) (e : H t = some (.tup [.str w, .int g])) (r : DsV q H vs ds) : DsV q H (.ref t :: vs) ((w, g) :: ds)
section
variable {q p : Addr} {H H' : Hp} {vs us : List V} {ds es : Dl} {v : V} {o : HO} {i : Nat}
theorem DsV.but (b : But q H H') : ∀ {vs : List V} {ds : Dl}, DsV q H vs ds → DsV q H' vs ds
  | _, _, .nil => .nil
  | _, _, .cons n e r => .cons n (b _ _ n e) (r.but b)
theorem DsV.ext (x : ExtN H H') : ∀ {vs : List V} {ds : Dl}, DsV q H vs ds → DsV q H' vs ds
  | _, _, .nil => .nil
  | _, _, .cons n e r => .cons n (x _ _ e fun _ z => by cases z) (r.ext x)
theorem DsV.keep (f : ∀ t xs, H t = some (.tup xs) → H' t = some (.tup xs)) : ∀ {vs : List V} {ds : Dl}, DsV q H vs ds → DsV q H' vs ds
  | _, _, .nil => .nil
  | _, _, .cons n e r => .cons n (f _ _ e) (r.keep f)
theorem DsV.len : ∀ {vs : List V} {ds : Dl}, DsV q H vs ds → vs.length = ds.length
  | _, _, .nil => rfl
  | _, _, .cons _ _ r => by rw [List.length_cons, List.length_cons, r.len]
theorem DsV.at : ∀ {vs : List V} {ds : Dl} {i : Nat}, DsV q H vs ds → vs[i]? = some v → ∃ t w g, v = .ref t ∧ t ≠ q ∧ H t = some (.tup [.str w, .int g]) ∧ ds[i]? = some (w, g)
  | _, _, i, .nil, h => by simp at h
  | _, _, 0, .cons n e _, h => by
    have h' := Option.some.inj h
    exact ⟨_, _, _, h'.symm, n, e, rfl⟩
  | _, _, i + 1, .cons _ _ r, h => r.at (i := i) (by simpa using h)
theorem DsV.app (k : DsV q H vs ds) (h : DsV q H us es) : DsV q H (vs ++ us) (ds ++ es) := by
  induction k with
  | nil => exact h
  | cons n e r ih => exact .cons n e ih
theorem DsV.one {t : Addr} {w : Str} {g : Int} (n : t ≠ q) (e : H t = some (.tup [.str w, .int g])) : DsV q H [.ref t] [(w, g)] := .cons n e .nil
theorem DsV.take : ∀ {vs : List V} {ds : Dl} (k : Nat), DsV q H vs ds → DsV q H (vs.take k) (ds.take k)
  | _, _, 0, _ => by rw [List.take_zero, List.take_zero]; exact .nil
  | _, _, k + 1, .nil => by rw [List.take_nil, List.take_nil]; exact .nil
  | _, _, k + 1, .cons n e r => by rw [List.take_succ_cons, List.take_succ_cons]; exact .cons n e (r.take k)
theorem DsV.drop : ∀ {vs : List V} {ds : Dl} (k : Nat), DsV q H vs ds → DsV q H (vs.drop k) (ds.drop k)
  | _, _, 0, h => by rw [List.drop_zero, List.drop_zero]; exact h
  | _, _, k + 1, .nil => by rw [List.drop_nil, List.drop_nil]; exact .nil
  | _, _, k + 1, .cons n e r => by rw [List.drop_succ_cons, List.drop_succ_cons]; exact r.drop k
theorem DsV.set {t : Addr} {w : Str} {g : Int} (n : t ≠ q) (e : H t = some (.tup [.str w, .int g])) : ∀ {vs : List V} {ds : Dl} (k : Nat), DsV q H vs ds → DsV q H (vs.set k (.ref t)) (ds.set k (w, g))
  | _, _, k, .nil => by rw [List.set_nil, List.set_nil]; exact .nil
  | _, _, 0, .cons _ _ r => .cons n e r
  | _, _, k + 1, .cons n2 e2 r => .cons n2 e2 (r.set n e k)
theorem DsV.rep {t : Addr} {w : Str} {g : Int} (n : t ≠ q) (e : H t = some (.tup [.str w, .int g])) : ∀ k : Nat, DsV q H (List.replicate k (.ref t)) (List.replicate k (w, g))
  | 0 => .nil
  | k + 1 => .cons n e (DsV.rep n e k)
end
/-- the words are words, the gaps gaps of some ring -/
def Typ (b : Int) (ds : Dl) : Prop := ∀ d ∈ ds, d.1 ∈ W5 ∧ 0 ≤ d.2 ∧ d.2 ≤ b
theorem Typ.nil {b : Int} : Typ b [] := fun _ m => nomatch m
theorem Typ.app {b : Int} {ds es : Dl} (h : Typ b ds) (k : Typ b es) : Typ b (ds ++ es) := fun d m => (List.mem_append.mp m).elim (h d) (k d)
theorem Typ.one {b : Int} {w : Str} {g : Int} (hw : w ∈ W5) (h0 : 0 ≤ g) (h1 : g ≤ b) : Typ b [(w, g)] := fun d m => by rw [List.mem_singleton.mp m]; exact ⟨hw, h0, h1⟩
theorem Typ.take {b : Int} {ds : Dl} (h : Typ b ds) (k : Nat) : Typ b (ds.take k) := fun d m => h d (List.mem_of_mem_take m)
theorem Typ.drop {b : Int} {ds : Dl} (h : Typ b ds) (k : Nat) : Typ b (ds.drop k) := fun d m => h d (List.mem_of_mem_drop m)
theorem Typ.set {b : Int} {ds : Dl} {w : Str} {g : Int} (h : Typ b ds) (hw : w ∈ W5) (h0 : 0 ≤ g) (h1 : g ≤ b) (k : Nat) : Typ b (ds.set k (w, g)) := fun d m => by
  rcases List.mem_or_eq_of_mem_set m with z | z
  · exact h d z
  · rw [z]; exact ⟨hw, h0, h1⟩
theorem Typ.at {b : Int} {ds : Dl} {i : Nat} {w : Str} {g : Int} (h : Typ b ds) (e : ds[i]? = some (w, g)) : w ∈ W5 ∧ 0 ≤ g ∧ g ≤ b := h _ (List.mem_of_getElem? e)
theorem Typ.rep {b : Int} {w : Str} {g : Int} (hw : w ∈ W5) (h0 : 0 ≤ g) (h1 : g ≤ b) (k : Nat) : Typ b (List.replicate k (w, g)) := fun d m => by rw [List.eq_of_mem_replicate m]; exact ⟨hw, h0, h1⟩
theorem Typ.le {b c : Int} {ds : Dl} (h : Typ b ds) (l : b ≤ c) : Typ c ds := fun d m => ⟨(h d m).1, (h d m).2.1, Int.le_trans (h d m).2.2 l⟩
/-- the gaps at which a deed fits: from gLo to gHi - 1 -/
def gLo (w : Str) (m : Int) : Int := if w = "open" then 0 else if w = "join" then (if 0 < m then 1 else 0) else 0
def gHi (w : Str) (m : Int) : Int := if w = "open" then (if 1 > m then 1 else m) else if w = "join" then (if 0 < m then (if 2 > m - 1 then 2 else m - 1) else m) else m
def fitsG (w : Str) (m g : Int) : Bool := decide (gLo w m ≤ g) && decide (g < gHi w m)
def behind (w : Str) (m : Int) : Int := if w = "join" then m - 2 else if w = "open" then m + 2 else m
/-- what comes of deeds: none, a misfit, too many ends -/
def demF : Dl → Int → Option Bool
  | [], m => if m = 0 then none else some false
  | (w, g) :: r, m => if fitsG w m g then (if behind w m > 24 then some true else demF r (behind w m)) else some false
/-- how many ends deeds leave that fit -/
def runD : Dl → Int → Option Int
  | [], m => some m
  | (w, g) :: r, m => if fitsG w m g ∧ ¬ behind w m > 24 then runD r (behind w m) else none
theorem runD_app : ∀ {ds es : Dl} {m : Int}, runD (ds ++ es) m = (runD ds m).bind (runD es)
  | [], _, _ => rfl
  | (w, g) :: r, es, m => by
    show (if _ then runD (r ++ es) _ else none) = (if _ then runD r _ else none).bind _
    split
    · exact runD_app
    · rfl
theorem demF_run : ∀ {ds es : Dl} {m n : Int}, runD ds m = some n → demF (ds ++ es) m = demF es n
  | [], _, _, _, h => by cases h; rfl
  | (w, g) :: r, es, m, n, h => by
    unfold runD at h
    split at h
    · rename_i c
      show (if fitsG w m g then (if behind w m > 24 then some true else demF (r ++ es) (behind w m)) else some false) = _
      rw [if_pos c.1, if_neg c.2]
      exact demF_run h
    · cases h
theorem demF_ok {ds : Dl} {m : Int} (h : runD ds m = some 0) : demF ds m = none := by
  have z := demF_run (es := []) h
  rw [List.append_nil] at z
  rw [z]
  rfl
/-- by the law's own fitting -/
def lawFits (m : Int) (w : Str) (g : Int) : Bool := if w = "join" then (if m = 2 then decide (g = 1) else (decide (1 ≤ g) && decide (g ≤ m - 2))) else (decide (0 ≤ g) && decide (g < (if w = "open" then (if m > 1 then m else 1) else m)))
theorem lawFits_eq {w : Str} {m g : Int} (h0 : 0 ≤ m) (h2 : m % 2 = 0) : lawFits m w g = fitsG w m g := by
  unfold lawFits fitsG gLo gHi
  by_cases h : w = "join"
  · have n : w ≠ "open" := by rw [h]; decide
    rw [if_pos h, if_neg n, if_neg n, if_pos h, if_pos h]
    by_cases hm : m = 2
    · subst hm
      rw [if_pos rfl, if_pos (by decide), if_pos (by decide), if_pos (by decide)]
      by_cases e : g = 1
      · subst e; rfl
      · rw [decide_eq_false e]
        by_cases e1 : 1 ≤ g
        · rw [decide_eq_false (p := g < 2) (by omega), Bool.and_false]
        · rw [decide_eq_false (p := 1 ≤ g) e1, Bool.false_and]
    · rw [if_neg hm]
      by_cases hp : 0 < m
      · rw [if_pos hp, if_pos hp, if_neg (by omega)]
        by_cases e1 : 1 ≤ g
        · rw [show decide (g ≤ m - 2) = decide (g < m - 1) from decide_eq_decide.mpr (by omega)]
        · rw [decide_eq_false (p := 1 ≤ g) e1, Bool.false_and, Bool.false_and]
      · rw [if_neg hp, if_neg hp]
        by_cases e1 : 1 ≤ g
        · rw [decide_eq_false (p := g ≤ m - 2) (by omega), decide_eq_false (p := g < m) (by omega), Bool.and_false, Bool.and_false]
        · rw [decide_eq_false (p := 1 ≤ g) e1, Bool.false_and]
          by_cases e2 : 0 ≤ g
          · rw [decide_eq_false (p := g < m) (by omega), Bool.and_false]
          · rw [decide_eq_false (p := 0 ≤ g) e2, Bool.false_and]
  · rw [if_neg h]
    by_cases ho : w = "open"
    · rw [if_pos ho, if_pos ho, if_pos ho]
      congr 2
      by_cases hm : m > 1
      · rw [if_pos hm, if_neg (by omega)]
      · rw [if_neg hm]
        split <;> (apply propext; omega)
    · rw [if_neg ho, if_neg ho, if_neg ho, if_neg h, if_neg h]
theorem fits_open {m g : Int} (h0 : 0 ≤ g) (h1 : g < m ∨ g = 0) : fitsG "open" m g = true := by
  unfold fitsG gLo gHi
  rw [if_pos rfl, if_pos rfl, decide_eq_true h0, decide_eq_true]
  · rfl
  · split <;> omega
theorem fits_cross {w : Str} {m g : Int} (hw : w = "over" ∨ w = "under" ∨ w = "turn") (h0 : 0 ≤ g) (h1 : g < m) : fitsG w m g = true := by
  have a : w ≠ "open" ∧ w ≠ "join" := by rcases hw with h | h | h <;> (rw [h]; decide)
  unfold fitsG gLo gHi
  rw [if_neg a.1, if_neg a.1, if_neg a.2, if_neg a.2, decide_eq_true h0, decide_eq_true h1]
  rfl
theorem fits_join {m g : Int} (hm : 2 ≤ m) (h0 : 1 ≤ g) (h1 : g < m - 1 ∨ g = 1) : fitsG "join" m g = true := by
  have n : ("join" : Str) ≠ "open" := by decide
  unfold fitsG gLo gHi
  rw [if_neg n, if_neg n, if_pos rfl, if_pos rfl, if_pos (by omega), if_pos (by omega), decide_eq_true h0, decide_eq_true]
  · rfl
  · split <;> omega
theorem behind_cross {w : Str} {m : Int} (hw : w = "over" ∨ w = "under" ∨ w = "turn") : behind w m = m := by
  have a : w ≠ "open" ∧ w ≠ "join" := by rcases hw with h | h | h <;> (rw [h]; decide)
  unfold behind
  rw [if_neg a.2, if_neg a.1]
theorem behind_join {m : Int} : behind "join" m = m - 2 := rfl
theorem behind_open {m : Int} : behind "open" m = m + 2 := rfl
/-- one deed more -/
theorem runD_one {ds : Dl} {w : Str} {g m n : Int} (h : runD ds m = some n) (f : fitsG w n g = true) (b : ¬ behind w n > 24) : runD (ds ++ [(w, g)]) m = some (behind w n) := by
  rw [runD_app, h]
  show (if fitsG w n g ∧ ¬ behind w n > 24 then some (behind w n) else none) = _
  rw [if_pos ⟨f, b⟩]
theorem even_behind {w : Str} {m : Int} (h : m % 2 = 0) : behind w m % 2 = 0 := by
  unfold behind
  split
  · omega
  · split <;> omega
theorem fits_ends {w : Str} {m g : Int} (h0 : 0 ≤ m) (h2 : m % 2 = 0) (f : fitsG w m g = true) : 0 ≤ behind w m := by
  unfold behind
  split
  · rename_i hj
    subst hj
    have n : ("join" : Str) ≠ "open" := by decide
    unfold fitsG gLo gHi at f
    rw [if_neg n, if_neg n, if_pos rfl, if_pos rfl] at f
    by_cases hp : 0 < m
    · omega
    · rw [if_neg hp, if_neg hp] at f
      have := (Bool.and_eq_true_iff.mp f)
      have a := of_decide_eq_true this.1
      have b := of_decide_eq_true this.2
      omega
  · split <;> omega
theorem inV_rg {g a b : Int} : inV (.int g) (rgV a b) = (decide (a ≤ g) && decide (g < b)) := by
  unfold inV rgV
  by_cases h : a ≤ g ∧ g < b
  · rw [decide_eq_true h.1, decide_eq_true h.2]
    refine List.any_eq_true.mpr ⟨.int g, List.mem_map.mpr ⟨(g - a).toNat, List.mem_range.mpr (by omega), by congr 1; omega⟩, ?_⟩
    show (g == g) = true
    exact beq_self_eq_true g
  · have e : (decide (a ≤ g) && decide (g < b)) = false := by
      by_cases h1 : a ≤ g
      · rw [decide_eq_false (p := g < b) (fun z => h ⟨h1, z⟩), Bool.and_false]
      · rw [decide_eq_false h1, Bool.false_and]
    rw [e]
    refine List.any_eq_false.mpr fun x m => ?_
    obtain ⟨k, mk, rfl⟩ := List.mem_map.mp m
    have := List.mem_range.mp mk
    show ¬ (a + (k : Int) == g) = true
    intro z
    have z' := eq_of_beq z
    exact h ⟨by omega, by omega⟩
theorem flat_rg {a b : Int} : (rgV a b).all flatV = true := by
  unfold rgV
  rw [List.all_map]
  exact List.all_eq_true.mpr fun _ _ => rfl
/-- all gaps are gaps of some ring -/
def gapsOk (ds : Dl) : Bool := ds.all fun d => inB (.int d.2) (some 0) (some 23)
theorem gapsOk_typ {ds : Dl} (h : Typ 23 ds) : gapsOk ds = true := List.all_eq_true.mpr fun d m => by
  obtain ⟨_, a, b⟩ := h d m
  show (decide ((0 : Int) ≤ d.2) && decide (d.2 ≤ (23 : Int))) = true
  rw [decide_eq_true a, decide_eq_true b]
  rfl
theorem r_eqS {x y : Str} {H : Hp} {Q : VK} (h : Q (.bl (decide (x = y))) H) : rEq (.str x) (.str y) H Q := ⟨rfl, by
  rw [show decide (V.str x = V.str y) = decide (x = y) from decide_eq_decide.mpr ⟨V.str.inj, congrArg V.str⟩]
  exact h⟩
theorem r_in {K : PySem.W.Frag} {p : Addr} {x : V} {xs : List V} {H : Hp} {Q : VK} (hs : SqL K H p xs ∨ SqT K H p xs) (f : flatV x = true) (fs : xs.all flatV = true) (h : Q (.bl (inV x xs)) H) : rIn K false x (.ref p) H Q := ⟨p, xs, rfl, hs, f, fs, h⟩
theorem r_notIn {K : PySem.W.Frag} {p : Addr} {x : V} {xs : List V} {H : Hp} {Q : VK} (hs : SqL K H p xs ∨ SqT K H p xs) (f : flatV x = true) (fs : xs.all flatV = true) (h : Q (.bl (!inV x xs)) H) : rIn K true x (.ref p) H Q := ⟨p, xs, rfl, hs, f, fs, h⟩
theorem in_W5 {w : Str} (h : w ∈ W5) : inV (.str w) [.str "over", .str "under", .str "join", .str "open", .str "turn"] = true := by
  unfold W5 at h
  simp only [List.mem_cons, List.not_mem_nil, or_false] at h
  rcases h with h | h | h | h | h <;> (rw [h]; decide +kernel)
end Rp
namespace Rp
open PySem PySem.Spec PyProof.Rows L2 LamX
/-! ### own errors with two fields; objects of own classes that may not come about -/
/-- tuple(x), x a list or a tuple -/
def rTupOf (K : PySem.W.Frag) : List V → Hp → VK → Prop := fun xs H Q => ∃ p ys, xs = [.ref p] ∧ ((SqL K H p ys ∧ ∀ l, H l = none → Q (.ref l) (upd H l (.tup ys))) ∨ (SqT K H p ys ∧ Q (.ref p) H))
theorem call_tupK {X : Cx} : CallR X (.type "tuple") (rTupOf X.K) := call_tuple_of
def spIni2 (C : Addr) (f g : Str) : Sp := fun vs H Q _ => ∃ a v u, vs = [.ref a, v, u] ∧ H a = some (exo a C none) ∧ ∀ dx, H dx = none → dx ≠ a → Q .non (upd (upd (upd H dx (exd dx [(f, v)])) a (exo a C (some dx))) dx (exd dx [(g, u), (f, v)]))
structure Err2 (P : Program) (w : World) (K : PySem.W.Frag) (mg : Str → Option Value) (base : Heap) (x : Str) (C : Addr) (f g : Str) : Prop where
  gm : mg x = some (.ref C)
  oex : OexC K C
  no : PySem.W.findIn K (.ref C) f = some none
  no2 : PySem.W.findIn K (.ref C) g = some none
  xf : XfC K C
  ini : ∃ (fI : Addr) (fd : FuncData) (ps : List Str), PySem.W.findIn K (.ref C) "__init__" = some (some (.ref fI)) ∧ PySem.W.typeIn K (.ref fI) = some (.type "function") ∧ Binds K fd ps [] ∧
    FnOk P w K mg base CX0 1 fI fd ps (spIni2 C f g)
/-- x(e, e'), raised: the error's own dict is new -/
def tErr2 (C : Addr) (f g : Str) (te tu : TE) : L2.St → Hp → XK → Prop := fun σ H Q => te σ H fun v H1 => tu σ H1 fun u H2 => ∀ d, H2 d = none → Q (.ref C) (some d) (upd H2 d (.xd [(g, u), (f, v)]))
theorem del_put2 {H : Hp} {a d : Addr} {o u o2 u2 : HO} {fs : List (Str × V)} (na : H a = none) (ne : d ≠ a) : upd (del (upd (upd (upd (upd H a o) d u) a o2) d u2) a) d (.xd fs) = upd H d (.xd fs) := by
  funext b
  by_cases hd : b = d
  · rw [hd, upd_same, upd_same]
  · rw [upd_ne hd, upd_ne hd]
    by_cases ha : b = a
    · rw [ha, del_same, na]
    · rw [del_ne ha, upd_ne hd, upd_ne ha, upd_ne hd, upd_ne ha]
theorem pmk_err2 {X : Cx} {x f g : Str} {C : Addr} {e e2 : Expr} {te tu : TE} {p pos : Pos} (T : Err2 X.prog X.w X.K X.mg X.base x C f g) (hr : Room 2 X.A) (hg : Gl X x) (he : PE X e te) (he2 : PE X e2 tu) (d1 : (x == ("__debug__" : Str)) = false := by decide)
    (d2 : starEach [e, e2] X.env = (false, eval e X.env) :: starEach [e2] X.env := by rfl) (d4 : starEach [e2] X.env = (false, eval e2 X.env) :: starEach [] X.env := by rfl) (d3 : (backTo pos (starEach [e2] X.env)).any (·.1) = false := by rfl) : PMk X (.Call (.Name x p) [e, e2] [] pos) (tErr2 C f g te tu) := by
  obtain ⟨fI, fd, ps, h1, h2, h3, h4⟩ := T.ini
  intro pins s σ H Q I h
  refine pmk_oex T.oex h1 h2 h4 hr h3 .nil (fun _ _ _ _ _ _ _ z => z.elim) hg T.gm (pa_cons (pe_mono he) (pa_cons (pe_mono he2) pa_nil d4) d2) d1 d2 d3 pins s σ H Q I ?_
  refine ⟨_, h, fun v H1 k => ⟨_, k, fun u H2 k2 => ⟨by show 2 ≤ 1000; decide, fun a na => ⟨a, v, u, rfl, upd_same, fun dx nd ne => ⟨rfl, dx, [(g, u), (f, v)], ?_, upd_same, ?_, ?_⟩⟩⟩⟩⟩
  · rw [upd_ne ne.symm, upd_same]
  · rw [upd_ne ne] at nd
    exact nd
  · rw [upd_ne ne] at nd
    rw [del_put2 na ne]
    exact k2 dx nd
/-- an error of two fields is E's -/
def err2At (E : XK) (C : Addr) (f g : Str) (v u : V) (H : Hp) : Prop := ∀ d, H d = none → E (.ref C) (some d) (upd H d (.xd [(g, u), (f, v)]))
structure MakX (P : Program) (w : World) (K : PySem.W.Frag) (mg : Str → Option Value) (base : Heap) (x : Str) (k : Nat) (C f : Addr) (fd : FuncData) (ps : List Str) (sp : Sp) : Prop where
  M : Mk K C f
  F : FnOk P w K mg base (L2.CX P w) k f fd ps sp
  mgf : mg x = some (.ref C)
  b : Binds K fd ps []
section
variable {X : Cx} {k : Nat} {f C : Addr} {fd : FuncData} {ps ks : List Str} {sp : Sp} {x : Str} {p pos : Pos} {e : Expr} {es : List Expr} {t tk : TA} {kws : List Keyword} {E : XK}
theorem pe_makeE (c : MakX X.prog X.w X.K X.mg X.base x k C f fd ps sp) (r : Room (k + 1) X.A) (tk : Takes X (fun cls d _ H => E cls d H)) (hg : Gl X x) (ha : PA X (e :: es) t) (d1 : (x == ("__debug__" : Str)) = false := by decide)
    (d2 : starEach (e :: es) X.env = (false, eval e X.env) :: starEach es X.env := by rfl) (d3 : (backTo pos (starEach es X.env)).any (·.1) = false := by rfl) : PE X (.Call (.Name x p) (e :: es) [] pos) (tMake C sp [] E t) :=
  pe_make c.M c.F r hg c.mgf c.b .nil (fun pins σ H s e s' I z => passAt tk σ pins H s e s' I z) ha d1 d2 d3
theorem pe_makeX (c : MakX X.prog X.w X.K X.mg X.base x k C f fd ps sp) (r : Room (k + 1) X.A) (hg : Gl X x) (ha : PA X (e :: es) t) (d1 : (x == ("__debug__" : Str)) = false := by decide)
    (d2 : starEach (e :: es) X.env = (false, eval e X.env) :: starEach es X.env := by rfl) (d3 : (backTo pos (starEach es X.env)).any (·.1) = false := by rfl) : PE X (.Call (.Name x p) (e :: es) [] pos) (tMake C sp [] E0 t) :=
  pe_make c.M c.F r hg c.mgf c.b .nil (fun pins σ H s e s' I z => pass0X pins H s e s' I z (σ := σ)) ha d1 d2 d3
end
section
variable {K : PySem.W.Frag} {σ : L2.St} {H : Hp} {Q : VK} {QX : XK} {D : Ends} {te tu ta tv : TE} {C : Addr} {f g : Str} {sp : Sp} {t : TA} {E : XK} {dvs : List V} {tc : TT} {tb : TS}
theorem r_err2 (h : te σ H fun v H1 => tu σ H1 fun u H2 => ∀ d, H2 d = none → QX (.ref C) (some d) (upd H2 d (.xd [(g, u), (f, v)]))) : tErr2 C f g te tu σ H QX := h
theorem r_make (h : t σ H fun vs H1 => ∀ x dx, H1 x = none → H1 dx = none → dx ≠ x → sp (.ref x :: (vs ++ dvs)) (upd (upd H1 dx (.own x)) x (.ins C dx [])) (fun v H2 => v = .non ∧ Q (.ref x) H2) E) : tMake C sp dvs E t σ H Q := h
theorem r_fld (h : ta σ H fun x H1 => ∃ a C dx fs v, x = .ref a ∧ H1 a = some (.ins C dx fs) ∧ Cls K C ∧ NoAttr K C f ∧ fs.lookup f = some v ∧ Q v H1) : tFld K ta f σ H Q := h
theorem r_sfld (h : tv σ H fun y H1 => ta σ H1 fun x H2 => ∃ a C dx fs, x = .ref a ∧ H2 a = some (.ins C dx fs) ∧ Cls K C ∧ NoAttr K C f ∧ fs.length < 1000 ∧ D.nx σ (upd H2 a (.ins C dx (putF f y fs)))) : sFld K ta tv f D σ H := h
theorem r_lrg {tr : L2.St → Hp → (Int → Int → Hp → Prop) → Prop} (h : tr σ H fun a b H1 => RgOk a b ∧ ∀ q, H1 q = none → Q (.ref q) (upd H1 q (.lst (rgV a b)))) : tLstRg tr σ H Q := h
theorem r_rg1 {R : Int → Int → Hp → Prop} (h : ta σ H fun x H1 => ∃ n, x = .int n ∧ R 0 n H1) : tRg1 ta σ H R := h
theorem r_rg2 {R : Int → Int → Hp → Prop} (h : ta σ H fun x H1 => tv σ H1 fun y H2 => ∃ i j, x = .int i ∧ y = .int j ∧ R i j H2) : tRg2 ta tv σ H R := h
theorem r_bm {T : String} {r : V → List V → Hp → VK → Prop} {to : TE} {t : TA} (h : to σ H fun x H1 => tyV K T x H1 ∧ t σ H1 fun xs H2 => r x xs H2 Q) : tBM K T r to t σ H Q := h
theorem ty_lst {p : Addr} {xs : List V} (e : H p = some (.lst xs)) : tyV K "list" (.ref p) H := .inl ⟨rfl, xs, SqL.of e⟩
theorem r_append {p : Addr} {xs : List V} {y : V} (e : H p = some (.lst xs)) (l : xs.length < sizeLine) (h : Q .non (upd H p (.lst (xs ++ [y])))) : rAppend (.ref p) [y] H Q := ⟨p, xs, y, rfl, rfl, e, l, h⟩
theorem r_cat {l b p : Addr} {xs zs : List V} (e : H l = some (.lst xs)) (e2 : H b = some (.lst zs)) (z : xs.length + zs.length ≤ sizeLine) (h : ∀ p, H p = none → Q (.ref p) (upd H p (.lst (xs ++ zs)))) : rCat (.ref l) (.ref b) H Q := ⟨l, b, xs, zs, rfl, rfl, e, e2, z, h⟩
theorem r_while (h : ∃ W : Nat → L2.St → Hp → Prop, (∃ m, W m σ H) ∧ ∀ m σ H, W m σ H → tc σ H fun b H1 => if b = true then ∃ N : L2.St → Hp → Prop, (∀ σ' H', N σ' H' → ∃ m', m' < m ∧ W m' σ' H') ∧ tb { D with nx := N, ct := N, bk := D.nx } σ H1 else D.nx σ H1) : tWhile tc tb D σ H := h
end
end Rp
namespace Rp
open PySem PySem.Spec PyProof.Rows L2
/-! ### rows packed into one integer -/
def pk : List Int → Int
  | [] => 0
  | x :: r => x + 16777216 * pk r
def Dig (B : Int) (xs : List Int) : Prop := ∀ x ∈ xs, 0 ≤ x ∧ x < B
theorem Dig.nil {B : Int} : Dig B [] := fun _ m => nomatch m
theorem Dig.cons {B x : Int} {r : List Int} (h : 0 ≤ x ∧ x < B) (t : Dig B r) : Dig B (x :: r) := fun y m => by
  rcases List.mem_cons.mp m with e | m
  · rw [e]; exact h
  · exact t y m
theorem Dig.head {B x : Int} {r : List Int} (h : Dig B (x :: r)) : 0 ≤ x ∧ x < B := h x (List.mem_cons_self ..)
theorem Dig.tail {B x : Int} {r : List Int} (h : Dig B (x :: r)) : Dig B r := fun y m => h y (List.mem_cons_of_mem _ m)
theorem Dig.le {B C : Int} {r : List Int} (h : Dig B r) (l : B ≤ C) : Dig C r := fun y m => ⟨(h y m).1, Int.lt_of_lt_of_le (h y m).2 l⟩
theorem Dig.at {B : Int} {r : List Int} {k : Nat} {x : Int} (h : Dig B r) (e : r[k]? = some x) : 0 ≤ x ∧ x < B := h x (List.mem_of_getElem? e)
theorem pk_pos {B : Int} : ∀ {xs : List Int}, Dig B xs → 0 ≤ pk xs
  | [], _ => Int.le_refl 0
  | x :: r, h => by
    have a := pk_pos h.tail
    have b := h.head.1
    show 0 ≤ x + 16777216 * pk r
    omega
theorem pk_lt : ∀ {xs : List Int}, Dig 16777216 xs → pk xs < 2 ^ (24 * xs.length)
  | [], _ => by show (0 : Int) < 1; decide
  | x :: r, h => by
    have a := pk_lt h.tail
    have b := h.head
    have e : (2 : Int) ^ (24 * (x :: r).length) = 16777216 * 2 ^ (24 * r.length) := by
      rw [List.length_cons, show 24 * (r.length + 1) = 24 * r.length + 24 by omega, Int.pow_add, Int.mul_comm]
      rfl
    rw [e]
    show x + 16777216 * pk r < _
    omega
theorem pk_at : ∀ {xs : List Int} {k : Nat} {x : Int}, Dig 16777216 xs → xs[k]? = some x → (pk xs / 2 ^ (24 * k)) % 2 ^ 24 = x
  | [], _, _, _, e => by cases e
  | y :: r, 0, x, h, e => by
    cases e
    have b := h.head
    show ((y + 16777216 * pk r) / 1) % 16777216 = y
    omega
  | y :: r, k + 1, x, h, e => by
    have a := pk_at (k := k) h.tail (show r[k]? = some x from e)
    have b := h.head
    have e2 : (2 : Int) ^ (24 * (k + 1)) = 16777216 * 2 ^ (24 * k) := by
      rw [show 24 * (k + 1) = 24 * k + 24 by omega, Int.pow_add, Int.mul_comm]
      rfl
    rw [e2]
    show ((y + 16777216 * pk r) / (16777216 * 2 ^ (24 * k))) % 2 ^ 24 = x
    rw [← Int.ediv_ediv_of_nonneg (by decide)]
    rw [show (y + 16777216 * pk r) / 16777216 = pk r by omega]
    exact a
def addT (t : Int) (xs ys : List Int) : List Int := List.zipWith (fun x y => x + t * y) xs ys
theorem pk_add (t : Int) : ∀ {xs ys : List Int}, xs.length = ys.length → pk (addT t xs ys) = pk xs + t * pk ys
  | [], [], _ => by show (0 : Int) = 0 + t * 0; rw [Int.mul_zero]; rfl
  | x :: r, y :: u, h => by
    have a := pk_add t (xs := r) (ys := u) (by simpa using h)
    show (x + t * y) + 16777216 * pk (addT t r u) = (x + 16777216 * pk r) + t * (y + 16777216 * pk u)
    rw [a, Int.mul_add, Int.mul_add, Int.mul_left_comm]
    omega
  | [], _ :: _, h => by cases h
  | _ :: _, [], h => by cases h
theorem addT_len {t : Int} {xs ys : List Int} (h : xs.length = ys.length) : (addT t xs ys).length = xs.length := by
  unfold addT
  rw [List.length_zipWith, h]
  exact Nat.min_self _
theorem addT_dig {t B : Int} (t0 : 0 ≤ t) (t1 : t ≤ 31) : ∀ {xs ys : List Int}, Dig B xs → Dig 31 ys → Dig (B + 961) (addT t xs ys)
  | [], _, _, _ => by cases ‹List Int› <;> exact Dig.nil
  | _ :: _, [], _, _ => Dig.nil
  | x :: r, y :: u, h, k => by
    refine Dig.cons ?_ (addT_dig t0 t1 h.tail k.tail)
    show 0 ≤ x + t * y ∧ x + t * y < B + 961
    have a := h.head
    have b := k.head
    have c0 := Int.mul_nonneg t0 b.1
    have c1 : t * y ≤ 31 * 31 := Int.mul_le_mul t1 (by omega) b.1 (by decide)
    omega
/-- rows added so that there is 0 where they lead -/
def clr (cl : Int) : List (Nat × List Int) → List Int → List Int
  | [], xs => xs
  | (a, r) :: ls, xs => clr cl ls (if xs.getD a 0 % cl ≠ 0 then addT (cl - xs.getD a 0 % cl) xs r else xs)
/-- what leading rows must be -/
def LdOk (cl : Int) (n : Nat) (ls : List (Nat × List Int)) : Prop := ∀ l ∈ ls, l.1 < n ∧ l.2.length = n ∧ Dig cl l.2
theorem LdOk.head {cl : Int} {n : Nat} {l : Nat × List Int} {ls : List (Nat × List Int)} (h : LdOk cl n (l :: ls)) : l.1 < n ∧ l.2.length = n ∧ Dig cl l.2 := h l (List.mem_cons_self ..)
theorem LdOk.tail {cl : Int} {n : Nat} {l : Nat × List Int} {ls : List (Nat × List Int)} (h : LdOk cl n (l :: ls)) : LdOk cl n ls := fun y m => h y (List.mem_cons_of_mem _ m)
theorem clr_ok {cl : Int} {n : Nat} (h3 : 3 ≤ cl) (h31 : cl ≤ 31) : ∀ {ls : List (Nat × List Int)} {xs : List Int} {B : Int}, LdOk cl n ls → Dig B xs → xs.length = n → Dig (B + 961 * ls.length) (clr cl ls xs) ∧ (clr cl ls xs).length = n
  | [], xs, B, _, d, l => ⟨d.le (by rw [List.length_nil]; omega), l⟩
  | (a, r) :: ls, xs, B, o, d, l => by
    have q := o.head
    have e : (((a, r) :: ls).length : Int) = (ls.length : Int) + 1 := by rw [List.length_cons]; omega
    unfold clr
    by_cases h : xs.getD a 0 % cl ≠ 0
    · rw [if_pos h]
      have m1 := Int.emod_nonneg (xs.getD a 0) (by omega : cl ≠ 0)
      have m2 := Int.emod_lt_of_pos (xs.getD a 0) (by omega : 0 < cl)
      obtain ⟨z1, z2⟩ := clr_ok h3 h31 (n := n) o.tail (addT_dig (t := cl - xs.getD a 0 % cl) (by omega) (by omega) d (q.2.2.le h31)) (by rw [addT_len (by rw [l, q.2.1])]; exact l)
      exact ⟨z1.le (by omega), z2⟩
    · rw [if_neg h]
      obtain ⟨z1, z2⟩ := clr_ok h3 h31 (n := n) o.tail d l
      exact ⟨z1.le (by omega), z2⟩
theorem clr_snoc (cl : Int) (a : Nat) (r : List Int) : ∀ (ls : List (Nat × List Int)) (xs : List Int), clr cl (ls ++ [(a, r)]) xs = (if (clr cl ls xs).getD a 0 % cl ≠ 0 then addT (cl - (clr cl ls xs).getD a 0 % cl) (clr cl ls xs) r else clr cl ls xs)
  | [], xs => rfl
  | (b, u) :: ls, xs => by
    show clr cl (ls ++ [(a, r)]) _ = _
    rw [clr_snoc cl a r ls]
    rfl
theorem clr_take {cl : Int} {a i : Nat} {r xs : List Int} {ls : List (Nat × List Int)} (e : ls[i]? = some (a, r)) : clr cl (ls.take (i + 1)) xs = (if (clr cl (ls.take i) xs).getD a 0 % cl ≠ 0 then addT (cl - (clr cl (ls.take i) xs).getD a 0 % cl) (clr cl (ls.take i) xs) r else clr cl (ls.take i) xs) := by
  rw [List.take_succ, e]
  exact clr_snoc cl a r _ _
theorem LdOk.take {cl : Int} {n : Nat} {ls : List (Nat × List Int)} (h : LdOk cl n ls) (i : Nat) : LdOk cl n (ls.take i) := fun l m => h l (List.mem_of_mem_take m)
def modRow (cl : Int) (xs : List Int) : List Int := xs.map fun x => x % cl
theorem modRow_dig {cl : Int} (h : 0 < cl) (xs : List Int) : Dig cl (modRow cl xs) := fun y m => by
  obtain ⟨x, _, rfl⟩ := List.mem_map.mp m
  exact ⟨Int.emod_nonneg _ (by omega), Int.emod_lt_of_pos _ h⟩
theorem modRow_len {cl : Int} {xs : List Int} : (modRow cl xs).length = xs.length := List.length_map ..
/-- the place of the first number that is not 0 -/
def leadOf : List Int → Nat
  | [] => 0
  | x :: r => if x = 0 then leadOf r + 1 else 0
theorem leadOf_le : ∀ xs : List Int, leadOf xs ≤ xs.length
  | [] => Nat.le_refl 0
  | x :: r => by
    have := leadOf_le r
    unfold leadOf
    rw [List.length_cons]
    split <;> omega
theorem leadOf_zero : ∀ {xs : List Int} {k : Nat} {x : Int}, k < leadOf xs → xs[k]? = some x → x = 0
  | [], _, _, _, e => by cases e
  | y :: r, 0, x, h, e => by
    cases e
    unfold leadOf at h
    split at h
    · assumption
    · omega
  | y :: r, k + 1, x, h, e => by
    unfold leadOf at h
    split at h
    · exact leadOf_zero (xs := r) (k := k) (by omega) e
    · omega
theorem leadOf_at : ∀ {xs : List Int} {k : Nat} {x : Int}, xs[k]? = some x → x ≠ 0 → (∀ j y, j < k → xs[j]? = some y → y = 0) → leadOf xs = k
  | [], _, _, e, _, _ => by cases e
  | y :: r, 0, x, e, n, _ => by
    cases e
    unfold leadOf
    rw [if_neg n]
  | y :: r, k + 1, x, e, n, h => by
    have h0 := h 0 y (by omega) rfl
    unfold leadOf
    rw [if_pos h0]
    have := leadOf_at (xs := r) (k := k) e n fun j z hj ez => h (j + 1) z (by omega) ez
    omega
theorem leadOf_all : ∀ {xs : List Int}, (∀ (j : Nat) (y : Int), xs[j]? = some y → y = 0) → leadOf xs = xs.length
  | [], _ => rfl
  | y :: r, h => by
    unfold leadOf
    rw [if_pos (h 0 y rfl), leadOf_all (xs := r) fun j z e => h (j + 1) z e]
    rfl
theorem leadOf_step : ∀ {xs : List Int} {k : Nat}, xs[k]? = some 0 → k ≤ leadOf xs → k + 1 ≤ leadOf xs
  | [], _, e, _ => by cases e
  | y :: r, 0, e, _ => by
    cases e
    unfold leadOf
    rw [if_pos rfl]
    omega
  | y :: r, k + 1, e, h => by
    unfold leadOf at h ⊢
    split at h
    · rename_i q
      rw [if_pos q]
      have := leadOf_step (xs := r) (k := k) e (by omega)
      omega
    · omega
theorem leadOf_is {xs : List Int} {k : Nat} {x : Int} (e : xs[k]? = some x) (n : x ≠ 0) (h : k ≤ leadOf xs) : leadOf xs = k := by
  refine leadOf_at e n fun j y hj ej => leadOf_zero (by omega) ej
def putL (ls : List (Nat × List Int)) (a : Nat) (r : List Int) : List (Nat × List Int) :=
  if ls.any (fun l => decide (l.1 = a)) then ls.map (fun l => if l.1 = a then (l.1, r) else l) else ls ++ [(a, r)]
/-- the power by clock - 2, round the clock -/
def powF (cl n : Int) : Nat → Int
  | 0 => 1
  | k + 1 => (powF cl n k * n).fmod cl
/-- one row more among the leading ones -/
def ldOne (cl : Int) (n : Nat) (ls : List (Nat × List Int)) (row : List Int) : List (Nat × List Int) :=
  let left := modRow cl (clr cl ls row)
  if leadOf left < n then putL ls (leadOf left) (left.map fun x => (powF cl (left.getD (leadOf left) 0) (cl - 2).toNat * x) % cl) else ls
def leading (cl : Int) (n : Nat) (rows : List (List Int)) : List (Nat × List Int) := rows.foldl (ldOne cl n) []
def findL (ls : List (Nat × List Int)) (a : Nat) : List Int := ((ls.find? fun l => decide (l.1 = a)).map (·.2)).getD []
/-- the leads, from the greatest one on -/
def insD (a : Nat) : List Nat → List Nat
  | [] => [a]
  | b :: r => if b ≤ a then a :: b :: r else b :: insD a r
def descend : List Nat → List Nat
  | [] => []
  | a :: r => insD a (descend r)
theorem insD_perm (a : Nat) : ∀ ls : List Nat, (insD a ls).Perm (a :: ls)
  | [] => .refl _
  | b :: r => by
    unfold insD
    split
    · exact .refl _
    · exact ((insD_perm a r).cons b).trans (.swap a b r)
theorem descend_perm : ∀ ls : List Nat, (descend ls).Perm ls
  | [] => .refl _
  | a :: r => (insD_perm a _).trans ((descend_perm r).cons a)
theorem insD_desc (a : Nat) : ∀ {ls : List Nat}, ls.Pairwise (· ≥ ·) → (insD a ls).Pairwise (· ≥ ·)
  | [], _ => by unfold insD; exact List.pairwise_singleton _ _
  | b :: r, h => by
    obtain ⟨h1, h2⟩ := List.pairwise_cons.mp h
    unfold insD
    split
    · rename_i q
      refine List.pairwise_cons.mpr ⟨fun c m => ?_, h⟩
      rcases List.mem_cons.mp m with e | m
      · rw [e]; exact q
      · exact Nat.le_trans (h1 c m) q
    · rename_i q
      refine List.pairwise_cons.mpr ⟨fun c m => ?_, insD_desc a h2⟩
      rcases List.mem_cons.mp ((insD_perm a r).mem_iff.mp m) with e | m
      · rw [e]; show a ≤ b; omega
      · exact h1 c m
theorem descend_desc : ∀ ls : List Nat, (descend ls).Pairwise (· ≥ ·)
  | [] => .nil
  | a :: r => insD_desc a (descend_desc r)
theorem desc_one : ∀ {a b : List Nat}, a.Perm b → a.Pairwise (· ≥ ·) → b.Pairwise (· ≥ ·) → a = b
  | [], b, p, _, _ => (List.nil_perm.mp p).symm
  | x :: r, [], p, _, _ => (List.perm_nil.mp p)
  | x :: r, y :: u, p, h, k => by
    obtain ⟨h1, h2⟩ := List.pairwise_cons.mp h
    obtain ⟨k1, k2⟩ := List.pairwise_cons.mp k
    have e : x = y := by
      have m1 : x ∈ y :: u := p.mem_iff.mp (List.mem_cons_self ..)
      have m2 : y ∈ x :: r := p.mem_iff.mpr (List.mem_cons_self ..)
      rcases List.mem_cons.mp m1 with e | m1
      · exact e
      rcases List.mem_cons.mp m2 with e | m2
      · exact e.symm
      have a := k1 x m1
      have b := h1 y m2
      omega
    subst e
    rw [desc_one (List.Perm.cons_inv p) h2 k2]
def backOne (cl : Int) (ls : List (Nat × List Int)) (st : List (Nat × List Int) × List (List Int)) (a : Nat) : List (Nat × List Int) × List (List Int) :=
  let row := modRow cl (clr cl st.1 (findL ls a))
  (putL st.1 a row, st.2 ++ [row])
def leastForm (cl : Int) (n : Nat) (rows : List (List Int)) : List (List Int) :=
  let ls := leading cl n rows
  ((descend (ls.map (·.1))).foldl (backOne cl ls) ([], [])).2.reverse
theorem putL_ok {cl : Int} {n a : Nat} {r : List Int} {ls : List (Nat × List Int)} (h : LdOk cl n ls) (ha : a < n) (hr : r.length = n) (hd : Dig cl r) : LdOk cl n (putL ls a r) := fun l m => by
  unfold putL at m
  split at m
  · obtain ⟨k, mk, e⟩ := List.mem_map.mp m
    split at e
    · rw [← e]
      exact ⟨(h k mk).1, hr, hd⟩
    · rw [← e]
      exact h k mk
  · rcases List.mem_append.mp m with m | m
    · exact h l m
    · rw [List.mem_singleton.mp m]
      exact ⟨ha, hr, hd⟩
end Rp
namespace PySem
open Sem (wp)
open AutoSeq1 (wpAny_loadPart')
theorem meets_enumerate_newT (l : Addr) (items : Array Value) (n : Nat) (dct : Option Addr) (sl : Array (Option Value)) :
    Meets (Builtin.«enumerate.__new__» ⟨[.type "enumerate", .ref l], []⟩) (fun _ R s => s.heap.get? l = some { cls := .type "tuple", dict := dct, data := .seq items n, slots := sl } ∧
      R (.ok (.ret (.ref (s.heap.push { cls := .type "tuple_iterator", data := .fields #[.ref l, .int 0 0] }).objs.size)))
        { s with heap := (s.heap.push { cls := .type "tuple_iterator", data := .fields #[.ref l, .int 0 0] }).push { cls := .type "enumerate", data := .fields #[.none, .bool false, .ref s.heap.objs.size, rawInt 0, .none, .none] } }) :=
  .of_wp fun prog w A R s h => by
    obtain ⟨hp, g, d, tk, os⟩ := s; obtain ⟨hl, h⟩ := h
    have hsub := sub_enumerate
    have hL : Heap.IsTuple (Shared.heap ⟨hp, g, d, tk, os⟩) l items := ⟨_, hl, rfl, n, rfl⟩
    wp_walk using wpAny_loadPart' hl
    refine wpAny_stack_any fun st => wpAny_pure ?_
    split
    · rename_i c _ _ _ _ _
      cases (c == Value.type "enumerate")
      · wp_walk using wpAny_loadPart' hl, wpAny_pyIter_tuple hL
        exact ⟨_, rfl, h⟩
      · wp_walk using wpAny_loadPart' hl, wpAny_pyIter_tuple hL
        exact ⟨_, rfl, h⟩
    · wp_walk using wpAny_loadPart' hl, wpAny_pyIter_tuple hL
      exact ⟨_, rfl, h⟩
theorem call_enumerate_tuple {prog : Program} {w : World} {A : Around} {E : Value → Shared → Prop} {s : Shared} {l : Addr} {items : Array Value} {Q : Value → Shared → Prop} (hL : s.heap.IsTuple l items)
    (h : ∀ h', IsEnum h' (s.heap.objs.size + 1) s.heap.objs.size 0 .none → h'.IsTupleIter s.heap.objs.size l 0 → h'.objs.size = s.heap.objs.size + 2 →
      (∀ b o, s.heap.get? b = some o → h'.get? b = some o) → Q (.ref (s.heap.objs.size + 1)) { s with heap := h' }) :
    wpAny (model prog w) A (call (.type "enumerate") [.ref l]) Q E s := by
  obtain ⟨⟨c, dct, dt, sl⟩, hl, hc, n, hd⟩ := hL
  replace hc : c = .type "tuple" := hc
  replace hd : dt = .seq items n := hd
  subst hc hd
  refine callType_new F.called_enumerate (by decide) (F.typeCall_enumerate_1 _) (F.newCall_enumerate_1 _) (fun obj => F.args_object_init_2 obj _) F.entry_enumerate_new
    (meets_enumerate_newT l items n dct sl) ⟨hl, ?_⟩
  have hz : (s.heap.push { cls := .type "tuple_iterator", data := .fields #[.ref l, .int 0 0] }).objs.size = s.heap.objs.size + 1 := Heap.size_push ..
  show _ ∧ _
  rw [hz]
  have he : IsEnum ((s.heap.push { cls := .type "tuple_iterator", data := .fields #[.ref l, .int 0 0] }).push
      { cls := .type "enumerate", data := .fields #[.none, .bool false, .ref s.heap.objs.size, rawInt 0, .none, .none] }) (s.heap.objs.size + 1) s.heap.objs.size 0 .none := by
    have := Heap.get?_push_size (s.heap.push { cls := .type "tuple_iterator", data := .fields #[.ref l, .int 0 0] })
      (o := { cls := .type "enumerate", data := .fields #[.none, .bool false, .ref s.heap.objs.size, rawInt 0, .none, .none] }) rfl
    rw [hz] at this; exact this
  refine ⟨⟨_, he, rfl⟩, h _ he ⟨_, Heap.get?_push_of_some _ (Heap.get?_push_size _ rfl), rfl, rfl⟩ (by rw [Heap.size_push, hz]) fun b o x => Heap.get?_push_of_some _ (Heap.get?_push_of_some _ x)⟩
end PySem
namespace Rp
open PySem PySem.Spec PyProof.Rows L2
/-! ### enumerate(tuple) -/
def IteT (K : PySem.W.Frag) (a : Addr) : It :=
  ⟨fun i H => ∃ (xs : List V) (x : V), SqT K H a xs ∧ xs[i]? = some x, fun i H v H' => ∃ T x, v = .ref T ∧ H T = none ∧ H' = upd H T (.tup [.int (i : Nat), x]) ∧ ∀ xs, SqT K H a xs → xs[i]? = some x, fun i H => ∃ xs : List V, SqT K H a xs ∧ xs.length ≤ i⟩
theorem turn_enumT {P : Program} {w : World} {K : PySem.W.Frag} {elts : List Expr} {kk : Nat} {tpos : Pos} (a e it : Addr) (na : a ≠ it) (nea : e ≠ a) :
    Turn P w K (.Tuple elts kk tpos) (IteT K a) [e, it] e (fun i h => (∃ old, IsEnum h e it ((i : Nat) : Int) old) ∧ h.IsTupleIter it a i ∧ e ≠ it) where
  mem := by simp
  obj := fun i h st b hb => by
    obtain ⟨⟨old, he⟩, ⟨o, ho, hc, hd⟩, _⟩ := st
    have e' : b = e ∨ b = it := by simpa using hb
    rcases e' with z | z
    · rw [z]; exact ⟨_, he, fun v q => nomatch q⟩
    · rw [z]; exact ⟨o, ho, fun v q => by rw [hd] at q; cases q⟩
  keep := fun i h h' st k => let ⟨⟨old, he⟩, hi, hne⟩ := st; ⟨⟨old, k e (by simp) _ he⟩, hi.at fun o q => k it (by simp) o q, hne⟩
  item := by
    intro X hP hw hK hc i pins s σ H E I hf st hg
    subst hP hw hK
    obtain ⟨⟨old, he⟩, hit, hne⟩ := st
    obtain ⟨xs, x, hq, hx⟩ := hg
    obtain ⟨its, rv, p, hz⟩ := I.tuple hq
    obtain ⟨u, hu, ru⟩ := rv.get hx
    have hel : e < s.heap.objs.size := Heap.lt_size he
    have hil : it < s.heap.objs.size := by obtain ⟨_, q, _⟩ := hit; exact Heap.lt_size q
    have hlt : i < its.toArray.size := by
      have := (List.getElem?_eq_some_iff.mp hu).1
      simpa using this
    refine PySem.wpAny_pyNext_enum_itemD (Draws.tuple (A := X.A.in1) (show X.A.in1.handled = none from I.ok.hd hc) it a na its.toArray) he ⟨hit, p⟩ hlt hne (by simp [hne, nea]) fun x' h' tk hx' ho st' hT hsz hk => ?_
    have hit' := st'.1
    have exu : x' = u := by
      have q : its.toArray[i]? = some u := by simpa using hu
      exact Option.some.inj (hx'.symm.trans q)
    subst exu
    refine ⟨_, rfl, wpAny_letOwnedTupleGo_enum (s := { s with heap := h', toks := tk + 1 }) ho fun h'' he' sb => ?_⟩
    have hT2 : h''.get? s.heap.objs.size = some { cls := .type "tuple", data := .seq #[.int i tk, x'] } := (sb.2 _ (Nat.ne_of_gt hel)).trans hT
    have new : ObjOk X.prog X.w (upd H s.heap.objs.size (.tup [.int (i : Nat), x])) h'' s.heap.objs.size (.tup [.int (i : Nat), x]) :=
      ⟨by show 2 ≤ sizeLine; decide, [.int i tk, x'], .cons ⟨_, rfl⟩ (.cons ru .nil), ⟨_, hT2, rfl, _, rfl⟩⟩
    have I1 : Inv X pins σ (upd H s.heap.objs.size (.tup [.int (i : Nat), x])) { s with heap := h'', toks := tk + 1 } :=
      I.turnedNew (ch := [e, it]) (fun b ob hb q => (sb.2 b (fun z => hb (by simp [z]))).trans (hk b ob (fun z => hb (by simp [z])) (fun z => hb (by simp [z])) q)) hf (Nat.le_refl _) new
    refine ⟨.ref s.heap.objs.size, _, I1, rfl, ⟨_, x, rfl, I.hok.fresh (Nat.le_refl _), rfl, fun ys hy => by rw [I.tuple_inj hy hq]; exact hx⟩, ⟨⟨x', ?_⟩, hit'.at fun o q => (sb.2 it (Ne.symm hne)).trans q, hne⟩, fun b hb => ?_⟩
    · have e1 : ((i + 1 : Nat) : Int) = (i : Int) + 1 := by omega
      rw [e1]; exact he'
    · have hb' : b < s.heap.objs.size := by
        have e' : b = e ∨ b = it := by simpa using hb
        rcases e' with z | z
        · rw [z]; exact hel
        · rw [z]; exact hil
      rw [upd_ne (Nat.ne_of_lt hb')]
      exact (hf b hb).1
  done := by
    intro X hP hw hK hc i pins s σ H E I hf st hg
    subst hP hw hK
    obtain ⟨⟨old, he⟩, hit, hne⟩ := st
    obtain ⟨xs, hq, hx⟩ := hg
    obtain ⟨its, rv, p, hz⟩ := I.tuple hq
    obtain ⟨f0, f1, f2, f3, f4, f5⟩ := hf it (by simp)
    have hl := rv.length
    have hT : s.TypeIs (.ref e) "enumerate" := ⟨_, he, rfl⟩
    unfold pyNext
    refine wpAny_bind (wpAny_attempt (wpAny_callSpecial?_slot (name := Str.ofString "__next__") hT PySem.F.slot_enumerate_next
      (wpAny_call_entry PySem.F.slot_enumerate_next hT PySem.F.entry_enumerate_next ?_ (PySem.F.args_enumerate_next_1 _))))
    show wpAny _ _ (field (.ref e) 2 >>= _) _ _ _
    refine wpAny_bind (wpAny_field he rfl (x := .ref it) rfl ?_)
    refine wpAny_bind (wpAny_nextOf_tuple_end (I.ok.hd hc) hit p (by simp; omega) fun h' x he' hx' => ?_)
    obtain ⟨o, ho, hc'⟩ := hx'
    refine wpAny_bind (wpAny_isInstance (T := "StopIteration") (b := true) ⟨o, ho, hc'⟩ isSubtype_stop ?_)
    exact wpAny_pure ⟨rfl, I.turned (t' := s.toks) (fun b o hb q => he' b o hb q) f0 f1 f3 f4 f5⟩
  self := fun A i s Q E st h => let ⟨⟨_, he⟩, _⟩ := st; wpAny_pyIter_enum he h
def iEnumT (K : PySem.W.Frag) (ta : TA) : TI := fun σ H R => ta σ H fun vs H1 => ∃ a xs, vs = [.ref a] ∧ SqT K H1 a xs ∧ R (IteT K a) H1
theorem pi_enumT {X : Cx} {e : Expr} {ta : TA} {p pos tpos : Pos} {elts : List Expr} {kk : Nat} (hg : Gl X "enumerate") (hm : X.mg "enumerate" = none) (ha : PA X [e] ta) (hs : starEach [e] X.env = [(false, eval e X.env)] := by rfl) :
    PI X (.Tuple elts kk tpos) (.Call (.Name "enumerate" p) [e] [] pos) (iEnumT X.K ta) := by
  refine ⟨fun pins s σ H R I h => ?_⟩
  refine Call_ (ld_blt I hg hm boot_enumerate (PyProof.Rows.callWith_type1 (thn (ha.run pos pins s σ H _ I h) fun us s1 ⟨vs, H1, I1, r1, q1⟩ => ?_) hs rfl))
  obtain ⟨a, xs, ex, hq, q⟩ := q1
  subst ex
  cases r1 with
  | cons r rr =>
    cases rr
    cases r
    obtain ⟨its, rv, p', hz⟩ := I1.tuple hq
    have hal : a < s1.heap.objs.size := by obtain ⟨_, ho, _⟩ := p'; exact Heap.lt_size ho
    refine call_enumerate_tuple p' fun h' he hit hsz hk => wpAny_pyIter_enum he ?_
    have I2 : Inv X pins σ H1 { s1 with heap := h' } := I1.kept (t' := s1.toks) hk
    refine ⟨s1.heap.objs.size + 1, [s1.heap.objs.size + 1, s1.heap.objs.size], _, _, H1, rfl, I2, turn_enumT a (s1.heap.objs.size + 1) s1.heap.objs.size (Nat.ne_of_lt hal) (Nat.ne_of_lt (Nat.lt_succ_of_lt hal)).symm, ⟨⟨.none, he⟩, hit, Nat.succ_ne_self _⟩, fun b hb => ?_, q⟩
    have e' : b = s1.heap.objs.size + 1 ∨ b = s1.heap.objs.size := by simpa using hb
    have hle : s1.heap.objs.size ≤ b := by
      rcases e' with z | z
      · rw [z]; exact Nat.le_add_right _ _
      · rw [z]; exact Nat.le_refl _
    exact I1.fpOk hle (I1.hok.fresh hle)
theorem walk_enumT {K : PySem.W.Frag} {a : Addr} {xs : List V} : Walk (IteT K a) xs.length (fun H => SqT K H a xs) (YPair (fun i => some (.int (i : Nat))) (fun i => xs[i]?)) := by
  constructor
  · intro i H hi q
    exact ⟨xs, xs[i], q, by simp [hi]⟩
  · intro H q
    exact ⟨xs, q, Nat.le_refl _⟩
  · rintro i H v H' _ q ⟨T, x, h1, h2, h3, h4⟩
    exact ⟨T, .int (i : Nat), x, h1, h2, h3, rfl, h4 xs q⟩
end Rp
namespace Rp
open PySem PySem.Spec PyProof.Rows L2
/-- sorted(d, reverse=b): the keys of a dict, all ints -/
def rSortedDR (b : Bool) : List V → List V → Hp → VK → Prop := fun xs zs H Q => ∃ (a : Addr) (kvs : List (Key × V)) (ks : List Int), xs = [.ref a] ∧ zs = [.bl b] ∧ H a = some (.dK kvs) ∧ kvs.map (·.1) = ks.map Sum.inl ∧ ks.length ≤ 1000 ∧
    ∀ (ys : List Int) (p : Addr), ys.Perm ks → OrdB b ys → H p = none → Q (.ref p) (upd H p (.lst (ys.map V.int)))
theorem cr_sortedDRev {X : Cx} {b : Bool} (hcalm : X.calm = true) : CallRK X (.builtin "sorted") [Str.ofString "reverse"] (rSortedDR b) := by
  intro pins s σ H xs zs us ws Q I r rz q
  obtain ⟨a, kvs, ks, ex, ez, hd, hks, h64, q⟩ := q
  subst ex
  subst ez
  obtain ⟨u, eu, rx⟩ := vals1 r
  subst eu
  cases rx
  obtain ⟨w1, rfl, e1⟩ := vals1 rz
  obtain rfl : w1 = Value.bool b := e1
  obtain ⟨z, lo, vs, rel, dd⟩ := dk_rd I.hok (.inl hd)
  obtain ⟨ep, hat⟩ := dd.dictAt
  have hkeys : vs.map (·.1) = ks.map Sum.inl := rel.keys.symm.trans hks
  have hl : vs.length = ks.length := by
    have e := congrArg List.length hkeys
    rw [List.length_map, List.length_map] at e
    exact e
  have h16 : vs.length ≤ sizeLine := by rw [hl, sizeLine_eq]; omega
  refine call_function_entry_kw PyProof.Rows.kind_sorted PyProof.Rows.plain_sorted PyProof.Rows.entry_sorted (PyProof.Rows.args_sorted_rev _ _) ?_
  unfold Builtin.«sorted»
  refine wpAny_bind (m := checkCount "sorted" 1 1 _) (wpAny_pure ?_)
  refine wpAny_bind (PySem.W.kdu_collect (A := X.A.in1) (PySem.W.kdl_dict (knd := mixKind X.prog X.w) (kvs := vs) (ep := ep) lo) (I.ok.hd hcalm) hat h16 fun h' tk acc hk hacc => ?_)
  have hal : acc.toList.length = ks.length := by rw [Array.length_toList, hacc.1, hl]
  have hS : IntsAre acc.toList ks := ints_each hal fun j v e => by
    obtain ⟨k, x, e1, e2⟩ := hacc.2 j v (by rw [← Array.getElem?_toList]; exact e)
    have e3 : (vs.map (·.1))[j]? = some k := by rw [List.getElem?_map, e1]; rfl
    rw [hkeys, List.getElem?_map] at e3
    cases e4 : ks[j]? with
    | none => rw [e4] at e3; cases e3
    | some y =>
      rw [e4] at e3
      have e5 : Sum.inl y = k := Option.some.inj e3
      subst e5
      rcases keyIs_shape (show keyIs (Sum.inl y) v = true from e2) with ⟨i, t, ek, ev⟩ | ⟨z, t, ek, ev⟩
      · cases ek
        exact ⟨y, t, rfl, ev⟩
      · cases ek
  have I1 : Inv X pins σ H { s with heap := h', toks := tk } := I.kept hk
  have hz : acc.toList.length ≤ sizeLine := by rw [hal, sizeLine_eq]; omega
  refine wpAny_bind (wpAny_newList ?_ (by rw [hal, sizeLine_eq]; omega))
  have hoL : (h'.push (seqObj "list" acc.toList.toArray 0)).get? h'.objs.size = some (seqObj "list" acc.toList.toArray 0) := Heap.get?_push_size _ rfl
  show wpAny _ _ _ _ _ { s with heap := h'.push (seqObj "list" acc.toList.toArray 0), toks := tk }
  refine wpAny_bind (wpAny_holding (wpAny_call_entry_kw PyProof.Rows.slot_list_sort ⟨_, hoL, rfl⟩ PyProof.Rows.entry_list_sort ?_ (PyProof.Rows.args_list_sort_rev _ _)))
  refine SrtR.list_sort_ordR (s := { s with heap := h'.push (seqObj "list" acc.toList.toArray 0), toks := tk }) SrtO.swo_int hoL hz (fun h2 => SrtO.ints_sortable hS h2) fun out g0 g3 => ⟨_, rfl, ?_⟩
  obtain ⟨ys, g1, g2, g3⟩ := SrtR.ints_outR hS g0 g3
  obtain ⟨e', he'⟩ := PyProof.Rows.sortedHeap_at (vs := acc.toList) (out := (if b = true then out.toArray.reverse else out.toArray)) hoL
  have hlen : (ys.map V.int).length ≤ sizeLine := by
    rw [List.length_map, g2.length_eq]
    rw [sizeLine_eq]; omega
  have e0 : ((if b = true then out.toArray.reverse else out.toArray).toList).toArray = (if b = true then out.toArray.reverse else out.toArray) := by rw [Array.toArray_toList]
  skip
  refine wpAny_pure ⟨_, rfl, .ref h'.objs.size, upd H h'.objs.size (.lst (ys.map V.int)), I1.laid (t' := tk) (fun b u e => ?_) (Nat.le_refl _)
    (show ObjOk X.prog X.w _ _ _ (.lst (ys.map V.int)) from ⟨hlen, _, e', vals_of_ints g1, by rw [e0]; exact he'⟩), rfl, q ys _ g2 g3 (I1.hok.fresh (Nat.le_refl _))⟩
  have hb : b < h'.objs.size := Heap.lt_size e
  rw [PyProof.Rows.sortedHeap_old (Nat.ne_of_lt hb) (by rw [size_push']; exact Nat.lt_succ_of_lt hb)]
  exact Heap.get?_push_of_some _ e
theorem r_callBK {r : List V → List V → Hp → VK → Prop} {t tk : TA} {σ : L2.St} {H : Hp} {Q : VK} (h : t σ H fun vs H1 => tk σ H1 fun zs H2 => r vs zs H2 Q) : tCKw r t tk σ H Q := h
end Rp
namespace Rp
open PySem PySem.Spec PyProof.Rows L2 LamX RZ
/-- what is a clock -/
theorem clk_int {v : V} (h : clk v = true) : ∃ cl : Int, v = .int cl ∧ 3 ≤ cl ∧ cl ≤ 31 := by
  cases v with
  | int i =>
    refine ⟨i, rfl, ?_⟩
    have m := List.contains_iff_mem.mp (show clocks.contains i = true from h)
    revert m
    simp only [clocks, List.mem_cons, List.not_mem_nil, or_false]
    omega
  | _ => cases h
theorem inB_int {v : V} {lo hi : Option Int} (h : inB v lo hi = true) : ∃ i : Int, v = .int i := by
  cases v with
  | int i => exact ⟨i, rfl⟩
  | _ => cases h
theorem inB_of {i : Int} {l u : Int} (h : inB (.int i) (some l) (some u) = true) : l ≤ i ∧ i ≤ u := by
  have z := Bool.and_eq_true_iff.mp (show (decide (l ≤ i) && decide (i ≤ u)) = true from h)
  exact ⟨of_decide_eq_true z.1, of_decide_eq_true z.2⟩
theorem powF_in {cl n : Int} (h : 2 ≤ cl) : ∀ k, 0 ≤ powF cl n k ∧ powF cl n k < cl
  | 0 => ⟨by show (0 : Int) ≤ 1; decide, by show (1 : Int) < cl; omega⟩
  | k + 1 => ⟨(fmod_in (by omega)).1, (fmod_in (by omega)).2⟩
theorem rowOk_some {o : Option (List V)} {c l h : Int} (e : rowOk o c l h = true) : ∃ xs, o = some xs ∧ xs.length ≤ h.toNat ∧ ∀ x ∈ xs, ∃ i : Int, x = .int i ∧ 0 ≤ i ∧ i ≤ c - 1 := by
  cases o with
  | none => cases e
  | some xs =>
    obtain ⟨e1, e2⟩ := Bool.and_eq_true_iff.mp (show ((decide (l ≤ (xs.length : Int)) && decide ((xs.length : Int) ≤ h)) && xs.all fun x => inB x (some 0) (some (c - 1))) = true from e)
    have e3 := of_decide_eq_true (Bool.and_eq_true_iff.mp e1).2
    refine ⟨xs, rfl, by omega, fun x m => ?_⟩
    have z := List.all_eq_true.mp e2 x m
    obtain ⟨i, rfl⟩ := inB_int z
    exact ⟨i, rfl, inB_of z⟩
theorem row_ref {K : PySem.W.Frag} {q : Addr} {H : Hp} {v : V} {xs : List V} (h : RowV q H v (some xs)) : ∃ p, v = .ref p ∧ (SqL K H p xs ∨ SqT K H p xs) := by
  cases h with
  | lst n e _ => exact ⟨_, rfl, .inl (SqL.of e)⟩
  | tup n e _ => exact ⟨_, rfl, .inr (SqT.of e)⟩
theorem row_same {q : Addr} {H H' : Hp} {v : V} {o : Option (List V)} (h : RowV q H v o) (s : Same H H') : RowV q H' v o := h.but fun b o _ e => s b o e
theorem any_same {q : Addr} {H H' : Hp} {v : V} (h : Any q H v) (s : Same H H') : Any q H' v := h.but fun b o _ e => s b o e
/-- zip of two tuples -/
theorem walk_zipT {K : PySem.W.Frag} {a b : Addr} {xs ys : List V} {n : Nat} (hn : n = min xs.length ys.length) : Walk (ItzT K a b) n (fun H => SqT K H a xs ∧ SqT K H b ys) (YPair (fun i => xs[i]?) (fun i => ys[i]?)) := by
  subst hn
  constructor
  · intro i H hi q
    have h1 : i < xs.length := by omega
    have h2 : i < ys.length := by omega
    exact ⟨xs, ys, xs[i], ys[i], q.1, q.2, by simp [h1], by simp [h2]⟩
  · intro H q
    exact ⟨xs, ys, q.1, q.2, by omega⟩
  · rintro i H v H' _ q ⟨T, x, z, h1, h2, h3, h4, h5⟩
    exact ⟨T, x, z, h1, h2, h3, h4 xs q.1, h5 ys q.2⟩
theorem zip_at {α β γ : Type} {xs : List α} {ys : List β} {f : α × β → γ} {i : Nat} {x : α} {y : β} (hx : xs[i]? = some x) (hy : ys[i]? = some y) : ((xs.zip ys).take (i + 1)).map f = ((xs.zip ys).take i).map f ++ [f (x, y)] := by
  have z : (xs.zip ys)[i]? = some (x, y) := by
    rw [List.getElem?_zip_eq_some]
    exact ⟨hx, hy⟩
  rw [List.take_succ, z, List.map_append]
  rfl
theorem dr_put {q c D : Addr} {ns : List Int} {lap : Nat} {H : Hp} {o : HO} (d : Dr q c ns lap H) (n1 : D ≠ q) (n2 : D ≠ c) : Dr q c ns lap (upd H D o) := by
  obtain ⟨ne, ⟨rest, hb⟩, hc, hl⟩ := d
  exact ⟨ne, ⟨rest, by rw [upd_ne n1.symm]; exact hb⟩, by rw [upd_ne n2.symm]; exact hc, hl⟩
theorem dr_off {q c D : Addr} {ns : List Int} {lap : Nat} {H : Hp} (d : Dr q c ns lap H) (h : H D = none) : D ≠ q ∧ D ≠ c := by
  obtain ⟨ne, ⟨rest, hb⟩, hc, hl⟩ := d
  exact ⟨(ne_of_none hb h).symm, (ne_of_none hc h).symm⟩
theorem inB_out {i l u : Int} (h : i < l ∨ u < i) : inB (.int i) (some l) (some u) = false := by
  show (decide (l ≤ i) && decide (i ≤ u)) = false
  rcases h with h | h
  · rw [decide_eq_false (by omega), Bool.false_and]
  · rw [decide_eq_false (p := i ≤ u) (by omega), Bool.and_false]
theorem rowOk_bad {xs : List V} {x : V} {cl : Int} (m : x ∈ xs) (h : inB x (some 0) (some (cl - 1)) = false) : rowOk (some xs) cl 1 400 = false := by
  have e : (xs.all fun x => inB x (some 0) (some (cl - 1))) = false := by
    rw [List.all_eq_false]
    exact ⟨x, m, by rw [h]; decide⟩
  show (_ && (xs.all fun x => inB x (some 0) (some (cl - 1)))) = false
  rw [e, Bool.and_false]
theorem rowOk_long {xs : List V} {cl : Int} (h : 400 < xs.length) : rowOk (some xs) cl 1 400 = false := by
  show ((_ && decide ((xs.length : Int) ≤ 400)) && _) = false
  rw [decide_eq_false (p := (xs.length : Int) ≤ 400) (by omega), Bool.and_false, Bool.false_and]
theorem inB_yes {i l u : Int} (a : l ≤ i) (b : i ≤ u) : inB (.int i) (some l) (some u) = true := by
  show (decide (l ≤ i) && decide (i ≤ u)) = true
  rw [decide_eq_true a, decide_eq_true b]
  rfl
theorem tabs_but {q : Addr} {T : List (Addr × Str)} {H H' : Hp} {xs : List V} (B : But q H H') (hq : H q = some (.lst xs)) (t : Tabs T H) : Tabs T H' := by
  intro p m
  obtain ⟨ps, h1, h2, h3⟩ := t p m
  have off : ∀ {b o}, H b = some o → (∀ xs, o ≠ .lst xs) → b ≠ q := by
    rintro b o e n rfl
    exact n xs (Option.some.inj (e.symm.trans hq))
  refine ⟨ps, B _ _ (off h1 fun _ z => by cases z) h1, h2, fun pos cv hc => ?_⟩
  obtain ⟨c, e1, e2⟩ := h3 pos cv hc
  exact ⟨c, e1, B _ _ (off e2 fun _ z => by unfold CodeO at z; cases z) e2⟩
theorem dr_ext {q c : Addr} {ns : List Int} {lap : Nat} {H H' : Hp} (d : Dr q c ns lap H) (x : ExtN H H') : Dr q c ns lap H' := by
  obtain ⟨ne, ⟨rest, hb⟩, hc, hl⟩ := d
  exact ⟨ne, ⟨rest, x _ _ hb (fun _ z => by cases z)⟩, x _ _ hc (fun _ z => by cases z), hl⟩
theorem fit_ints {xs : List Int} {lo hi : Int} (h : ∀ x ∈ xs, lo ≤ x ∧ x ≤ hi) (l0 : -(10 ^ 6) ≤ lo) (h0 : hi ≤ 10 ^ 6) : FitA 0 (15 * xs.length) (xs.map PyData.int) := by
  induction xs with
  | nil => exact FitA.nil
  | cons x r ih =>
    have z := h x (List.mem_cons_self ..)
    have f := FitA.cons (n := 0) (c := 13) (d := .int x) (fit_int (by omega)) (ih fun y m => h y (List.mem_cons_of_mem _ m))
    refine f.le (Nat.le_refl _) ?_
    rw [List.length_cons]
    omega
theorem dd_ints {K : PySem.W.Frag} {H : Hp} : ∀ (ns : List Int), DdAll K H (ns.map V.int) (ns.map PyData.int)
  | [] => .nil
  | n :: r => .cons (.num n) (dd_ints r)
theorem vint_of {xs : List Int} {cl : Int} (h : ∀ x ∈ xs, 0 ≤ x ∧ x ≤ cl - 1) : EachP (IntIn 0 (cl - 1)) (xs.map V.int) := .of fun v m => by
  obtain ⟨i, mi, rfl⟩ := List.mem_map.mp m
  exact ⟨i, rfl, (h i mi).1, (h i mi).2⟩
theorem rowOk_ints {xs : List Int} {cl : Int} (h : ∀ x ∈ xs, 0 ≤ x ∧ x ≤ cl - 1) (l1 : 1 ≤ xs.length) (l2 : xs.length ≤ 400) : rowOk (some (xs.map V.int)) cl 1 400 = true := by
  have r := row_yes (vint_of h)
  show (decide ((1 : Int) ≤ ((xs.map V.int).length : Int)) && decide (((xs.map V.int).length : Int) ≤ 400) && _) = true
  have e : (xs.map V.int).all (fun x => inB x (some 0) (some (cl - 1))) = true := (Bool.and_eq_true_iff.mp r).2
  rw [e, List.length_map, decide_eq_true (show (1 : Int) ≤ (xs.length : Int) by omega), decide_eq_true (show (xs.length : Int) ≤ 400 by omega)]
  rfl
theorem neu {H G : Hp} {p : Addr} {o : HO} (hG : upd H p o = G) (hp : H p = none) : Same H G ∧ G p = some o := by
  subst hG
  exact ⟨same_neu (Same.refl H) hp, upd_same⟩
theorem ints_fit : ∀ {xs : List Int}, (∀ x ∈ xs, 0 ≤ x ∧ x ≤ 31) → xs.length ≤ 400 → Fit 64 15000000 (.list (xs.map PyData.int)) := fun h l => (fit_ints h (by decide) (by decide)).list.le (by decide) (by omega)
def spInv (cC cN cM : Addr) : Sp := fun vs H Q E => ∃ q c v, vs = [c, v] ∧ Any q H c ∧ Any q H v ∧ (clk c = false → errAt E cC "part" (.str "clock") H) ∧
  ∀ cl, c = .int cl → clk c = true → (inB v (some 0) (some (cl - 1)) = false → errAt E cN "part" (.str "number") H) ∧ (v = .int 0 → errAt E cM "part" (.str "number") H) ∧
    ∀ i, v = .int i → 0 < i → i < cl → Q (.int (powF cl i (cl - 2).toNat)) H
/-! ### rows on the heap -/
def RowAt (K : PySem.W.Frag) (H : Hp) (a : Addr) (xs : List Int) : Prop := SqL K H a (xs.map V.int) ∨ SqT K H a (xs.map V.int)
theorem RowAt.same {K : PySem.W.Frag} {H H' : Hp} {a : Addr} {xs : List Int} (h : RowAt K H a xs) (s : Same H H') : RowAt K H' a xs := h.imp (fun z => s.seq z) (fun z => Same.tupS s z)
inductive RowsOf (K : PySem.W.Frag) (H : Hp) : List V → List (List Int) → Prop
  | nil : RowsOf K H [] []
  | cons {a : Addr} {xs : List Int} {vs : List V} {rs : List (List Int)} (h : RowAt K H a xs) (t : RowsOf K H vs rs) : RowsOf K H (.ref a :: vs) (xs :: rs)
theorem RowsOf.same {K : PySem.W.Frag} {H H' : Hp} (s : Same H H') : ∀ {vs : List V} {rs : List (List Int)}, RowsOf K H vs rs → RowsOf K H' vs rs
  | _, _, .nil => .nil
  | _, _, .cons h t => .cons (h.same s) (t.same s)
theorem RowsOf.len {K : PySem.W.Frag} {H : Hp} : ∀ {vs : List V} {rs : List (List Int)}, RowsOf K H vs rs → vs.length = rs.length
  | _, _, .nil => rfl
  | _, _, .cons _ t => by rw [List.length_cons, List.length_cons, t.len]
theorem RowsOf.at {K : PySem.W.Frag} {H : Hp} : ∀ {vs : List V} {rs : List (List Int)} {i : Nat} {v : V}, RowsOf K H vs rs → vs[i]? = some v → ∃ a xs, v = .ref a ∧ rs[i]? = some xs ∧ RowAt K H a xs
  | _, _, _, _, .nil, e => by cases e
  | _, _, 0, _, .cons h _, e => by cases e; exact ⟨_, _, rfl, rfl, h⟩
  | _, _, i + 1, _, .cons _ t, e => t.at (i := i) e
theorem RowsOf.snoc {K : PySem.W.Frag} {H : Hp} {a : Addr} {xs : List Int} : ∀ {vs : List V} {rs : List (List Int)}, RowsOf K H vs rs → RowAt K H a xs → RowsOf K H (vs ++ [.ref a]) (rs ++ [xs])
  | _, _, .nil, h => .cons h .nil
  | _, _, .cons h t, k => .cons h (t.snoc k)
theorem RowsOf.rev {K : PySem.W.Frag} {H : Hp} : ∀ {vs : List V} {rs : List (List Int)}, RowsOf K H vs rs → RowsOf K H vs.reverse rs.reverse
  | _, _, .nil => .nil
  | _, _, .cons h t => by rw [List.reverse_cons, List.reverse_cons]; exact t.rev.snoc h
/-- rows, each a tuple, in a tuple -/
def TupRows (K : PySem.W.Frag) (H : Hp) (p : Addr) (rs : List (List Int)) : Prop := ∃ ps : List Addr, H p = some (.tup (ps.map V.ref)) ∧ ps.length = rs.length ∧ ∀ (i : Nat) (b : Addr) (xs : List Int), ps[i]? = some b → rs[i]? = some xs → H b = some (.tup (xs.map V.int))
theorem TupRows.same {K : PySem.W.Frag} {H H' : Hp} {p : Addr} {rs : List (List Int)} (h : TupRows K H p rs) (s : Same H H') : TupRows K H' p rs := by
  obtain ⟨ps, h1, h2, h3⟩ := h
  exact ⟨ps, s _ _ h1, h2, fun i b xs e1 e2 => s _ _ (h3 i b xs e1 e2)⟩
def rowD (xs : List Int) : PyData := .tuple (xs.map PyData.int)
theorem dd_rows {K : PySem.W.Frag} {H : Hp} : ∀ {ps : List Addr} {rs : List (List Int)}, ps.length = rs.length → (∀ (i : Nat) (b : Addr) (xs : List Int), ps[i]? = some b → rs[i]? = some xs → H b = some (.tup (xs.map V.int))) → DdAll K H (ps.map V.ref) (rs.map rowD)
  | [], [], _, _ => .nil
  | b :: ps, xs :: rs, l, h => .cons (.tup (SqT.of (h 0 b xs rfl rfl)) (dd_ints xs)) (dd_rows (by simpa using l) fun i b xs e1 e2 => h (i + 1) b xs e1 e2)
  | [], _ :: _, l, _ => by cases l
  | _ :: _, [], l, _ => by cases l
theorem TupRows.dd {K : PySem.W.Frag} {H : Hp} {p : Addr} {rs : List (List Int)} (h : TupRows K H p rs) : Dd K H (.ref p) (.tuple (rs.map rowD)) := by
  obtain ⟨ps, h1, h2, h3⟩ := h
  exact .tup (SqT.of h1) (dd_rows h2 h3)
/-- any values for rows -/
inductive RowVs (q : Addr) (H : Hp) : List V → List (Option (List V)) → Prop
  | nil : RowVs q H [] []
  | cons {v : V} {o : Option (List V)} {vs : List V} {os : List (Option (List V))} (h : RowV q H v o) (t : RowVs q H vs os) : RowVs q H (v :: vs) (o :: os)
theorem RowVs.but {q : Addr} {H H' : Hp} (s : But q H H') : ∀ {vs : List V} {os : List (Option (List V))}, RowVs q H vs os → RowVs q H' vs os
  | _, _, .nil => .nil
  | _, _, .cons h t => .cons (h.but s) (t.but s)
theorem RowVs.same {q : Addr} {H H' : Hp} (s : Same H H') {vs : List V} {os : List (Option (List V))} (h : RowVs q H vs os) : RowVs q H' vs os := h.but (same_but s)
theorem RowVs.len {q : Addr} {H : Hp} : ∀ {vs : List V} {os : List (Option (List V))}, RowVs q H vs os → vs.length = os.length
  | _, _, .nil => rfl
  | _, _, .cons _ t => by rw [List.length_cons, List.length_cons, t.len]
theorem RowVs.at {q : Addr} {H : Hp} : ∀ {vs : List V} {os : List (Option (List V))} {i : Nat} {v : V}, RowVs q H vs os → vs[i]? = some v → ∃ o, os[i]? = some o ∧ RowV q H v o
  | _, _, _, _, .nil, e => by cases e
  | _, _, 0, _, .cons h _, e => by cases e; exact ⟨_, rfl, h⟩
  | _, _, i + 1, _, .cons _ t, e => t.at (i := i) e
inductive RowsV (q : Addr) (H : Hp) : V → Option (List (Option (List V))) → Prop
  | non : RowsV q H .non none
  | bl (b : Bool) : RowsV q H (.bl b) none
  | num (i : Int) : RowsV q H (.int i) none
  | str (x : Str) : RowsV q H (.str x) none
  | dic {a : Addr} {kvs : List (Key × V)} (n : a ≠ q) (e : H a = some (.dK kvs)) : RowsV q H (.ref a) none
  | lst {a : Addr} {xs : List V} {os : List (Option (List V))} (n : a ≠ q) (e : H a = some (.lst xs)) (it : RowVs q H xs os) : RowsV q H (.ref a) (some os)
  | tup {a : Addr} {xs : List V} {os : List (Option (List V))} (n : a ≠ q) (e : H a = some (.tup xs)) (it : RowVs q H xs os) : RowsV q H (.ref a) (some os)
theorem RowsV.but {q : Addr} {H H' : Hp} {v : V} {os : Option (List (Option (List V)))} (h : RowsV q H v os) (b : But q H H') : RowsV q H' v os := by
  cases h with
  | non => exact .non
  | bl b => exact .bl b
  | num i => exact .num i
  | str x => exact .str x
  | dic n e => exact .dic n (b _ _ n e)
  | lst n e it => exact .lst n (b _ _ n e) (it.but b)
  | tup n e it => exact .tup n (b _ _ n e) (it.but b)
theorem RowsV.same {q : Addr} {H H' : Hp} {v : V} {os : Option (List (Option (List V)))} (h : RowsV q H v os) (s : Same H H') : RowsV q H' v os := h.but (same_but s)
theorem rowsv_seq {K : PySem.W.Frag} {q : Addr} {H : Hp} {v : V} {os : Option (List (Option (List V)))} (h : RowsV q H v os) : ∃ t : Value, TyX K H v t ∧ PySem.W.kitAny K t [.type "list", .type "tuple"] = some os.isSome := by
  cases h with
  | non => exact row_seq (K := K) (RowV.non (q := q) (H := H))
  | bl b => exact row_seq (K := K) (RowV.bl (q := q) (H := H) b)
  | num i => exact row_seq (K := K) (RowV.num (q := q) (H := H) i)
  | str x => exact row_seq (K := K) (RowV.str (q := q) (H := H) x)
  | dic n e => exact row_seq (K := K) (RowV.dic n e)
  | lst n e it => exact ⟨_, .base (.lst e), kit2 (x := true) (y := false) (by decide +kernel) (by decide +kernel)⟩
  | tup n e it => exact ⟨_, .base (.tup e), kit2 (x := false) (y := true) (by decide +kernel) (by decide +kernel)⟩
/-- rows of the clock, not too many -/
def areB (os : Option (List (Option (List V)))) (cl size : Int) : Bool :=
  match os with
  | none => false
  | some l => decide ((l.length : Int) ≤ 400) && l.all fun o => rowB o cl size
/-- the numbers of a row -/
def numOf : V → Int
  | .int i => i
  | _ => 0
def rowsI (os : List (Option (List V))) : List (List Int) := os.map fun o => (o.getD []).map numOf
/-- the lengths that a value's lists may have -/
def LenOk (os : Option (List (Option (List V)))) : Prop := ∀ l, os = some l → l.length < sizeLine ∧ ∀ o ∈ l, ∀ xs, o = some xs → xs.length < sizeLine
/-- a row that is told to be one -/
theorem rowB_ints {o : Option (List V)} {cl n : Int} (h : rowB o cl n = true) : ∃ xs : List Int, o = some (xs.map V.int) ∧ ((o.getD []).map numOf) = xs ∧ (xs.length : Int) = n ∧ ∀ x ∈ xs, 0 ≤ x ∧ x ≤ cl - 1 := by
  cases o with
  | none => cases h
  | some vs =>
    obtain ⟨h1, h2⟩ := Bool.and_eq_true_iff.mp (show (decide ((vs.length : Int) = n) && vs.all fun x => inB x (some 0) (some (cl - 1))) = true from h)
    have l := of_decide_eq_true h1
    have key : ∀ ws : List V, (∀ w ∈ ws, inB w (some 0) (some (cl - 1)) = true) → ws = (ws.map numOf).map V.int ∧ ∀ x ∈ ws.map numOf, 0 ≤ x ∧ x ≤ cl - 1 := by
      intro ws
      induction ws with
      | nil => exact fun _ => ⟨rfl, fun x m => nomatch m⟩
      | cons w r ih =>
        intro q
        obtain ⟨i, rfl⟩ := inB_int (q w (List.mem_cons_self ..))
        have b := inB_of (q _ (List.mem_cons_self ..))
        obtain ⟨a1, a2⟩ := ih fun y m => q y (List.mem_cons_of_mem _ m)
        refine ⟨?_, fun x m => ?_⟩
        · show V.int i :: r = V.int i :: (r.map numOf).map V.int
          rw [← a1]
        · rcases List.mem_cons.mp (show x ∈ i :: r.map numOf from m) with e | m
          · rw [e]; exact b
          · exact a2 x m
    obtain ⟨k1, k2⟩ := key vs (List.all_eq_true.mp h2)
    refine ⟨vs.map numOf, ?_, rfl, ?_, k2⟩
    · rw [← k1]
    · rw [List.length_map]; exact l
theorem rowV_at {K : PySem.W.Frag} {q : Addr} {H : Hp} {v : V} {xs : List Int} (h : RowV q H v (some (xs.map V.int))) : ∃ a, v = .ref a ∧ RowAt K H a xs := by
  cases h with
  | lst n e _ => exact ⟨_, rfl, .inl (SqL.of e)⟩
  | tup n e _ => exact ⟨_, rfl, .inr (SqT.of e)⟩
/-- rows that are told to be rows -/
theorem rows_ints {K : PySem.W.Frag} {q : Addr} {H : Hp} {cl n : Int} : ∀ {vs : List V} {os : List (Option (List V))}, RowVs q H vs os → (os.all fun o => rowB o cl n) = true → RowsOf K H vs (rowsI os) ∧ ∀ xs ∈ rowsI os, (xs.length : Int) = n ∧ ∀ x ∈ xs, 0 ≤ x ∧ x ≤ cl - 1
  | _, _, .nil, _ => ⟨.nil, fun _ m => nomatch m⟩
  | _ :: vs, o :: os, .cons h t, e => by
    obtain ⟨e1, e2⟩ := Bool.and_eq_true_iff.mp (show (rowB o cl n && _) = true from e)
    obtain ⟨xs, r1, r2, r3, r4⟩ := rowB_ints e1
    obtain ⟨t1, t2⟩ := rows_ints (K := K) t e2
    have r5 : rowsI (o :: os) = xs :: rowsI os := congrArg (· :: rowsI os) r2
    rw [r1] at h
    obtain ⟨a, rfl, ha⟩ := rowV_at (K := K) h
    rw [r5]
    refine ⟨.cons ha t1, fun ys m => ?_⟩
    rcases List.mem_cons.mp m with z | m
    · rw [z]; exact ⟨r3, r4⟩
    · exact t2 ys m
end Rp
namespace Rp
open PySem PySem.Spec PyProof.Rows L2 RT RZ
theorem walk_revT {K : PySem.W.Frag} {a : Addr} {xs : List V} : Walk (ItvT K a xs.length) xs.length (fun H => SqT K H a xs) (fun i H x H' => H' = H ∧ xs[xs.length - 1 - i]? = some x) := by
  constructor
  · intro i H hi q
    exact ⟨hi, xs, xs[xs.length - 1 - i]'(by omega), q, List.getElem?_eq_getElem _⟩
  · intro H q
    exact Nat.le_refl _
  · rintro i H v H' _ q ⟨h1, h2⟩
    exact ⟨h1, h2 xs q⟩
section
variable {K : PySem.W.Frag} {ta te td ty tv : TE} {tl tk : TA} {σ : L2.St} {H : Hp} {Q : VK} {R : It → Hp → Prop} {f : Str} {D : Ends}
theorem r_ienumT (h : tl σ H fun vs H1 => ∃ a xs, vs = [.ref a] ∧ SqT K H1 a xs ∧ R (IteT K a) H1) : iEnumT K tl σ H R := h
theorem r_ienum (h : tl σ H fun vs H1 => ∃ a xs, vs = [.ref a] ∧ SqL K H1 a xs ∧ R (Ite K a) H1) : iEnum K tl σ H R := h
theorem r_irevA (h : te σ H fun v H1 => ∃ (a : Addr) (xs : List V), v = .ref a ∧ ((SqL K H1 a xs ∧ R (Itv K a xs.length) H1) ∨ (SqT K H1 a xs ∧ R (ItvT K a xs.length) H1))) : iRevA K te σ H R := h
theorem r_iitems (h : td σ H fun x H1 => ∃ d o kvs, x = .ref d ∧ H1 d = some (.frz o (.dK kvs)) ∧ R (Iti d o kvs) H1) : iItems td σ H R := h
theorem r_dget (h : td σ H fun x H1 => ty σ H1 fun y H2 => ∃ a v, x = .ref a ∧ DGet H2 a y (some v) ∧ Q v H2) : tDGet td ty σ H Q := h
theorem r_revL (h : te σ H fun x H1 => ∃ a xs, x = .ref a ∧ SqL K H1 a xs ∧ ∀ p, H1 p = none → Q (.ref p) (upd H1 p (.lst xs.reverse))) : tRevL K te σ H Q := h
theorem r_dnew (h : ∀ p, H p = none → Q (.ref p) (upd H p (.dK []))) : tDNewK σ H Q := h
end
theorem r_lock {t : TS} {D : Ends} {σ : L2.St} {H : Hp} {d : Addr} {u : HO} (hd : H d = some u) (m : Mut (some u)) (h : ∀ od, t ⟨fun σ' H' => H' d = some (.frz od u) ∧ D.nx σ' (upd H' d u), fun v H' => H' d = some (.frz od u) ∧ D.rt v (upd H' d u), fun σ' H' => H' d = some (.frz od u) ∧ D.bk σ' (upd H' d u), fun σ' H' => H' d = some (.frz od u) ∧ D.ct σ' (upd H' d u)⟩ σ (upd H d (.frz od u))) : tLock t D σ H := ⟨d, u, hd, m, h⟩
/-- leading rows, packed, by their leads -/
def dkl (ls : List (Nat × List Int)) : List (Key × V) := ls.map fun l => (Sum.inl (l.1 : Int), V.int (pk l.2))
theorem dkl_put (ls : List (Nat × List Int)) (a : Nat) (r : List Int) : putK (dkl ls) (Sum.inl (a : Int)) (.int (pk r)) = dkl (putL ls a r) := by
  have e : ((dkl ls).any fun kv => decide (kv.1 = Sum.inl (a : Int))) = ls.any fun l => decide (l.1 = a) := by
    unfold dkl
    rw [List.any_map]
    congr 1
    funext l
    show decide ((Sum.inl (l.1 : Int) : Key) = Sum.inl (a : Int)) = decide (l.1 = a)
    by_cases h : l.1 = a
    · rw [h, decide_eq_true rfl, decide_eq_true rfl]
    · rw [decide_eq_false h, decide_eq_false (fun z => h (by have := Sum.inl.inj z; omega))]
  unfold putK putL
  rw [e]
  split
  · unfold dkl
    rw [List.map_map, List.map_map]
    refine List.map_congr_left fun l _ => ?_
    show (if (Sum.inl (l.1 : Int) : Key) = Sum.inl (a : Int) then (Sum.inl (l.1 : Int), V.int (pk r)) else (Sum.inl (l.1 : Int), V.int (pk l.2))) = _
    by_cases h : l.1 = a
    · rw [if_pos (by rw [h])]
      simp [h]
    · rw [if_neg (fun z => h (by have := Sum.inl.inj z; omega))]
      simp [h]
  · unfold dkl
    rw [List.map_append]
    rfl
theorem dkl_val : ∀ {ls : List (Nat × List Int)} {a : Nat}, a ∈ ls.map (·.1) → valV (dkl ls) (Sum.inl (a : Int)) = some (.int (pk (findL ls a)))
  | [], _, m => nomatch m
  | l :: ls, a, m => by
    unfold dkl
    rw [List.map_cons]
    by_cases h : l.1 = a
    · rw [valV_pos (by rw [h])]
      unfold findL
      rw [List.find?_cons_of_pos (by simp [h])]
      rfl
    · rw [valV_neg (fun z => h (by have := Sum.inl.inj z; omega))]
      have m2 : a ∈ ls.map (·.1) := by
        rcases List.mem_cons.mp m with z | z
        · exact absurd z.symm h
        · exact z
      have q := dkl_val m2
      unfold dkl at q
      rw [q]
      unfold findL
      rw [List.find?_cons_of_neg (by simp [h])]
def spLeadOf (K : PySem.W.Frag) : Sp := fun vs H Q _ => ∃ (a : Addr) (xs : List Int), vs = [.ref a] ∧ SqT K H a (xs.map V.int) ∧ xs.length ≤ 400 ∧ ∀ H', Same H H' → Q (.int (leadOf xs : Nat)) H'
def spPacked (K : PySem.W.Frag) : Sp := fun vs H Q _ => ∃ (a : Addr) (xs : List Int), vs = [.ref a] ∧ RowAt K H a xs ∧ Dig 16777216 xs ∧ xs.length ≤ 400 ∧ Q (.int (pk xs)) H
def spNumAt : Sp := fun vs H Q _ => ∃ (cl x : Int) (xs : List Int) (k : Nat), vs = [.int cl, .int (pk xs), .int (k : Int)] ∧ 3 ≤ cl ∧ cl ≤ 31 ∧ Dig 16777216 xs ∧ xs[k]? = some x ∧ k ≤ 400 ∧ Q (.int (x % cl)) H
def spUnpacked : Sp := fun vs H Q _ => ∃ (cl : Int) (xs : List Int), vs = [.int cl, .int (xs.length : Int), .int (pk xs)] ∧ 3 ≤ cl ∧ cl ≤ 31 ∧ Dig 16777216 xs ∧ xs.length ≤ 400 ∧ ∀ H' p, Same H H' → H p = none → H' p = some (.tup ((modRow cl xs).map V.int)) → Q (.ref p) H'
def spCleared : Sp := fun vs H Q _ => ∃ (cl : Int) (xs : List Int) (d : Addr) (ls : List (Nat × List Int)), vs = [.int cl, .int (pk xs), .ref d] ∧ 3 ≤ cl ∧ cl ≤ 31 ∧ H d = some (.dK (dkl ls)) ∧ LdOk cl xs.length ls ∧ Dig 31 xs ∧ xs.length ≤ 400 ∧ ls.length ≤ 400 ∧ ∀ H', Same H H' → Q (.int (pk (clr cl ls xs))) H'
/-- the rows that a value has: numbers of the clock, so many in each -/
def RowsOk (cl : Int) (n : Nat) (rs : List (List Int)) : Prop := ∀ xs ∈ rs, xs.length = n ∧ Dig cl xs
def spLeading (K : PySem.W.Frag) : Sp := fun vs H Q _ => ∃ (cl : Int) (n : Nat) (r : Addr) (us : List V) (rs : List (List Int)), vs = [.int cl, .int (n : Int), .ref r] ∧ clk (.int cl) = true ∧ 1 ≤ n ∧ n ≤ 400 ∧ (SqL K H r us ∨ SqT K H r us) ∧ RowsOf K H us rs ∧ RowsOk cl n rs ∧ rs.length ≤ 400 ∧
  ∀ H' d, Same H H' → H d = none → H' d = some (.dK (dkl (leading cl n rs))) → Q (.ref d) H'
def spLeast (K : PySem.W.Frag) : Sp := fun vs H Q _ => ∃ (cl : Int) (n : Nat) (r : Addr) (us : List V) (rs : List (List Int)), vs = [.int cl, .int (n : Int), .ref r] ∧ clk (.int cl) = true ∧ 1 ≤ n ∧ n ≤ 400 ∧ (SqL K H r us ∨ SqT K H r us) ∧ RowsOf K H us rs ∧ RowsOk cl n rs ∧ rs.length ≤ 400 ∧
  ∀ H' p, Same H H' → H p = none → TupRows K H' p (leastForm cl n rs) → Q (.ref p) H'
theorem pk_drop {xs : List Int} {k : Nat} {x : Int} (h : xs[k]? = some x) : pk (xs.drop k) = x + 16777216 * pk (xs.drop (k + 1)) := by
  obtain ⟨hk, e⟩ := List.getElem?_eq_some_iff.mp h
  rw [List.drop_eq_getElem_cons hk, e]
  rfl
theorem pk_natAbs {xs : List Int} (h : Dig 16777216 xs) (l : xs.length ≤ 400) : (pk xs).natAbs < 2 ^ 9600 := by
  have a := pk_pos h
  have b := pk_lt h
  have c : (2 : Int) ^ (24 * xs.length) ≤ 2 ^ 9600 := by
    have z : (2 : Nat) ^ (24 * xs.length) ≤ 2 ^ 9600 := Nat.pow_le_pow_right (by decide) (by omega)
    have z2 : (((2 : Nat) ^ (24 * xs.length) : Nat) : Int) ≤ (((2 : Nat) ^ 9600 : Nat) : Int) := Int.ofNat_le.mpr z
    rw [Int.natCast_pow, Int.natCast_pow] at z2
    exact z2
  have d : ((pk xs).natAbs : Int) < ((2 ^ 9600 : Nat) : Int) := by
    rw [Int.natAbs_of_nonneg a, Int.natCast_pow]
    exact Int.lt_of_lt_of_le b c
  exact Int.ofNat_lt.mp d
theorem shl_ok {xs : List Int} (h : Dig 16777216 xs) (l : xs.length ≤ 400) : CShl (pk xs) 24 := by
  refine ⟨by decide, ?_⟩
  have a := pk_natAbs h l
  have b : Builtin.Int.intBits (pk xs) ≤ 9601 := by
    unfold Builtin.Int.intBits
    split
    · omega
    · rename_i z
      have nz : (pk xs).natAbs ≠ 0 := fun q => z (by rw [Int.natAbs_eq_zero.mp q]; rfl)
      have := (Nat.log2_lt nz).mpr a
      omega
  omega
theorem Dig.drop {B : Int} {xs : List Int} (h : Dig B xs) (k : Nat) : Dig B (xs.drop k) := fun y m => h y (List.mem_of_mem_drop m)
theorem map_at {xs : List Int} {i : Nat} {v : V} (h : (xs.map V.int)[i]? = some v) : ∃ x, xs[i]? = some x ∧ v = .int x := by
  rw [List.getElem?_map] at h
  cases e : xs[i]? with
  | none => rw [e] at h; cases h
  | some x => rw [e] at h; exact ⟨x, rfl, (Option.some.inj h).symm⟩
theorem powF_dig {cl n x : Int} (h : 2 ≤ cl) (k : Nat) : 0 ≤ powF cl n k * x % cl ∧ powF cl n k * x % cl < cl := ⟨Int.emod_nonneg _ (by omega), Int.emod_lt_of_pos _ (by omega)⟩
theorem putL_len (ls : List (Nat × List Int)) (a : Nat) (r : List Int) : (putL ls a r).length ≤ ls.length + 1 := by
  unfold putL
  split
  · rw [List.length_map]; omega
  · rw [List.length_append]; exact Nat.le_refl _
/-- what is left of a row -/
def leftOf (cl : Int) (ls : List (Nat × List Int)) (row : List Int) : List Int := modRow cl (clr cl ls row)
def timesRow (cl : Int) (left : List Int) : List Int := left.map fun x => (powF cl (left.getD (leadOf left) 0) (cl - 2).toNat * x) % cl
theorem ldOne_eq {cl : Int} {n : Nat} {ls : List (Nat × List Int)} {row : List Int} : ldOne cl n ls row = if leadOf (leftOf cl ls row) < n then putL ls (leadOf (leftOf cl ls row)) (timesRow cl (leftOf cl ls row)) else ls := rfl
theorem left_ok {cl : Int} {n : Nat} {ls : List (Nat × List Int)} {row : List Int} (h3 : 3 ≤ cl) (h31 : cl ≤ 31) (h : LdOk cl n ls) (r : row.length = n ∧ Dig cl row) : (leftOf cl ls row).length = n ∧ Dig cl (leftOf cl ls row) := by
  obtain ⟨_, b⟩ := clr_ok h3 h31 h (r.2.le h31) r.1
  exact ⟨by unfold leftOf; rw [modRow_len, b], modRow_dig (by omega) _⟩
theorem times_ok {cl : Int} {left : List Int} (h3 : 3 ≤ cl) : (timesRow cl left).length = left.length ∧ Dig cl (timesRow cl left) := by
  refine ⟨List.length_map .., fun y m => ?_⟩
  obtain ⟨x, _, rfl⟩ := List.mem_map.mp m
  exact powF_dig (by omega) _
theorem ldOne_ok {cl : Int} {n : Nat} {ls : List (Nat × List Int)} {row : List Int} (h3 : 3 ≤ cl) (h31 : cl ≤ 31) (h : LdOk cl n ls) (r : row.length = n ∧ Dig cl row) : LdOk cl n (ldOne cl n ls row) ∧ (ldOne cl n ls row).length ≤ ls.length + 1 := by
  obtain ⟨l1, l2⟩ := left_ok h3 h31 h r
  obtain ⟨t1, t2⟩ := times_ok (left := leftOf cl ls row) h3
  rw [ldOne_eq]
  split
  · rename_i q
    exact ⟨putL_ok h q (by rw [t1, l1]) t2, putL_len _ _ _⟩
  · exact ⟨h, by omega⟩
theorem fold_ok {cl : Int} {n : Nat} (h3 : 3 ≤ cl) (h31 : cl ≤ 31) : ∀ {rs : List (List Int)} {ls : List (Nat × List Int)}, RowsOk cl n rs → LdOk cl n ls → LdOk cl n (rs.foldl (ldOne cl n) ls) ∧ (rs.foldl (ldOne cl n) ls).length ≤ ls.length + rs.length
  | [], ls, _, h => ⟨h, Nat.le_refl _⟩
  | r :: rs, ls, o, h => by
    obtain ⟨a, b⟩ := ldOne_ok h3 h31 h (o r (List.mem_cons_self ..))
    obtain ⟨c, d⟩ := fold_ok h3 h31 (rs := rs) (fun x m => o x (List.mem_cons_of_mem _ m)) a
    refine ⟨c, ?_⟩
    rw [List.length_cons]
    show (rs.foldl (ldOne cl n) (ldOne cl n ls r)).length ≤ _
    omega
theorem leading_ok {cl : Int} {n : Nat} {rs : List (List Int)} (h3 : 3 ≤ cl) (h31 : cl ≤ 31) (o : RowsOk cl n rs) : LdOk cl n (leading cl n rs) ∧ (leading cl n rs).length ≤ rs.length := by
  obtain ⟨a, b⟩ := fold_ok h3 h31 o (fun _ m => nomatch m : LdOk cl n [])
  refine ⟨a, ?_⟩
  rw [List.length_nil, Nat.zero_add] at b
  exact b
theorem RowsOk.take {cl : Int} {n : Nat} {rs : List (List Int)} (o : RowsOk cl n rs) (i : Nat) : RowsOk cl n (rs.take i) := fun x m => o x (List.mem_of_mem_take m)
theorem leading_take {cl : Int} {n i : Nat} {rs : List (List Int)} {row : List Int} (e : rs[i]? = some row) : leading cl n (rs.take (i + 1)) = ldOne cl n (leading cl n (rs.take i)) row := by
  unfold leading
  rw [List.take_succ, e, List.foldl_append]
  rfl
theorem leadOf_ne : ∀ {xs : List Int} {x : Int}, xs[leadOf xs]? = some x → x ≠ 0
  | [], _, e => by cases e
  | y :: r, x, e => by
    unfold leadOf at e
    split at e
    · exact leadOf_ne (xs := r) e
    · cases e
      assumption
/-- the fold over the leads -/
def backFold (cl : Int) (ls : List (Nat × List Int)) (as : List Nat) : List (Nat × List Int) × List (List Int) := as.foldl (backOne cl ls) ([], [])
theorem findL_ok {cl : Int} {n a : Nat} {ls : List (Nat × List Int)} (h : LdOk cl n ls) (m : a ∈ ls.map (·.1)) : (findL ls a).length = n ∧ Dig cl (findL ls a) := by
  unfold findL
  cases e : ls.find? (fun l => decide (l.1 = a)) with
  | none =>
    exfalso
    obtain ⟨l, ml, el⟩ := List.mem_map.mp m
    have z := List.find?_eq_none.mp e l ml
    simp [el] at z
  | some l => exact (h l (List.mem_of_find?_eq_some e)).2
theorem back_ok {cl : Int} {n : Nat} {ls : List (Nat × List Int)} (h3 : 3 ≤ cl) (h31 : cl ≤ 31) (h : LdOk cl n ls) : ∀ {as : List Nat} {st : List (Nat × List Int) × List (List Int)}, (∀ a ∈ as, a ∈ ls.map (·.1)) → LdOk cl n st.1 → LdOk cl n (as.foldl (backOne cl ls) st).1 ∧ (as.foldl (backOne cl ls) st).1.length ≤ st.1.length + as.length
  | [], st, _, k => ⟨k, Nat.le_refl _⟩
  | a :: as, st, m, k => by
    have ma := m a (List.mem_cons_self ..)
    obtain ⟨f1, f2⟩ := findL_ok h ma
    have lt : a < n := by
      obtain ⟨l, ml, el⟩ := List.mem_map.mp ma
      rw [← el]
      exact (h l ml).1
    obtain ⟨l1, l2⟩ := left_ok (row := findL ls a) h3 h31 k ⟨f1, f2⟩
    have k2 : LdOk cl n (backOne cl ls st a).1 := putL_ok k lt l1 l2
    have k3 : (backOne cl ls st a).1.length ≤ st.1.length + 1 := putL_len _ _ _
    obtain ⟨c, d⟩ := back_ok h3 h31 h (as := as) (st := backOne cl ls st a) (fun b mb => m b (List.mem_cons_of_mem _ mb)) k2
    refine ⟨c, ?_⟩
    rw [List.length_cons]
    show (as.foldl (backOne cl ls) (backOne cl ls st a)).1.length ≤ _
    omega
theorem back_take {cl : Int} {i a : Nat} {ls : List (Nat × List Int)} {as : List Nat} (e : as[i]? = some a) : backFold cl ls (as.take (i + 1)) = backOne cl ls (backFold cl ls (as.take i)) a := by
  unfold backFold
  rw [List.take_succ, e, List.foldl_append]
  rfl
theorem backOne_row {cl : Int} {ls : List (Nat × List Int)} {st : List (Nat × List Int) × List (List Int)} {a : Nat} : backOne cl ls st a = (putL st.1 a (leftOf cl st.1 (findL ls a)), st.2 ++ [leftOf cl st.1 (findL ls a)]) := rfl
/-- ints that are the leads, in descending order -/
theorem leads_of {ls : List (Nat × List Int)} {ks ys : List Int} (hk : (dkl ls).map (·.1) = ks.map Sum.inl) (p : ys.Perm ks) (o : OrdB true ys) : ys = (descend (ls.map (·.1))).map Int.ofNat := by
  have e : ks = (ls.map (·.1)).map Int.ofNat := by
    have z : (dkl ls).map (·.1) = ((ls.map (·.1)).map Int.ofNat).map Sum.inl := by
      unfold dkl
      rw [List.map_map, List.map_map, List.map_map]
      rfl
    rw [z] at hk
    exact (List.map_inj_right (f := (Sum.inl : Int → Key)) (fun _ _ h => Sum.inl.inj h)).mp hk.symm
  rw [e] at p
  have pos : ∀ y ∈ ys, 0 ≤ y := fun y m => by
    obtain ⟨k, _, rfl⟩ := List.mem_map.mp (p.mem_iff.mp m)
    exact Int.natCast_nonneg k
  have back : ys = (ys.map Int.toNat).map Int.ofNat := by
    rw [List.map_map]
    refine ((List.map_congr_left fun y m => ?_).trans (List.map_id ys)).symm
    show Int.ofNat y.toNat = id y
    exact Int.toNat_of_nonneg (pos y m)
  have p2 : (ys.map Int.toNat).Perm (ls.map (·.1)) := by
    have q := p.map Int.toNat
    rw [List.map_map] at q
    have e2 : (ls.map (·.1)).map (Int.toNat ∘ Int.ofNat) = ls.map (·.1) := (List.map_congr_left fun y _ => rfl).trans (List.map_id _)
    rw [e2] at q
    exact q
  have o2 : (ys.map Int.toNat).Pairwise (· ≥ ·) := by
    have o' : ys.Pairwise (· ≥ ·) := o
    refine List.pairwise_map.mpr (o'.imp_of_mem fun {a b} ma mb h => ?_)
    have := pos b mb
    have h' : b ≤ a := h
    show b.toNat ≤ a.toNat
    omega
  rw [back, desc_one (p2.trans (descend_perm _).symm) o2 (descend_desc _)]
end Rp
namespace Rp
open PySem PySem.Spec PyProof.Rows L2 LamX
/-! ### a string some times -/
def rStrMul : R2 := fun x y H Q => ∃ (z : Str) (k : Int), x = .str z ∧ y = .int k ∧ 1 ≤ k ∧ k ≤ 1000 ∧ z.length = 1 ∧ ∀ r : Str, Q (.str r) H
theorem rep_size {α : Type} (c : Array α) : ∀ (n : Nat) (acc : Array α), ((List.replicate n c).foldl (· ++ ·) acc).size = acc.size + n * c.size
  | 0, acc => by show acc.size = _; omega
  | n + 1, acc => by
    rw [List.replicate_succ, List.foldl_cons, rep_size c n, Array.size_append, Nat.succ_mul]
    omega
theorem op_strMul {X : Cx} : OpR X (binaryOp .Mult) rStrMul := by
  intro pins s σ H x y v u Q I rx ry h
  obtain ⟨z, k, rfl, rfl, h1, h2, hz, q⟩ := h
  obtain ⟨t, rfl⟩ := rx
  obtain ⟨t', rfl⟩ := ry
  refine P.mul_str (by rw [decide_eq_false (by omega), decide_eq_false (by omega)]; rfl) (fun _ _ => ?_) (fun _ _ => ?_) ?_
  · rw [hz]
    have : (1 : Int) ≤ (2 ^ 63 - 1) / k := Int.le_ediv_of_mul_le (by omega) (by omega)
    omega
  · rw [hz, Nat.one_mul]
    have s1 : 1000 ≤ sizeLine := le_ok rfl
    unfold Builtin.Str.tooLong
    exact decide_eq_false (by omega)
  · rw [if_neg (by omega)]
    split
    · exact ⟨.str z, H, I, ⟨_, rfl⟩, q z⟩
    · refine ⟨?_, ⟨.str _, H, I.tok _, ⟨_, rfl⟩, q _⟩⟩
      have e : z.cps.size = 1 := hz
      show ((List.replicate k.toNat z.cps).foldl (· ++ ·) #[]).size ≤ sizeLine
      rw [rep_size, e]
      have s1 : 1000 ≤ sizeLine := le_ok rfl
      show 0 + _ ≤ _
      omega
theorem kbn_of {K : PySem.W.Frag} {fd : FuncData} {ps ks : List Str} {n : Nat} {ix : List Nat} (h : KBx K fd ps n ks ix) : KBn K fd ps n ks (fun us ws => ix.map fun i => (us ++ ws).getD i .none) (fun vs zs => ix.map fun i => (vs ++ zs).getD i .non) :=
  ⟨fun s us ws _ l1 l2 => h.to s us ws l1 l2, fun r1 r2 => vals_ix (.append r1 r2) ix⟩
section
variable {X : Cx} {k : Nat} {f C : Addr} {fd : FuncData} {ps ks : List Str} {sp : Sp} {x : Str} {p pos : Pos} {tk : TA} {kws : List Keyword} {E : XK} {ix : List Nat}
theorem pe_makeKE (c : MakX X.prog X.w X.K X.mg X.base x k C f fd ps sp) (hb : KBx X.K fd ps 1 ks ix) (r : Room (k + 1) X.A) (t : Takes X (fun cls d _ H => E cls d H)) (hg : Gl X x) (hkw : PK X kws tk)
    (hall : (backToKw pos (keywordEach kws X.env)).all (·.1.isSome) = true := by rfl) (hks : (backToKw pos (keywordEach kws X.env)).filterMap (·.1) = ks := by rfl) (hdb : (x == ("__debug__" : Str)) = false := by decide)
    (hpl : ((backTo pos (starEach [] X.env)).any (·.1) || (backToKw pos (keywordEach kws X.env)).any (·.1.isNone)) = false := by rfl) : PE X (.Call (.Name x p) [] kws pos) (tMakeK C 0 ks.length sp (fun vs zs => ix.map fun i => (vs ++ zs).getD i .non) E tNil tk) := by
  have hx : Passes (L2.CX X.prog X.w) X E := fun pins σ H s e s' I z => passAt t σ pins H s e s' I z
  exact pe_makeK0 c.M c.F r hg c.mgf (kbn_of hb) hx hkw hall hks hdb hpl
end
theorem r_makeK {C : Addr} {n m : Nat} {sp : Sp} {gV : List V → List V → List V} {E : XK} {t tk : TA} {σ : L2.St} {H : Hp} {Q : VK} (h : t σ H fun vs H1 => tk σ H1 fun zs H2 => vs.length = n ∧ zs.length = m ∧ ∀ x dx, H2 x = none → H2 dx = none → dx ≠ x → sp (gV (.ref x :: vs) zs) (upd (upd H2 dx (.own x)) x (.ins C dx [])) (fun v H3 => v = .non ∧ Q (.ref x) H3) E) : tMakeK C n m sp gV E t tk σ H Q := h
end Rp
namespace Rp
open PySem PySem.Spec PyProof.Rows L2
/-! ### zip of a list and a tuple, in any order -/
def SqB (t : Bool) (K : PySem.W.Frag) (H : Hp) (a : Addr) (xs : List V) : Prop := if t then SqL K H a xs else SqT K H a xs
def SeqB (t : Bool) (h : Heap) (a : Addr) (its : Array Value) : Prop := if t then h.IsList a its else h.IsTuple a its
def ItB (t : Bool) (h : Heap) (it a : Addr) (i : Nat) : Prop := if t then h.IsListIter it a i else h.IsTupleIter it a i
theorem draws_b {prog : Program} {w : World} {A : Around} (t : Bool) (hh : A.handled = none) (it a : Addr) (hne : a ≠ it) (items : Array Value) :
    Draws prog w A it [it, a] items.size (fun i v => items[i]? = some v) (fun i h => ItB t h it a i ∧ SeqB t h a items) := by
  cases t
  · exact Draws.tuple hh it a hne items
  · exact Draws.list hh it a hne items
theorem ItB.at {t : Bool} {h h' : Heap} {it a : Addr} {i : Nat} (x : ItB t h it a i) (k : ∀ o, h.get? it = some o → h'.get? it = some o) : ItB t h' it a i := by
  cases t
  · exact Heap.IsTupleIter.at x k
  · exact Heap.IsListIter.at x k
theorem ItB.obj {t : Bool} {h : Heap} {it a : Addr} {i : Nat} (x : ItB t h it a i) : ∃ o, h.get? it = some o ∧ ∀ v, o.data ≠ .cell v := by
  cases t
  · obtain ⟨o, e, _, d⟩ := x
    exact ⟨o, e, fun v q => by rw [d] at q; cases q⟩
  · obtain ⟨o, e, _, d⟩ := x
    exact ⟨o, e, fun v q => by rw [d] at q; cases q⟩
theorem seq_b {X : Cx} {pins : List (Addr × Obj)} {σ : L2.St} {H : Hp} {s : Shared} {t : Bool} {a : Addr} {xs : List V} (I : Inv X pins σ H s) (h : SqB t X.K H a xs) : ∃ its : List Value, Vals xs its ∧ SeqB t s.heap a its.toArray := by
  cases t
  · obtain ⟨its, rv, p, _⟩ := I.tuple h
    exact ⟨its, rv, p⟩
  · obtain ⟨its, rv, p, _⟩ := I.list h
    exact ⟨its, rv, p.isList⟩
theorem seq_b_inj {X : Cx} {pins : List (Addr × Obj)} {σ : L2.St} {H : Hp} {s : Shared} {t : Bool} {a : Addr} {xs ys : List V} (I : Inv X pins σ H s) (h : SqB t X.K H a xs) (k : SqB t X.K H a ys) : xs = ys := by
  cases t
  · exact I.tuple_inj h k
  · exact I.list_inj h k
theorem SeqB.lt {t : Bool} {h : Heap} {a : Addr} {its : Array Value} (x : SeqB t h a its) : a < h.objs.size := by
  cases t
  · obtain ⟨o, e, _⟩ := x
    exact Heap.lt_size e
  · obtain ⟨o, e, _⟩ := x
    exact Heap.lt_size e
/-- the sequences at a and b as they stand at each turn, the items in new pairs -/
def ItzB (K : PySem.W.Frag) (t u : Bool) (a b : Addr) : It :=
  ⟨fun i H => ∃ (xs ys : List V) (x y : V), SqB t K H a xs ∧ SqB u K H b ys ∧ xs[i]? = some x ∧ ys[i]? = some y,
    fun i H v H' => ∃ T x y, v = .ref T ∧ H T = none ∧ H' = upd H T (.tup [x, y]) ∧ (∀ xs, SqB t K H a xs → xs[i]? = some x) ∧ ∀ ys, SqB u K H b ys → ys[i]? = some y,
    fun i H => ∃ xs ys : List V, SqB t K H a xs ∧ SqB u K H b ys ∧ i = min xs.length ys.length⟩
theorem turn_zipB {P : Program} {w : World} {K : PySem.W.Frag} {elts : List Expr} {kk : Nat} {tpos : Pos} {t u : Bool} {a b z TI TO i1 i2 : Addr} (S : ZipSep2 z TI TO i1 i2 [i1, a] [i2, b]) (n1 : a ≠ i1) (n2 : b ≠ i2) :
    Turn P w K (.Tuple elts kk tpos) (ItzB K t u a b) [z, TI, TO, i1, i2] z (fun i h => IsZip h z TI TO .none ∧ IsTupOf2 h TI (.ref i1) (.ref i2) ∧ (∃ x y, IsTupOf2 h TO x y) ∧ ItB t h i1 a i ∧ ItB u h i2 b i) where
  mem := by simp
  obj := fun i h st c hc => by
    obtain ⟨hz, hTI, ⟨x, y, hTO⟩, h1, h2⟩ := st
    have e' : c = z ∨ c = TI ∨ c = TO ∨ c = i1 ∨ c = i2 := by simpa using hc
    rcases e' with q | q | q | q | q
    · rw [q]; exact ⟨_, hz, fun v q => nomatch q⟩
    · rw [q]; exact ⟨_, hTI, fun v q => nomatch q⟩
    · rw [q]; exact ⟨_, hTO, fun v q => nomatch q⟩
    · rw [q]; exact h1.obj
    · rw [q]; exact h2.obj
  keep := fun i h h' st k => by
    obtain ⟨hz, hTI, ⟨x, y, hTO⟩, h1, h2⟩ := st
    exact ⟨k z (by simp) _ hz, k TI (by simp) _ hTI, ⟨x, y, k TO (by simp) _ hTO⟩, h1.at fun o q => k i1 (by simp) o q, h2.at fun o q => k i2 (by simp) o q⟩
  item := by
    intro X hP hw hK hc i pins s σ H E I hf st hg
    subst hP hw hK
    obtain ⟨hz, hTI, ⟨x0, y0, hTO⟩, h1, h2⟩ := st
    obtain ⟨xs, ys, x, y, hqx, hqy, hx, hy⟩ := hg
    obtain ⟨its, rv, p⟩ := seq_b I hqx
    obtain ⟨its2, rv2, p2⟩ := seq_b I hqy
    obtain ⟨v1, hu, ru⟩ := rv.get hx
    obtain ⟨v2, hu2, ru2⟩ := rv2.get hy
    have hzl : z < s.heap.objs.size := Heap.lt_size hz
    have l1 : i < its.toArray.size := by have := (List.getElem?_eq_some_iff.mp hu).1; simpa using this
    have l2 : i < its2.toArray.size := by have := (List.getElem?_eq_some_iff.mp hu2).1; simpa using this
    have hh : X.A.in1.handled = none := I.ok.hd hc
    refine wpAny_pyNext_zipD2_item S (draws_b t hh i1 a n1 its.toArray) (draws_b u hh i2 b n2 its2.toArray) hz hTI hTO ⟨h1, p⟩ ⟨h2, p2⟩ l1 l2 fun x1 x2 h' tk hx1 hx2 z' TO' st1 st2 hT hsz hk => ?_
    have ex1 : x1 = v1 := Option.some.inj (hx1.symm.trans (by simpa using hu))
    have ex2 : x2 = v2 := Option.some.inj (hx2.symm.trans (by simpa using hu2))
    subst ex1 ex2
    refine ⟨_, rfl, wpAny_letOwnedTupleGo_zip (s := { s with heap := h', toks := tk }) z' fun h'' z'' sb => ?_⟩
    have hT2 : h''.get? s.heap.objs.size = some { cls := .type "tuple", data := .seq #[x1, x2] } := (sb.2 _ (Nat.ne_of_gt hzl)).trans hT
    have new : ObjOk X.prog X.w (upd H s.heap.objs.size (.tup [x, y])) h'' s.heap.objs.size (.tup [x, y]) :=
      ⟨by show 2 ≤ sizeLine; decide, [x1, x2], .cons ru (.cons ru2 .nil), ⟨_, hT2, rfl, _, rfl⟩⟩
    have zi1 : i1 ≠ z := fun q => S.zf1 (by rw [← q]; simp)
    have zi2 : i2 ≠ z := fun q => S.zf2 (by rw [← q]; simp)
    have I1 : Inv X pins σ (upd H s.heap.objs.size (.tup [x, y])) { s with heap := h'', toks := tk } :=
      I.turnedNew (t' := tk) (ch := [z, TI, TO, i1, i2]) (fun c o hb q => (sb.2 c (fun q' => hb (by simp [q']))).trans (hk c o (fun q' => hb (by simp [q'])) (fun q' => hb (by simp [q'])) (fun q' => hb (by simp [q'])) (fun q' => hb (by simp [q'])) q)) hf (Nat.le_refl _) new
    refine ⟨.ref s.heap.objs.size, _, I1, rfl, ⟨_, x, y, rfl, I.hok.fresh (Nat.le_refl _), rfl, fun l hl => by rw [seq_b_inj I hl hqx]; exact hx, fun l hl => by rw [seq_b_inj I hl hqy]; exact hy⟩, ⟨z'', ?_, ⟨x1, x2, ?_⟩, ?_, ?_⟩, fun c hcm => ?_⟩
    · exact (sb.2 _ S.TIz).trans (hk _ _ S.TIz S.TITO S.TIi1 S.TIi2 hTI)
    · exact (sb.2 _ S.TOz).trans TO'
    · exact st1.1.at fun o q => (sb.2 _ zi1).trans q
    · exact st2.1.at fun o q => (sb.2 _ zi2).trans q
    · have hlt : c < s.heap.objs.size := by
        have e' : c = z ∨ c = TI ∨ c = TO ∨ c = i1 ∨ c = i2 := by simpa using hcm
        rcases e' with q | q | q | q | q
        · rw [q]; exact hzl
        · rw [q]; exact Heap.lt_size hTI
        · rw [q]; exact Heap.lt_size hTO
        · rw [q]; obtain ⟨_, e1, _⟩ := h1.obj; exact Heap.lt_size e1
        · rw [q]; obtain ⟨_, e2, _⟩ := h2.obj; exact Heap.lt_size e2
      rw [upd_ne (Nat.ne_of_lt hlt)]
      exact (hf c hcm).1
  done := by
    intro X hP hw hK hc i pins s σ H E I hf st hg
    subst hP hw hK
    obtain ⟨hz, hTI, ⟨x0, y0, hTO⟩, h1, h2⟩ := st
    obtain ⟨xs, ys, hqx, hqy, hend⟩ := hg
    obtain ⟨its, rv, p⟩ := seq_b I hqx
    obtain ⟨its2, rv2, p2⟩ := seq_b I hqy
    have l1 := rv.length
    have l2 := rv2.length
    have hh : X.A.in1.handled = none := I.ok.hd hc
    refine wpAny_pyNext_zipD2_end S (draws_b t hh i1 a n1 its.toArray) (draws_b u hh i2 b n2 its2.toArray) hz hTI hTO ⟨h1, p⟩ ⟨h2, p2⟩ (by simp; omega) (by simp; omega) (by simp; omega) fun h' tk hk => ?_
    exact ⟨rfl, I.turnedL (t' := tk) (ch := [z, TI, TO, i1, i2]) (fun c o hb q => hk c o (fun q' => hb (by simp [q'])) (fun q' => hb (by simp [q'])) (fun q' => hb (by simp [q'])) (fun q' => hb (by simp [q'])) q) hf⟩
  self := fun A i s Q E st h => wpAny_pyIter_zip st.1 h
def itO (t : Bool) (a : Addr) : Obj := if t then { cls := .type "list_iterator", data := .fields #[.ref a, .int 0 0] } else { cls := .type "tuple_iterator", data := .fields #[.ref a, .int 0 0] }
theorem begins_b (t : Bool) (a : Addr) (its : Array Value) : Begins (.ref a) (itO t a) fun h => SeqB t h a its := by
  cases t
  · exact begins_tuple a its
  · exact begins_list a its
theorem itB_0 {t : Bool} {h : Heap} {it a : Addr} (e : h.get? it = some (itO t a)) : ItB t h it a 0 := by
  cases t
  · exact ⟨_, e, rfl, rfl⟩
  · exact ⟨_, e, rfl, rfl⟩
def iZipB (K : PySem.W.Frag) (ta : TA) : TI := fun σ H R => ta σ H fun vs H1 => ∃ (t u : Bool) (a b : Addr) (xs ys : List V), vs = [.ref a, .ref b] ∧ SqB t K H1 a xs ∧ SqB u K H1 b ys ∧ R (ItzB K t u a b) H1
theorem pi_zipB {X : Cx} {e e2 : Expr} {ta : TA} {p pos tpos : Pos} {elts : List Expr} {kk : Nat} (hg : Gl X "zip") (hm : X.mg "zip" = none) (ha : PA X [e, e2] ta)
    (hs : starEach [e, e2] X.env = (false, eval e X.env) :: starEach [e2] X.env := by rfl) (hpl : (backTo pos (starEach [e2] X.env)).any (·.1) = false := by rfl) :
    PI X (.Tuple elts kk tpos) (.Call (.Name "zip" p) [e, e2] [] pos) (iZipB X.K ta) := by
  refine ⟨fun pins s σ H R I h => ?_⟩
  refine Call_ (ld_blt I hg hm PyProof.Rows.boot_zip (PyProof.Rows.callWith_type1 (thn (ha.run pos pins s σ H _ I h) fun us s1 ⟨vs, H1, I1, r1, q1⟩ => ?_) hs hpl))
  obtain ⟨t, u, a, b, xs, ys, ex, hqx, hqy, q⟩ := q1
  subst ex
  cases r1 with
  | cons r rr =>
    cases rr with
    | cons r' rr =>
      cases rr
      cases r
      cases r'
      obtain ⟨its, rv, p1⟩ := seq_b I1 hqx
      obtain ⟨its2, rv2, p2⟩ := seq_b I1 hqy
      have la := p1.lt
      have lb := p2.lt
      refine zip_begins2 (begins_b t a its.toArray) (begins_b u b its2.toArray) p1 p2 fun h' hz hTI hTO h1 h2 hsz hk => wpAny_pyIter_zip hz ?_
      have I2 : Inv X pins σ H1 { s1 with heap := h' } := I1.kept (t' := s1.toks) hk
      have sep : ZipSep2 (s1.heap.objs.size + 4) (s1.heap.objs.size + 2) (s1.heap.objs.size + 3) s1.heap.objs.size (s1.heap.objs.size + 1) [s1.heap.objs.size, a] [s1.heap.objs.size + 1, b] :=
        zip_sep2 (fun c m => by rw [List.mem_singleton.mp m]; exact la) (fun c m => by rw [List.mem_singleton.mp m]; exact lb)
      refine ⟨s1.heap.objs.size + 4, [s1.heap.objs.size + 4, s1.heap.objs.size + 2, s1.heap.objs.size + 3, s1.heap.objs.size, s1.heap.objs.size + 1], _, _, H1, rfl, I2, turn_zipB sep (Nat.ne_of_lt la) (Nat.ne_of_lt (Nat.lt_succ_of_lt lb)), ⟨hz, hTI, ⟨_, _, hTO⟩, itB_0 h1, itB_0 h2⟩, fun c hcm => ?_, q⟩
      have e' : c = s1.heap.objs.size + 4 ∨ c = s1.heap.objs.size + 2 ∨ c = s1.heap.objs.size + 3 ∨ c = s1.heap.objs.size ∨ c = s1.heap.objs.size + 1 := by simpa using hcm
      have hle : s1.heap.objs.size ≤ c := by
        rcases e' with z | z | z | z | z
        · rw [z]; exact Nat.le_add_right _ _
        · rw [z]; exact Nat.le_add_right _ _
        · rw [z]; exact Nat.le_add_right _ _
        · rw [z]; exact Nat.le_refl _
        · rw [z]; exact Nat.le_add_right _ _
      exact I1.fpOk hle (I1.hok.fresh hle)
theorem walk_zipB {K : PySem.W.Frag} {t u : Bool} {a b : Addr} {xs ys : List V} {n : Nat} (hn : n = min xs.length ys.length) : Walk (ItzB K t u a b) n (fun H => SqB t K H a xs ∧ SqB u K H b ys) (YPair (fun i => xs[i]?) (fun i => ys[i]?)) := by
  subst hn
  constructor
  · intro i H hi ⟨h1, h2⟩
    exact ⟨xs, ys, xs[i]'(by omega), ys[i]'(by omega), h1, h2, List.getElem?_eq_getElem _, List.getElem?_eq_getElem _⟩
  · intro H ⟨h1, h2⟩
    exact ⟨xs, ys, h1, h2, rfl⟩
  · rintro i H v H' _ ⟨h1, h2⟩ ⟨T, x, y, e1, e2, e3, e4, e5⟩
    exact ⟨T, x, y, e1, e2, e3, e4 xs h1, e5 ys h2⟩
theorem r_izipB {K : PySem.W.Frag} {ta : TA} {σ : L2.St} {H : Hp} {R : It → Hp → Prop} (h : ta σ H fun vs H1 => ∃ (t u : Bool) (a b : Addr) (xs ys : List V), vs = [.ref a, .ref b] ∧ SqB t K H1 a xs ∧ SqB u K H1 b ys ∧ R (ItzB K t u a b) H1) : iZipB K ta σ H R := h
theorem row_b {K : PySem.W.Frag} {H : Hp} {a : Addr} {xs : List Int} (h : RowAt K H a xs) : ∃ t, SqB t K H a (xs.map V.int) := by
  rcases h with h | h
  · exact ⟨true, h⟩
  · exact ⟨false, h⟩
theorem SqB.same {K : PySem.W.Frag} {H H' : Hp} {t : Bool} {a : Addr} {xs : List V} (h : SqB t K H a xs) (s : Same H H') : SqB t K H' a xs := by
  cases t
  · exact Same.tupS s h
  · exact s.seq h
end Rp
namespace Rp
open PySem PySem.Spec PyProof.Rows L2
/-! ### == and != of instances whose class has an own __eq__ and no own __ne__ -/
section
variable {prog : Program} {w : World} {A : Around} {E : Value → Shared → Prop} {s : Shared} {K : PySem.W.Frag} {x C L f : Addr} {h₀ : Heap} {m : Str → Option Value} {ox : Obj} {od : Option Obj} {b tb : Value}
theorem ne_bind (self : Value) : bindSpecial (.builtin "object.__ne__") self = pure (.builtin "object.__ne__", [self]) := by kernel_rfl
theorem ne_plain : plainId "object.__ne__" = true := by decide +kernel
theorem ne_bound {M : Model} {args : List Value} {Q : Option Value → Shared → Prop} (X : K.In s.heap) (I : PySem.W.InstAt s.heap x ox C od) (hs : PySem.W.findIn K (.ref C) "__ne__" = some (some (.builtin "object.__ne__")))
    (h : wpAny M A (call (.builtin "object.__ne__") (.ref x :: args)) (fun v => Q (some v)) E s) : wpAny M A (callSpecialIfBound? (.ref x) "__ne__" args) Q E s := by
  simp only [callSpecialIfBound?, bindSpecialIfBound?]
  refine wpAny_holding (wpAny_bind (wpAny_bind (wpAny_bind (I.type.here ((PySem.W.looks_findIn X hs).here ?_)))))
  simp only [ne_bind]
  refine wpAny_bind (wpAny_askSetting (wpAny_ite ?_))
  have fin : wpAny M A (call (.builtin "object.__ne__") ([.ref x] ++ args) >>= fun v => pure (some v)) Q E s := wpAny_bind (wpAny_mono h (fun v s' h' => wpAny_pure h') fun _ _ h' => h')
  split
  · exact wpAny_bind (wpAny_pure (wpAny_pure fin))
  · exact wpAny_tryCatch (wpAny_bind (wpAny_pure (wpAny_pure fin)))
theorem ne_entry {Q : Fin → Shared → Prop} (hu : A.units < cLine) (X : K.In s.heap) (I : PySem.W.InstAt s.heap x ox C od) (hs : PySem.W.findIn K (.ref C) "__eq__" = some (some (.ref f))) (hf : PySem.W.isFn K (.ref f) = true)
    (h : wpAny (model prog w) A (call (.ref f) [.ref x, b]) (fun v s' => ∃ c, v = .bool c ∧ Q (.done (.ret (.bool (!c)))) s') E s) :
    wpAny (model prog w) A (Builtin.«object.__ne__» ⟨[.ref x, b], []⟩) Q E s := by
  obtain ⟨hp, g, d, t, os⟩ := s
  unfold Builtin.«object.__ne__»
  repeat (first
    | with_reducible refine wpAny_cRoomFor hu ?_
    | (refine wpAny_bind (m := callSpecialIfBound? (.ref x) (Str.ofString "__eq__") [b])
        (PySem.W.ifBound_K X I hs hf (wpAny_mono h (fun r s' hr => by
          obtain ⟨c, rfl, hq⟩ := hr
          repeat (first | exact hq | exact wpAny_pure hq | exact wpAny_truthy_bool hq | (refine wpAny_bind (m := truthy (.bool _)) (wpAny_truthy_bool ?_)) | wp_step)) fun _ _ e => e)))
    | wp_step)
theorem ne_try {Q : Option Value → Shared → Prop} (hu : A.units + 1 < cLine) (X : K.In s.heap) (I : PySem.W.InstAt s.heap x ox C od) (hm : PySem.W.mroIn K C (.type "object") = some true)
    (hn : PySem.W.findIn K (.ref C) "__ne__" = some (some (.builtin "object.__ne__"))) (hs : PySem.W.findIn K (.ref C) "__eq__" = some (some (.ref f))) (hf : PySem.W.isFn K (.ref f) = true)
    (h : wpAny (model prog w) A.in1 (call (.ref f) [.ref x, b]) (fun v s' => ∃ c, v = .bool c ∧ Q (some (.bool (!c))) s') E s) : wpAny (model prog w) A (tryCompare (.ref x) "__ne__" b) Q E s := by
  unfold tryCompare
  have sub : PySem.W.Looks (model prog w) s.heap (isInstance (.ref x) (.type "object")) true := I.type.andThen (PySem.W.looks_mroIn X hm)
  refine wpAny_bind (ne_bound X I hn (wpAny_call (codeAny_call_builtin ne_plain F.cmpEntry_ne (@PySem.W.check_slot (model prog w) _ _ s "object.__ne__" "object" "__ne__" (.ref x) [b] [] _ F.cmpKind_ne F.cmpSplit_ne sub (F.cmpArgs_ne _ _) ?_))))
  refine ne_entry (A := A.in1) hu X I hs hf (wpAny_mono h (fun v s' hv => ?_) fun _ _ e => e)
  obtain ⟨c, rfl, hq⟩ := hv
  first | exact ⟨c, rfl, wpAny_pure hq⟩ | exact ⟨c, rfl, wpAny_pure (wpAny_pure hq)⟩ | exact ⟨c, rfl, hq⟩
theorem ne_K {Q : Value → Shared → Prop} (hu : A.units + 1 < cLine) (X : K.In s.heap) (I : PySem.W.InstAt s.heap x ox C od) (hb : PySem.W.Looks (model prog w) s.heap (typeOf b) (.ref C)) (hm : PySem.W.mroIn K C (.type "object") = some true)
    (hn : PySem.W.findIn K (.ref C) "__ne__" = some (some (.builtin "object.__ne__"))) (hs : PySem.W.findIn K (.ref C) "__eq__" = some (some (.ref f))) (hf : PySem.W.isFn K (.ref f) = true)
    (h : wpAny (model prog w) A.in1 (call (.ref f) [.ref x, b]) (fun v s' => ∃ c, v = .bool c ∧ Q (.bool (!c)) s') E s) : wpAny (model prog w) A (richCompare .NotEq (.ref x) b) Q E s := by
  unfold richCompare
  simp only [oneThing_ref]
  refine wpAny_holding (wpAny_bind (wpAny_cRoomFor (Nat.lt_of_succ_lt hu) ?_))
  rw [cmpInfo_NotEq]
  dsimp only
  refine wpAny_bind (I.type.here (wpAny_bind (hb.here ?_)))
  rw [show (Value.ref C != Value.ref C) = false from by simp]
  simp only [Bool.false_eq_true, if_false]
  refine wpAny_bind (wpAny_pure ?_)
  simp only [Bool.false_eq_true, if_false]
  refine wpAny_bind (ne_try hu X I hm hn hs hf (wpAny_mono h (fun v s' hv => ?_) fun _ _ e => e))
  obtain ⟨c, rfl, hq⟩ := hv
  exact ⟨c, rfl, wpAny_pure hq⟩
end
section
variable {X : Cx} {CX : CXT} {pins : List (Addr × Obj)} {σ : L2.St} {H : Hp} {s : Shared} {C f : Addr} {n : Nat} {sp : Sp} {E : XK} {fd : FuncData} {ps : List Str}
/-- both are of the class at C; its own __eq__ promises sp; neg: asked by != -/
def rOwnI (C : Addr) (sp : Sp) (E : XK) (neg : Bool) : R2 := fun x y H Q => ∃ a b dx dy fs gs, x = .ref a ∧ y = .ref b ∧ H a = some (.ins C dx fs) ∧ H b = some (.ins C dy gs) ∧ sp [.ref a, .ref b] H (fun z H' => ∃ c, z = .bl c ∧ Q (.bl (if neg then !c else c)) H') E
theorem r_ownI {neg : Bool} {a b dx dy : Addr} {fs gs : List (Str × V)} {Q : VK} (h1 : H a = some (.ins C dx fs)) (h2 : H b = some (.ins C dy gs)) (q : sp [.ref a, .ref b] H (fun z H' => ∃ c, z = .bl c ∧ Q (.bl (if neg then !c else c)) H') E) :
    rOwnI C sp E neg (.ref a) (.ref b) H Q := ⟨a, b, dx, dy, fs, gs, rfl, rfl, h1, h2, q⟩
theorem run_eq {A : Around} {a b : Addr} {Q : VK} (F : FnOk X.prog X.w X.K X.mg X.base CX n f fd ps sp) (hb : Binds X.K fd ps []) (hx : Passes CX X E) (hr : Room n A) (fr : A.frames = X.A.frames) (I : Inv X pins σ H s) (q : sp [.ref a, .ref b] H Q E) :
    wpAny (model X.prog X.w) A (call (.ref f) [.ref a, .ref b]) (EP X pins σ Q) X.xe s := by
  have e0 : Env0 X.prog X.w X.K X.mg X.base A X.stack s H := by
    have e := I.env0
    exact ⟨by rw [fr]; exact e.frames, e.mod, e.bs, e.bsz, e.funs, e.frf, e.hok, e.bare⟩
  have hl := F.len _ _ _ _ q
  have r2 : Vals [V.ref a, V.ref b] [Value.ref a, Value.ref b] := .cons rfl (.cons rfl .nil)
  refine wpAny_call (codeAny_mono (F.run A X.stack s H ⟨[.ref a, .ref b], []⟩ [.ref a, .ref b] [.ref a, .ref b] _ E hr e0 (by
    have := hb s [.ref a, .ref b] I.kIn (by simpa using hl)
    simpa using this) r2 q) fun r s' hq => ?_)
  cases r with
  | error e => exact hx pins σ H s e s' I hq
  | ok fl =>
    cases fl with
    | ret w => exact I.after hq
    | next => exact False.elim hq
    | brk => exact False.elim hq
    | cont => exact False.elim hq
theorem op_eqI (F : FnOk X.prog X.w X.K X.mg X.base CX n f fd ps sp) (hb : Binds X.K fd ps []) (hx : Passes CX X E) (hr : Room n X.A)
    (hs : PySem.W.findIn X.K (.ref C) "__eq__" = some (some (.ref f))) (hf : PySem.W.isFn X.K (.ref f) = true) : OpR X (compareOp .Eq) (rOwnI C sp E false) := by
  intro pins s σ H x y v u Q I rx ry h
  obtain ⟨a, b, dx, dy, fs, gs, rfl, rfl, ha, hb', q⟩ := h
  cases (show v = Value.ref a from rx)
  cases (show u = Value.ref b from ry)
  obtain ⟨mA, J, _⟩ := ins_get I.hok ha
  obtain ⟨mB, J', _⟩ := ins_get I.hok hb'
  obtain ⟨od, J, _⟩ := J.look
  obtain ⟨od', J', _⟩ := J'.look
  obtain ⟨m, hF⟩ := I.fr
  refine PySem.W.cmp_K (op := .Eq) (tb := .ref C) hr.units0 hF I.ok.mod.kin J J'.type (by simp [PySem.W.notFirst]) hs hf ?_
  refine wpAny_mono (run_eq F hb hx hr rfl I q) (fun w s' z => ?_) fun _ _ x => x
  obtain ⟨z', H', I', rz, c, ec, qz⟩ := z
  subst ec
  cases (show w = Value.bool c from rz)
  exact ⟨.bl c, H', I', rfl, qz⟩
theorem op_neI (F : FnOk X.prog X.w X.K X.mg X.base CX n f fd ps sp) (hb : Binds X.K fd ps []) (hx : Passes CX X E) (hr : Room (n + 1) X.A)
    (hs : PySem.W.findIn X.K (.ref C) "__eq__" = some (some (.ref f))) (hf : PySem.W.isFn X.K (.ref f) = true) (hn : PySem.W.findIn X.K (.ref C) "__ne__" = some (some (.builtin "object.__ne__")))
    (hm : PySem.W.mroIn X.K C (.type "object") = some true) : OpR X (compareOp .NotEq) (rOwnI C sp E true) := by
  intro pins s σ H x y v u Q I rx ry h
  obtain ⟨a, b, dx, dy, fs, gs, rfl, rfl, ha, hb', q⟩ := h
  cases (show v = Value.ref a from rx)
  cases (show u = Value.ref b from ry)
  obtain ⟨mA, J, _⟩ := ins_get I.hok ha
  obtain ⟨mB, J', _⟩ := ins_get I.hok hb'
  obtain ⟨od, J, _⟩ := J.look
  obtain ⟨od', J', _⟩ := J'.look
  have hr1 : Room n X.A.in1 := Room.in1 hr
  refine ne_K (by exact hr1.units0) I.kIn J J'.type hm hn hs hf ?_
  refine wpAny_mono (run_eq F hb hx hr1 rfl I q) (fun w s' z => ?_) fun _ _ x => x
  obtain ⟨z', H', I', rz, c, ec, qz⟩ := z
  subst ec
  cases (show w = Value.bool c from rz)
  exact ⟨c, rfl, .bl !c, H', I', rfl, qz⟩
end
end Rp
namespace Rp
open PySem PySem.Spec PyProof.Rows L2
/-! ### a tuple once, and some times -/
theorem tuple_mul1 (l : Addr) (items : Array Value) (n : Nat) (dd : Option Addr) (sl : Array (Option Value)) (u : Tok) :
    Meets (Builtin.«tuple.__mul__» ⟨[.ref l, .int 1 u], []⟩) (fun _ R s => s.heap.get? l = some { cls := .type "tuple", dict := dd, data := .seq items n, slots := sl } ∧ R (.ok (.ret (Value.ref l))) s) :=
  .of_wp fun prog w A R s h => by
    obtain ⟨hp, g, d, tk, os⟩ := s
    obtain ⟨hl, h⟩ := h
    have f1 := AutoSeq1.idx_int
    have c1 : (items.isEmpty || (1 : Int) == 1) = true := by rw [Bool.or_eq_true]; exact .inr rfl
    wp_walk using wpAny_loadPart' hl
    repeat (first
      | (refine wpAny_ite_true (decide_eq_true c1) ?_; wp_walk using wpAny_loadPart' hl)
      | (refine wpAny_ite_false (decide_eq_false (by decide)) ?_; wp_walk using wpAny_loadPart' hl))
    exact ⟨_, rfl, h⟩
def rRep1 (K : PySem.W.Frag) : R2 := fun x y H Q => ∃ l xs, x = .ref l ∧ y = .int 1 ∧ SqT K H l xs ∧ Q (.ref l) H
theorem op_rep1 {X : Cx} : OpR X (binaryOp .Mult) (rRep1 X.K) := by
  intro pins s σ H x y v u Q I rx ry h
  obtain ⟨l, xs, rfl, rfl, hT, q⟩ := h
  cases rx
  obtain ⟨t, rfl⟩ := ry
  obtain ⟨its, r, ⟨⟨cls, dd, data, sl⟩, ho, hc, n, hd⟩, hs⟩ := I.tuple hT
  simp only at hc hd
  subst hc hd
  refine wpAny_binaryOp_repeat_ref (T := "tuple") (U := "int") (by decide) ⟨_, ho, rfl⟩ (fun s' => typeIs_int s' 1 t) noFill_tuple_mul F.fills_int_mul F.slot_int_rmul repeat_tuple F.slot_int_index.lookup
    (call_meets F.slot_int_rmul (typeIs_int s 1 t) F.entry_int_rmul (F.args_int_rmul_2 _ _) (int_rmul_tuple 1 t l its.toArray n dd sl)
      ⟨ho, rfl, ⟨_, ho, rfl⟩, call_meets F.slot_tuple_mul ⟨_, ho, rfl⟩ F.entry_tuple_mul (F.args_tuple_mul_2 _ _) (tuple_mul1 l its.toArray n dd sl t) ⟨ho, ?_⟩⟩)
  exact ⟨.ref l, H, I, rfl, q⟩
/-- xs * k, k from 1 -/
def rRepA (K : PySem.W.Frag) : R2 := fun x y H Q => ∃ l k xs, x = .ref l ∧ y = .int k ∧ SqT K H l xs ∧ xs ≠ [] ∧ 1 ≤ k ∧ k ≤ 1000 ∧ xs.length ≤ 1000 ∧ ∀ p H', Same H H' → SqT K H' p (List.replicate k.toNat xs).flatten → Q (.ref p) H'
theorem op_repA {X : Cx} : OpR X (binaryOp .Mult) (rRepA X.K) := by
  intro pins s σ H x y v u Q I rx ry h
  obtain ⟨l, k, xs, rfl, rfl, hT, hne, h1, h2, hz, q⟩ := h
  by_cases e : k = 1
  · subst e
    exact op_rep1 pins s σ H _ _ v u Q I rx ry ⟨l, xs, rfl, rfl, hT, q l H (Same.refl H) (by simpa using hT)⟩
  · exact op_repT pins s σ H _ _ v u Q I rx ry ⟨l, k, xs, rfl, rfl, hT, hne, by omega, h2, hz, fun p hp => q p _ (same_neu (Same.refl H) hp) (SqT.of upd_same)⟩
/-- the same, the tuple laid by the program: the answer is it, or new -/
def rRepN (K : PySem.W.Frag) : R2 := fun x y H Q => ∃ l k xs, x = .ref l ∧ y = .int k ∧ H l = some (.tup xs) ∧ xs ≠ [] ∧ 1 ≤ k ∧ k ≤ 1000 ∧ xs.length ≤ 1000 ∧ ∀ p H', Same H H' → (p = l ∨ H p = none) → H' p = some (.tup (List.replicate k.toNat xs).flatten) → Q (.ref p) H'
theorem op_repN {X : Cx} : OpR X (binaryOp .Mult) (rRepN X.K) := by
  intro pins s σ H x y v u Q I rx ry h
  obtain ⟨l, k, xs, rfl, rfl, hT, hne, h1, h2, hz, q⟩ := h
  by_cases e : k = 1
  · subst e
    exact op_rep1 pins s σ H _ _ v u Q I rx ry ⟨l, xs, rfl, rfl, SqT.of hT, q l H (Same.refl H) (.inl rfl) (by simpa using hT)⟩
  · exact op_repT pins s σ H _ _ v u Q I rx ry ⟨l, k, xs, rfl, rfl, SqT.of hT, hne, by omega, h2, hz, fun p hp => q p _ (same_neu (Same.refl H) hp) (.inr hp) upd_same⟩
/-- a list or a tuple at an index -/
theorem r_ixB {K : PySem.W.Frag} {H : Hp} {t : Bool} {p : Addr} {xs : List V} {i : Int} {v : V} {Q : VK} (h : SqB t K H p xs) (ha : atI xs i = some v) (q : Q v H) : rIx K (.ref p) (.int i) H Q := by
  cases t
  · exact .inr (.inl (r_ixT h ha q))
  · exact .inl (r_ixL h ha q)
theorem SqB.row {K : PySem.W.Frag} {H : Hp} {t : Bool} {a : Addr} {xs : List Int} (h : SqB t K H a (xs.map V.int)) : RowAt K H a xs := by
  cases t
  · exact .inr h
  · exact .inl h
end Rp
namespace Rp
open PySem PySem.Spec PyProof.Rows L2
/-! ### rims: steps, swings, chess rows -/
def stepAt (xs : List Int) (i : Nat) : Int := xs.getD (if i = 0 then xs.length - 1 else i - 1) 0 - xs.getD (if i + 1 = xs.length then 0 else i + 1) 0
def stepsF (xs : List Int) : List Int := (List.range xs.length).map (stepAt xs)
def swingF (cl : Int) (xs ys : List Int) : Int := ((ys.zip (stepsF xs)).map fun p => p.1 * p.2).sum % cl
def chessF (xs : List Int) : List Bool := (List.range xs.length).map fun i => decide (xs.getD i 0 = xs.getD (i % 2) 0)
theorem stepsF_len {xs : List Int} : (stepsF xs).length = xs.length := by unfold stepsF; rw [List.length_map, List.length_range]
theorem stepsF_at {xs : List Int} {i : Nat} (h : i < xs.length) : (stepsF xs)[i]? = some (stepAt xs i) := by
  unfold stepsF
  rw [List.getElem?_map, List.getElem?_range h]
  rfl
theorem chessF_len {xs : List Int} : (chessF xs).length = xs.length := by unfold chessF; rw [List.length_map, List.length_range]
theorem chessF_at {xs : List Int} {i : Nat} (h : i < xs.length) : (chessF xs)[i]? = some (decide (xs.getD i 0 = xs.getD (i % 2) 0)) := by
  unfold chessF
  rw [List.getElem?_map, List.getElem?_range h]
  rfl
theorem getD_at {xs : List Int} {i : Nat} (h : i < xs.length) : xs[i]? = some (xs.getD i 0) := by
  rw [List.getD_eq_getElem?_getD, List.getElem?_eq_getElem h]
  rfl
theorem SqB.or {K : PySem.W.Frag} {H : Hp} {t : Bool} {a : Addr} {xs : List V} (h : SqB t K H a xs) : SqL K H a xs ∨ SqT K H a xs := by
  cases t
  · exact .inr h
  · exact .inl h
theorem row_B {K : PySem.W.Frag} {q : Addr} {H : Hp} {v : V} {xs : List V} (h : RowV q H v (some xs)) : ∃ p t, v = .ref p ∧ SqB t K H p xs := by
  cases h with
  | lst n e _ => exact ⟨_, true, rfl, SqL.of e⟩
  | tup n e _ => exact ⟨_, false, rfl, SqT.of e⟩
theorem rowV_same {q : Addr} {H H' : Hp} {v : V} {o : Option (List V)} (h : RowV q H v o) (s : Same H H') : RowV q H' v o := h.but fun b o _ e => s b o e
theorem ints_of : ∀ {xs : List V}, (∀ x ∈ xs, ∃ i : Int, x = .int i) → ∃ ns : List Int, xs = ns.map V.int
  | [], _ => ⟨[], rfl⟩
  | x :: r, h => by
    obtain ⟨i, rfl⟩ := h x (List.mem_cons_self ..)
    obtain ⟨ns, rfl⟩ := ints_of fun y m => h y (List.mem_cons_of_mem _ m)
    exact ⟨i :: ns, rfl⟩
/-- a row of the gaps of a rim with ends -/
def rimOk (o : Option (List V)) (cl : Int) : Bool := rowOk o cl 2 16 && match o with | some xs => xs.length % 2 == 0 | none => false
theorem rimOk_some {o : Option (List V)} {cl : Int} (h : rimOk o cl = true) : ∃ ns : List Int, o = some (ns.map V.int) ∧ 2 ≤ ns.length ∧ ns.length ≤ 16 ∧ ns.length % 2 = 0 ∧ ∀ x ∈ ns, 0 ≤ x ∧ x ≤ cl - 1 := by
  obtain ⟨h1, h2⟩ := Bool.and_eq_true_iff.mp h
  obtain ⟨xs, rfl, l, m⟩ := rowOk_some h1
  obtain ⟨ns, rfl⟩ := ints_of fun x mx => (m x mx).imp fun i z => z.1
  have e1 := (Bool.and_eq_true_iff.mp (show ((decide ((2 : Int) ≤ ((ns.map V.int).length : Int)) && decide (((ns.map V.int).length : Int) ≤ 16)) && (ns.map V.int).all fun x => inB x (some 0) (some (cl - 1))) = true from h1)).1
  have e2 := of_decide_eq_true (Bool.and_eq_true_iff.mp e1).1
  rw [List.length_map] at e2 l
  have e3 : (ns.map V.int).length % 2 = 0 := beq_iff_eq.mp h2
  rw [List.length_map] at e3
  refine ⟨ns, rfl, by omega, by simpa using l, e3, fun x mx => ?_⟩
  obtain ⟨i, e, a, b⟩ := m (.int x) (List.mem_map.mpr ⟨x, mx, rfl⟩)
  cases e
  exact ⟨a, b⟩
theorem rimOk_ints {xs : List Int} {cl : Int} (h : ∀ x ∈ xs, 0 ≤ x ∧ x ≤ cl - 1) (l1 : 2 ≤ xs.length) (l2 : xs.length ≤ 16) (ev : xs.length % 2 = 0) : rimOk (some (xs.map V.int)) cl = true := by
  have a := rowOk_ints h (by omega) (by omega)
  have a2 := (Bool.and_eq_true_iff.mp (show ((decide ((1 : Int) ≤ ((xs.map V.int).length : Int)) && decide (((xs.map V.int).length : Int) ≤ 400)) && (xs.map V.int).all fun x => inB x (some 0) (some (cl - 1))) = true from a)).2
  refine Bool.and_eq_true_iff.mpr ⟨?_, ?_⟩
  · show ((decide ((2 : Int) ≤ ((xs.map V.int).length : Int)) && decide (((xs.map V.int).length : Int) ≤ 16)) && (xs.map V.int).all fun x => inB x (some 0) (some (cl - 1))) = true
    rw [a2, List.length_map, decide_eq_true (by omega), decide_eq_true (by omega)]
    rfl
  · show ((xs.map V.int).length % 2 == 0) = true
    rw [List.length_map, ev]
    rfl
def spDemRim (C : Addr) : Sp := fun vs H Q E => ∃ q v o clock part, vs = [.int clock, v, .str part] ∧ RowV q H v o ∧ clk (.int clock) = true ∧ (∀ xs, o = some xs → xs.length < sizeLine) ∧
  ∀ H', Same H H' → (rimOk o clock = true → Q .non H') ∧ (rimOk o clock = false → errAt E C "part" (.str part) H')
def spSteps (K : PySem.W.Frag) : Sp := fun vs H Q _ => ∃ t a xs, vs = [.ref a] ∧ SqB t K H a (xs.map V.int) ∧ 2 ≤ xs.length ∧ xs.length ≤ 400 ∧ ∀ D H', Same H H' → H' D = some (.lst ((stepsF xs).map V.int)) → Q (.ref D) H'
def spSwing (cC cR cM : Addr) : Sp := fun vs H Q E => ∃ q c a b oa ob, vs = [c, a, b] ∧ Any q H c ∧ RowV q H a oa ∧ RowV q H b ob ∧ (∀ xs, oa = some xs → xs.length < sizeLine) ∧ (∀ xs, ob = some xs → xs.length < sizeLine) ∧
  (clk c = false → errAt E cC "part" (.str "clock") H) ∧ ∀ cl, c = .int cl → clk c = true → ∀ H', Same H H' → (rimOk oa cl = false → errAt E cR "part" (.str "one") H') ∧ (rimOk oa cl = true → (rimOk ob cl = false → errAt E cR "part" (.str "other") H') ∧
    (rimOk ob cl = true → ∀ xs ys : List Int, oa = some (xs.map V.int) → ob = some (ys.map V.int) → (xs.length ≠ ys.length → errAt E cM "part" (.str "other") H') ∧ (xs.length = ys.length → Q (.int (swingF cl xs ys)) H')))
def spIsChess (cC cR : Addr) : Sp := fun vs H Q E => ∃ q c a oa, vs = [c, a] ∧ Any q H c ∧ RowV q H a oa ∧ (∀ xs, oa = some xs → xs.length < sizeLine) ∧
  (clk c = false → errAt E cC "part" (.str "clock") H) ∧ ∀ cl, c = .int cl → clk c = true → ∀ H', Same H H' → (rimOk oa cl = false → errAt E cR "part" (.str "row") H') ∧ (rimOk oa cl = true → ∀ xs : List Int, oa = some (xs.map V.int) → Q (.bl ((chessF xs).all id)) H')
def evenIn (v : V) (lo hi : Int) : Bool := inB v (some lo) (some hi) && match v with | .int i => i % 2 == 0 | _ => false
def spDemEven (C : Addr) : Sp := fun vs H Q E => ∃ q v lo hi part, vs = [v, .int lo, .int hi, .str part] ∧ Any q H v ∧ (evenIn v lo hi = true → Q .non H) ∧ (evenIn v lo hi = false → errAt E C "part" (.str part) H)
/-- len and an index, within a comprehension too -/
def rLenK (K : PySem.W.Frag) : List V → Hp → VK → Prop := fun xs H Q => ∃ p ys, xs = [V.ref p] ∧ (SqL K H p ys ∨ SqT K H p ys) ∧ Q (V.int ys.length) H
theorem cl_len {X : Cx} {K : PySem.W.Frag} (h : X.K = K) : CallR X (.builtin "len") (rLenK K) := by
  subst h
  exact call_len_seq
theorem ix_seqK {X : Cx} {K : PySem.W.Frag} (h : X.K = K) : IxR X (rIx K) := by
  subst h
  exact ix_seq
theorem ixN_last {n : Nat} (h : 0 < n) : ixN n (-1) = some (n - 1) := by
  unfold ixN
  rw [if_neg (by omega), if_pos (by omega)]
  congr 1
  omega
theorem atI_at {xs : List Int} {j : Nat} (h : j < xs.length) : atI (xs.map V.int) (j : Int) = some (.int (xs.getD j 0)) := atI_nat (by rw [List.getElem?_map, getD_at h]; rfl)
theorem atI_prev {xs : List Int} {i : Nat} (h : i < xs.length) : atI (xs.map V.int) (0 + (i : Int) - 1) = some (.int (xs.getD (if i = 0 then xs.length - 1 else i - 1) 0)) := by
  by_cases e : i = 0
  · subst e
    rw [if_pos rfl]
    show atI (xs.map V.int) (-1) = _
    unfold atI
    rw [List.length_map, ixN_last h, Option.bind_some, List.getElem?_map, getD_at (by omega : xs.length - 1 < xs.length)]
    rfl
  · rw [if_neg e, show 0 + (i : Int) - 1 = ((i - 1 : Nat) : Int) by omega]
    exact atI_at (by omega)
theorem mod_next {n i : Nat} (h : i < n) : (0 + (i : Int) + 1).fmod (n : Int) = ((if i + 1 = n then 0 else i + 1 : Nat) : Int) := by
  rw [Int.fmod_eq_emod_of_nonneg _ (by omega)]
  by_cases e : i + 1 = n
  · rw [if_pos e, show 0 + (i : Int) + 1 = (n : Int) by omega, Int.emod_self]
    rfl
  · rw [if_neg e, Int.emod_eq_of_lt (by omega) (by omega)]
    omega
theorem atI_next {xs : List Int} {i : Nat} (h : i < xs.length) : atI (xs.map V.int) ((0 + (i : Int) + 1).fmod (xs.length : Int)) = some (.int (xs.getD (if i + 1 = xs.length then 0 else i + 1) 0)) := by
  rw [mod_next h]
  refine atI_at ?_
  split <;> omega
theorem stepsF_take {xs : List Int} {i : Nat} (h : i < xs.length) : ((stepsF xs).take (i + 1)).map V.int = ((stepsF xs).take i).map V.int ++ [.int (stepAt xs i)] := by
  rw [List.take_succ, stepsF_at h, Option.toList_some, List.map_append]
  rfl
theorem zip_take {xs ys : List Int} {i : Nat} {x y : Int} (hx : xs[i]? = some x) (hy : ys[i]? = some y) : (((xs.zip ys).take (i + 1)).map fun p => p.1 * p.2).map V.int = (((xs.zip ys).take i).map fun p => p.1 * p.2).map V.int ++ [.int (x * y)] := by
  have z : (xs.zip ys)[i]? = some (x, y) := by
    rw [List.getElem?_zip_eq_some]
    exact ⟨hx, hy⟩
  rw [List.take_succ, z, List.map_append, List.map_append]
  rfl
theorem getD_in {cl : Int} {xs : List Int} (h : ∀ x ∈ xs, 0 ≤ x ∧ x ≤ cl - 1) {j : Nat} (hj : j < xs.length) : 0 ≤ xs.getD j 0 ∧ xs.getD j 0 ≤ cl - 1 := h _ (List.mem_of_getElem? (getD_at hj))
theorem stepAt_in {cl : Int} {xs : List Int} (h : ∀ x ∈ xs, 0 ≤ x ∧ x ≤ cl - 1) {i : Nat} (hi : i < xs.length) : -cl ≤ stepAt xs i ∧ stepAt xs i ≤ cl := by
  have a : 0 ≤ xs.getD (if i = 0 then xs.length - 1 else i - 1) 0 ∧ xs.getD (if i = 0 then xs.length - 1 else i - 1) 0 ≤ cl - 1 := getD_in h (by split <;> omega)
  have b : 0 ≤ xs.getD (if i + 1 = xs.length then 0 else i + 1) 0 ∧ xs.getD (if i + 1 = xs.length then 0 else i + 1) 0 ≤ cl - 1 := getD_in h (by split <;> omega)
  unfold stepAt
  omega
end Rp
namespace Rp
open PySem PySem.Spec PyProof.Rows L2 LamX
/-! ### what walks of laws carry along -/
theorem none_back {q c p : Addr} {ns : List Int} {lap : Nat} {H G : Hp} (D : Dr q c ns lap G) (B : But q H G) (h : G p = none) : H p = none := by
  cases z : H p with
  | none => rfl
  | some o =>
    by_cases e : p = q
    · subst e
      obtain ⟨ne, ⟨rest, hb⟩, hc, hl⟩ := D
      rw [hb] at h
      cases h
    · rw [B _ _ e z] at h
      cases h
theorem dr_neq {q c p : Addr} {ns : List Int} {lap : Nat} {H : Hp} (D : Dr q c ns lap H) (h : H p = none) : p ≠ q := by
  obtain ⟨ne, ⟨rest, hb⟩, hc, hl⟩ := D
  exact (ne_of_none hb h).symm
/-- None, or a pair -/
def TwoV (H : Hp) (v : V) : Option (V × V) → Prop
  | none => v = .non
  | some (x, y) => ∃ p, v = .ref p ∧ H p = some (.tup [x, y])
def vD : V → PyData
  | .str x => .str x
  | .int i => .int i
  | _ => .none
def twoD : Option (V × V) → PyData
  | none => .none
  | some (x, y) => .tuple [vD x, vD y]
/-- strings and numbers in it alone -/
def flatO : Option (V × V) → Prop
  | none => True
  | some (x, y) => (∃ s, x = .str s) ∧ ((∃ s, y = .str s) ∨ ∃ i, y = .int i)
theorem two_dp {K : PySem.W.Frag} {H : Hp} {v : V} {o : Option (V × V)} (h : TwoV H v o) (f : flatO o) : Dp K H v (twoD o) := by
  match o, h, f with
  | none, h, _ => cases h; exact .non
  | some (x, y), ⟨p, e, ep⟩, ⟨⟨s, ex⟩, f⟩ =>
    subst e ex
    rcases f with ⟨t, rfl⟩ | ⟨i, rfl⟩
    · exact .tup (SqT.of ep) (.cons (.str _) (.cons (.str _) .nil))
    · exact .tup (SqT.of ep) (.cons (.str _) (.cons (.int _) .nil))
theorem TwoV.ext {H H' : Hp} {v : V} {o : Option (V × V)} (h : TwoV H v o) (x : ExtN H H') : TwoV H' v o := by
  match o, h with
  | none, h => exact h
  | some (a, b), ⟨p, e, ep⟩ => exact ⟨p, e, x _ _ ep fun _ z => by cases z⟩
theorem neu2 {H G : Hp} {p : Addr} {o : HO} (hG : upd H p o = G) (hp : H p = none) : Same H G ∧ G p = some o := by
  subst hG
  exact ⟨same_neu (Same.refl H) hp, upd_same⟩
theorem tabs_dr {q c : Addr} {ns : List Int} {lap : Nat} {T : List (Addr × Str)} {H H' : Hp} (B : But q H H') (D : Dr q c ns lap H) (t : Tabs T H) : Tabs T H' := by
  obtain ⟨_, ⟨_, hq⟩, _, _⟩ := D
  exact tabs_but B hq t
theorem TwoV.same {H H' : Hp} {v : V} {o : Option (V × V)} (h : TwoV H v o) (s : Same H H') : TwoV H' v o := h.ext (ExtN.of s)
theorem Any.ext {q : Addr} {H H' : Hp} {v : V} (h : Any q H v) (x : ExtN H H') : Any q H' v := any_ext h x
theorem RowV.ext {q : Addr} {H H' : Hp} {v : V} {o : Option (List V)} (h : RowV q H v o) (x : ExtN H H') : RowV q H' v o := row_ext h x
theorem neD_ok {K : PySem.W.Frag} {H : Hp} {Q : VK} {x y : V} {d e : PyData} (h1 : Dp K H x d) (h2 : Dp K H y e) (s1 : SeqAt.shaped d = true) (s2 : SeqAt.shaped e = true) (q : PyData.eqv d e = true) (h : Q (.bl false) H) : rNeD K x y H Q :=
  ⟨d, e, h1, h2, s1, s2, by rw [q]; exact h⟩
theorem eqD_ok {K : PySem.W.Frag} {H : Hp} {Q : VK} {x y : V} {d e : PyData} (h1 : Dp K H x d) (h2 : Dp K H y e) (s1 : SeqAt.shaped d = true) (s2 : SeqAt.shaped e = true) (q : PyData.eqv d e = true) (h : Q (.bl true) H) : rEqD K x y H Q :=
  ⟨d, e, h1, h2, s1, s2, by rw [q]; exact h⟩
theorem big1 : 1000 ≤ sizeLine := le_ok rfl
end Rp
namespace Rp
/-! ### rows round the clock: sums of multiples, and their least form -/
theorem em_r {m a b : Int} (t : Int) : (a + t * (b % m)) % m = (a + t * b) % m := by
  rw [Int.add_emod, Int.mul_emod, Int.emod_emod, ← Int.mul_emod, ← Int.add_emod]
theorem em_l {m a b : Int} : (a % m + b) % m = (a + b) % m := by
  rw [Int.add_emod, Int.emod_emod, ← Int.add_emod]
theorem em_of {m x : Int} (h : 0 ≤ x ∧ x < m) : x % m = x := Int.emod_eq_of_lt h.1 h.2
/-- a row, and t times another one, round the clock -/
def adM (cl t : Int) (xs ys : List Int) : List Int := List.zipWith (fun x y => (x + t * y) % cl) xs ys
def zeroR (n : Nat) : List Int := List.replicate n 0
def RowOk (cl : Int) (n : Nat) (xs : List Int) : Prop := xs.length = n ∧ Dig cl xs
section
variable {cl t u : Int} {n : Nat} {xs ys zs : List Int} {rs ls ms : List (List Int)}
theorem gd_lt {k : Nat} (h : k < xs.length) : xs[k]? = some (xs.getD k 0) := by
  rw [List.getD_eq_getElem?_getD, List.getElem?_eq_getElem h]
  rfl
theorem gd_ge {k : Nat} (h : xs.length ≤ k) : xs.getD k 0 = 0 := by
  rw [List.getD_eq_getElem?_getD, List.getElem?_eq_none h]
  rfl
theorem row_ext' (l : xs.length = ys.length) (h : ∀ k, k < xs.length → xs.getD k 0 = ys.getD k 0) : xs = ys := by
  refine List.ext_getElem? fun k => ?_
  by_cases hk : k < xs.length
  · rw [gd_lt hk, gd_lt (by omega), h k hk]
  · rw [List.getElem?_eq_none (by omega), List.getElem?_eq_none (by omega)]
theorem dig_gd (d : Dig cl xs) (h : 0 < cl) (k : Nat) : 0 ≤ xs.getD k 0 ∧ xs.getD k 0 < cl := by
  by_cases hk : k < xs.length
  · exact d _ (List.mem_of_getElem? (gd_lt hk))
  · rw [gd_ge (by omega)]
    omega
theorem adM_len (l : xs.length = ys.length) : (adM cl t xs ys).length = xs.length := by
  unfold adM
  rw [List.length_zipWith, l]
  exact Nat.min_self _
theorem adM_at (l : xs.length = ys.length) (k : Nat) : (adM cl t xs ys).getD k 0 = (xs.getD k 0 + t * ys.getD k 0) % cl := by
  by_cases hk : k < xs.length
  · have e1 := gd_lt hk
    have e2 := gd_lt (xs := ys) (k := k) (by omega)
    rw [List.getD_eq_getElem?_getD]
    unfold adM
    rw [List.getElem?_zipWith, e1, e2]
    rfl
  · rw [gd_ge (by rw [adM_len l]; omega), gd_ge (xs := xs) (by omega), gd_ge (xs := ys) (by omega)]
    simp
theorem adM_dig (h : 0 < cl) : Dig cl (adM cl t xs ys) := by
  intro z m
  unfold adM at m
  obtain ⟨k, hk⟩ := List.mem_iff_getElem?.mp m
  rw [List.getElem?_zipWith] at hk
  cases e1 : xs[k]? with
  | none => rw [e1] at hk; cases hk
  | some x =>
    cases e2 : ys[k]? with
    | none => rw [e1, e2] at hk; cases hk
    | some y =>
      rw [e1, e2] at hk
      have e := Option.some.inj hk
      rw [← e]
      exact ⟨Int.emod_nonneg _ (by omega), Int.emod_lt_of_pos _ h⟩
theorem adM_ok (h : 0 < cl) (a : RowOk cl n xs) (b : RowOk cl n ys) : RowOk cl n (adM cl t xs ys) := ⟨by rw [adM_len (by rw [a.1, b.1]), a.1], adM_dig h⟩
theorem zeroR_ok (h : 0 < cl) : RowOk cl n (zeroR n) := ⟨List.length_replicate .., fun x m => by rw [List.eq_of_mem_replicate m]; omega⟩
theorem zeroR_at (k : Nat) : (zeroR n).getD k 0 = 0 := by
  unfold zeroR
  rw [List.getD_eq_getElem?_getD, List.getElem?_replicate]
  split <;> rfl
theorem adM_zero (h : 0 < cl) (a : RowOk cl n xs) : adM cl t xs (zeroR n) = xs := by
  have z := zeroR_ok (n := n) h
  refine row_ext' (adM_len (by rw [a.1, z.1])) fun k _ => ?_
  rw [adM_at (by rw [a.1, z.1]), zeroR_at, Int.mul_zero, Int.add_zero]
  exact em_of (dig_gd a.2 h k)
theorem zero_adM (h : 0 < cl) (a : RowOk cl n xs) : adM cl 1 (zeroR n) xs = xs := by
  have z := zeroR_ok (n := n) h
  refine row_ext' (by rw [adM_len (by rw [a.1, z.1]), a.1, z.1]) fun k _ => ?_
  rw [adM_at (by rw [a.1, z.1]), zeroR_at, Int.one_mul, Int.zero_add]
  exact em_of (dig_gd a.2 h k)
theorem adM_adM (h : 0 < cl) (a : RowOk cl n xs) (b : RowOk cl n ys) (c : RowOk cl n zs) : adM cl t xs (adM cl u ys zs) = adM cl (t * u) (adM cl t xs ys) zs := by
  have o1 := adM_ok (t := u) h b c
  have o2 := adM_ok (t := t) h a b
  refine row_ext' (by rw [adM_len (by rw [a.1, o1.1]), adM_len (by rw [o2.1, c.1]), a.1, o2.1]) fun k _ => ?_
  rw [adM_at (by rw [a.1, o1.1]), adM_at (by rw [b.1, c.1]), adM_at (by rw [o2.1, c.1]), adM_at (by rw [a.1, b.1]), em_r, em_l, Int.mul_add, Int.mul_assoc]
  congr 1
  omega
theorem adM_back (h : 0 < cl) (a : RowOk cl n xs) (b : RowOk cl n ys) : adM cl (-t) (adM cl t xs ys) ys = xs := by
  have o2 := adM_ok (t := t) h a b
  refine row_ext' (by rw [adM_len (by rw [o2.1, b.1]), a.1, o2.1]) fun k _ => ?_
  rw [adM_at (by rw [o2.1, b.1]), adM_at (by rw [a.1, b.1]), em_l, Int.neg_mul]
  rw [show xs.getD k 0 + t * ys.getD k 0 + -(t * ys.getD k 0) = xs.getD k 0 by omega]
  exact em_of (dig_gd a.2 h k)
end
/-- the sums of multiples of some rows -/
inductive Spn (cl : Int) (n : Nat) (rs : List (List Int)) : List Int → Prop
  | zero : Spn cl n rs (zeroR n)
  | add {x r : List Int} (t : Int) (h : Spn cl n rs x) (m : r ∈ rs) : Spn cl n rs (adM cl t x r)
section
variable {cl t u : Int} {n : Nat} {x y r : List Int} {rs ss ls ms : List (List Int)}
theorem Spn.ok (h : 0 < cl) (o : RowsOk cl n rs) (s : Spn cl n rs x) : RowOk cl n x := by
  induction s with
  | zero => exact zeroR_ok h
  | add t _ m ih => exact adM_ok h ih (o _ m)
theorem Spn.of (h : 0 < cl) (o : RowsOk cl n rs) (m : r ∈ rs) : Spn cl n rs r := by
  have z := Spn.add 1 (Spn.zero (cl := cl) (n := n)) m
  rwa [zero_adM h (o _ m)] at z
theorem Spn.comb (h : 0 < cl) (o : RowsOk cl n rs) (a : Spn cl n rs x) (b : Spn cl n rs y) (t : Int) : Spn cl n rs (adM cl t x y) := by
  induction b generalizing t with
  | zero => rw [adM_zero h (a.ok h o)]; exact a
  | add u b m ih =>
    rw [adM_adM h (a.ok h o) (b.ok h o) (o _ m)]
    exact .add _ (ih t) m
theorem Spn.mono (h : 0 < cl) (o : RowsOk cl n rs) (os : RowsOk cl n ss) (f : ∀ r ∈ rs, Spn cl n ss r) (a : Spn cl n rs x) : Spn cl n ss x := by
  induction a with
  | zero => exact .zero
  | add t _ m ih => exact ih.comb h os (f _ m) t
theorem Spn.sub (f : ∀ r ∈ rs, r ∈ ss) (a : Spn cl n rs x) : Spn cl n ss x := by
  induction a with
  | zero => exact .zero
  | add t _ m ih => exact .add t ih (f _ m)
/-- a multiple -/
def mulM (cl t : Int) (xs : List Int) : List Int := xs.map fun x => (t * x) % cl
theorem mulM_eq (h : 0 < cl) (a : RowOk cl n x) : mulM cl t x = adM cl t (zeroR n) x := by
  have z := zeroR_ok (n := n) h
  refine row_ext' (by rw [adM_len (by rw [a.1, z.1]), z.1]; unfold mulM; rw [List.length_map, a.1]) fun k hk => ?_
  have hk' : k < x.length := by unfold mulM at hk; rw [List.length_map] at hk; exact hk
  rw [adM_at (by rw [a.1, z.1]), zeroR_at, Int.zero_add]
  unfold mulM
  rw [List.getD_eq_getElem?_getD, List.getElem?_map, gd_lt hk']
  rfl
theorem Spn.mul (h : 0 < cl) (o : RowsOk cl n rs) (a : Spn cl n rs x) (t : Int) : Spn cl n rs (mulM cl t x) := by
  rw [mulM_eq h (a.ok h o)]
  exact Spn.zero.comb h o a t
/-- what is left if multiples are taken off, round the clock -/
def clrM (cl : Int) (ls : List (Nat × List Int)) (xs : List Int) : List Int := ls.foldl (fun x l => adM cl (cl - x.getD l.1 0) x l.2) xs
end
end Rp
namespace Rp
/-- the least form -/
structure LF (cl : Int) (n : Nat) (ls : List (List Int)) : Prop where
  ok : RowsOk cl n ls
  lead : ∀ r ∈ ls, leadOf r < n ∧ r.getD (leadOf r) 0 = 1
  asc : ls.Pairwise (fun r s => leadOf r < leadOf s)
  clr : ∀ r ∈ ls, ∀ s ∈ ls, r ≠ s → s.getD (leadOf r) 0 = 0
section
variable {cl t u : Int} {n : Nat} {x y r s : List Int} {rs ss ls ms : List (List Int)}
theorem before_lead {xs : List Int} {k : Nat} (h : k < leadOf xs) : xs.getD k 0 = 0 := by
  have := leadOf_le xs
  exact leadOf_zero h (gd_lt (by omega))
theorem lead_ne {xs : List Int} (h : leadOf xs < xs.length) : xs.getD (leadOf xs) 0 ≠ 0 := leadOf_ne (gd_lt h)
theorem lead_eq {xs : List Int} {k : Nat} (n0 : xs.getD k 0 ≠ 0) (h : ∀ j, j < k → xs.getD j 0 = 0) : leadOf xs = k := by
  have hk : k < xs.length := by
    by_cases z : k < xs.length
    · exact z
    · exact absurd (gd_ge (by omega)) n0
  refine leadOf_at (gd_lt hk) n0 fun j y hj e => ?_
  have := h j hj
  rw [List.getD_eq_getElem?_getD, e] at this
  exact this
theorem lead_full {xs : List Int} (h : ∀ j, j < xs.length → xs.getD j 0 = 0) : leadOf xs = xs.length := by
  refine leadOf_all fun j y e => ?_
  have hj := (List.getElem?_eq_some_iff.mp e).1
  have := h j hj
  rw [List.getD_eq_getElem?_getD, e] at this
  exact this
theorem full_zero {xs : List Int} (h : leadOf xs = xs.length) : xs = zeroR xs.length := by
  refine row_ext' (List.length_replicate ..).symm fun k hk => ?_
  rw [zeroR_at]
  exact before_lead (by omega)
theorem LF.nodup (h : LF cl n ls) : ls.Nodup := h.asc.imp fun a e => by rw [e] at a; omega
/-- sums of all rows, a column -/
def colS (ls : List (List Int)) (f : List Int → Int) : Int := (ls.map f).sum
theorem colS_lin (f g e : List Int → Int) (t : Int) (m : Int) : ∀ ls : List (List Int), (∀ r ∈ ls, f r % m = (g r + t * e r) % m) → colS ls f % m = (colS ls g + t * colS ls e) % m
  | [], _ => by simp [colS]
  | r :: ls, h => by
    have a := h r (List.mem_cons_self ..)
    have b := colS_lin f g e t m ls fun s q => h s (List.mem_cons_of_mem _ q)
    show (f r + colS ls f) % m = ((g r + colS ls g) + t * (e r + colS ls e)) % m
    rw [Int.add_emod, a, b, ← Int.add_emod, Int.mul_add]
    congr 1
    omega
theorem colS_zero (f : List Int → Int) : ∀ ls : List (List Int), (∀ r ∈ ls, f r = 0) → colS ls f = 0
  | [], _ => rfl
  | r :: ls, h => by
    show f r + colS ls f = 0
    rw [h r (List.mem_cons_self ..), colS_zero f ls fun s q => h s (List.mem_cons_of_mem _ q)]
    rfl
theorem colS_one {f : List Int → Int} {r : List Int} : ∀ {ls : List (List Int)}, ls.Nodup → r ∈ ls → (∀ s ∈ ls, s ≠ r → f s = 0) → colS ls f = f r
  | [], _, m, _ => nomatch m
  | s :: ls, nd, m, h => by
    obtain ⟨n1, n2⟩ := List.nodup_cons.mp nd
    show f s + colS ls f = f r
    rcases List.mem_cons.mp m with e | m'
    · subst e
      rw [colS_zero f ls fun s q => h s (List.mem_cons_of_mem _ q) fun e => n1 (by rw [← e]; exact q)]
      omega
    · rw [h s (List.mem_cons_self ..) fun e => n1 (by rw [e]; exact m'), colS_one n2 m' fun s q => h s (List.mem_cons_of_mem _ q)]
      omega
/-- a sum of multiples is told by its numbers where the rows lead -/
theorem LF.told (h0 : 0 < cl) (h : LF cl n ls) (a : Spn cl n ls x) (k : Nat) : x.getD k 0 = (colS ls fun r => x.getD (leadOf r) 0 * r.getD k 0) % cl := by
  induction a with
  | zero =>
    rw [zeroR_at, colS_zero _ ls fun r _ => by rw [zeroR_at, Int.zero_mul]]
    simp
  | @add x r t a m ih =>
    have ox := a.ok h0 h.ok
    have orr := h.ok r m
    rw [adM_at (by rw [ox.1, orr.1])]
    have e1 : (colS ls fun s => r.getD (leadOf s) 0 * s.getD k 0) = r.getD k 0 := by
      rw [colS_one h.nodup m fun s ms ne => by rw [h.clr s ms r m ne, Int.zero_mul], (h.lead r m).2, Int.one_mul]
    have e2 := colS_lin (fun s => (adM cl t x r).getD (leadOf s) 0 * s.getD k 0) (fun s => x.getD (leadOf s) 0 * s.getD k 0) (fun s => r.getD (leadOf s) 0 * s.getD k 0) t cl ls fun s ms => by
      show ((adM cl t x r).getD (leadOf s) 0 * s.getD k 0) % cl = _
      rw [adM_at (by rw [ox.1, orr.1]), Int.mul_emod, Int.emod_emod, ← Int.mul_emod, Int.add_mul, Int.mul_assoc]
    rw [e2, e1, ih, em_l]
theorem LF.lead_in (h0 : 0 < cl) (h : LF cl n ls) (a : Spn cl n ls x) (nz : leadOf x < n) : ∃ r ∈ ls, leadOf r = leadOf x := by
  have ox := a.ok h0 h.ok
  have t := h.told h0 a (leadOf x)
  apply Classical.byContradiction
  intro no
  refine lead_ne (by rw [ox.1]; exact nz) (t.trans ?_)
  rw [colS_zero _ ls fun r m => ?_]
  · simp
  · by_cases c : leadOf r < leadOf x
    · rw [before_lead c, Int.zero_mul]
    · have c2 : leadOf x < leadOf r := by
        have : leadOf r ≠ leadOf x := fun e => no ⟨r, m, e⟩
        omega
      rw [before_lead c2, Int.mul_zero]
theorem asc_eq : ∀ {ls ms : List (List Int)}, ls.Pairwise (fun r s => leadOf r < leadOf s) → ms.Pairwise (fun r s => leadOf r < leadOf s) → (∀ r ∈ ls, r ∈ ms) → (∀ r ∈ ms, r ∈ ls) → ls = ms
  | [], [], _, _, _, _ => rfl
  | [], m :: ms, _, _, _, g => nomatch g m (List.mem_cons_self ..)
  | l :: ls, [], _, _, f, _ => nomatch f l (List.mem_cons_self ..)
  | l :: ls, m :: ms, a, b, f, g => by
    obtain ⟨a1, a2⟩ := List.pairwise_cons.mp a
    obtain ⟨b1, b2⟩ := List.pairwise_cons.mp b
    have e : l = m := by
      rcases List.mem_cons.mp (f l (List.mem_cons_self ..)) with e | m1
      · exact e
      rcases List.mem_cons.mp (g m (List.mem_cons_self ..)) with e | m2
      · exact e.symm
      have := b1 l m1
      have := a1 m m2
      omega
    subst e
    rw [asc_eq a2 b2 (fun r mr => ?_) fun r mr => ?_]
    · rcases List.mem_cons.mp (f r (List.mem_cons_of_mem _ mr)) with e | m
      · have := a1 r mr
        rw [e] at this
        omega
      · exact m
    · rcases List.mem_cons.mp (g r (List.mem_cons_of_mem _ mr)) with e | m
      · have := b1 r mr
        rw [e] at this
        omega
      · exact m
theorem LF.inj (h : LF cl n ls) (mr : r ∈ ls) (ms : s ∈ ls) (e : leadOf r = leadOf s) : r = s := by
  apply Classical.byContradiction
  intro ne
  have a := h.clr r mr s ms ne
  rw [e, (h.lead s ms).2] at a
  cases a
theorem LF.half (h0 : 0 < cl) (h : LF cl n ls) (g : LF cl n ms) (f1 : ∀ r ∈ ls, Spn cl n ms r) (f2 : ∀ r ∈ ms, Spn cl n ls r) (m : r ∈ ls) : r ∈ ms := by
  obtain ⟨s, mst, es⟩ := g.lead_in h0 (f1 r m) (h.lead r m).1
  suffices e : r = s by rw [e]; exact mst
  refine row_ext' (by rw [(h.ok r m).1, (g.ok s mst).1]) fun k _ => ?_
  rw [g.told h0 (f1 r m) k, colS_one g.nodup mst fun q mq nq => ?_]
  · rw [es, (h.lead r m).2, Int.one_mul]
    exact em_of (dig_gd (g.ok s mst).2 h0 k)
  · obtain ⟨p, mp, ep⟩ := h.lead_in h0 (f2 q mq) (g.lead q mq).1
    have np : p ≠ r := fun e => nq (g.inj mq mst (by rw [es, ← ep, e]))
    rw [← ep, h.clr p mp r m np, Int.zero_mul]
/-- each space has just one least form -/
theorem LF.one (h0 : 0 < cl) (h : LF cl n ls) (g : LF cl n ms) (f1 : ∀ r ∈ ls, Spn cl n ms r) (f2 : ∀ r ∈ ms, Spn cl n ls r) : ls = ms :=
  asc_eq h.asc g.asc (fun _ m => h.half h0 g f1 f2 m) fun _ m => g.half h0 h f2 f1 m
/-! ### rows cleared -/
theorem modRow_at (xs : List Int) (k : Nat) : (modRow cl xs).getD k 0 = xs.getD k 0 % cl := by
  unfold modRow
  by_cases hk : k < xs.length
  · rw [List.getD_eq_getElem?_getD, List.getElem?_map, gd_lt hk]
    rfl
  · rw [gd_ge (xs := xs) (by omega), gd_ge (by rw [List.length_map]; omega)]
    simp
theorem modRow_self (h : 0 < cl) (d : Dig cl x) : modRow cl x = x := by
  refine row_ext' modRow_len fun k _ => ?_
  rw [modRow_at]
  exact em_of (dig_gd d h k)
theorem addT_at {xs ys : List Int} (l : xs.length = ys.length) (k : Nat) : (addT t xs ys).getD k 0 = xs.getD k 0 + t * ys.getD k 0 := by
  by_cases hk : k < xs.length
  · rw [List.getD_eq_getElem?_getD]
    unfold addT
    rw [List.getElem?_zipWith, gd_lt hk, gd_lt (xs := ys) (k := k) (by omega)]
    rfl
  · rw [gd_ge (by rw [addT_len l]; omega), gd_ge (xs := xs) (by omega), gd_ge (xs := ys) (by omega)]
    omega
theorem mod_addT {xs ys : List Int} (l : xs.length = ys.length) : modRow cl (addT t xs ys) = adM cl t (modRow cl xs) ys := by
  refine row_ext' (by rw [modRow_len, addT_len l, adM_len (by rw [modRow_len, l]), modRow_len]) fun k _ => ?_
  rw [modRow_at, addT_at l, adM_at (by rw [modRow_len, l]), modRow_at, em_l]
theorem adM_none (h : 0 < cl) (a : RowOk cl n x) (b : RowOk cl n y) : adM cl cl x y = x := by
  refine row_ext' (adM_len (by rw [a.1, b.1])) fun k _ => ?_
  rw [adM_at (by rw [a.1, b.1]), Int.add_mul_emod_self_left]
  exact em_of (dig_gd a.2 h k)
theorem clr_M (h : 0 < cl) : ∀ {ls : List (Nat × List Int)} {xs : List Int}, LdOk cl n ls → xs.length = n → modRow cl (clr cl ls xs) = clrM cl ls (modRow cl xs)
  | [], xs, _, _ => rfl
  | (a, r) :: ls, xs, o, l => by
    have q := o.head
    show modRow cl (clr cl ls (if xs.getD a 0 % cl ≠ 0 then addT (cl - xs.getD a 0 % cl) xs r else xs)) = clrM cl ls (adM cl (cl - (modRow cl xs).getD a 0) (modRow cl xs) r)
    rw [modRow_at]
    by_cases z : xs.getD a 0 % cl = 0
    · rw [if_neg (fun n => n z), z, Int.sub_zero, adM_none (n := n) h ⟨by rw [modRow_len, l], modRow_dig h _⟩ ⟨q.2.1, q.2.2⟩]
      exact clr_M h o.tail l
    · rw [if_pos z, clr_M h o.tail (by rw [addT_len (by rw [l, q.2.1]), l]), mod_addT (by rw [l, q.2.1])]
theorem left_M (h : 0 < cl) {ls : List (Nat × List Int)} (o : LdOk cl n ls) (a : RowOk cl n x) : leftOf cl ls x = clrM cl ls x := by
  unfold leftOf
  rw [clr_M h o a.1, modRow_self h a.2]
theorem clrM_ok (h : 0 < cl) : ∀ {ls : List (Nat × List Int)} {x : List Int}, LdOk cl n ls → RowOk cl n x → RowOk cl n (clrM cl ls x)
  | [], _, _, a => a
  | (b, r) :: ls, x, o, a => clrM_ok h (ls := ls) o.tail (adM_ok h a o.head.2)
theorem clrM_in (h : 0 < cl) (os : RowsOk cl n ss) : ∀ {ls : List (Nat × List Int)} {x : List Int}, (∀ l ∈ ls, Spn cl n ss l.2) → Spn cl n ss x → Spn cl n ss (clrM cl ls x)
  | [], _, _, a => a
  | l :: ls, x, f, a => clrM_in h os (ls := ls) (fun k m => f k (List.mem_cons_of_mem _ m)) (a.comb h os (f l (List.mem_cons_self ..)) _)
theorem clrM_back (h : 0 < cl) (os : RowsOk cl n ss) : ∀ {ls : List (Nat × List Int)} {x : List Int}, LdOk cl n ls → RowOk cl n x → (∀ l ∈ ls, Spn cl n ss l.2) → Spn cl n ss (clrM cl ls x) → Spn cl n ss x
  | [], _, _, _, _, a => a
  | l :: ls, x, o, ox, f, a => by
    have z := clrM_back h os (ls := ls) (x := adM cl (cl - x.getD l.1 0) x l.2) o.tail (adM_ok h ox o.head.2) (fun k m => f k (List.mem_cons_of_mem _ m)) a
    have w := z.comb h os (f l (List.mem_cons_self ..)) (-(cl - x.getD l.1 0))
    rwa [adM_back h ox o.head.2] at w
/-- rows that lead, each with 1, the later ones 0 where the earlier lead -/
structure LdI (cl : Int) (n : Nat) (ls : List (Nat × List Int)) : Prop where
  ok : LdOk cl n ls
  one : ∀ l ∈ ls, leadOf l.2 = l.1 ∧ l.2.getD l.1 0 = 1
  clr : ls.Pairwise (fun a b => b.2.getD a.1 0 = 0)
theorem clrM_keep (h : 0 < cl) {a : Nat} : ∀ {ls : List (Nat × List Int)} {x : List Int}, LdOk cl n ls → RowOk cl n x → (∀ l ∈ ls, l.2.getD a 0 = 0) → (clrM cl ls x).getD a 0 = x.getD a 0
  | [], _, _, _, _ => rfl
  | l :: ls, x, o, ox, f => by
    show (clrM cl ls (adM cl (cl - x.getD l.1 0) x l.2)).getD a 0 = _
    rw [clrM_keep h o.tail (adM_ok h ox o.head.2) fun k m => f k (List.mem_cons_of_mem _ m), adM_at (by rw [ox.1, o.head.2.1]), f l (List.mem_cons_self ..), Int.mul_zero, Int.add_zero]
    exact em_of (dig_gd ox.2 h a)
theorem LdI.tail {l : Nat × List Int} {ls : List (Nat × List Int)} (i : LdI cl n (l :: ls)) : LdI cl n ls :=
  ⟨i.ok.tail, fun k m => i.one k (List.mem_cons_of_mem _ m), (List.pairwise_cons.mp i.clr).2⟩
theorem LdI.zero (h : 0 < cl) : ∀ {ls : List (Nat × List Int)} {x : List Int}, LdI cl n ls → RowOk cl n x → ∀ l ∈ ls, (clrM cl ls x).getD l.1 0 = 0
  | [], _, _, _, _, m => nomatch m
  | k :: ls, x, i, ox, l, m => by
    obtain ⟨c1, c2⟩ := List.pairwise_cons.mp i.clr
    have oy := adM_ok (t := cl - x.getD k.1 0) h ox i.ok.head.2
    rcases List.mem_cons.mp m with e | m
    · rw [e]
      show (clrM cl ls (adM cl (cl - x.getD k.1 0) x k.2)).getD k.1 0 = 0
      rw [clrM_keep h i.ok.tail oy c1, adM_at (by rw [ox.1, i.ok.head.2.1]), (i.one k (List.mem_cons_self ..)).2, Int.mul_one, show x.getD k.1 0 + (cl - x.getD k.1 0) = cl by omega, Int.emod_self]
    · exact LdI.zero h i.tail oy l m
end
theorem pow_inv : ∀ cl ∈ clocks, ∀ k ∈ List.range (cl - 1).toNat, powF cl (1 + (k : Int)) (cl - 2).toNat * (1 + (k : Int)) % cl = 1 := by decide +kernel
theorem inv_one {cl v : Int} (h : cl ∈ clocks) (h0 : 0 < v) (h1 : v < cl) : powF cl v (cl - 2).toNat * v % cl = 1 := by
  have z := pow_inv cl h (v - 1).toNat (List.mem_range.mpr (by omega))
  rw [show (1 : Int) + ((v - 1).toNat : Int) = v by omega] at z
  exact z
end Rp
namespace Rp
section
variable {cl t u : Int} {n : Nat} {x y r s : List Int} {rs ss : List (List Int)} {ls : List (Nat × List Int)}
/-- the rows alone -/
def rowsL (ls : List (Nat × List Int)) : List (List Int) := ls.map (·.2)
theorem rowsL_ok (o : LdOk cl n ls) : RowsOk cl n (rowsL ls) := fun x m => by
  obtain ⟨l, ml, rfl⟩ := List.mem_map.mp m
  exact (o l ml).2
theorem rowsL_mem {l : Nat × List Int} (m : l ∈ ls) : l.2 ∈ rowsL ls := List.mem_map.mpr ⟨l, m, rfl⟩
theorem clocks_3 {cl : Int} (h : cl ∈ clocks) : 3 ≤ cl ∧ cl ≤ 31 := by
  revert h
  simp only [clocks, List.mem_cons, List.not_mem_nil, or_false]
  omega
theorem timesRow_at (left : List Int) (k : Nat) : (timesRow cl left).getD k 0 = (powF cl (left.getD (leadOf left) 0) (cl - 2).toNat * left.getD k 0) % cl := by
  unfold timesRow
  by_cases hk : k < left.length
  · rw [List.getD_eq_getElem?_getD, List.getElem?_map, gd_lt hk]
    rfl
  · rw [gd_ge (xs := left) (k := k) (by omega), gd_ge (by rw [List.length_map]; omega)]
    simp
theorem timesRow_M (left : List Int) : timesRow cl left = mulM cl (powF cl (left.getD (leadOf left) 0) (cl - 2).toNat) left := rfl
/-- a row that leads, made to have 1 there -/
theorem times_lead (hc : cl ∈ clocks) (o : RowOk cl n x) (h : leadOf x < n) : leadOf (timesRow cl x) = leadOf x ∧ (timesRow cl x).getD (leadOf x) 0 = 1 := by
  have c3 := clocks_3 hc
  have ne := lead_ne (xs := x) (by rw [o.1]; exact h)
  have b := dig_gd o.2 (by omega) (leadOf x)
  have e : (timesRow cl x).getD (leadOf x) 0 = 1 := by
    rw [timesRow_at]
    exact inv_one hc (by omega) b.2
  refine ⟨lead_eq (by rw [e]; decide) fun j hj => ?_, e⟩
  rw [timesRow_at, before_lead hj, Int.mul_zero]
  simp
theorem times_back (hc : cl ∈ clocks) (o : RowOk cl n x) (h : leadOf x < n) : mulM cl (x.getD (leadOf x) 0) (timesRow cl x) = x := by
  have c3 := clocks_3 hc
  have ne := lead_ne (xs := x) (by rw [o.1]; exact h)
  have b := dig_gd o.2 (by omega) (leadOf x)
  have e := inv_one hc (v := x.getD (leadOf x) 0) (by omega) b.2
  refine row_ext' (by unfold mulM; rw [List.length_map]; unfold timesRow; rw [List.length_map]) fun k hk => ?_
  have hk2 : k < (timesRow cl x).length := by unfold mulM at hk; rw [List.length_map] at hk; exact hk
  unfold mulM
  rw [List.getD_eq_getElem?_getD, List.getElem?_map, gd_lt hk2]
  show (x.getD (leadOf x) 0 * (timesRow cl x).getD k 0) % cl = x.getD k 0
  rw [timesRow_at, Int.mul_emod, Int.emod_emod, ← Int.mul_emod, ← Int.mul_assoc, Int.mul_comm (x.getD (leadOf x) 0), Int.mul_emod, e, Int.one_mul, Int.emod_emod]
  exact em_of (dig_gd o.2 (by omega) k)
/-- what leading rows are of given ones -/
structure LdS (cl : Int) (n : Nat) (ls : List (Nat × List Int)) (rs : List (List Int)) : Prop where
  I : LdI cl n ls
  to : ∀ l ∈ ls, Spn cl n rs l.2
  from_ : ∀ r ∈ rs, Spn cl n (rowsL ls) r
theorem putL_new {a : Nat} (h : ∀ l ∈ ls, l.1 ≠ a) : putL ls a r = ls ++ [(a, r)] := by
  unfold putL
  rw [if_neg]
  intro e
  obtain ⟨l, m, q⟩ := List.any_eq_true.mp e
  exact h l m (of_decide_eq_true q)
theorem ld_step (hc : cl ∈ clocks) (S : LdS cl n ls rs) (os : RowsOk cl n rs) (ox : RowOk cl n x) : LdS cl n (ldOne cl n ls x) (rs ++ [x]) := by
  have c3 := clocks_3 hc
  have h0 : 0 < cl := by omega
  have oss : RowsOk cl n (rs ++ [x]) := fun y m => by
    rcases List.mem_append.mp m with m | m
    · exact os y m
    · rw [List.mem_singleton.mp m]; exact ox
  have up : ∀ l ∈ ls, Spn cl n (rs ++ [x]) l.2 := fun l m => (S.to l m).sub fun r mr => List.mem_append_left _ mr
  have xin : Spn cl n (rs ++ [x]) x := .of h0 oss (List.mem_append_right _ (List.mem_singleton.mpr rfl))
  have oL := left_M h0 S.I.ok ox
  have okL : RowOk cl n (leftOf cl ls x) := by rw [oL]; exact clrM_ok h0 S.I.ok ox
  have z : ∀ l ∈ ls, (leftOf cl ls x).getD l.1 0 = 0 := by rw [oL]; exact S.I.zero h0 ox
  have inn : Spn cl n (rs ++ [x]) (leftOf cl ls x) := by rw [oL]; exact clrM_in h0 oss up xin
  rw [ldOne_eq]
  by_cases hl : leadOf (leftOf cl ls x) < n
  · rw [if_pos hl]
    have new : ∀ l ∈ ls, l.1 ≠ leadOf (leftOf cl ls x) := fun l m e => by
      have w := z l m
      rw [e] at w
      exact lead_ne (by rw [okL.1]; exact hl) w
    obtain ⟨t1, t2⟩ := times_lead hc okL hl
    have tok : RowOk cl n (timesRow cl (leftOf cl ls x)) := by
      obtain ⟨a, b⟩ := times_ok (cl := cl) (left := leftOf cl ls x) c3.1
      exact ⟨by rw [a, okL.1], b⟩
    have okn : LdOk cl n (ls ++ [(leadOf (leftOf cl ls x), timesRow cl (leftOf cl ls x))]) := fun l m => by
      rcases List.mem_append.mp m with m | m
      · exact S.I.ok l m
      · rw [List.mem_singleton.mp m]; exact ⟨hl, tok⟩
    rw [putL_new new]
    refine ⟨⟨okn, fun l m => ?_, ?_⟩, fun l m => ?_, fun r m => ?_⟩
    · rcases List.mem_append.mp m with m | m
      · exact S.I.one l m
      · rw [List.mem_singleton.mp m]; exact ⟨t1, t2⟩
    · refine List.pairwise_append.mpr ⟨S.I.clr, List.pairwise_singleton _ _, fun l m k mk => ?_⟩
      rw [List.mem_singleton.mp mk]
      show (timesRow cl (leftOf cl ls x)).getD l.1 0 = 0
      rw [timesRow_at, z l m, Int.mul_zero]
      simp
    · rcases List.mem_append.mp m with m | m
      · exact up l m
      · rw [List.mem_singleton.mp m]
        show Spn cl n (rs ++ [x]) (timesRow cl (leftOf cl ls x))
        rw [timesRow_M]
        exact inn.mul h0 oss _
    · have oN := rowsL_ok okn
      have ol : ∀ l ∈ ls, Spn cl n (rowsL (ls ++ [(leadOf (leftOf cl ls x), timesRow cl (leftOf cl ls x))])) l.2 := fun l m => .of h0 oN (rowsL_mem (List.mem_append_left _ m))
      rcases List.mem_append.mp m with m | m
      · exact (S.from_ r m).sub fun y my => by
          unfold rowsL at my ⊢
          rw [List.map_append]
          exact List.mem_append_left _ my
      · rw [List.mem_singleton.mp m]
        refine clrM_back h0 oN S.I.ok ox ol ?_
        rw [← oL]
        have w := Spn.mul h0 oN (.of h0 oN (rowsL_mem (List.mem_append_right ls (List.mem_singleton.mpr rfl)))) ((leftOf cl ls x).getD (leadOf (leftOf cl ls x)) 0)
        rw [times_back hc okL hl] at w
        exact w
  · rw [if_neg hl]
    have oN := rowsL_ok S.I.ok
    refine ⟨S.I, up, fun r m => ?_⟩
    rcases List.mem_append.mp m with m | m
    · exact S.from_ r m
    · rw [List.mem_singleton.mp m]
      refine clrM_back h0 oN S.I.ok ox (fun l ml => .of h0 oN (rowsL_mem ml)) ?_
      rw [← oL]
      have e : leadOf (leftOf cl ls x) = (leftOf cl ls x).length := by
        have := leadOf_le (leftOf cl ls x)
        rw [okL.1] at this ⊢
        omega
      rw [full_zero e, okL.1]
      exact .zero
theorem ld_fold (hc : cl ∈ clocks) : ∀ {us rs : List (List Int)} {ls : List (Nat × List Int)}, LdS cl n ls rs → RowsOk cl n rs → RowsOk cl n us → LdS cl n (us.foldl (ldOne cl n) ls) (rs ++ us)
  | [], rs, ls, S, _, _ => by rw [List.append_nil]; exact S
  | u :: us, rs, ls, S, o, ou => by
    have w := ld_fold hc (us := us) (ld_step hc S o (ou u (List.mem_cons_self ..))) (fun y m => by
      rcases List.mem_append.mp m with m | m
      · exact o y m
      · rw [List.mem_singleton.mp m]; exact ou u (List.mem_cons_self ..)) fun y m => ou y (List.mem_cons_of_mem _ m)
    rw [List.append_assoc] at w
    exact w
theorem leading_S (hc : cl ∈ clocks) (o : RowsOk cl n rs) : LdS cl n (leading cl n rs) rs := by
  have w := ld_fold hc (us := rs) (rs := []) (ls := []) (cl := cl) (n := n) ⟨⟨(fun _ m => nomatch m), (fun _ m => nomatch m), .nil⟩, (fun _ m => nomatch m), (fun _ m => nomatch m)⟩ (fun _ m => nomatch m) o
  rw [List.nil_append] at w
  exact w
theorem LdI.nodup (i : LdI cl n ls) : (ls.map (·.1)).Nodup := by
  refine List.pairwise_map.mpr (i.clr.imp_of_mem fun {a b} _ mb e e2 => ?_)
  have := (i.one b mb).2
  rw [← e2, e] at this
  cases this
theorem findL_mem {a : Nat} : ∀ {ls : List (Nat × List Int)}, a ∈ ls.map (·.1) → (a, findL ls a) ∈ ls
  | [], m => nomatch m
  | l :: ls, m => by
    by_cases h : l.1 = a
    · have e : findL (l :: ls) a = l.2 := by
        unfold findL
        rw [List.find?_cons_of_pos (by simp [h])]
        rfl
      rw [e, ← h]
      exact List.mem_cons_self ..
    · have m2 : a ∈ ls.map (·.1) := by
        rcases List.mem_cons.mp m with z | z
        · exact absurd z.symm h
        · exact z
      have e : findL (l :: ls) a = findL ls a := by
        unfold findL
        rw [List.find?_cons_of_neg (by simp [h])]
      rw [e]
      exact List.mem_cons_of_mem _ (findL_mem m2)
theorem findL_of {l : Nat × List Int} : ∀ {ls : List (Nat × List Int)}, (ls.map (·.1)).Nodup → l ∈ ls → findL ls l.1 = l.2
  | [], _, m => nomatch m
  | k :: ls, nd, m => by
    obtain ⟨n1, n2⟩ := List.nodup_cons.mp (show (k.1 :: ls.map (·.1)).Nodup from nd)
    rcases List.mem_cons.mp m with e | m
    · subst e
      unfold findL
      rw [List.find?_cons_of_pos (by simp)]
      rfl
    · have ne : k.1 ≠ l.1 := fun e => n1 (by rw [e]; exact List.mem_map.mpr ⟨l, m, rfl⟩)
      have e : findL (k :: ls) l.1 = findL ls l.1 := by
        unfold findL
        rw [List.find?_cons_of_neg (by simp [ne])]
      rw [e]
      exact findL_of n2 m
/-- rows cleared so far: leads descending, each row 0 where the others lead -/
structure BkI (cl : Int) (n : Nat) (ls : List (Nat × List Int)) (cs : List (Nat × List Int)) : Prop where
  I : LdI cl n cs
  to : ∀ l ∈ cs, Spn cl n (rowsL ls) l.2
  from_ : ∀ l ∈ ls, l.1 ∈ cs.map (·.1) → Spn cl n (rowsL cs) l.2
  desc : cs.Pairwise (fun a b => b.1 < a.1)
theorem bk_step {a : Nat} {cs : List (Nat × List Int)} (hc : cl ∈ clocks) (L : LdI cl n ls) (B : BkI cl n ls cs) (ma : a ∈ ls.map (·.1)) (lt : ∀ l ∈ cs, a < l.1) :
    BkI cl n ls (cs ++ [(a, leftOf cl cs (findL ls a))]) ∧ putL cs a (leftOf cl cs (findL ls a)) = cs ++ [(a, leftOf cl cs (findL ls a))] := by
  have c3 := clocks_3 hc
  have h0 : 0 < cl := by omega
  have fm := findL_mem ma
  have ox : RowOk cl n (findL ls a) := (L.ok _ fm).2
  have an : a < n := (L.ok _ fm).1
  have oL := left_M h0 B.I.ok ox
  have okL : RowOk cl n (leftOf cl cs (findL ls a)) := by rw [oL]; exact clrM_ok h0 B.I.ok ox
  have z : ∀ l ∈ cs, (leftOf cl cs (findL ls a)).getD l.1 0 = 0 := by rw [oL]; exact B.I.zero h0 ox
  have low : ∀ k, k ≤ a → ∀ l ∈ cs, l.2.getD k 0 = 0 := fun k hk l m => before_lead (by rw [(B.I.one l m).1]; have := lt l m; omega)
  have keep : ∀ k, k ≤ a → (leftOf cl cs (findL ls a)).getD k 0 = (findL ls a).getD k 0 := fun k hk => by rw [oL]; exact clrM_keep h0 B.I.ok ox (low k hk)
  have one := L.one _ fm
  have e1 : (leftOf cl cs (findL ls a)).getD a 0 = 1 := by rw [keep a (Nat.le_refl _)]; exact one.2
  have e2 : leadOf (leftOf cl cs (findL ls a)) = a := lead_eq (by rw [e1]; decide) fun j hj => by
    rw [keep j (by omega)]
    exact before_lead (by rw [one.1]; exact hj)
  have okn : LdOk cl n (cs ++ [(a, leftOf cl cs (findL ls a))]) := fun l m => by
    rcases List.mem_append.mp m with m | m
    · exact B.I.ok l m
    · rw [List.mem_singleton.mp m]; exact ⟨an, okL⟩
  refine ⟨⟨⟨okn, fun l m => ?_, ?_⟩, fun l m => ?_, fun l m mm => ?_, ?_⟩, putL_new fun l m e => by have := lt l m; omega⟩
  · rcases List.mem_append.mp m with m | m
    · exact B.I.one l m
    · rw [List.mem_singleton.mp m]; exact ⟨e2, e1⟩
  · refine List.pairwise_append.mpr ⟨B.I.clr, List.pairwise_singleton _ _, fun l m k mk => ?_⟩
    rw [List.mem_singleton.mp mk]
    exact z l m
  · rcases List.mem_append.mp m with m | m
    · exact B.to l m
    · rw [List.mem_singleton.mp m]
      show Spn cl n (rowsL ls) (leftOf cl cs (findL ls a))
      rw [oL]
      exact clrM_in h0 (rowsL_ok L.ok) B.to (.of h0 (rowsL_ok L.ok) (rowsL_mem fm))
  · have oN := rowsL_ok okn
    by_cases e : l.1 = a
    · have el : l.2 = findL ls a := by rw [← e]; exact (findL_of L.nodup m).symm
      rw [el]
      refine clrM_back h0 oN B.I.ok ox (fun k mk => .of h0 oN (rowsL_mem (List.mem_append_left _ mk))) ?_
      rw [← oL]
      exact .of h0 oN (rowsL_mem (List.mem_append_right _ (List.mem_singleton.mpr rfl)))
    · have m2 : l.1 ∈ cs.map (·.1) := by
        rw [List.map_append] at mm
        rcases List.mem_append.mp mm with q | q
        · exact q
        · exact absurd (List.mem_singleton.mp q) e
      exact (B.from_ l m m2).sub fun y my => by
        unfold rowsL at my ⊢
        rw [List.map_append]
        exact List.mem_append_left _ my
  · refine List.pairwise_append.mpr ⟨B.desc, List.pairwise_singleton _ _, fun l m k mk => ?_⟩
    rw [List.mem_singleton.mp mk]
    exact lt l m
theorem bk_fold (hc : cl ∈ clocks) (L : LdI cl n ls) : ∀ {as : List Nat} {cs : List (Nat × List Int)}, BkI cl n ls cs → (∀ a ∈ as, a ∈ ls.map (·.1)) → as.Pairwise (fun a b => b < a) → (∀ a ∈ as, ∀ l ∈ cs, a < l.1) →
    ∃ cs', as.foldl (backOne cl ls) (cs, rowsL cs) = (cs', rowsL cs') ∧ BkI cl n ls cs' ∧ cs'.map (·.1) = cs.map (·.1) ++ as
  | [], cs, B, _, _, _ => ⟨cs, rfl, B, by rw [List.append_nil]⟩
  | a :: as, cs, B, m, d, lt => by
    obtain ⟨d1, d2⟩ := List.pairwise_cons.mp d
    obtain ⟨B2, e2⟩ := bk_step hc L B (m a (List.mem_cons_self ..)) (lt a (List.mem_cons_self ..))
    obtain ⟨cs', h1, h2, h3⟩ := bk_fold hc L (as := as) B2 (fun b mb => m b (List.mem_cons_of_mem _ mb)) d2 fun b mb l ml => by
      rcases List.mem_append.mp ml with ml | ml
      · exact lt b (List.mem_cons_of_mem _ mb) l ml
      · rw [List.mem_singleton.mp ml]; exact d1 b mb
    refine ⟨cs', ?_, h2, ?_⟩
    · rw [List.foldl_cons, backOne_row, e2]
      have e : rowsL cs ++ [leftOf cl cs (findL ls a)] = rowsL (cs ++ [(a, leftOf cl cs (findL ls a))]) := by unfold rowsL; rw [List.map_append]; rfl
      show as.foldl (backOne cl ls) (_, rowsL cs ++ [leftOf cl cs (findL ls a)]) = _
      rw [e]
      exact h1
    · rw [h3, List.map_append, List.append_assoc]
      rfl
theorem desc_strict {as : List Nat} (h : as.Pairwise (· ≥ ·)) (nd : as.Nodup) : as.Pairwise (fun a b => b < a) :=
  (h.and nd).imp fun {a b} w => by
    have h1 : b ≤ a := w.1
    have h2 : a ≠ b := w.2
    omega
/-- the program's least form is one, of the same space -/
theorem least_ok (hc : cl ∈ clocks) (o : RowsOk cl n rs) : LF cl n (leastForm cl n rs) ∧ (∀ r ∈ leastForm cl n rs, Spn cl n rs r) ∧ ∀ r ∈ rs, Spn cl n (leastForm cl n rs) r := by
  have c3 := clocks_3 hc
  have h0 : 0 < cl := by omega
  have S := leading_S hc o
  have pm := descend_perm ((leading cl n rs).map (·.1))
  have nd : (descend ((leading cl n rs).map (·.1))).Nodup := pm.nodup_iff.mpr S.I.nodup
  obtain ⟨cs, h1, B, h3⟩ := bk_fold hc S.I (as := descend ((leading cl n rs).map (·.1))) (cs := []) ⟨⟨(fun _ m => nomatch m), (fun _ m => nomatch m), .nil⟩, (fun _ m => nomatch m), (fun _ _ m => nomatch m), .nil⟩
    (fun a m => pm.mem_iff.mp m) (desc_strict (descend_desc _) nd) fun _ _ _ m => nomatch m
  have e : leastForm cl n rs = (rowsL cs).reverse := by
    unfold leastForm
    show ((descend ((leading cl n rs).map (·.1))).foldl (backOne cl (leading cl n rs)) ([], rowsL [])).2.reverse = _
    rw [h1]
  have oC := rowsL_ok B.I.ok
  have key : ∀ l ∈ cs, ∀ k ∈ cs, l.1 ≠ k.1 → k.2.getD l.1 0 = 0 := by
    have aux : ∀ {qs : List (Nat × List Int)}, (∀ l ∈ qs, leadOf l.2 = l.1) → qs.Pairwise (fun a b => b.2.getD a.1 0 = 0) → qs.Pairwise (fun a b => b.1 < a.1) → ∀ l ∈ qs, ∀ k ∈ qs, l.1 ≠ k.1 → k.2.getD l.1 0 = 0 := by
      intro qs
      induction qs with
      | nil => intro _ _ _ l m; cases m
      | cons q qs ih =>
        intro f c d l ml k mk ne
        obtain ⟨c1, c2⟩ := List.pairwise_cons.mp c
        obtain ⟨d1, d2⟩ := List.pairwise_cons.mp d
        rcases List.mem_cons.mp ml with el | ml' <;> rcases List.mem_cons.mp mk with ek | mk'
        · rw [el, ek] at ne; exact absurd rfl ne
        · rw [el]; exact c1 k mk'
        · rw [ek]
          refine before_lead ?_
          rw [f q (List.mem_cons_self ..)]
          exact d1 l ml'
        · exact ih (fun l m => f l (List.mem_cons_of_mem _ m)) c2 d2 l ml' k mk' ne
    exact aux (fun l m => (B.I.one l m).1) B.I.clr B.desc
  have mem : ∀ r, r ∈ leastForm cl n rs ↔ r ∈ rowsL cs := fun r => by rw [e]; exact List.mem_reverse
  refine ⟨⟨fun r m => oC r ((mem r).mp m), fun r m => ?_, ?_, fun r m s ms ne => ?_⟩, fun r m => ?_, fun r m => ?_⟩
  · obtain ⟨l, ml, rfl⟩ := List.mem_map.mp ((mem r).mp m)
    obtain ⟨o1, o2⟩ := B.I.one l ml
    rw [o1]
    exact ⟨(B.I.ok l ml).1, o2⟩
  · rw [e]
    refine List.pairwise_reverse.mpr (List.pairwise_map.mpr (B.desc.imp_of_mem fun {a b} ma mb h => ?_))
    rw [(B.I.one a ma).1, (B.I.one b mb).1]
    exact h
  · obtain ⟨l, ml, rfl⟩ := List.mem_map.mp ((mem r).mp m)
    obtain ⟨k, mk, rfl⟩ := List.mem_map.mp ((mem s).mp ms)
    rw [(B.I.one l ml).1]
    refine key l ml k mk fun eq => ne ?_
    have a := findL_of B.I.nodup ml
    have b := findL_of B.I.nodup mk
    rw [← a, ← b, eq]
  · obtain ⟨l, ml, rfl⟩ := List.mem_map.mp ((mem r).mp m)
    exact (B.to l ml).mono h0 (rowsL_ok S.I.ok) o fun s ms => by
      obtain ⟨k, mk, rfl⟩ := List.mem_map.mp ms
      exact S.to k mk
  · have oF : RowsOk cl n (leastForm cl n rs) := fun r m => oC r ((mem r).mp m)
    refine (S.from_ r m).mono h0 (rowsL_ok S.I.ok) oF fun s ms => ?_
    obtain ⟨k, mk, rfl⟩ := List.mem_map.mp ms
    refine (B.from_ k mk ?_).sub fun y my => (mem y).mpr my
    rw [h3]
    exact List.mem_append_right _ (pm.mem_iff.mpr (List.mem_map.mpr ⟨k, mk, rfl⟩))
/-- any least form of the same space is the program's -/
theorem least_is {ms : List (List Int)} (hc : cl ∈ clocks) (o : RowsOk cl n rs) (g : LF cl n ms) (f1 : ∀ r ∈ ms, Spn cl n rs r) (f2 : ∀ r ∈ rs, Spn cl n ms r) : leastForm cl n rs = ms := by
  have c3 := clocks_3 hc
  have h0 : 0 < cl := by omega
  obtain ⟨h, a, b⟩ := least_ok hc o
  exact h.one h0 g (fun r m => (a r m).mono h0 o g.ok f2) fun r m => (f1 r m).mono h0 o h.ok b
/-- two lists of rows give one space -/
theorem least_same (hc : cl ∈ clocks) (o : RowsOk cl n rs) (o2 : RowsOk cl n ss) (f1 : ∀ r ∈ rs, Spn cl n ss r) (f2 : ∀ r ∈ ss, Spn cl n rs r) : leastForm cl n rs = leastForm cl n ss := by
  have c3 := clocks_3 hc
  have h0 : 0 < cl := by omega
  obtain ⟨h, a, b⟩ := least_ok hc o2
  exact least_is hc o h (fun r m => (a r m).mono h0 o2 o f2) fun r m => (f1 r m).mono h0 o2 h.ok b
end
end Rp
namespace Rp
/-! ### a law's own clearing, column by column -/
section
variable {cl t u b : Int} {n c s : Nat} {x y r first : List Int} {rs ss left found : List (List Int)}
def lessR (cl : Int) (c : Nat) (lead row : List Int) : List Int := adM cl (-(row.getD c 0)) row lead
structure OwI (cl : Int) (n c : Nat) (rs left found : List (List Int)) : Prop where
  okL : RowsOk cl n left
  zl : ∀ r ∈ left, ∀ k, k < c → r.getD k 0 = 0
  lf : LF cl n found
  lt : ∀ r ∈ found, leadOf r < c
  to : ∀ r ∈ left ++ found, Spn cl n rs r
  from_ : ∀ r ∈ rs, Spn cl n (left ++ found) r
theorem LF.nil : LF cl n [] := ⟨(fun _ m => nomatch m), (fun _ m => nomatch m), .nil, (fun _ m => nomatch m)⟩
theorem own_start (h : 0 < cl) (o : RowsOk cl n rs) : OwI cl n 0 rs rs [] :=
  ⟨o, (fun _ _ k hk => by omega), .nil, (fun _ m => nomatch m), (fun r m => by rw [List.append_nil] at m; exact .of h o m), fun r m => by rw [List.append_nil]; exact .of h o m⟩
theorem own_none (I : OwI cl n c rs left found) (z : ∀ r ∈ left, r.getD c 0 = 0) : OwI cl n (c + 1) rs left found :=
  ⟨I.okL, (fun r m k hk => by
    by_cases e : k = c
    · rw [e]; exact z r m
    · exact I.zl r m k (by omega)), I.lf, (fun r m => by have := I.lt r m; omega), I.to, I.from_⟩
theorem mem_erase {α : Type} {x : α} : ∀ {l : List α} {s : Nat} {y : α}, l[s]? = some x → y ∈ l → y = x ∨ y ∈ l.eraseIdx s
  | [], _, _, e, _ => by cases e
  | a :: l, 0, y, e, m => by
    cases e
    rcases List.mem_cons.mp m with e | m
    · exact .inl e
    · exact .inr m
  | a :: l, s + 1, y, e, m => by
    rcases List.mem_cons.mp m with e2 | m
    · exact .inr (by rw [e2]; exact List.mem_cons_self ..)
    · rcases mem_erase (s := s) e m with z | z
      · exact .inl z
      · exact .inr (List.mem_cons_of_mem _ z)
theorem erase_mem {α : Type} {y : α} {l : List α} {s : Nat} (m : y ∈ l.eraseIdx s) : y ∈ l := List.mem_of_mem_eraseIdx m
theorem mulM_at (k : Nat) : (mulM cl t x).getD k 0 = (t * x.getD k 0) % cl := by
  unfold mulM
  by_cases hk : k < x.length
  · rw [List.getD_eq_getElem?_getD, List.getElem?_map, gd_lt hk]
    rfl
  · rw [gd_ge (xs := x) (by omega), gd_ge (by rw [List.length_map]; omega)]
    simp
theorem mulM_len : (mulM cl t x).length = x.length := List.length_map ..
theorem mulM_ok (h : 0 < cl) (o : RowOk cl n x) : RowOk cl n (mulM cl t x) := ⟨by rw [mulM_len, o.1], fun y m => by
  unfold mulM at m
  obtain ⟨z, _, rfl⟩ := List.mem_map.mp m
  exact ⟨Int.emod_nonneg _ (by omega), Int.emod_lt_of_pos _ h⟩⟩
theorem mul_back (h : 0 < cl) (o : RowOk cl n x) (e : (b * u) % cl = 1) : mulM cl u (mulM cl b x) = x := by
  refine row_ext' (by rw [mulM_len, mulM_len]) fun k _ => ?_
  rw [mulM_at, mulM_at, Int.mul_emod, Int.emod_emod, ← Int.mul_emod, ← Int.mul_assoc, Int.mul_comm u, Int.mul_emod, e, Int.one_mul, Int.emod_emod]
  exact em_of (dig_gd o.2 h k)
theorem own_step (h1 : 1 < cl) (I : OwI cl n c rs left found) (os : RowsOk cl n rs) (cn : c < n) (e : left[s]? = some first) (e1 : (b * first.getD c 0) % cl = 1) :
    OwI cl n (c + 1) rs ((left.eraseIdx s).map (lessR cl c (mulM cl b first))) (found.map (lessR cl c (mulM cl b first)) ++ [mulM cl b first]) := by
  have h0 : 0 < cl := by omega
  have mf : first ∈ left := List.mem_of_getElem? e
  have of_ := I.okL first mf
  obtain ⟨lead, el⟩ : ∃ l, l = mulM cl b first := ⟨_, rfl⟩
  have ol : RowOk cl n lead := by rw [el]; exact mulM_ok h0 of_
  have lz : ∀ k, k < c → lead.getD k 0 = 0 := fun k hk => by rw [el, mulM_at, I.zl first mf k hk, Int.mul_zero]; simp
  have l1 : lead.getD c 0 = 1 := by rw [el, mulM_at]; exact e1
  have ll : leadOf lead = c := lead_eq (by rw [l1]; decide) lz
  rw [← el]
  have at_ : ∀ {y : List Int}, RowOk cl n y → ∀ k, (lessR cl c lead y).getD k 0 = (y.getD k 0 + -(y.getD c 0) * lead.getD k 0) % cl := fun {y} oy k => adM_at (by rw [oy.1, ol.1]) k
  have low : ∀ {y : List Int}, RowOk cl n y → ∀ k, k < c → (lessR cl c lead y).getD k 0 = y.getD k 0 := fun {y} oy k hk => by
    rw [at_ oy, lz k hk, Int.mul_zero, Int.add_zero]
    exact em_of (dig_gd oy.2 h0 k)
  have atc : ∀ {y : List Int}, RowOk cl n y → (lessR cl c lead y).getD c 0 = 0 := fun {y} oy => by
    rw [at_ oy, l1, Int.mul_one, show y.getD c 0 + -(y.getD c 0) = 0 by omega]
    simp
  have okr : ∀ {y : List Int}, RowOk cl n y → RowOk cl n (lessR cl c lead y) := fun {y} oy => adM_ok h0 oy ol
  have fl : ∀ f ∈ found, leadOf (lessR cl c lead f) = leadOf f := fun f m => by
    have lt := I.lt f m
    refine lead_eq (by rw [low (I.lf.ok f m) _ lt, (I.lf.lead f m).2]; decide) fun j hj => ?_
    rw [low (I.lf.ok f m) j (by omega)]
    exact before_lead hj
  have inn : Spn cl n rs lead := by
    rw [el]
    exact (I.to first (List.mem_append_left _ mf)).mul h0 os b
  have oN : RowsOk cl n ((left.eraseIdx s).map (lessR cl c lead) ++ (found.map (lessR cl c lead) ++ [lead])) := fun z m => by
    rcases List.mem_append.mp m with m | m
    · obtain ⟨y, my, rfl⟩ := List.mem_map.mp m
      exact okr (I.okL y (erase_mem my))
    · rcases List.mem_append.mp m with m | m
      · obtain ⟨y, my, rfl⟩ := List.mem_map.mp m
        exact okr (I.lf.ok y my)
      · rw [List.mem_singleton.mp m]; exact ol
  have lin : Spn cl n ((left.eraseIdx s).map (lessR cl c lead) ++ (found.map (lessR cl c lead) ++ [lead])) lead := .of h0 oN (List.mem_append_right _ (List.mem_append_right _ (List.mem_singleton.mpr rfl)))
  have bk : ∀ {y : List Int}, RowOk cl n y → Spn cl n ((left.eraseIdx s).map (lessR cl c lead) ++ (found.map (lessR cl c lead) ++ [lead])) (lessR cl c lead y) → Spn cl n ((left.eraseIdx s).map (lessR cl c lead) ++ (found.map (lessR cl c lead) ++ [lead])) y := fun {y} oy a => by
    have w := a.comb h0 oN lin (-(-(y.getD c 0)))
    rwa [show adM cl (-(-(y.getD c 0))) (lessR cl c lead y) lead = y from adM_back h0 oy ol] at w
  refine ⟨fun z m => oN z (List.mem_append_left _ m), fun z m k hk => ?_, ⟨fun z m => oN z (List.mem_append_right _ m), fun z m => ?_, ?_, fun z m w mw ne => ?_⟩, fun z m => ?_, fun z m => ?_, fun z m => ?_⟩
  · obtain ⟨y, my, rfl⟩ := List.mem_map.mp m
    have oy := I.okL y (erase_mem my)
    by_cases ek : k = c
    · rw [ek]; exact atc oy
    · rw [low oy k (by omega)]
      exact I.zl y (erase_mem my) k (by omega)
  · rcases List.mem_append.mp m with m | m
    · obtain ⟨f, mf2, rfl⟩ := List.mem_map.mp m
      have lt := I.lt f mf2
      rw [fl f mf2]
      exact ⟨by omega, by rw [low (I.lf.ok f mf2) _ lt]; exact (I.lf.lead f mf2).2⟩
    · rw [List.mem_singleton.mp m, ll]
      exact ⟨cn, l1⟩
  · refine List.pairwise_append.mpr ⟨List.pairwise_map.mpr (I.lf.asc.imp_of_mem fun {p q} mp mq h => by rw [fl p mp, fl q mq]; exact h), List.pairwise_singleton _ _, fun z m w mw => ?_⟩
    obtain ⟨f, mf2, rfl⟩ := List.mem_map.mp m
    rw [List.mem_singleton.mp mw, ll, fl f mf2]
    exact I.lt f mf2
  · rcases List.mem_append.mp m with m | m
    · obtain ⟨f, mf2, rfl⟩ := List.mem_map.mp m
      have lt := I.lt f mf2
      rw [fl f mf2]
      rcases List.mem_append.mp mw with mw | mw
      · obtain ⟨g, mg, rfl⟩ := List.mem_map.mp mw
        rw [low (I.lf.ok g mg) _ lt]
        exact I.lf.clr f mf2 g mg fun eq => ne (by rw [eq])
      · rw [List.mem_singleton.mp mw]
        exact lz _ lt
    · have ez := List.mem_singleton.mp m
      rw [ez, ll]
      rcases List.mem_append.mp mw with mw | mw
      · obtain ⟨g, mg, rfl⟩ := List.mem_map.mp mw
        exact atc (I.lf.ok g mg)
      · exact absurd (ez.trans (List.mem_singleton.mp mw).symm) ne
  · rcases List.mem_append.mp m with m | m
    · obtain ⟨f, mf2, rfl⟩ := List.mem_map.mp m
      have := I.lt f mf2
      rw [fl f mf2]
      omega
    · rw [List.mem_singleton.mp m, ll]
      omega
  · have cases_ : (∃ y, RowOk cl n y ∧ Spn cl n rs y ∧ z = lessR cl c lead y) ∨ z = lead := by
      rcases List.mem_append.mp m with m | m
      · obtain ⟨y, my, rfl⟩ := List.mem_map.mp m
        exact .inl ⟨y, I.okL y (erase_mem my), I.to y (List.mem_append_left _ (erase_mem my)), rfl⟩
      · rcases List.mem_append.mp m with m | m
        · obtain ⟨y, my, rfl⟩ := List.mem_map.mp m
          exact .inl ⟨y, I.lf.ok y my, I.to y (List.mem_append_right _ my), rfl⟩
        · exact .inr (List.mem_singleton.mp m)
    rcases cases_ with ⟨y, oy, sy, rfl⟩ | rfl
    · exact sy.comb h0 os inn _
    · exact inn
  · refine (I.from_ z m).mono h0 (fun w mw => ?_) oN fun w mw => ?_
    · rcases List.mem_append.mp mw with mw | mw
      · exact I.okL w mw
      · exact I.lf.ok w mw
    · rcases List.mem_append.mp mw with mw | mw
      · rcases mem_erase e mw with eq | me
        · rw [eq, ← mul_back h0 of_ e1, ← el]
          exact lin.mul h0 oN _
        · exact bk (I.okL w mw) (.of h0 oN (List.mem_append_left _ (List.mem_map.mpr ⟨w, me, rfl⟩)))
      · exact bk (I.lf.ok w mw) (.of h0 oN (List.mem_append_right _ (List.mem_append_left _ (List.mem_map.mpr ⟨w, mw, rfl⟩))))
theorem own_end (hc : cl ∈ clocks) (I : OwI cl n n rs left found) (os : RowsOk cl n rs) : leastForm cl n rs = found := by
  have c3 := clocks_3 hc
  have h0 : 0 < cl := by omega
  refine least_is hc os I.lf (fun r m => I.to r (List.mem_append_right _ m)) fun r m => ?_
  refine (I.from_ r m).mono h0 (fun w mw => ?_) I.lf.ok fun w mw => ?_
  · rcases List.mem_append.mp mw with mw | mw
    · exact I.okL w mw
    · exact I.lf.ok w mw
  · rcases List.mem_append.mp mw with mw | mw
    · have ow := I.okL w mw
      have e : w = zeroR n := row_ext' (by rw [ow.1]; exact (List.length_replicate ..).symm) fun k hk => by
        rw [zeroR_at]
        exact I.zl w mw k (by rw [← ow.1]; exact hk)
      rw [e]
      exact .zero
    · exact .of h0 I.lf.ok mw
/-- no rows, no row in the least form -/
theorem least_nil (hc : cl ∈ clocks) : leastForm cl n [] = [] := least_is hc (fun _ m => nomatch m) .nil (fun _ m => nomatch m) fun _ m => nomatch m
end
end Rp
namespace Rp
open PySem PySem.Spec PyProof.Rows L2 LamX RZ
/-! ### comprehensions: each item gives a value of which R tells -/
section
variable {J : It} {n : Nat} {G : Hp → Prop} {Y : Nat → Hp → V → Hp → Prop} {g : TG} {te : TE} {vs : List Nat} {σ : L2.St} {H1 : Hp} {D : Addr} {Qd : Hp → Prop}
/-- what is put behind the list at D -/
theorem put_but {H : Hp} {o : HO} : ∀ b u, b ≠ D → H b = some u → upd H D o b = some u := fun b u nb e => by rw [upd_ne nb]; exact e
/-- nothing but new objects -/
theorem lc_new (W : Walk J n G Y) (R : Nat → V → Hp → Prop) (stab : ∀ i y H H', (∀ b o, b ≠ D → H b = some o → H' b = some o) → R i y H → R i y H') (hG : ∀ H, Same H1 H → G H) (hD : H1 D = none) (hn : n < sizeLine)
    (step : ∀ i x H H', i < n → Same H1 H → (∃ xs, H D = some (.lst xs)) → Y i H x H' → ∀ Qn : VK, (∀ y H4, Same H H4 → R i y H4 → Qn y H4) → g x (wipe σ vs) H' fun σ2 H2 => wipe σ2 vs = wipe σ vs ∧ te σ2 H2 Qn)
    (done : ∀ H ys, Same H1 H → H D = some (.lst ys) → ys.length = n → (∀ i y, ys[i]? = some y → R i y H) → Qd H) :
    ∃ W : Nat → Nat → Hp → Prop, (∃ m, W 0 m (upd H1 D (.lst []))) ∧ ∀ (i m : Nat) (H : Hp), W i m H → J.stop i H ∧ Qd H ∨ J.go i H ∧ ∃ Nx : Hp → Prop, (∀ H', Nx H' → ∃ m', m' < m ∧ W (i + 1) m' H') ∧
      ∀ (x : V) (H' : Hp), J.yld i H x H' → g x (wipe σ vs) H' fun σ2 H2 => wipe σ2 vs = wipe σ vs ∧ tYes σ2 H2 fun b H3 => if b = true then te σ2 H3 fun y H4 => ∃ acc, H4 D = some (.lst acc) ∧ acc.length < sizeLine ∧ Nx (upd H4 D (.lst (acc ++ [y]))) else Nx H3 := by
  refine lc_it W (tt := tYes) (fun i H => Same H1 H ∧ ∃ ys, H D = some (.lst ys) ∧ ys.length = i ∧ ∀ j y, ys[j]? = some y → R j y H) ⟨same_neu (Same.refl _) hD, [], upd_same, rfl, fun j y e => by simp at e⟩ (fun i H _ h => hG H h.1) ?_ ?_
  · rintro i x H H' hi ⟨s, ys, eD, ly, hy⟩ hY
    refine step i x H H' hi s ⟨_, eD⟩ hY _ fun y H4 s4 ry => ?_
    have e4 := s4 _ _ eD
    refine ⟨ys, e4, by omega, fun b o e => ?_, ys ++ [y], upd_same, by rw [List.length_append, ly]; rfl, fun j z ej => ?_⟩
    · rw [upd_ne (ne_of_none e hD)]
      exact s4 b o (s b o e)
    · by_cases hj : j < ys.length
      · rw [List.getElem?_append_left hj] at ej
        exact stab _ _ _ _ put_but (stab _ _ H H4 (fun b o _ e => s4 b o e) (hy j z ej))
      · rw [List.getElem?_append_right (by omega)] at ej
        have : j = i := by
          have := (List.getElem?_eq_some_iff.mp ej).1
          simp at this
          omega
        subst this
        rw [show j - ys.length = 0 by omega] at ej
        have e := Option.some.inj ej
        rw [← e]
        exact stab _ _ _ _ put_but ry
  · rintro H ⟨s, ys, eD, ly, hy⟩
    exact done H ys s eD ly hy
/-- items that draw, m times at most each -/
theorem lc_drw {q c : Addr} {ns : List Int} {lap m : Nat} (W : Walk J n G Y) (R : Nat → V → Hp → Prop) (stab : ∀ i y H H', (∀ b o, b ≠ q → b ≠ D → H b = some o → H' b = some o) → R i y H → R i y H') (hG : ∀ H, But q H1 H → G H) (hD : H1 D = none) (hn : n < sizeLine)
    (Dr1 : Dr q c ns lap H1)
    (step : ∀ i x H H' l, i < n → But q H1 H → D ≠ q → (∃ xs, H D = some (.lst xs)) → l ≤ lap + m * i → Dr q c ns l H → Y i H x H' → ∀ Qn : VK, (∀ y H4 l', l' ≤ l + m → Dr q c ns l' H4 → But q H H4 → R i y H4 → Qn y H4) → g x (wipe σ vs) H' fun σ2 H2 => wipe σ2 vs = wipe σ vs ∧ te σ2 H2 Qn)
    (done : ∀ H ys l, l ≤ lap + m * n → Dr q c ns l H → But q H1 H → D ≠ q → H D = some (.lst ys) → ys.length = n → (∀ i y, ys[i]? = some y → R i y H) → Qd H) :
    ∃ W : Nat → Nat → Hp → Prop, (∃ m, W 0 m (upd H1 D (.lst []))) ∧ ∀ (i m : Nat) (H : Hp), W i m H → J.stop i H ∧ Qd H ∨ J.go i H ∧ ∃ Nx : Hp → Prop, (∀ H', Nx H' → ∃ m', m' < m ∧ W (i + 1) m' H') ∧
      ∀ (x : V) (H' : Hp), J.yld i H x H' → g x (wipe σ vs) H' fun σ2 H2 => wipe σ2 vs = wipe σ vs ∧ tYes σ2 H2 fun b H3 => if b = true then te σ2 H3 fun y H4 => ∃ acc, H4 D = some (.lst acc) ∧ acc.length < sizeLine ∧ Nx (upd H4 D (.lst (acc ++ [y]))) else Nx H3 := by
  have nDq : D ≠ q := dr_neq Dr1 hD
  have nDc : D ≠ c := (ne_of_none Dr1.cells hD).symm
  refine lc_it W (tt := tYes) (fun i H => But q H1 H ∧ ∃ ys l, l ≤ lap + m * i ∧ Dr q c ns l H ∧ H D = some (.lst ys) ∧ ys.length = i ∧ ∀ j y, ys[j]? = some y → R j y H) ⟨(But.refl q H1).neu hD, [], lap, Nat.le_refl _, Dr1.neu hD, upd_same, rfl, fun j y e => by simp at e⟩ (fun i H _ h => hG H h.1) ?_ ?_
  · rintro i x H H' hi ⟨s, ys, l, hl, dr, eD, ly, hy⟩ hY
    refine step i x H H' l hi s nDq ⟨_, eD⟩ hl dr hY _ fun y H4 l' hl' dr' b4 ry => ?_
    have e4 := b4 _ _ nDq eD
    have sk : ∀ {H5 H6 : Hp}, (∀ b o, b ≠ D → H5 b = some o → H6 b = some o) → ∀ b o, b ≠ q → b ≠ D → H5 b = some o → H6 b = some o := fun f b o _ nd e => f b o nd e
    refine ⟨ys, e4, by omega, fun b o nb e => ?_, ys ++ [y], l', by rw [Nat.mul_succ]; omega, ?_, upd_same, by rw [List.length_append, ly]; rfl, fun j z ej => ?_⟩
    · rw [upd_ne (ne_of_none e hD)]
      exact b4 b o nb (s b o nb e)
    · obtain ⟨ne, ⟨rest, hb⟩, hc, hlen⟩ := dr'
      exact ⟨ne, ⟨rest, by rw [upd_ne nDq.symm]; exact hb⟩, by rw [upd_ne nDc.symm]; exact hc, hlen⟩
    · by_cases hj : j < ys.length
      · rw [List.getElem?_append_left hj] at ej
        exact stab _ _ _ _ (sk put_but) (stab _ _ H H4 (fun b o nq _ e => b4 b o nq e) (hy j z ej))
      · rw [List.getElem?_append_right (by omega)] at ej
        have : j = i := by
          have := (List.getElem?_eq_some_iff.mp ej).1
          simp at this
          omega
        subst this
        rw [show j - ys.length = 0 by omega] at ej
        have e := Option.some.inj ej
        rw [← e]
        exact stab _ _ _ _ (sk put_but) ry
  · rintro H ⟨s, ys, l, hl, dr, eD, ly, hy⟩
    exact done H ys l hl dr s nDq eD ly hy
end
/-- values that are ints -/
theorem ints_vals {P : Nat → Int → Prop} : ∀ {ys : List V}, (∀ i y, ys[i]? = some y → ∃ v : Int, y = .int v ∧ P i v) → ∃ xs : List Int, ys = xs.map V.int ∧ ∀ i v, xs[i]? = some v → P i v
  | [], _ => ⟨[], rfl, fun i v e => by simp at e⟩
  | y :: ys, h => by
    obtain ⟨v, rfl, pv⟩ := h 0 y rfl
    obtain ⟨xs, rfl, hx⟩ := ints_vals (P := fun i => P (i + 1)) fun i y e => h (i + 1) y e
    exact ⟨v :: xs, rfl, fun i w e => by
      cases i with
      | zero => cases e; exact pv
      | succ i => exact hx i w e⟩
/-- values that are rows -/
theorem rows_vals {P : Nat → Addr → List Int → Prop} : ∀ {ys : List V}, (∀ i y, ys[i]? = some y → ∃ a xs, y = .ref a ∧ P i a xs) → ∃ (as : List Addr) (rs : List (List Int)), ys = as.map V.ref ∧ as.length = rs.length ∧ ∀ (i : Nat) a xs, as[i]? = some a → rs[i]? = some xs → P i a xs
  | [], _ => ⟨[], [], rfl, rfl, fun i v _ e => by simp at e⟩
  | y :: ys, h => by
    obtain ⟨a, xs, rfl, pv⟩ := h 0 y rfl
    obtain ⟨as, rs, rfl, l, hx⟩ := rows_vals (P := fun i => P (i + 1)) fun i y e => h (i + 1) y e
    exact ⟨a :: as, xs :: rs, rfl, by rw [List.length_cons, List.length_cons, l], fun i b zs e1 e2 => by
      cases i with
      | zero => cases e1; cases e2; exact pv
      | succ i => exact hx i b zs e1 e2⟩
/-- rows, each a list, off q -/
def LstRw (q : Addr) (H : Hp) (as : List Addr) (rs : List (List Int)) : Prop := as.length = rs.length ∧ ∀ (i : Nat) (a : Addr) (xs : List Int), as[i]? = some a → rs[i]? = some xs → a ≠ q ∧ H a = some (.lst (xs.map V.int))
def TupRw (H : Hp) (as : List Addr) (rs : List (List Int)) : Prop := as.length = rs.length ∧ ∀ (i : Nat) (a : Addr) (xs : List Int), as[i]? = some a → rs[i]? = some xs → H a = some (.tup (xs.map V.int))
section
variable {K : PySem.W.Frag} {q D : Addr} {H H' : Hp} {as : List Addr} {rs : List (List Int)}
theorem LstRw.but (h : LstRw q H as rs) (b : ∀ b o, b ≠ q → H b = some o → H' b = some o) : LstRw q H' as rs := ⟨h.1, fun i a xs e1 e2 => ⟨(h.2 i a xs e1 e2).1, b _ _ (h.2 i a xs e1 e2).1 (h.2 i a xs e1 e2).2⟩⟩
theorem LstRw.same (h : LstRw q H as rs) (s : Same H H') : LstRw q H' as rs := h.but fun b o _ e => s b o e
theorem TupRw.same (h : TupRw H as rs) (s : Same H H') : TupRw H' as rs := ⟨h.1, fun i a xs e1 e2 => s _ _ (h.2 i a xs e1 e2)⟩
theorem TupRw.at (h : TupRw H as rs) {i : Nat} {a : Addr} (e : as[i]? = some a) : ∃ xs, rs[i]? = some xs ∧ H a = some (.tup (xs.map V.int)) := by
  have hi : i < rs.length := by rw [← h.1]; exact (List.getElem?_eq_some_iff.mp e).1
  exact ⟨rs[i], List.getElem?_eq_getElem hi, h.2 i a _ e (List.getElem?_eq_getElem hi)⟩
theorem LstRw.at (h : LstRw q H as rs) {i : Nat} {a : Addr} (e : as[i]? = some a) : ∃ xs, rs[i]? = some xs ∧ a ≠ q ∧ H a = some (.lst (xs.map V.int)) := by
  have hi : i < rs.length := by rw [← h.1]; exact (List.getElem?_eq_some_iff.mp e).1
  exact ⟨rs[i], List.getElem?_eq_getElem hi, h.2 i a _ e (List.getElem?_eq_getElem hi)⟩
theorem TupRw.keep (h : TupRw H as rs) (k : ∀ b xs, H b = some (.tup xs) → H' b = some (.tup xs)) : TupRw H' as rs := ⟨h.1, fun i a xs e1 e2 => k _ _ (h.2 i a xs e1 e2)⟩
theorem LstRw.rows (h : LstRw q H as rs) : RowsOf K H (as.map V.ref) rs := by
  induction as generalizing rs with
  | nil =>
    cases rs with
    | nil => exact .nil
    | cons _ _ => cases h.1
  | cons a as ih =>
    cases rs with
    | nil => cases h.1
    | cons xs rs => exact .cons (.inl (SqL.of (h.2 0 a xs rfl rfl).2)) (ih ⟨by simpa using h.1, fun i b ys e1 e2 => h.2 (i + 1) b ys e1 e2⟩)
theorem TupRw.rows (h : TupRw H as rs) : RowsOf K H (as.map V.ref) rs := by
  induction as generalizing rs with
  | nil =>
    cases rs with
    | nil => exact .nil
    | cons _ _ => cases h.1
  | cons a as ih =>
    cases rs with
    | nil => cases h.1
    | cons xs rs => exact .cons (.inr (SqT.of (h.2 0 a xs rfl rfl))) (ih ⟨by simpa using h.1, fun i b ys e1 e2 => h.2 (i + 1) b ys e1 e2⟩)
theorem TupRw.tup {p : Addr} (h : TupRw H as rs) (e : H p = some (.tup (as.map V.ref))) : TupRows K H p rs := ⟨as, e, h.1, h.2⟩
theorem TupRw.vs (h : TupRw H as rs) (q : Addr) (hq : ∀ xs, H q ≠ some (.tup xs)) : RowVs q H (as.map V.ref) (rs.map fun r => some (r.map V.int)) := by
  induction as generalizing rs with
  | nil =>
    cases rs with
    | nil => exact .nil
    | cons _ _ => cases h.1
  | cons a as ih =>
    cases rs with
    | nil => cases h.1
    | cons xs rs =>
      have e := h.2 0 a xs rfl rfl
      refine .cons (.tup (fun z => hq _ (by rw [← z]; exact e)) e fun x m => ?_) (ih ⟨by simpa using h.1, fun i b ys e1 e2 => h.2 (i + 1) b ys e1 e2⟩)
      obtain ⟨i, _, rfl⟩ := List.mem_map.mp m
      exact .num i
theorem LstRw.vs (h : LstRw q H as rs) : RowVs q H (as.map V.ref) (rs.map fun r => some (r.map V.int)) := by
  induction as generalizing rs with
  | nil =>
    cases rs with
    | nil => exact .nil
    | cons _ _ => cases h.1
  | cons a as ih =>
    cases rs with
    | nil => cases h.1
    | cons xs rs =>
      obtain ⟨na, e⟩ := h.2 0 a xs rfl rfl
      refine .cons (.lst na e fun x m => ?_) (ih ⟨by simpa using h.1, fun i b ys e1 e2 => h.2 (i + 1) b ys e1 e2⟩)
      obtain ⟨i, _, rfl⟩ := List.mem_map.mp m
      exact .num i
theorem rowsI_of (rs : List (List Int)) : rowsI (rs.map fun r => some (r.map V.int)) = rs := by
  unfold rowsI
  rw [List.map_map]
  refine (List.map_congr_left fun r _ => ?_).trans (List.map_id rs)
  show (r.map V.int).map numOf = r
  rw [List.map_map]
  exact (List.map_congr_left fun _ _ => rfl).trans (List.map_id r)
theorem areB_of {cl : Int} {n : Nat} (h : RowsOk cl n rs) (l : rs.length ≤ 400) : areB (some (rs.map fun r => some (r.map V.int))) cl n = true := by
  show (decide (((rs.map fun r => some (r.map V.int)).length : Int) ≤ 400) && (rs.map fun r => some (r.map V.int)).all fun o => rowB o cl n) = true
  rw [List.length_map, decide_eq_true (by omega), Bool.true_and, List.all_eq_true]
  intro o m
  obtain ⟨r, mr, rfl⟩ := List.mem_map.mp m
  have o := h r mr
  have z := row_yes (vint_of (fun x mx => by have := o.2 x mx; omega : ∀ x ∈ r, 0 ≤ x ∧ x ≤ cl - 1))
  rw [List.length_map] at z
  rw [o.1] at z
  exact z
end

section
variable {J : It} {n : Nat} {G : Hp → Prop} {Y : Nat → Hp → V → Hp → Prop} {g : TG} {te : TE} {tt : TT} {vs : List Nat} {σ : L2.St} {H1 : Hp} {D : Addr} {Qd : Hp → Prop}
theorem list_eq {α : Type} {xs zs : List α} (l : xs.length = zs.length) (h : ∀ (i : Nat) (v : α), xs[i]? = some v → zs[i]? = some v) : xs = zs := by
  refine List.ext_getElem? fun i => ?_
  by_cases hi : i < xs.length
  · rw [List.getElem?_eq_getElem hi, h i _ (List.getElem?_eq_getElem hi)]
  · rw [List.getElem?_eq_none (by omega), List.getElem?_eq_none (by omega)]
/-- the values are known -/
theorem lc_val (W : Walk J n G Y) (zs : List V) (lz : zs.length = n) (hG : ∀ H, Same H1 H → G H) (hD : H1 D = none) (hn : n < sizeLine)
    (step : ∀ i x H H', i < n → Same H1 H → (∃ xs, H D = some (.lst xs)) → Y i H x H' → ∀ Qn : VK, (∀ y H4, zs[i]? = some y → Same H H4 → Qn y H4) → g x (wipe σ vs) H' fun σ2 H2 => wipe σ2 vs = wipe σ vs ∧ te σ2 H2 Qn)
    (done : ∀ H, Same H1 H → H D = some (.lst zs) → Qd H) :
    ∃ W : Nat → Nat → Hp → Prop, (∃ m, W 0 m (upd H1 D (.lst []))) ∧ ∀ (i m : Nat) (H : Hp), W i m H → J.stop i H ∧ Qd H ∨ J.go i H ∧ ∃ Nx : Hp → Prop, (∀ H', Nx H' → ∃ m', m' < m ∧ W (i + 1) m' H') ∧
      ∀ (x : V) (H' : Hp), J.yld i H x H' → g x (wipe σ vs) H' fun σ2 H2 => wipe σ2 vs = wipe σ vs ∧ tYes σ2 H2 fun b H3 => if b = true then te σ2 H3 fun y H4 => ∃ acc, H4 D = some (.lst acc) ∧ acc.length < sizeLine ∧ Nx (upd H4 D (.lst (acc ++ [y]))) else Nx H3 :=
  lc_new W (fun i y _ => zs[i]? = some y) (fun _ _ _ _ _ e => e) hG hD hn (fun i x H H' hi s e y Qn k => step i x H H' hi s e y Qn fun y H4 e s4 => k y H4 s4 e) fun H ys s e l h => done H s (by rw [e, list_eq (by rw [l, lz]) h])
/-- the rows are known, each a new list -/
theorem lc_rows (W : Walk J n G Y) (zs : List (List Int)) (lz : zs.length = n) (hG : ∀ H, Same H1 H → G H) (hD : H1 D = none) (hn : n < sizeLine)
    (step : ∀ i x H H' z, i < n → zs[i]? = some z → Same H1 H → (∃ xs, H D = some (.lst xs)) → Y i H x H' → ∀ Qn : VK, (∀ a H4, Same H H4 → a ≠ D → H4 a = some (.lst (z.map V.int)) → Qn (.ref a) H4) → g x (wipe σ vs) H' fun σ2 H2 => wipe σ2 vs = wipe σ vs ∧ te σ2 H2 Qn)
    (done : ∀ H as, Same H1 H → H D = some (.lst (as.map V.ref)) → LstRw D H as zs → Qd H) :
    ∃ W : Nat → Nat → Hp → Prop, (∃ m, W 0 m (upd H1 D (.lst []))) ∧ ∀ (i m : Nat) (H : Hp), W i m H → J.stop i H ∧ Qd H ∨ J.go i H ∧ ∃ Nx : Hp → Prop, (∀ H', Nx H' → ∃ m', m' < m ∧ W (i + 1) m' H') ∧
      ∀ (x : V) (H' : Hp), J.yld i H x H' → g x (wipe σ vs) H' fun σ2 H2 => wipe σ2 vs = wipe σ vs ∧ tYes σ2 H2 fun b H3 => if b = true then te σ2 H3 fun y H4 => ∃ acc, H4 D = some (.lst acc) ∧ acc.length < sizeLine ∧ Nx (upd H4 D (.lst (acc ++ [y]))) else Nx H3 := by
  refine lc_new W (fun i y H => ∃ a xs, y = .ref a ∧ zs[i]? = some xs ∧ a ≠ D ∧ H a = some (.lst (xs.map V.int))) ?_ hG hD hn ?_ ?_
  · rintro i y H H' f ⟨a, xs, e1, e2, e3, e4⟩
    exact ⟨a, xs, e1, e2, e3, f _ _ e3 e4⟩
  · intro i x H H' hi s e y Qn k
    exact step i x H H' zs[i] hi (List.getElem?_eq_getElem (by omega)) s e y Qn fun a H4 s4 na ea => k _ H4 s4 ⟨a, _, rfl, List.getElem?_eq_getElem (by omega), na, ea⟩
  · intro H ys s e l h
    obtain ⟨as, rs, rfl, las, hr⟩ := rows_vals (P := fun i a xs => zs[i]? = some xs ∧ a ≠ D ∧ H a = some (.lst (xs.map V.int))) fun i y e => let ⟨a, xs, e1, e2⟩ := h i y e; ⟨a, xs, e1, e2⟩
    have lr : rs.length = zs.length := by rw [← las, lz, ← l, List.length_map]
    have er : rs = zs := list_eq lr fun i v e => by
      have hi := (List.getElem?_eq_some_iff.mp e).1
      exact (hr i as[i] v (List.getElem?_eq_getElem (by omega)) e).1
    subst er
    exact done H as s e ⟨las, fun i a xs e1 e2 => (hr i a xs e1 e2).2⟩
/-- the rows are known, each a tuple -/
theorem lc_tups (W : Walk J n G Y) (zs : List (List Int)) (lz : zs.length = n) (hG : ∀ H, Same H1 H → G H) (hD : H1 D = none) (hn : n < sizeLine)
    (step : ∀ i x H H' z, i < n → zs[i]? = some z → Same H1 H → (∃ xs, H D = some (.lst xs)) → Y i H x H' → ∀ Qn : VK, (∀ a H4, Same H H4 → H4 a = some (.tup (z.map V.int)) → Qn (.ref a) H4) → g x (wipe σ vs) H' fun σ2 H2 => wipe σ2 vs = wipe σ vs ∧ te σ2 H2 Qn)
    (done : ∀ H as, Same H1 H → H D = some (.lst (as.map V.ref)) → TupRw H as zs → Qd H) :
    ∃ W : Nat → Nat → Hp → Prop, (∃ m, W 0 m (upd H1 D (.lst []))) ∧ ∀ (i m : Nat) (H : Hp), W i m H → J.stop i H ∧ Qd H ∨ J.go i H ∧ ∃ Nx : Hp → Prop, (∀ H', Nx H' → ∃ m', m' < m ∧ W (i + 1) m' H') ∧
      ∀ (x : V) (H' : Hp), J.yld i H x H' → g x (wipe σ vs) H' fun σ2 H2 => wipe σ2 vs = wipe σ vs ∧ tYes σ2 H2 fun b H3 => if b = true then te σ2 H3 fun y H4 => ∃ acc, H4 D = some (.lst acc) ∧ acc.length < sizeLine ∧ Nx (upd H4 D (.lst (acc ++ [y]))) else Nx H3 := by
  refine lc_new W (fun i y H => ∃ a xs, y = .ref a ∧ zs[i]? = some xs ∧ a ≠ D ∧ H a = some (.tup (xs.map V.int))) ?_ hG hD hn ?_ ?_
  · rintro i y H H' f ⟨a, xs, e1, e2, e3, e4⟩
    exact ⟨a, xs, e1, e2, e3, f _ _ e3 e4⟩
  · rintro i x H H' hi s ⟨us, eD⟩ y Qn k
    exact step i x H H' zs[i] hi (List.getElem?_eq_getElem (by omega)) s ⟨us, eD⟩ y Qn fun a H4 s4 ea => k _ H4 s4 ⟨a, _, rfl, List.getElem?_eq_getElem (by omega), ne_of ea (s4 _ _ eD) (fun z => by cases z), ea⟩
  · intro H ys s e l h
    obtain ⟨as, rs, rfl, las, hr⟩ := rows_vals (P := fun i a xs => zs[i]? = some xs ∧ a ≠ D ∧ H a = some (.tup (xs.map V.int))) fun i y e => let ⟨a, xs, e1, e2⟩ := h i y e; ⟨a, xs, e1, e2⟩
    have lr : rs.length = zs.length := by rw [← las, lz, ← l, List.length_map]
    have er : rs = zs := list_eq lr fun i v e => by
      have hi := (List.getElem?_eq_some_iff.mp e).1
      exact (hr i as[i] v (List.getElem?_eq_getElem (by omega)) e).1
    subst er
    exact done H as s e ⟨las, fun i a xs e1 e2 => (hr i a xs e1 e2).2.2⟩
/-- those of which a test holds -/
theorem lc_flt (W : Walk J n G Y) (p : Nat → Bool) (f : Nat → V) (hG : ∀ H, Same H1 H → G H) (hD : H1 D = none) (hn : n < sizeLine)
    (step : ∀ i x H H', i < n → Same H1 H → (∃ xs, H D = some (.lst xs)) → Y i H x H' → ∀ (T : VK) (F : Hp → Prop), (p i = true → ∀ H4, Same H H4 → T (f i) H4) → (p i = false → ∀ H4, Same H H4 → F H4) →
      g x (wipe σ vs) H' fun σ2 H2 => wipe σ2 vs = wipe σ vs ∧ tt σ2 H2 fun b H3 => if b = true then te σ2 H3 T else F H3)
    (done : ∀ H, Same H1 H → H D = some (.lst (((List.range n).filter p).map f)) → Qd H) :
    ∃ W : Nat → Nat → Hp → Prop, (∃ m, W 0 m (upd H1 D (.lst []))) ∧ ∀ (i m : Nat) (H : Hp), W i m H → J.stop i H ∧ Qd H ∨ J.go i H ∧ ∃ Nx : Hp → Prop, (∀ H', Nx H' → ∃ m', m' < m ∧ W (i + 1) m' H') ∧
      ∀ (x : V) (H' : Hp), J.yld i H x H' → g x (wipe σ vs) H' fun σ2 H2 => wipe σ2 vs = wipe σ vs ∧ tt σ2 H2 fun b H3 => if b = true then te σ2 H3 fun y H4 => ∃ acc, H4 D = some (.lst acc) ∧ acc.length < sizeLine ∧ Nx (upd H4 D (.lst (acc ++ [y]))) else Nx H3 := by
  refine lc_it W (tt := tt) (fun i H => Same H1 H ∧ H D = some (.lst (((List.range i).filter p).map f))) ⟨same_neu (Same.refl _) hD, upd_same⟩ (fun i H _ h => hG H h.1) ?_ ?_
  · rintro i x H H' hi ⟨s, eD⟩ hY
    refine step i x H H' hi s ⟨_, eD⟩ hY _ _ (fun pt H4 s4 => ?_) fun pf H4 s4 => ?_
    · refine ⟨_, s4 _ _ eD, ?_, fun b o e => ?_, ?_⟩
      · rw [List.length_map]
        refine Nat.lt_of_le_of_lt (List.length_filter_le _ _) ?_
        rw [List.length_range]
        omega
      · rw [upd_ne (ne_of_none e hD)]
        exact s4 b o (s b o e)
      · rw [upd_same, List.range_succ, List.filter_append, List.map_append, List.filter_cons_of_pos pt]
        rfl
    · refine ⟨fun b o e => s4 b o (s b o e), ?_⟩
      rw [List.range_succ, List.filter_append, List.map_append, List.filter_cons_of_neg (by rw [pf]; decide)]
      show H4 D = some (.lst (_ ++ []))
      rw [List.append_nil]
      exact s4 _ _ eD
  · rintro H ⟨s, eD⟩
    exact done H s eD
end
end Rp
namespace Rp
open PySem PySem.Spec PyProof.Rows L2 LamX RZ
/-- the ways of an expression meet: M -/
theorem r_cutE {te : TE} {σ : L2.St} {H : Hp} {Q : VK} (M : V → Hp → Prop) (hu : ∀ v G, M v G → Q v G) (h : (∀ v G, M v G → Q v G) → te σ H Q) : te σ H Q := h hu
/-- the ways of a test meet -/
theorem r_cutT {tt : TT} {σ : L2.St} {H : Hp} {Q : Bool → Hp → Prop} (M : Bool → Hp → Prop) (hu : ∀ v G, M v G → Q v G) (h : (∀ v G, M v G → Q v G) → tt σ H Q) : tt σ H Q := h hu
section
variable {K : PySem.W.Frag} {H : Hp} {Q : VK} {q L p : Addr} {as : List Addr} {rs : List (List Int)}
def rowL (xs : List Int) : PyData := .list (xs.map PyData.int)
theorem LstRw.dp (h : LstRw q H as rs) : DpAll K H (as.map V.ref) (rs.map rowL) := by
  induction as generalizing rs with
  | nil =>
    cases rs with
    | nil => exact .nil
    | cons _ _ => cases h.1
  | cons a as ih =>
    cases rs with
    | nil => cases h.1
    | cons xs rs => exact .cons (.lst (SqL.of (h.2 0 a xs rfl rfl).2) (dp_ints xs)) (ih ⟨by simpa using h.1, fun i b ys e1 e2 => h.2 (i + 1) b ys e1 e2⟩)
theorem lay_rowL : ∀ rs : List (List Int), PyData.canLayAll0 (rs.map rowL) = true
  | [] => by simp [PyData.canLayAll0]
  | r :: rs => by simp [PyData.canLayAll0, lay_rowL rs, rowL, PyData.canLay0, canLay_ints]
theorem deep_rowL : ∀ rs : List (List Int), PyData.depthAll (rs.map rowL) ≤ 1
  | [] => by simp [PyData.depthAll]
  | r :: rs => by
    have := deep_rowL rs
    simp only [List.map_cons, PyData.depthAll, rowL, PyData.depth, depth_ints]
    omega
theorem shaped_rowL (rs : List (List Int)) : SeqAt.shaped (.list (rs.map rowL)) = true := by
  have h := deep_rowL rs
  have e : (PyData.list (rs.map rowL)).depth ≤ 64 := by simp only [PyData.depth]; omega
  simp only [SeqAt.shaped, PyData.canLay0, lay_rowL, Bool.true_and, decide_eq_true e]
/-- a list of rows, compared with a new [] -/
theorem ne_nilR (e : H L = some (.lst (as.map V.ref))) (R : LstRw q H as rs) (ep : H p = some (.lst [])) (h : Q (.bl (!rs.isEmpty)) H) : rNeD K (.ref L) (.ref p) H Q :=
  ⟨_, _, .lst (SqL.of e) R.dp, .lst (SqL.of ep) .nil, shaped_rowL rs, shaped_ints [], by
    have z : PyData.eqv (.list (rs.map rowL)) (.list []) = rs.isEmpty := by cases rs <;> simp [PyData.eqv, PyData.eqvAll]
    rw [z]
    exact h⟩
end
theorem ref_at {as : List Addr} {i : Nat} {v : V} (h : (as.map V.ref)[i]? = some v) : ∃ a, as[i]? = some a ∧ v = .ref a := by
  rw [List.getElem?_map] at h
  cases e : as[i]? with
  | none => rw [e] at h; cases h
  | some b => rw [e] at h; exact ⟨b, rfl, (Option.some.inj h).symm⟩
theorem ref_erase {as : List Addr} {k : Nat} : (as.map V.ref).eraseIdx k = (as.eraseIdx k).map V.ref := by
  induction as generalizing k with
  | nil => rfl
  | cons a as ih =>
    cases k with
    | zero => rfl
    | succ k => show V.ref a :: (as.map V.ref).eraseIdx k = _; rw [ih]; rfl
theorem LstRw.erase {q : Addr} {H : Hp} : ∀ {as : List Addr} {rs : List (List Int)} {k : Nat}, LstRw q H as rs → LstRw q H (as.eraseIdx k) (rs.eraseIdx k)
  | [], [], _, h => h
  | [], _ :: _, _, h => by cases h.1
  | _ :: _, [], _, h => by cases h.1
  | a :: as, r :: rs, 0, h => ⟨by simpa using h.1, fun i b ys e1 e2 => h.2 (i + 1) b ys e1 e2⟩
  | a :: as, r :: rs, k + 1, h => by
    have t : LstRw q H as rs := ⟨by simpa using h.1, fun i b ys e1 e2 => h.2 (i + 1) b ys e1 e2⟩
    have w := LstRw.erase (k := k) t
    refine ⟨by show (as.eraseIdx k).length + 1 = (rs.eraseIdx k).length + 1; rw [w.1], fun i b ys e1 e2 => ?_⟩
    cases i with
    | zero => cases e1; cases e2; exact h.2 0 a r rfl rfl
    | succ i => exact w.2 i b ys e1 e2
theorem LstRw.snoc {q a : Addr} {H : Hp} {xs : List Int} {as : List Addr} {rs : List (List Int)} (h : LstRw q H as rs) (n : a ≠ q) (e : H a = some (.lst (xs.map V.int))) : LstRw q H (as ++ [a]) (rs ++ [xs]) := by
  refine ⟨by rw [List.length_append, List.length_append, h.1]; rfl, fun i b ys e1 e2 => ?_⟩
  by_cases hi : i < as.length
  · rw [List.getElem?_append_left hi] at e1
    rw [List.getElem?_append_left (by rw [← h.1]; exact hi)] at e2
    exact h.2 i b ys e1 e2
  · rw [List.getElem?_append_right (by omega)] at e1
    rw [List.getElem?_append_right (by rw [← h.1]; omega), ← h.1] at e2
    have z : i - as.length = 0 := by
      have := (List.getElem?_eq_some_iff.mp e1).1
      simp at this
      omega
    rw [z] at e1 e2
    cases e1
    cases e2
    exact ⟨n, e⟩
/-- off another place -/
theorem LstRw.off {q D : Addr} {H : Hp} {as : List Addr} {rs : List (List Int)} (h : LstRw q H as rs) (n : ∀ b o, H b = some o → b ≠ D) : LstRw D H as rs := ⟨h.1, fun i a xs e1 e2 => ⟨n _ _ (h.2 i a xs e1 e2).2, (h.2 i a xs e1 e2).2⟩⟩
/-- a filter's first item -/
theorem filt_head {p : Nat → Bool} {n k : Nat} {l : List Nat} (h : (List.range n).filter p = k :: l) : k < n ∧ p k = true := by
  have m : k ∈ (List.range n).filter p := by rw [h]; exact List.mem_cons_self ..
  obtain ⟨m1, m2⟩ := List.mem_filter.mp m
  exact ⟨List.mem_range.mp m1, m2⟩
theorem filt_none {p : Nat → Bool} {n : Nat} (h : (List.range n).filter p = []) : ∀ k, k < n → p k = false := fun k hk => by
  cases e : p k with
  | false => rfl
  | true =>
    have m : k ∈ (List.range n).filter p := List.mem_filter.mpr ⟨List.mem_range.mpr hk, e⟩
    rw [h] at m
    cases m
theorem LstRw.offL {q D : Addr} {H : Hp} {as bs : List Addr} {rs : List (List Int)} (h : LstRw q H as rs) (e : H D = some (.lst (bs.map V.ref))) (n : ∀ r ∈ rs, r ≠ []) : LstRw D H as rs := ⟨h.1, fun i a xs e1 e2 => by
  have f := (h.2 i a xs e1 e2).2
  refine ⟨?_, f⟩
  rintro rfl
  have z := f.symm.trans e
  cases xs with
  | nil => exact n _ (List.mem_of_getElem? e2) rfl
  | cons x xs =>
    cases bs with
    | nil => cases z
    | cons b bs => cases z⟩
end Rp
namespace Rp
open PySem PySem.Spec PyProof.Rows L2 LamX RZ
/-! ### tuples cut and put behind one another; rows compared and shown -/
section
variable {K : PySem.W.Frag} {a b p : Addr} {H : Hp} {Q : VK} {xs ys : List V}
theorem cut_full {lo hi : Option Int} (h1 : HT.sIx xs.length 0 lo = 0) (h2 : HT.sIx xs.length xs.length hi = xs.length) : cutV xs lo hi = xs := by
  unfold cutV
  rw [h1, h2, List.drop_zero, Nat.sub_zero, List.take_length]
theorem r_slA {lo hi : Option Int} (ha : H a = some (.tup xs)) (h : ∀ b H', Same H H' → H' b = some (.tup (cutV xs lo hi)) → Q (.ref b) H') : rSlA K (.ref a) lo hi H Q := by
  refine ⟨a, xs, rfl, SqT.of ha, fun ⟨h1, h2⟩ => h a H (Same.refl H) (by rw [cut_full h1 h2]; exact ha), fun _ p hp => h p _ (same_neu (Same.refl H) hp) upd_same⟩
theorem r_catS (ha : H a = some (.tup xs)) (hb : H b = some (.tup ys)) (hz : xs.length + ys.length ≤ sizeLine) (h : ∀ p H', Same H H' → H' p = some (.tup (xs ++ ys)) → Q (.ref p) H') : rCatA K (.ref a) (.ref b) H Q :=
  ⟨a, b, xs, ys, rfl, rfl, SqT.of ha, SqT.of hb, hz, fun e => h b H (Same.refl H) (by rw [e]; exact hb), fun _ e => h a H (Same.refl H) (by rw [e, List.append_nil]; exact ha), fun _ _ p hp => h p _ (same_neu (Same.refl H) hp) upd_same⟩
/-- tuple(x) of a list or a tuple -/
theorem r_tupL (ha : H a = some (.lst xs)) (h : ∀ p H', Same H H' → H p = none → H' p = some (.tup xs) → Q (.ref p) H') : rTupOf K [.ref a] H Q :=
  ⟨a, xs, rfl, .inl ⟨SqL.of ha, fun p hp => h p _ (same_neu (Same.refl H) hp) hp upd_same⟩⟩
end
theorem eqvAll_ints : ∀ (xs ys : List Int), PyData.eqvAll (xs.map PyData.int) (ys.map PyData.int) = decide (xs = ys)
  | [], [] => by simp [PyData.eqvAll]
  | [], y :: ys => by simp [PyData.eqvAll]
  | x :: xs, [] => by simp [PyData.eqvAll]
  | x :: xs, y :: ys => by
    have := eqvAll_ints xs ys
    simp only [List.map_cons, PyData.eqvAll, PyData.eqv, this, List.cons.injEq]
    by_cases h : x = y
    · subst h; simp
    · simp [h]
theorem eqv_row (xs ys : List Int) : PyData.eqv (rowD xs) (rowD ys) = decide (xs = ys) := by
  unfold rowD
  simp only [PyData.eqv]
  exact eqvAll_ints xs ys
theorem eqvAll_rows : ∀ (rs ss : List (List Int)), PyData.eqvAll (rs.map rowD) (ss.map rowD) = decide (rs = ss)
  | [], [] => by simp [PyData.eqvAll]
  | [], y :: ys => by simp [PyData.eqvAll]
  | x :: xs, [] => by simp [PyData.eqvAll]
  | x :: xs, y :: ys => by
    have := eqvAll_rows xs ys
    simp only [List.map_cons, PyData.eqvAll, eqv_row, this, List.cons.injEq]
    by_cases h : x = y
    · subst h; simp
    · simp [h]
theorem eqv_rows (rs ss : List (List Int)) : PyData.eqv (.tuple (rs.map rowD)) (.tuple (ss.map rowD)) = decide (rs = ss) := by
  simp only [PyData.eqv]
  exact eqvAll_rows rs ss
theorem lay_rows : ∀ rs : List (List Int), PyData.canLayAll0 (rs.map rowD) = true
  | [] => by simp [PyData.canLayAll0]
  | r :: rs => by simp [PyData.canLayAll0, lay_rows rs, rowD, PyData.canLay0, canLay_ints]
theorem deep_rows : ∀ rs : List (List Int), PyData.depthAll (rs.map rowD) ≤ 1
  | [] => by simp [PyData.depthAll]
  | r :: rs => by
    have := deep_rows rs
    simp only [List.map_cons, PyData.depthAll, rowD, PyData.depth, depth_ints]
    omega
theorem shaped_rows (rs : List (List Int)) : SeqAt.shaped (.tuple (rs.map rowD)) = true := by
  have h := deep_rows rs
  have e : (PyData.tuple (rs.map rowD)).depth ≤ 64 := by simp only [PyData.depth]; omega
  simp only [SeqAt.shaped, PyData.canLay0, lay_rows, Bool.true_and, decide_eq_true e]
theorem dp_rowsA {K : PySem.W.Frag} {H : Hp} : ∀ {ps : List Addr} {rs : List (List Int)}, ps.length = rs.length → (∀ (i : Nat) (b : Addr) (xs : List Int), ps[i]? = some b → rs[i]? = some xs → H b = some (.tup (xs.map V.int))) → DpAll K H (ps.map V.ref) (rs.map rowD)
  | [], [], _, _ => .nil
  | b :: ps, xs :: rs, l, h => .cons (.tup (SqT.of (h 0 b xs rfl rfl)) (dp_ints xs)) (dp_rowsA (by simpa using l) fun i b xs e1 e2 => h (i + 1) b xs e1 e2)
  | [], _ :: _, l, _ => by cases l
  | _ :: _, [], l, _ => by cases l
theorem TupRows.dp {K : PySem.W.Frag} {H : Hp} {p : Addr} {rs : List (List Int)} (h : TupRows K H p rs) : Dp K H (.ref p) (.tuple (rs.map rowD)) := by
  obtain ⟨ps, h1, h2, h3⟩ := h
  exact .tup (SqT.of h1) (dp_rowsA h2 h3)
theorem r_eqRows {K : PySem.W.Frag} {H : Hp} {Q : VK} {p r : Addr} {rs ss : List (List Int)} (h1 : TupRows K H p rs) (h2 : TupRows K H r ss) (h : Q (.bl (decide (rs = ss))) H) : rEqD K (.ref p) (.ref r) H Q :=
  ⟨_, _, h1.dp, h2.dp, shaped_rows rs, shaped_rows ss, by rw [eqv_rows]; exact h⟩
theorem r_neRows {K : PySem.W.Frag} {H : Hp} {Q : VK} {p r : Addr} {rs ss : List (List Int)} (h1 : TupRows K H p rs) (h2 : TupRows K H r ss) (h : Q (.bl (!decide (rs = ss))) H) : rNeD K (.ref p) (.ref r) H Q :=
  ⟨_, _, h1.dp, h2.dp, shaped_rows rs, shaped_rows ss, by rw [eqv_rows]; exact h⟩
/-- rows are fit to be shown -/
theorem fit_rows {cl : Int} {n m : Nat} (h31 : cl ≤ 31) (hn : n ≤ m) : ∀ {rs : List (List Int)}, RowsOk cl n rs → FitA 1 ((15 * m + 10) * rs.length) (rs.map rowD)
  | [], _ => FitA.nil
  | r :: rs, o => by
    have ok := o r (List.mem_cons_self ..)
    have f1 : FitA 0 (15 * m) (r.map PyData.int) := (fit_ints (xs := r) (lo := 0) (hi := 31) (fun x mx => by have := ok.2 x mx; omega) (by decide) (by decide)).le (Nat.le_refl _) (by rw [ok.1]; omega)
    have f2 := fit_rows h31 hn (rs := rs) fun y my => o y (List.mem_cons_of_mem _ my)
    refine (FitA.cons f1.tuple f2).le (Nat.le_refl _) ?_
    rw [List.length_cons, Nat.mul_succ]
    omega
/-- turned to a gap -/
def rotR (g : Nat) (xs : List Int) : List Int := xs.drop g ++ xs.take g
theorem rotR_len {g : Nat} {xs : List Int} : (rotR g xs).length = xs.length := by
  unfold rotR
  rw [List.length_append, List.length_drop, List.length_take]
  omega
theorem rotR_ok {cl : Int} {n g : Nat} {xs : List Int} (h : xs.length = n ∧ Dig cl xs) : (rotR g xs).length = n ∧ Dig cl (rotR g xs) := ⟨by rw [rotR_len, h.1], fun x m => by
  unfold rotR at m
  rcases List.mem_append.mp m with m | m
  · exact h.2 x (List.mem_of_mem_drop m)
  · exact h.2 x (List.mem_of_mem_take m)⟩
theorem cut_loI {xs : List Int} {n : Nat} (h : n ≤ xs.length) : cutV (xs.map V.int) none (some (n : Int)) = (xs.take n).map V.int := by
  rw [cut_lo (by rw [List.length_map]; exact h), List.map_take]
theorem cut_hiI {xs : List Int} {n : Nat} (h : n ≤ xs.length) : cutV (xs.map V.int) (some (n : Int)) none = (xs.drop n).map V.int := by
  rw [cut_hi (by rw [List.length_map]; exact h), List.map_drop]
/-- of another class than the values of no own one -/
structure NotK (K : PySem.W.Frag) (C : Addr) : Prop where
  non : PySem.W.kitOne K (.type "NoneType") (.ref C) = some false
  bl : PySem.W.kitOne K (.type "bool") (.ref C) = some false
  int : PySem.W.kitOne K (.type "int") (.ref C) = some false
  str : PySem.W.kitOne K (.type "str") (.ref C) = some false
  lst : PySem.W.kitOne K (.type "list") (.ref C) = some false
  tup : PySem.W.kitOne K (.type "tuple") (.ref C) = some false
  dic : PySem.W.kitOne K (.type "dict") (.ref C) = some false
/-- what isinstance asks of an own class -/
structure IsK (K : PySem.W.Frag) (C : Addr) : Prop where
  cl : Cls K C
  ha : PySem.W.findIn K (.ref C) "__class__" = some (some (.builtin "object.__class__"))
  hn : PySem.W.specialIn K (.builtin "object.__class__") "__get__" = some (some (.builtin "getset_descriptor.__get__"))
  ht : PySem.W.takesIn K (.builtin "object.__class__") = some true
  hm : PySem.W.mroIn K C (.type "object") = some true
  me : PySem.W.kitOne K (.ref C) (.ref C) = some true
theorem r_isOwn {K : PySem.W.Frag} {H : Hp} {Q : VK} {x C dx : Addr} {fs : List (Str × V)} (I : IsK K C) (e : H x = some (.ins C dx fs)) (h : Q (.bl true) H) : rIsi K [.ref x, .ref C] H Q :=
  ⟨.ref x, .ref C, _, .ref C, true, rfl, .own C, .base (.ins e I.cl I.ha I.hn I.ht I.hm), I.me, h⟩
theorem r_isNot {K : PySem.W.Frag} {q : Addr} {H : Hp} {Q : VK} {v : V} {C : Addr} (I : NotK K C) (a : Any q H v) (h : Q (.bl false) H) : rIsi K [v, .ref C] H Q := by
  cases a with
  | non => exact ⟨_, .ref C, _, .ref C, false, rfl, .own C, .base .non, I.non, h⟩
  | bl b => exact ⟨_, .ref C, _, .ref C, false, rfl, .own C, .base (.bl b), I.bl, h⟩
  | num i => exact ⟨_, .ref C, _, .ref C, false, rfl, .own C, .base (.int i), I.int, h⟩
  | str z => exact ⟨_, .ref C, _, .ref C, false, rfl, .own C, .base (.str z), I.str, h⟩
  | lst n e => exact ⟨_, .ref C, _, .ref C, false, rfl, .own C, .base (.lst e), I.lst, h⟩
  | tup n e => exact ⟨_, .ref C, _, .ref C, false, rfl, .own C, .base (.tup e), I.tup, h⟩
  | dic n e => exact ⟨_, .ref C, _, .ref C, false, rfl, .own C, .base (.dK e), I.dic, h⟩
/-- list(x) of a list or a tuple -/
def rListOf (K : PySem.W.Frag) : List V → Hp → VK → Prop := fun xs H Q => ∃ p ys, xs = [.ref p] ∧ (SqL K H p ys ∨ SqT K H p ys) ∧ ∀ l, H l = none → Q (.ref l) (upd H l (.lst ys))
theorem call_listK {X : Cx} : CallR X (.type "list") (rListOf X.K) := call_list_of
theorem seqIx_nat {k n : Nat} (h : k < n) : PySem.seqIndex? (k : Int) n = some k := by
  unfold PySem.seqIndex?
  have h1 : ¬ ((k : Int) < 0) := by omega
  have h2 : (k : Int) < (n : Int) := by omega
  simp [h1, h2, h]
end Rp
namespace Rp
/-! ### least forms of turned rows -/
section
variable {cl t : Int} {n g h : Nat} {x y : List Int} {rs ss ls : List (List Int)}
theorem LF.len (f : LF cl n ls) : ls.length ≤ n := by
  have aux : ∀ {qs : List (List Int)} {m : Nat}, qs.Pairwise (fun r s => leadOf r < leadOf s) → (∀ r ∈ qs, m ≤ leadOf r ∧ leadOf r < n) → m + qs.length ≤ n ∨ qs = [] := by
    intro qs
    induction qs with
    | nil => exact fun _ _ => .inr rfl
    | cons q qs ih =>
      intro m p b
      obtain ⟨p1, p2⟩ := List.pairwise_cons.mp p
      have bq := b q (List.mem_cons_self ..)
      left
      rcases ih (m := m + 1) p2 fun r mr => ⟨by have := p1 r mr; omega, (b r (List.mem_cons_of_mem _ mr)).2⟩ with e | e
      · rw [List.length_cons]; omega
      · subst e
        show m + 1 ≤ n
        omega
  rcases aux (m := 0) f.asc fun r m => ⟨Nat.zero_le _, (f.lead r m).1⟩ with e | e
  · omega
  · rw [e]; exact Nat.zero_le _
theorem least_rows (hc : cl ∈ clocks) (o : RowsOk cl n rs) : RowsOk cl n (leastForm cl n rs) ∧ (leastForm cl n rs).length ≤ n := ⟨(least_ok hc o).1.ok, (least_ok hc o).1.len⟩
theorem least_idem (hc : cl ∈ clocks) (o : RowsOk cl n rs) : leastForm cl n (leastForm cl n rs) = leastForm cl n rs := by
  obtain ⟨f, a, b⟩ := least_ok hc o
  have c3 := clocks_3 hc
  exact least_is hc f.ok f (fun r m => .of (by omega) f.ok m) fun r m => .of (by omega) f.ok m
theorem adM_append {xs ys us vs : List Int} (l : xs.length = us.length) : adM cl t (xs ++ ys) (us ++ vs) = adM cl t xs us ++ adM cl t ys vs := by
  unfold adM
  rw [List.zipWith_append l]
theorem adM_drop {xs ys : List Int} : (adM cl t xs ys).drop g = adM cl t (xs.drop g) (ys.drop g) := by
  unfold adM
  rw [List.drop_zipWith]
theorem adM_take {xs ys : List Int} : (adM cl t xs ys).take g = adM cl t (xs.take g) (ys.take g) := by
  unfold adM
  rw [List.take_zipWith]
theorem rot_adM (l : x.length = y.length) : rotR g (adM cl t x y) = adM cl t (rotR g x) (rotR g y) := by
  unfold rotR
  rw [adM_append (by rw [List.length_drop, List.length_drop, l]), adM_drop, adM_take]
theorem rot_zero : rotR g (zeroR n) = zeroR n := by
  unfold rotR zeroR
  rw [List.drop_replicate, List.take_replicate, List.replicate_append_replicate]
  congr 1
  omega
theorem Spn.rot (h0 : 0 < cl) (o : RowsOk cl n rs) (a : Spn cl n rs x) : Spn cl n (rs.map (rotR g)) (rotR g x) := by
  induction a with
  | zero => rw [rot_zero]; exact .zero
  | @add x r t a m ih =>
    rw [rot_adM (by rw [(a.ok h0 o).1, (o r m).1])]
    exact .add t ih (List.mem_map.mpr ⟨r, m, rfl⟩)
theorem rots_ok (o : RowsOk cl n rs) : RowsOk cl n (rs.map (rotR g)) := fun y m => by
  obtain ⟨xs, mx, rfl⟩ := List.mem_map.mp m
  exact rotR_ok (o xs mx)
theorem least_rot (hc : cl ∈ clocks) (o : RowsOk cl n rs) : leastForm cl n ((leastForm cl n rs).map (rotR g)) = leastForm cl n (rs.map (rotR g)) := by
  obtain ⟨f, a, b⟩ := least_ok hc o
  have c3 := clocks_3 hc
  refine least_same hc (rots_ok f.ok) (rots_ok o) (fun r m => ?_) fun r m => ?_
  · obtain ⟨x, mx, rfl⟩ := List.mem_map.mp m
    exact (a x mx).rot (by omega) o
  · obtain ⟨x, mx, rfl⟩ := List.mem_map.mp m
    exact (b x mx).rot (by omega) f.ok
theorem rot_none (x : List Int) : rotR 0 x = x := by
  unfold rotR
  rw [List.drop_zero, List.take_zero, List.append_nil]
theorem rots_none : rs.map (rotR 0) = rs := (List.map_congr_left fun x _ => rot_none x).trans (List.map_id rs)
theorem rot_at {k : Nat} (hg : g < x.length) (hk : k < x.length) : (rotR g x)[k]? = x[(k + g) % x.length]? := by
  unfold rotR
  by_cases c : k < x.length - g
  · rw [List.getElem?_append_left (by rw [List.length_drop]; exact c), List.getElem?_drop, Nat.mod_eq_of_lt (by omega), Nat.add_comm]
  · rw [List.getElem?_append_right (by rw [List.length_drop]; omega), List.length_drop, List.getElem?_take, if_pos (by omega)]
    rw [show k + g = (k + g - x.length) + x.length by omega, Nat.add_mod_right, Nat.mod_eq_of_lt (by omega)]
    congr 1
    omega
theorem rot_rot (hg : g < x.length) (hh : h < x.length) : rotR h (rotR g x) = rotR ((g + h) % x.length) x := by
  refine List.ext_getElem? fun k => ?_
  by_cases hk : k < x.length
  · rw [rot_at (by rw [rotR_len]; exact hh) (by rw [rotR_len]; exact hk), rotR_len, rot_at hg (Nat.mod_lt _ (by omega)), rot_at (Nat.mod_lt _ (by omega)) hk]
    congr 1
    rw [Nat.mod_add_mod, Nat.add_mod_mod]
    congr 1
    omega
  · rw [List.getElem?_eq_none (by rw [rotR_len, rotR_len]; omega), List.getElem?_eq_none (by rw [rotR_len]; omega)]
theorem rots_rots (o : RowsOk cl n rs) (hg : g < n) (hh : h < n) : (rs.map (rotR g)).map (rotR h) = rs.map (rotR ((g + h) % n)) := by
  rw [List.map_map]
  refine List.map_congr_left fun x m => ?_
  have l := (o x m).1
  have e := rot_rot (x := x) (g := g) (h := h) (by omega) (by omega)
  rw [l] at e
  exact e
/-- turned twice -/
theorem least_twice (hc : cl ∈ clocks) (o : RowsOk cl n rs) (hg : g < n) (hh : h < n) : leastForm cl n ((leastForm cl n ((leastForm cl n rs).map (rotR g))).map (rotR h)) = leastForm cl n ((leastForm cl n rs).map (rotR ((g + h) % n))) := by
  rw [least_rot hc (rots_ok (least_rows hc o).1), rots_rots (least_rows hc o).1 hg hh]
theorem least_round (hc : cl ∈ clocks) (o : RowsOk cl n rs) (hg : g < n) : leastForm cl n ((leastForm cl n ((leastForm cl n rs).map (rotR g))).map (rotR ((n - g) % n))) = leastForm cl n rs := by
  have hn : (n - g) % n < n := Nat.mod_lt _ (by omega)
  rw [least_twice hc o hg hn]
  have e : (g + (n - g) % n) % n = 0 := by
    rw [Nat.add_mod_mod, show g + (n - g) = n by omega, Nat.mod_self]
  rw [e, rots_none, least_idem hc o]
end
end Rp
namespace Rp
open PySem PySem.Spec PyProof.Rows L2 LamX RZ
section
variable {K : PySem.W.Frag} {q c p : Addr} {ns : List Int} {l : Nat} {H H' : Hp} {as : List Addr} {rs : List (List Int)}
theorem TupRw.drw (h : TupRw H as rs) (D : Dr q c ns l H) (b : But q H H') : TupRw H' as rs := by
  obtain ⟨_, ⟨_, hq⟩, _, _⟩ := D
  exact h.keep fun a xs e => b _ _ (ne_of e hq (fun z => by cases z)) e
theorem TupRows.drw (h : TupRows K H p rs) (D : Dr q c ns l H) (b : But q H H') : TupRows K H' p rs := by
  obtain ⟨_, ⟨_, hq⟩, _, _⟩ := D
  obtain ⟨ps, t1, t2, t3⟩ := h
  exact ⟨ps, b _ _ (ne_of t1 hq (fun z => by cases z)) t1, t2, fun i a xs e1 e2 => b _ _ (ne_of (t3 i a xs e1 e2) hq (fun z => by cases z)) (t3 i a xs e1 e2)⟩
end
/-- an own class's __eq__, as == and != ask for it -/
structure EqX (P : Program) (w : World) (K : PySem.W.Frag) (mg : Str → Option Value) (base : Heap) (k : Nat) (C f : Addr) (fd : FuncData) (sp : Sp) : Prop where
  F : FnOk P w K mg base (L2.CX P w) k f fd ["self", "other"] sp
  b : Binds K fd ["self", "other"] []
  hs : PySem.W.findIn K (.ref C) "__eq__" = some (some (.ref f))
  hf : PySem.W.isFn K (.ref f) = true
  hn : PySem.W.findIn K (.ref C) "__ne__" = some (some (.builtin "object.__ne__"))
  hm : PySem.W.mroIn K C (.type "object") = some true
section
variable {X : Cx} {k : Nat} {C f : Addr} {fd : FuncData} {sp : Sp}
theorem op_neS (o : EqX X.prog X.w X.K X.mg X.base k C f fd sp) (hr : Room (k + 1) X.A) : OpR X (compareOp .NotEq) (rOwnI C sp E0 true) :=
  op_neI o.F o.b (fun pins σ H s e s' I z => pass0X pins H s e s' I z (σ := σ)) hr o.hs o.hf o.hn o.hm
theorem op_eqS (o : EqX X.prog X.w X.K X.mg X.base k C f fd sp) (hr : Room k X.A) : OpR X (compareOp .Eq) (rOwnI C sp E0 false) :=
  op_eqI o.F o.b (fun pins σ H s e s' I z => pass0X pins H s e s' I z (σ := σ)) hr o.hs o.hf
end
end Rp
namespace Rp
/-! ### what agrees with a space: free rows, steps -/
section
/-- sums over the gaps -/
def gS (n : Nat) (f : Nat → Int) : Int := ((List.range n).map f).sum
theorem gS_succ (n : Nat) (f : Nat → Int) : gS (n + 1) f = gS n f + f n := by
  unfold gS
  rw [List.range_succ, List.map_append, List.sum_append]
  simp
theorem gS_zero (f : Nat → Int) : gS 0 f = 0 := rfl
theorem gS_head : ∀ (n : Nat) (f : Nat → Int), gS (n + 1) f = f 0 + gS n (fun k => f (k + 1))
  | 0, f => by rw [gS_succ, gS_zero, gS_zero]; omega
  | n + 1, f => by rw [gS_succ, gS_head n f, gS_succ n]; omega
theorem gS_congr {n : Nat} {f g : Nat → Int} (h : ∀ k, k < n → f k = g k) : gS n f = gS n g := by
  unfold gS
  rw [List.map_congr_left fun k m => h k (List.mem_range.mp m)]
theorem gS_sub : ∀ (n : Nat) (f g : Nat → Int), gS n (fun k => f k - g k) = gS n f - gS n g
  | 0, _, _ => rfl
  | n + 1, f, g => by rw [gS_succ, gS_succ, gS_succ, gS_sub n f g]; omega
theorem gS_lin (m t : Int) : ∀ (n : Nat) (f g e : Nat → Int), (∀ k, k < n → f k % m = (g k + t * e k) % m) → gS n f % m = (gS n g + t * gS n e) % m
  | 0, _, _, _, _ => by rw [gS_zero, gS_zero, gS_zero, Int.mul_zero]; rfl
  | n + 1, f, g, e, h => by
    rw [gS_succ, gS_succ, gS_succ, Int.add_emod, gS_lin m t n f g e fun k hk => h k (by omega), h n (by omega), ← Int.add_emod, Int.mul_add]
    congr 1
    omega
theorem gS_next (f : Nat → Int) : ∀ n : Nat, gS n (fun k => f (if k + 1 = n then 0 else k + 1)) = gS n f
  | 0 => rfl
  | n + 1 => by
    rw [gS_succ, gS_head, if_pos rfl, gS_congr (g := fun k => f (k + 1)) fun k hk => by rw [if_neg (by omega)]]
    omega
def nextG (n k : Nat) : Nat := if k + 1 = n then 0 else k + 1
def swL (xs ys : List Int) : Int := gS xs.length fun k => xs.getD k 0 * ys.getD (nextG xs.length k) 0 - xs.getD (nextG xs.length k) 0 * ys.getD k 0
theorem zip_sum : ∀ (ys zs : List Int), ys.length = zs.length → ((ys.zip zs).map fun p => p.1 * p.2).sum = gS ys.length fun k => ys.getD k 0 * zs.getD k 0
  | [], [], _ => rfl
  | y :: ys, z :: zs, h => by
    have := zip_sum ys zs (by simpa using h)
    rw [List.zip_cons_cons, List.map_cons, List.sum_cons, this, List.length_cons, gS_head]
    rfl
  | [], _ :: _, h => by cases h
  | _ :: _, [], h => by cases h
/-- the program's swing is the own sum -/
theorem swing_eq {cl : Int} {xs ys : List Int} (l : xs.length = ys.length) : swingF cl xs ys = swL xs ys % cl := by
  unfold swingF
  congr 1
  rw [zip_sum ys (stepsF xs) (by rw [stepsF_len, l])]
  have e : swL xs ys = gS xs.length (fun j => xs.getD (if j = 0 then xs.length - 1 else j - 1) 0 * ys.getD j 0) - gS xs.length (fun k => xs.getD (nextG xs.length k) 0 * ys.getD k 0) := by
    rw [← gS_next (fun j => xs.getD (if j = 0 then xs.length - 1 else j - 1) 0 * ys.getD j 0) xs.length, ← gS_sub]
    refine gS_congr fun k hk => ?_
    show xs.getD k 0 * ys.getD (nextG xs.length k) 0 - _ = _
    unfold nextG
    by_cases h : k + 1 = xs.length
    · rw [if_pos h]
      show _ = xs.getD (if (0 : Nat) = 0 then xs.length - 1 else 0 - 1) 0 * ys.getD 0 0 - _
      rw [if_pos rfl, show xs.length - 1 = k by omega]
    · rw [if_neg h]
      show _ = xs.getD (if k + 1 = 0 then xs.length - 1 else k + 1 - 1) 0 * ys.getD (k + 1) 0 - _
      rw [if_neg (by omega), Nat.add_sub_cancel]
  rw [e, ← gS_sub, ← l]
  refine gS_congr fun k hk => ?_
  have es : (stepsF xs).getD k 0 = stepAt xs k := by rw [List.getD_eq_getElem?_getD, stepsF_at hk]; rfl
  rw [es]
  unfold stepAt nextG
  rw [Int.mul_sub, Int.mul_comm (ys.getD k 0), Int.mul_comm (ys.getD k 0)]
theorem swL_anti {xs ys : List Int} (l : xs.length = ys.length) : swL ys xs = -swL xs ys := by
  have e : swL ys xs = gS xs.length (fun k => 0 - (xs.getD k 0 * ys.getD (nextG xs.length k) 0 - xs.getD (nextG xs.length k) 0 * ys.getD k 0)) := by
    unfold swL
    rw [← l]
    refine gS_congr fun k _ => ?_
    rw [Int.mul_comm (ys.getD k 0), Int.mul_comm (ys.getD (nextG xs.length k) 0)]
    omega
  rw [e, gS_sub]
  have z : gS xs.length (fun _ => 0) = 0 := by
    have : ∀ n : Nat, gS n (fun _ => 0) = 0 := fun n => by
      induction n with
      | zero => rfl
      | succ n ih => rw [gS_succ, ih]; rfl
    exact this _
  rw [z]
  unfold swL
  omega
theorem swL_self {xs : List Int} : swL xs xs = 0 := by
  have := swL_anti (xs := xs) (ys := xs) rfl
  omega
def addTwo (cl : Int) (xs zs : List Int) : List Int := List.zipWith (fun x z => (x + 2 * z) % cl) xs zs
theorem addTwo_eq {cl : Int} {xs zs : List Int} : addTwo cl xs zs = adM cl 2 xs zs := rfl
theorem swL_lin {cl : Int} {xs ys zs : List Int} (l : xs.length = zs.length) : swL (addTwo cl xs zs) ys % cl = (swL xs ys + 2 * swL zs ys) % cl := by
  unfold swL
  rw [addTwo_eq, adM_len l, ← l]
  refine gS_lin cl 2 _ _ _ _ fun k _ => ?_
  rw [adM_at l, adM_at l, Int.sub_emod, Int.mul_emod, Int.emod_emod, ← Int.mul_emod, Int.mul_emod ((xs.getD (nextG xs.length k) 0 + 2 * zs.getD (nextG xs.length k) 0) % cl), Int.emod_emod, ← Int.mul_emod, ← Int.sub_emod]
  congr 1
  rw [Int.add_mul, Int.add_mul, Int.mul_sub, Int.mul_assoc, Int.mul_assoc]
  omega
end
section
variable {cl t m : Int} {n p : Nat} {f g : Nat → Int} {x y q r : List Int} {rs ss ls : List (List Int)}
theorem gS_mod : ∀ {n : Nat} {f g : Nat → Int}, (∀ k, k < n → f k % m = g k % m) → gS n f % m = gS n g % m
  | 0, _, _, _ => rfl
  | n + 1, f, g, h => by rw [gS_succ, gS_succ, Int.add_emod, gS_mod (f := f) (g := g) fun k hk => h k (by omega), h n (by omega), ← Int.add_emod]
theorem gS_none : ∀ {n : Nat} {f : Nat → Int}, (∀ k, k < n → f k = 0) → gS n f = 0
  | 0, _, _ => rfl
  | n + 1, f, h => by rw [gS_succ, gS_none fun k hk => h k (by omega), h n (by omega)]; rfl
theorem gS_point {c : Int} : ∀ {n p : Nat}, p < n → gS n (fun k => if k = p then c else 0) = c
  | 0, _, h => by omega
  | n + 1, p, h => by
    rw [gS_succ]
    by_cases e : n = p
    · rw [if_pos e, gS_none fun k hk => if_neg (by omega)]; omega
    · rw [if_neg e, gS_point (by omega)]; omega
theorem gS_add : ∀ (n : Nat) (f g : Nat → Int), gS n (fun k => f k + g k) = gS n f + gS n g
  | 0, _, _ => rfl
  | n + 1, f, g => by rw [gS_succ, gS_succ, gS_succ, gS_add n f g]; omega
/-- places apart -/
theorem gS_split (f : Nat → Int) : ∀ {ps : List Nat}, ps.Nodup → (∀ p ∈ ps, p < n) → gS n f = gS n (fun k => if k ∈ ps then 0 else f k) + (ps.map f).sum
  | [], _, _ => by
    rw [List.map_nil, List.sum_nil, Int.add_zero]
    exact gS_congr fun k _ => (if_neg (fun e => nomatch e)).symm
  | p :: ps, nd, lt => by
    obtain ⟨n1, n2⟩ := List.nodup_cons.mp nd
    rw [gS_split f n2 fun k mk => lt k (List.mem_cons_of_mem _ mk), List.map_cons, List.sum_cons]
    have e : gS n (fun k => if k ∈ ps then 0 else f k) = gS n (fun k => if k ∈ p :: ps then 0 else f k) + gS n (fun k => if k = p then f p else 0) := by
      rw [← gS_add]
      refine gS_congr fun k _ => ?_
      by_cases e1 : k = p
      · subst e1
        rw [if_neg n1, if_pos (List.mem_cons_self ..), if_pos rfl]
        omega
      · rw [if_neg e1]
        by_cases e2 : k ∈ ps
        · rw [if_pos e2, if_pos (List.mem_cons_of_mem _ e2)]; rfl
        · rw [if_neg e2, if_neg (fun z => (List.mem_cons.mp z).elim e1 e2)]; omega
    rw [e, gS_point (lt p (List.mem_cons_self ..))]
    omega
theorem filt_sum (p : Nat → Bool) (f : Nat → Int) : ∀ n : Nat, (((List.range n).filter p).map f).sum = gS n fun k => if p k = true then f k else 0
  | 0 => rfl
  | n + 1 => by
    rw [gS_succ, ← filt_sum p f n, List.range_succ, List.filter_append, List.map_append, List.sum_append]
    cases e : p n with
    | true => rw [List.filter_cons_of_pos e, if_pos rfl]; simp
    | false => rw [List.filter_cons_of_neg (by rw [e]; decide), if_neg (by decide)]; simp
/-- two rows, number by number -/
def dotR (n : Nat) (xs ys : List Int) : Int := gS n fun k => xs.getD k 0 * ys.getD k 0
theorem dot_comm (x y : List Int) : dotR n x y = dotR n y x := gS_congr fun k _ => Int.mul_comm _ _
theorem dot_lin (q : List Int) (l : x.length = y.length) : dotR n q (adM cl t x y) % cl = (dotR n q x + t * dotR n q y) % cl := by
  refine gS_lin cl t n _ _ _ fun k _ => ?_
  show (q.getD k 0 * (adM cl t x y).getD k 0) % cl = _
  rw [adM_at l, Int.mul_emod, Int.emod_emod, ← Int.mul_emod, Int.mul_add, Int.mul_left_comm]
theorem dot_zero (q : List Int) : dotR n q (zeroR n) = 0 := gS_none fun k _ => by rw [zeroR_at, Int.mul_zero]
theorem Spn.perp (h0 : 0 < cl) (o : RowsOk cl n rs) (a : Spn cl n rs x) (h : ∀ r ∈ rs, dotR n q r % cl = 0) : dotR n q x % cl = 0 := by
  induction a with
  | zero => rw [dot_zero]; rfl
  | @add x r t a m ih =>
    rw [dot_lin q (by rw [(a.ok h0 o).1, (o r m).1]), Int.add_emod, ih, Int.mul_emod, h r m, Int.mul_zero]
    rfl
/-- a row whose numbers are sums of multiples -/
theorem Spn.of_sum {ι : Type} (h0 : 0 < cl) (o : RowsOk cl n rs) (gs : List ι) (row : ι → List Int) (c : ι → Int) (mem : ∀ g ∈ gs, row g ∈ rs) (ox : RowOk cl n x)
    (h : ∀ k, k < n → x.getD k 0 = ((gs.map fun g => c g * (row g).getD k 0).sum) % cl) : Spn cl n rs x := by
  have aux : ∀ qs : List ι, (∀ g ∈ qs, row g ∈ rs) → ∃ y, Spn cl n rs y ∧ ∀ k, y.getD k 0 = ((qs.map fun g => c g * (row g).getD k 0).sum) % cl := by
    intro qs
    induction qs with
    | nil => exact fun _ => ⟨_, .zero, fun k => by rw [zeroR_at]; rfl⟩
    | cons g qs ih =>
      intro mq
      obtain ⟨y, sy, hy⟩ := ih fun g' m' => mq g' (List.mem_cons_of_mem _ m')
      have mg := mq g (List.mem_cons_self ..)
      refine ⟨_, sy.add (c g) mg, fun k => ?_⟩
      rw [adM_at (by rw [(sy.ok h0 o).1, (o _ mg).1]), hy k, em_l, List.map_cons, List.sum_cons]
      congr 1
      omega
  obtain ⟨y, sy, hy⟩ := aux gs mem
  have oy := sy.ok h0 o
  have e : x = y := row_ext' (by rw [ox.1, oy.1]) fun k hk => by rw [h k (by rw [← ox.1]; exact hk), hy k]
  rw [e]
  exact sy
/-! free rows -/
def freeR (cl : Int) (n : Nat) (ls : List (List Int)) (g : Nat) : List Int := ls.foldl (fun acc r => acc.set (leadOf r) ((cl - r.getD g 0) % cl)) ((zeroR n).set g 1)
def gapP (ls : List (List Int)) (g : Nat) : Bool := !(ls.map leadOf).contains g
def gapsF (n : Nat) (ls : List (List Int)) : List Nat := (List.range n).filter (gapP ls)
def uprightF (cl : Int) (n : Nat) (ls : List (List Int)) : List (List Int) := (gapsF n ls).map (freeR cl n ls)
theorem gapP_yes {k : Nat} : gapP ls k = true ↔ k ∉ ls.map leadOf := by
  unfold gapP
  rw [Bool.not_eq_true', ← Bool.not_eq_true, List.contains_iff_mem]
theorem set_gd {xs : List Int} {i k : Nat} {v : Int} : (xs.set i v).getD k 0 = if i = k ∧ i < xs.length then v else xs.getD k 0 := by
  rw [List.getD_eq_getElem?_getD, List.getElem?_set, List.getD_eq_getElem?_getD]
  by_cases e : i = k
  · subst e
    by_cases h : i < xs.length
    · rw [if_pos rfl, if_pos h, if_pos ⟨rfl, h⟩]; rfl
    · rw [if_pos rfl, if_neg h, if_neg (fun z => h z.2), List.getElem?_eq_none (by omega)]
  · rw [if_neg e, if_neg (fun z => e z.1)]
theorem sets_len {w : List Int → Int} : ∀ {ls : List (List Int)} {acc : List Int}, (ls.foldl (fun acc r => acc.set (leadOf r) (w r)) acc).length = acc.length
  | [], _ => rfl
  | r :: ls, acc => by rw [List.foldl_cons, sets_len, List.length_set]
theorem sets_off {w : List Int → Int} {k : Nat} : ∀ {ls : List (List Int)} {acc : List Int}, k ∉ ls.map leadOf → (ls.foldl (fun acc r => acc.set (leadOf r) (w r)) acc).getD k 0 = acc.getD k 0
  | [], _, _ => rfl
  | r :: ls, acc, h => by
    rw [List.map_cons, List.mem_cons, not_or] at h
    rw [List.foldl_cons, sets_off h.2, set_gd, if_neg (fun z => h.1 z.1.symm)]
theorem sets_on {w : List Int → Int} : ∀ {ls : List (List Int)} {acc : List Int}, (ls.map leadOf).Nodup → r ∈ ls → leadOf r < acc.length → (ls.foldl (fun acc r => acc.set (leadOf r) (w r)) acc).getD (leadOf r) 0 = w r
  | [], _, _, m, _ => nomatch m
  | s :: ls, acc, nd, m, lt => by
    rw [List.map_cons, List.nodup_cons] at nd
    rw [List.foldl_cons]
    rcases List.mem_cons.mp m with e | m'
    · subst e
      rw [sets_off nd.1, set_gd, if_pos ⟨rfl, lt⟩]
    · exact sets_on nd.2 m' (by rw [List.length_set]; exact lt)
theorem LF.leads (h : LF cl n ls) : (ls.map leadOf).Nodup := by
  refine List.nodup_iff_pairwise_ne.mpr (List.pairwise_map.mpr (h.asc.imp fun a => by omega))
theorem LF.leads_lt (h : LF cl n ls) : ∀ p ∈ ls.map leadOf, p < n := fun p m => by
  obtain ⟨r, mr, rfl⟩ := List.mem_map.mp m
  exact (h.lead r mr).1
theorem free_len {k : Nat} : (freeR cl n ls k).length = n := by
  unfold freeR
  rw [sets_len, List.length_set]
  exact List.length_replicate ..
theorem free_off {j k : Nat} (hj : j < n) (h : k ∉ ls.map leadOf) : (freeR cl n ls j).getD k 0 = if k = j then 1 else 0 := by
  unfold freeR
  rw [sets_off h, set_gd, zeroR_at]
  by_cases e : k = j
  · rw [if_pos e, if_pos ⟨e.symm, by show j < (List.replicate n (0 : Int)).length; rw [List.length_replicate]; exact hj⟩]
  · rw [if_neg e, if_neg (fun z => e z.1.symm)]
theorem free_on (h : LF cl n ls) {j : Nat} (m : r ∈ ls) : (freeR cl n ls j).getD (leadOf r) 0 = (cl - r.getD j 0) % cl := by
  unfold freeR
  exact sets_on h.leads m (by rw [List.length_set]; show _ < (List.replicate n (0 : Int)).length; rw [List.length_replicate]; exact (h.lead r m).1)
theorem free_ok (h1 : 1 < cl) (h : LF cl n ls) {j : Nat} (hj : j < n) : RowOk cl n (freeR cl n ls j) := by
  refine ⟨free_len, fun v mv => ?_⟩
  obtain ⟨k, hk, e⟩ := List.mem_iff_getElem.mp mv
  have e2 : (freeR cl n ls j).getD k 0 = v := by rw [List.getD_eq_getElem?_getD, List.getElem?_eq_getElem hk, e]; rfl
  by_cases c : k ∈ ls.map leadOf
  · obtain ⟨r, mr, rfl⟩ := List.mem_map.mp c
    rw [free_on h mr] at e2
    have := Int.emod_nonneg (cl - r.getD j 0) (show cl ≠ 0 by omega)
    have := Int.emod_lt_of_pos (cl - r.getD j 0) (show 0 < cl by omega)
    omega
  · rw [free_off hj c] at e2
    split at e2 <;> omega
theorem gaps_mem {k : Nat} : k ∈ gapsF n ls ↔ k < n ∧ k ∉ ls.map leadOf := by
  unfold gapsF
  rw [List.mem_filter, List.mem_range, gapP_yes]
theorem upright_ok (h1 : 1 < cl) (h : LF cl n ls) : RowsOk cl n (uprightF cl n ls) := fun r m => by
  obtain ⟨k, mk, rfl⟩ := List.mem_map.mp m
  exact free_ok h1 h (gaps_mem.mp mk).1
theorem leads_sum {f : Nat → Int} : ((ls.map leadOf).map f).sum = colS ls fun r => f (leadOf r) := by
  unfold colS
  rw [List.map_map]
  rfl
/-- a row of a least form, with any row -/
theorem LF.dot (h : LF cl n ls) (m : r ∈ ls) (x : List Int) : dotR n r x = gS n (fun k => if k ∈ ls.map leadOf then 0 else r.getD k 0 * x.getD k 0) + x.getD (leadOf r) 0 := by
  unfold dotR
  rw [gS_split _ h.leads h.leads_lt, leads_sum, colS_one (r := r) h.nodup m fun s ms ne => by rw [h.clr s ms r m ne, Int.zero_mul], (h.lead r m).2, Int.one_mul]
theorem neg_em {a : Int} (h : 0 < cl) (x : Int) : (x * ((cl - a) % cl)) % cl = (0 + -1 * (x * a)) % cl := by
  rw [Int.mul_emod, Int.emod_emod, ← Int.mul_emod, Int.mul_sub, Int.zero_add, show x * cl - x * a = -1 * (x * a) + cl * x by rw [Int.mul_comm cl x]; omega, Int.add_mul_emod_self_left]
/-- the free rows agree -/
theorem free_perp (h1 : 1 < cl) (h : LF cl n ls) (m : r ∈ ls) {j : Nat} (mj : j ∈ gapsF n ls) : dotR n r (freeR cl n ls j) % cl = 0 := by
  obtain ⟨hj, nj⟩ := gaps_mem.mp mj
  rw [h.dot m, free_on h m]
  have e : gS n (fun k => if k ∈ ls.map leadOf then 0 else r.getD k 0 * (freeR cl n ls j).getD k 0) = r.getD j 0 := by
    rw [← gS_point (c := r.getD j 0) hj]
    refine gS_congr fun k _ => ?_
    by_cases c : k ∈ ls.map leadOf
    · rw [if_pos c, if_neg (fun e => nj (by rw [← e]; exact c))]
    · rw [if_neg c, free_off hj c]
      by_cases e : k = j
      · rw [if_pos e, if_pos e, e, Int.mul_one]
      · rw [if_neg e, if_neg e, Int.mul_zero]
  rw [e, Int.add_emod, Int.emod_emod, ← Int.add_emod, show r.getD j 0 + (cl - r.getD j 0) = cl by omega, Int.emod_self]
/-- what agrees is told by the free rows -/
theorem upright_mem (h1 : 1 < cl) (h : LF cl n ls) : Spn cl n (uprightF cl n ls) x ↔ RowOk cl n x ∧ ∀ r ∈ ls, dotR n r x % cl = 0 := by
  constructor
  · intro a
    refine ⟨a.ok (by omega) (upright_ok h1 h), fun r m => a.perp (by omega) (upright_ok h1 h) fun f mf => ?_⟩
    obtain ⟨k, mk, rfl⟩ := List.mem_map.mp mf
    exact free_perp h1 h m mk
  · rintro ⟨ox, hx⟩
    refine Spn.of_sum (by omega) (upright_ok h1 h) (gapsF n ls) (freeR cl n ls) (fun g => x.getD g 0) (fun g mg => List.mem_map.mpr ⟨g, mg, rfl⟩) ox fun k hk => ?_
    have dx := dig_gd ox.2 (by omega : 0 < cl) k
    unfold gapsF
    rw [filt_sum]
    by_cases c : k ∈ ls.map leadOf
    · obtain ⟨r, mr, rfl⟩ := List.mem_map.mp c
      have d := hx r mr
      rw [h.dot mr] at d
      have e := gS_lin cl (-1) n (fun g => if gapP ls g = true then x.getD g 0 * (freeR cl n ls g).getD (leadOf r) 0 else 0) (fun _ => 0) (fun g => if g ∈ ls.map leadOf then 0 else r.getD g 0 * x.getD g 0) fun g _ => by
        by_cases cg : g ∈ ls.map leadOf
        · rw [if_neg (fun z => gapP_yes.mp z cg), if_pos cg]; rfl
        · rw [if_pos (gapP_yes.mpr cg), if_neg cg, free_on h mr, neg_em (by omega), Int.mul_comm (r.getD g 0)]
      rw [e, gS_none (f := fun _ => 0) fun _ _ => rfl, Int.zero_add]
      generalize gS n (fun k => if k ∈ ls.map leadOf then 0 else r.getD k 0 * x.getD k 0) = S at d ⊢
      have : (-1 * S) % cl = (x.getD (leadOf r) 0 + cl * -((S + x.getD (leadOf r) 0) / cl)) % cl := by
        congr 1
        have := Int.emod_add_mul_ediv (S + x.getD (leadOf r) 0) cl
        rw [d] at this
        rw [Int.mul_neg]
        omega
      rw [this, Int.add_mul_emod_self_left, em_of dx]
    · have e : gS n (fun g => if gapP ls g = true then x.getD g 0 * (freeR cl n ls g).getD k 0 else 0) = x.getD k 0 := by
        rw [← gS_point (c := x.getD k 0) hk]
        refine gS_congr fun g hg => ?_
        by_cases cg : g ∈ ls.map leadOf
        · rw [if_neg (fun z => gapP_yes.mp z cg), if_neg (fun e => c (by rw [← e]; exact cg))]
        · rw [if_pos (gapP_yes.mpr cg), free_off hg c]
          by_cases e : k = g
          · rw [if_pos e, if_pos e.symm, e, Int.mul_one]
          · rw [if_neg e, if_neg (Ne.symm e), Int.mul_zero]
      rw [e, em_of dx]
/-- what agrees with all that agrees -/
theorem upright_perp (h1 : 1 < cl) (h : LF cl n ls) (ox : RowOk cl n x) (d : ∀ j ∈ gapsF n ls, dotR n (freeR cl n ls j) x % cl = 0) : Spn cl n ls x := by
  refine Spn.of_sum (by omega) h.ok ls (fun r => r) (fun r => x.getD (leadOf r) 0) (fun g mg => mg) ox fun k hk => ?_
  have dx := dig_gd ox.2 (by omega : 0 < cl) k
  show _ = (colS ls fun r => x.getD (leadOf r) 0 * r.getD k 0) % cl
  by_cases c : k ∈ ls.map leadOf
  · obtain ⟨r, mr, rfl⟩ := List.mem_map.mp c
    rw [colS_one h.nodup mr fun s ms ne => by rw [h.clr r mr s ms (Ne.symm ne), Int.mul_zero], (h.lead r mr).2, Int.mul_one, em_of dx]
  · have dk := d k (gaps_mem.mpr ⟨hk, c⟩)
    unfold dotR at dk
    rw [gS_split _ h.leads h.leads_lt, leads_sum] at dk
    have e : gS n (fun j => if j ∈ ls.map leadOf then 0 else (freeR cl n ls k).getD j 0 * x.getD j 0) = x.getD k 0 := by
      rw [← gS_point (c := x.getD k 0) hk]
      refine gS_congr fun j _ => ?_
      by_cases cj : j ∈ ls.map leadOf
      · rw [if_pos cj, if_neg (fun e => c (by rw [← e]; exact cj))]
      · rw [if_neg cj, free_off hk cj]
        by_cases e : j = k
        · rw [if_pos e, if_pos e, e, Int.one_mul]
        · rw [if_neg e, if_neg e, Int.zero_mul]
    rw [e] at dk
    have e2 := colS_lin (fun r => (freeR cl n ls k).getD (leadOf r) 0 * x.getD (leadOf r) 0) (fun _ => 0) (fun r => x.getD (leadOf r) 0 * r.getD k 0) (-1) cl ls fun r mr => by
      rw [free_on h mr, Int.mul_comm, neg_em (by omega)]
    rw [colS_zero (fun _ => 0) ls fun _ _ => rfl, Int.zero_add] at e2
    generalize (colS ls fun r => x.getD (leadOf r) 0 * r.getD k 0) = S at e2 ⊢
    rw [Int.add_emod, e2, ← Int.add_emod] at dk
    have : S % cl = (x.getD k 0 + cl * -((x.getD k 0 + -1 * S) / cl)) % cl := by
      congr 1
      have := Int.emod_add_mul_ediv (x.getD k 0 + -1 * S) cl
      rw [dk] at this
      rw [Int.mul_neg]
      omega
    rw [this, Int.add_mul_emod_self_left, em_of dx]
/-! steps -/
def stepsM (cl : Int) (xs : List Int) : List Int := modRow cl (stepsF xs)
theorem stepsM_len : (stepsM cl x).length = x.length := by unfold stepsM; rw [modRow_len, stepsF_len]
theorem stepsM_at {k : Nat} (h : k < x.length) : (stepsM cl x).getD k 0 = stepAt x k % cl := by
  unfold stepsM
  rw [modRow_at, List.getD_eq_getElem?_getD, stepsF_at h]
  rfl
theorem stepsM_ok (h : 0 < cl) (o : RowOk cl n x) : RowOk cl n (stepsM cl x) := ⟨by rw [stepsM_len, o.1], by unfold stepsM; exact modRow_dig h _⟩
theorem stepsM_zero : stepsM cl (zeroR n) = zeroR n := by
  refine row_ext' stepsM_len fun k hk => ?_
  rw [stepsM_len] at hk
  rw [stepsM_at hk]
  unfold stepAt
  rw [zeroR_at, zeroR_at, zeroR_at]
  rfl
theorem stepsM_adM (a : RowOk cl n x) (b : RowOk cl n y) : stepsM cl (adM cl t x y) = adM cl t (stepsM cl x) (stepsM cl y) := by
  have l : x.length = y.length := by rw [a.1, b.1]
  refine row_ext' (by rw [stepsM_len, adM_len l, adM_len (by rw [stepsM_len, stepsM_len, l]), stepsM_len]) fun k hk => ?_
  rw [stepsM_len, adM_len l] at hk
  rw [stepsM_at (by rw [adM_len l]; exact hk), adM_at (by rw [stepsM_len, stepsM_len, l]), stepsM_at hk, stepsM_at (by omega), em_l, em_r]
  unfold stepAt
  rw [adM_len l, ← l, adM_at l, adM_at l, Int.sub_emod, Int.emod_emod, Int.emod_emod, ← Int.sub_emod, Int.mul_sub]
  congr 1
  omega
theorem rsteps_ok (h : 0 < cl) (o : RowsOk cl n rs) : RowsOk cl n (rs.map (stepsM cl)) := fun y m => by
  obtain ⟨z, mz, rfl⟩ := List.mem_map.mp m
  exact stepsM_ok h (o z mz)
theorem Spn.steps (h0 : 0 < cl) (o : RowsOk cl n rs) (a : Spn cl n rs x) : Spn cl n (rs.map (stepsM cl)) (stepsM cl x) := by
  induction a with
  | zero => rw [stepsM_zero]; exact .zero
  | @add x r t a m ih =>
    rw [stepsM_adM (a.ok h0 o) (o r m)]
    exact .add t ih (List.mem_map.mpr ⟨r, m, rfl⟩)
theorem Spn.steps_of (h0 : 0 < cl) (o : RowsOk cl n rs) (a : Spn cl n (rs.map (stepsM cl)) y) : ∃ x, Spn cl n rs x ∧ stepsM cl x = y := by
  induction a with
  | zero => exact ⟨_, .zero, stepsM_zero⟩
  | @add z r t a m ih =>
    obtain ⟨x, sx, ex⟩ := ih
    obtain ⟨s, ms, rfl⟩ := List.mem_map.mp m
    exact ⟨_, sx.add t ms, by rw [stepsM_adM (sx.ok h0 o) (o s ms), ex]⟩
/-- one row with the other's steps is their swing -/
theorem dot_steps (a : RowOk cl n x) (b : RowOk cl n y) : dotR n (stepsM cl x) y % cl = swL x y % cl := by
  rw [← swing_eq (by rw [a.1, b.1])]
  unfold swingF
  rw [zip_sum y (stepsF x) (by rw [stepsF_len, a.1, b.1]), b.1]
  refine gS_mod fun k hk => ?_
  show ((stepsM cl x).getD k 0 * _) % cl = _
  rw [stepsM_at (by rw [a.1]; exact hk), Int.mul_emod, Int.emod_emod, ← Int.mul_emod, Int.mul_comm]
  congr 2
  rw [List.getD_eq_getElem?_getD, stepsF_at (by rw [a.1]; exact hk)]
  rfl
theorem dot_turn (a : RowOk cl n x) (b : RowOk cl n y) : dotR n (stepsM cl x) y % cl = 0 ↔ dotR n x (stepsM cl y) % cl = 0 := by
  have e0 := swL_anti (xs := x) (ys := y) (by rw [a.1, b.1])
  rw [dot_comm x, dot_steps a b, dot_steps b a, e0]
  constructor
  · intro e; exact Int.emod_eq_zero_of_dvd (Int.dvd_neg.mpr (Int.dvd_of_emod_eq_zero e))
  · intro e; exact Int.emod_eq_zero_of_dvd (Int.dvd_neg.mp (Int.dvd_of_emod_eq_zero e))
/-! beside -/
theorem least_spn (hc : cl ∈ clocks) (o : RowsOk cl n rs) : Spn cl n (leastForm cl n rs) x ↔ Spn cl n rs x := by
  obtain ⟨f, a, b⟩ := least_ok hc o
  have c3 := clocks_3 hc
  exact ⟨fun s => s.mono (by omega) f.ok o a, fun s => s.mono (by omega) o f.ok b⟩
theorem least_steps (hc : cl ∈ clocks) (o : RowsOk cl n rs) : leastForm cl n ((leastForm cl n rs).map (stepsM cl)) = leastForm cl n (rs.map (stepsM cl)) := by
  obtain ⟨f, a, b⟩ := least_ok hc o
  have c3 := clocks_3 hc
  refine least_same hc (rsteps_ok (by omega) f.ok) (rsteps_ok (by omega) o) (fun r m => ?_) fun r m => ?_
  · obtain ⟨x, mx, rfl⟩ := List.mem_map.mp m
    exact (a x mx).steps (by omega) o
  · obtain ⟨x, mx, rfl⟩ := List.mem_map.mp m
    exact (b x mx).steps (by omega) f.ok
def besideF (cl : Int) (n : Nat) (rs : List (List Int)) : List (List Int) := leastForm cl n (uprightF cl n (leastForm cl n (rs.map (stepsM cl))))
theorem beside_ok (hc : cl ∈ clocks) (o : RowsOk cl n rs) : RowsOk cl n (uprightF cl n (leastForm cl n (rs.map (stepsM cl)))) := by
  have c3 := clocks_3 hc
  exact upright_ok (by omega) (least_ok hc (rsteps_ok (by omega) o)).1
theorem beside_rows (hc : cl ∈ clocks) (o : RowsOk cl n rs) : LF cl n (besideF cl n rs) := (least_ok hc (beside_ok hc o)).1
theorem beside_least (hc : cl ∈ clocks) (o : RowsOk cl n rs) : besideF cl n (leastForm cl n rs) = besideF cl n rs := by
  unfold besideF
  rw [least_steps hc o]
/-- what stands beside: the rows that swing with none -/
theorem beside_mem (hc : cl ∈ clocks) (o : RowsOk cl n rs) : Spn cl n (besideF cl n rs) x ↔ RowOk cl n x ∧ ∀ y ∈ rs, dotR n (stepsM cl y) x % cl = 0 := by
  have c3 := clocks_3 hc
  have os := rsteps_ok (cl := cl) (n := n) (by omega) o
  unfold besideF
  rw [least_spn hc (beside_ok hc o), upright_mem (by omega) (least_ok hc os).1]
  constructor
  · rintro ⟨ox, h⟩
    refine ⟨ox, fun y my => ?_⟩
    rw [dot_comm]
    refine Spn.perp (by omega) (least_ok hc os).1.ok ((least_spn hc os).mpr (.of (by omega) os (List.mem_map.mpr ⟨y, my, rfl⟩))) fun r mr => ?_
    rw [dot_comm]
    exact h r mr
  · rintro ⟨ox, h⟩
    refine ⟨ox, fun r mr => ?_⟩
    rw [dot_comm]
    refine Spn.perp (by omega) os ((least_ok hc os).2.1 r mr) fun s ms => ?_
    obtain ⟨y, my, rfl⟩ := List.mem_map.mp ms
    rw [dot_comm]
    exact h y my
theorem beside_spn (hc : cl ∈ clocks) (o : RowsOk cl n rs) : Spn cl n (besideF cl n rs) x ↔ RowOk cl n x ∧ ∀ y, Spn cl n rs y → dotR n (stepsM cl y) x % cl = 0 := by
  have c3 := clocks_3 hc
  rw [beside_mem hc o]
  constructor
  · rintro ⟨ox, h⟩
    refine ⟨ox, fun y sy => ?_⟩
    rw [dot_comm]
    refine Spn.perp (by omega) (rsteps_ok (by omega) o) (sy.steps (by omega) o) fun s ms => ?_
    obtain ⟨z, mz, rfl⟩ := List.mem_map.mp ms
    rw [dot_comm]
    exact h z mz
  · rintro ⟨ox, h⟩
    exact ⟨ox, fun y my => h y (.of (by omega) o my)⟩
/-! chess rows -/
def chessL (k : Nat) : List (List Int) := [(List.replicate k [1, 0]).flatten, (List.replicate k [0, 1]).flatten]
theorem flat_at {u v : Int} : ∀ {h k : Nat}, k < 2 * h → ((List.replicate h [u, v]).flatten).getD k 0 = if k % 2 = 0 then u else v
  | 0, _, e => by omega
  | h + 1, 0, _ => rfl
  | h + 1, 1, _ => rfl
  | h + 1, k + 2, e => by
    rw [List.replicate_succ, List.flatten_cons]
    show ((List.replicate h [u, v]).flatten).getD k 0 = _
    rw [flat_at (by omega), Nat.add_mod_right]
theorem flat_len {u v : Int} : ∀ k : Nat, ((List.replicate k [u, v]).flatten).length = 2 * k
  | 0 => rfl
  | k + 1 => by rw [List.replicate_succ, List.flatten_cons, List.length_append, flat_len k]; show 2 + 2 * k = _; omega
theorem flat_ok {u v : Int} (hu : 0 ≤ u ∧ u < cl) (hv : 0 ≤ v ∧ v < cl) (k : Nat) : RowOk cl (2 * k) ((List.replicate k [u, v]).flatten) := by
  refine ⟨flat_len k, fun y m => ?_⟩
  obtain ⟨i, hi, e⟩ := List.mem_iff_getElem.mp m
  have z := flat_at (u := u) (v := v) (h := k) (k := i) (by rw [flat_len] at hi; exact hi)
  rw [List.getD_eq_getElem?_getD, List.getElem?_eq_getElem hi, e] at z
  have z' : y = if i % 2 = 0 then u else v := z
  split at z' <;> omega
theorem chessL_ok (h : 1 < cl) (k : Nat) : RowsOk cl (2 * k) (chessL k) := fun r m => by
  rcases List.mem_cons.mp m with e | m
  · rw [e]; exact flat_ok (by omega) (by omega) k
  · rw [List.mem_singleton.mp m]; exact flat_ok (by omega) (by omega) k
/-- rows without steps are sums of the chess rows -/
theorem steps_none (h : 1 < cl) {k : Nat} (ox : RowOk cl (2 * k) x) (e : stepsM cl x = zeroR (2 * k)) : Spn cl (2 * k) (chessL k) x := by
  have nx : ∀ j, j + 2 < 2 * k → x.getD (j + 2) 0 = x.getD j 0 := fun j hj => by
    have z := stepsM_at (cl := cl) (x := x) (k := j + 1) (by rw [ox.1]; omega)
    rw [e, zeroR_at] at z
    unfold stepAt at z
    rw [if_neg (by omega), if_neg (by rw [ox.1]; omega), Nat.add_sub_cancel] at z
    have a := dig_gd ox.2 (by omega : 0 < cl) j
    have b := dig_gd ox.2 (by omega : 0 < cl) (j + 1 + 1)
    have d := Int.emod_emod_of_dvd
    have c1 : x.getD j 0 % cl = x.getD (j + 1 + 1) 0 % cl := Int.emod_eq_emod_iff_emod_sub_eq_zero.mpr z.symm
    rw [em_of a, em_of b] at c1
    exact c1.symm
  have par : ∀ j, j < 2 * k → x.getD j 0 = x.getD (j % 2) 0 := fun j => by
    induction j using Nat.strongRecOn with
    | ind j ih =>
      intro hj
      by_cases c : j < 2
      · rw [Nat.mod_eq_of_lt c]
      · obtain ⟨i, rfl⟩ : ∃ i, j = i + 2 := ⟨j - 2, by omega⟩
        rw [nx i hj, ih i (by omega) (by omega), Nat.add_mod_right]
  refine Spn.of_sum (by omega) (chessL_ok h k) [0, 1] (fun g : Nat => (List.replicate k [if g = 0 then 1 else 0, if g = 0 then 0 else 1]).flatten) (fun g => x.getD g 0) (fun g mg => ?_) ox fun j hj => ?_
  · rcases List.mem_cons.mp mg with e | m
    · subst e; exact List.mem_cons_self ..
    · rw [List.mem_singleton.mp m]; exact List.mem_cons_of_mem _ (List.mem_cons_self ..)
  · have dx := dig_gd ox.2 (by omega : 0 < cl) (j % 2)
    rw [par j hj]
    show _ = (x.getD 0 0 * ((List.replicate k [1, 0]).flatten).getD j 0 + (x.getD 1 0 * ((List.replicate k [0, 1]).flatten).getD j 0 + 0)) % cl
    rw [flat_at hj, flat_at hj]
    rcases Nat.mod_two_eq_zero_or_one j with e | e
    · rw [e] at dx ⊢
      rw [if_pos rfl, if_pos rfl, Int.mul_one, Int.mul_zero, Int.zero_add, Int.add_zero, em_of dx]
    · rw [e] at dx ⊢
      rw [if_neg (by decide), if_neg (by decide), Int.mul_one, Int.mul_zero, Int.zero_add, Int.add_zero, em_of dx]
theorem chess_steps (h : 1 < cl) {k : Nat} : ∀ r ∈ chessL k, stepsM cl r = zeroR (2 * k) := fun r m => by
  have aux : ∀ u v : Int, stepsM cl ((List.replicate k [u, v]).flatten) = zeroR (2 * k) := fun u v => by
    refine row_ext' (by rw [stepsM_len, flat_len]; exact (List.length_replicate ..).symm) fun j hj => ?_
    rw [stepsM_len, flat_len] at hj
    rw [stepsM_at (by rw [flat_len]; exact hj), zeroR_at]
    unfold stepAt
    rw [flat_len, flat_at (by split <;> omega), flat_at (by split <;> omega)]
    have e : (if j = 0 then 2 * k - 1 else j - 1) % 2 = (if j + 1 = 2 * k then 0 else j + 1) % 2 := by split <;> split <;> omega
    rw [e, Int.sub_self]
    rfl
  rcases List.mem_cons.mp m with e | m
  · rw [e]; exact aux 1 0
  · rw [List.mem_singleton.mp m]; exact aux 0 1
theorem ok_append (o : RowsOk cl n rs) (o2 : RowsOk cl n ss) : RowsOk cl n (rs ++ ss) := fun r m => (List.mem_append.mp m).elim (o r) (o2 r)
/-- beside what stands beside -/
theorem beside_beside (hc : cl ∈ clocks) {k : Nat} (o : RowsOk cl (2 * k) rs) : besideF cl (2 * k) (besideF cl (2 * k) rs) = leastForm cl (2 * k) (rs ++ chessL k) := by
  have c3 := clocks_3 hc
  have oc := chessL_ok (cl := cl) (by omega) k
  have oa := ok_append o oc
  have ob := (beside_rows hc o).ok
  refine (least_is hc oa (beside_rows hc ob) (fun r m => ?_) fun r m => ?_).symm
  · obtain ⟨or, hr⟩ := (beside_spn hc ob).mp (.of (by omega) (beside_rows hc ob).ok m)
    have os := rsteps_ok (cl := cl) (n := 2 * k) (by omega) o
    have f := (least_ok hc os).1
    have s := upright_perp (by omega) f (stepsM_ok (by omega) or) fun j mj => by
      have mf : freeR cl (2 * k) (leastForm cl (2 * k) (rs.map (stepsM cl))) j ∈ uprightF cl (2 * k) (leastForm cl (2 * k) (rs.map (stepsM cl))) := List.mem_map.mpr ⟨j, mj, rfl⟩
      exact (dot_turn (beside_ok hc o _ mf) or).mp (hr _ ((least_spn hc (beside_ok hc o)).mpr (.of (by omega) (beside_ok hc o) mf)))
    obtain ⟨z, sz, ez⟩ := ((least_spn hc os).mp s).steps_of (by omega) o
    have oz := sz.ok (by omega) o
    have sc := steps_none (x := adM cl (-1) r z) (by omega) (adM_ok (by omega) or oz) (by
      rw [stepsM_adM or oz, ez]
      refine row_ext' (by rw [adM_len rfl, stepsM_len, or.1]; exact (List.length_replicate ..).symm) fun j _ => ?_
      rw [adM_at rfl, zeroR_at, show (stepsM cl r).getD j 0 + -1 * (stepsM cl r).getD j 0 = 0 by omega]
      rfl)
    have e := adM_back (t := -1) (by omega : 0 < cl) or oz
    have s2 := (sc.sub (ss := rs ++ chessL k) fun r m => List.mem_append.mpr (.inr m)).comb (by omega) oa (sz.sub fun r m => List.mem_append.mpr (.inl m)) (-(-1))
    rw [e] at s2
    exact s2
  · refine (beside_mem hc ob).mpr ⟨oa r m, fun y my => ?_⟩
    have oy := ob y my
    rw [dot_turn oy (oa r m)]
    rcases List.mem_append.mp m with mr | mc
    · rw [dot_comm]
      exact ((beside_mem hc o).mp (.of (by omega) ob my)).2 r mr
    · rw [chess_steps (by omega) r mc, dot_zero]
      rfl
theorem beside_thrice (hc : cl ∈ clocks) {k : Nat} (o : RowsOk cl (2 * k) rs) : besideF cl (2 * k) (besideF cl (2 * k) (besideF cl (2 * k) rs)) = besideF cl (2 * k) rs := by
  have c3 := clocks_3 hc
  have oc := chessL_ok (cl := cl) (by omega) k
  have oa := ok_append o oc
  rw [beside_beside hc o, beside_least hc oa]
  refine LF.one (by omega) (beside_rows hc oa) (beside_rows hc o) (fun r m => ?_) fun r m => ?_
  · obtain ⟨ox, h⟩ := (beside_mem hc oa).mp (.of (by omega) (beside_rows hc oa).ok m)
    exact (beside_mem hc o).mpr ⟨ox, fun y my => h y (List.mem_append.mpr (.inl my))⟩
  · obtain ⟨ox, h⟩ := (beside_mem hc o).mp (.of (by omega) (beside_rows hc o).ok m)
    refine (beside_mem hc oa).mpr ⟨ox, fun y my => ?_⟩
    rcases List.mem_append.mp my with mr | mc
    · exact h y mr
    · rw [chess_steps (by omega) y mc, dot_comm, dot_zero]
      rfl
theorem beside_swing (hc : cl ∈ clocks) (o : RowsOk cl n rs) (mx : x ∈ rs) (my : y ∈ besideF cl n rs) : swL x y % cl = 0 := by
  have c3 := clocks_3 hc
  have ob := (beside_rows hc o).ok
  rw [← dot_steps (o x mx) (ob y my)]
  exact ((beside_mem hc o).mp (.of (by omega) ob my)).2 x mx
end
end Rp
namespace Rp
open PySem PySem.Spec PyProof.Rows L2 LamX RZ
section
variable {J : It} {n : Nat} {G : Hp → Prop} {Y : Nat → Hp → V → Hp → Prop} {g : TG} {te : TE} {tt : TT} {vs : List Nat} {σ : L2.St} {H1 : Hp} {D : Addr} {Qd : Hp → Prop}
/-- rows, of those of which a test holds -/
theorem lc_fltR (W : Walk J n G Y) (p : Nat → Bool) (f : Nat → List Int) (hG : ∀ H, Same H1 H → G H) (hD : H1 D = none) (hn : n < sizeLine)
    (step : ∀ i x H H', i < n → Same H1 H → (∃ xs, H D = some (.lst xs)) → Y i H x H' → ∀ (T : VK) (F : Hp → Prop), (p i = true → ∀ a H4, Same H H4 → a ≠ D → H4 a = some (.lst ((f i).map V.int)) → T (.ref a) H4) → (p i = false → ∀ H4, Same H H4 → F H4) →
      g x (wipe σ vs) H' fun σ2 H2 => wipe σ2 vs = wipe σ vs ∧ tt σ2 H2 fun b H3 => if b = true then te σ2 H3 T else F H3)
    (done : ∀ H as, Same H1 H → H D = some (.lst (as.map V.ref)) → LstRw D H as (((List.range n).filter p).map f) → Qd H) :
    ∃ W : Nat → Nat → Hp → Prop, (∃ m, W 0 m (upd H1 D (.lst []))) ∧ ∀ (i m : Nat) (H : Hp), W i m H → J.stop i H ∧ Qd H ∨ J.go i H ∧ ∃ Nx : Hp → Prop, (∀ H', Nx H' → ∃ m', m' < m ∧ W (i + 1) m' H') ∧
      ∀ (x : V) (H' : Hp), J.yld i H x H' → g x (wipe σ vs) H' fun σ2 H2 => wipe σ2 vs = wipe σ vs ∧ tt σ2 H2 fun b H3 => if b = true then te σ2 H3 fun y H4 => ∃ acc, H4 D = some (.lst acc) ∧ acc.length < sizeLine ∧ Nx (upd H4 D (.lst (acc ++ [y]))) else Nx H3 := by
  refine lc_it W (tt := tt) (fun i H => Same H1 H ∧ ∃ as, H D = some (.lst (as.map V.ref)) ∧ LstRw D H as (((List.range i).filter p).map f)) ⟨same_neu (Same.refl _) hD, [], upd_same, rfl, fun i a xs e => by simp at e⟩ (fun i H _ h => hG H h.1) ?_ ?_
  · rintro i x H H' hi ⟨s, as, eD, R⟩ hY
    refine step i x H H' hi s ⟨_, eD⟩ hY _ _ (fun pt a H4 s4 na ea => ?_) fun pf H4 s4 => ?_
    · refine ⟨_, s4 _ _ eD, ?_, fun b o e => ?_, as ++ [a], ?_, ?_⟩
      · rw [List.length_map, R.1, List.length_map]
        refine Nat.lt_of_le_of_lt (List.length_filter_le _ _) ?_
        rw [List.length_range]
        omega
      · rw [upd_ne (ne_of_none e hD)]
        exact s4 b o (s b o e)
      · rw [upd_same, List.map_append]
        rfl
      · rw [List.range_succ, List.filter_append, List.map_append, List.filter_cons_of_pos pt]
        exact ((R.same s4).snoc na ea).but fun b o nb e => by rw [upd_ne nb]; exact e
    · refine ⟨fun b o e => s4 b o (s b o e), as, s4 _ _ eD, ?_⟩
      rw [List.range_succ, List.filter_append, List.map_append, List.filter_cons_of_neg (by rw [pf]; decide)]
      show LstRw D H4 as (_ ++ [])
      rw [List.append_nil]
      exact R.same s4
  · rintro H ⟨s, as, eD, R⟩
    exact done H as s eD R
end
/-- what stands in a list of ints -/
theorem inV_ints {i : Int} : ∀ {xs : List Int}, inV (.int i) (xs.map V.int) = xs.contains i
  | [] => rfl
  | x :: xs => by
    have ih := inV_ints (i := i) (xs := xs)
    unfold inV at ih ⊢
    rw [List.map_cons, List.any_cons, List.contains_cons, ih]
    congr 1
    show (x == i) = (i == x)
    by_cases e : x = i
    · rw [e]
    · rw [beq_eq_false_iff_ne.mpr e, beq_eq_false_iff_ne.mpr (Ne.symm e)]
end Rp
namespace Rp
/-! ### how many rows a space has; fair spaces -/
section
variable {cl t u : Int} {n m : Nat} {x y r s : List Int} {rs ss ks ls : List (List Int)}
def dimF (cl : Int) (n : Nat) (rs : List (List Int)) : Nat := (leastForm cl n rs).length
theorem back_len {ls : List (Nat × List Int)} : ∀ {as : List Nat} {st : List (Nat × List Int) × List (List Int)}, (as.foldl (backOne cl ls) st).2.length = st.2.length + as.length
  | [], _ => rfl
  | a :: as, st => by
    rw [List.foldl_cons, back_len]
    show (st.2 ++ [_]).length + as.length = _
    rw [List.length_append, List.length_singleton, List.length_cons]
    omega
theorem dim_leading : dimF cl n rs = (leading cl n rs).length := by
  unfold dimF leastForm
  show ((descend ((leading cl n rs).map (·.1))).foldl (backOne cl (leading cl n rs)) ([], [])).2.reverse.length = _
  rw [List.length_reverse, back_len, (descend_perm _).length_eq, List.length_map]
  exact Nat.zero_add _
theorem ok_snoc (o : RowsOk cl n rs) (ox : RowOk cl n x) : RowsOk cl n (rs ++ [x]) := fun y m => by
  rcases List.mem_append.mp m with m | m
  · exact o y m
  · rw [List.mem_singleton.mp m]; exact ox
theorem dim_same (hc : cl ∈ clocks) (o : RowsOk cl n rs) (o2 : RowsOk cl n ss) (f1 : ∀ r ∈ rs, Spn cl n ss r) (f2 : ∀ r ∈ ss, Spn cl n rs r) : dimF cl n rs = dimF cl n ss := by
  unfold dimF
  rw [least_same hc o o2 f1 f2]
theorem dim_in (hc : cl ∈ clocks) (o : RowsOk cl n rs) (h : Spn cl n rs x) : dimF cl n (rs ++ [x]) = dimF cl n rs := by
  have c3 := clocks_3 hc
  refine dim_same hc (ok_snoc o (h.ok (by omega) o)) o (fun r m => ?_) fun r m => ?_
  · rcases List.mem_append.mp m with m | m
    · exact .of (by omega) o m
    · rw [List.mem_singleton.mp m]; exact h
  · exact .of (by omega) (ok_snoc o (h.ok (by omega) o)) (List.mem_append_left _ m)
theorem dim_new (hc : cl ∈ clocks) (o : RowsOk cl n rs) (ox : RowOk cl n x) (h : ¬ Spn cl n rs x) : dimF cl n (rs ++ [x]) = dimF cl n rs + 1 := by
  have c3 := clocks_3 hc
  have h0 : 0 < cl := by omega
  have S := leading_S hc o
  have e : leading cl n (rs ++ [x]) = ldOne cl n (leading cl n rs) x := by
    unfold leading
    rw [List.foldl_append]
    rfl
  rw [dim_leading, dim_leading, e, ldOne_eq]
  have oL := left_M h0 S.I.ok ox
  have okL : RowOk cl n (leftOf cl (leading cl n rs) x) := by rw [oL]; exact clrM_ok h0 S.I.ok ox
  have z : ∀ l ∈ leading cl n rs, (leftOf cl (leading cl n rs) x).getD l.1 0 = 0 := by rw [oL]; exact S.I.zero h0 ox
  have hl : leadOf (leftOf cl (leading cl n rs) x) < n := by
    refine Classical.byContradiction fun hl => h ?_
    have oN := rowsL_ok S.I.ok
    have e : leadOf (leftOf cl (leading cl n rs) x) = (leftOf cl (leading cl n rs) x).length := by
      have := leadOf_le (leftOf cl (leading cl n rs) x)
      rw [okL.1] at this ⊢
      omega
    have w : Spn cl n (rowsL (leading cl n rs)) x := by
      refine clrM_back h0 oN S.I.ok ox (fun l ml => .of h0 oN (rowsL_mem ml)) ?_
      rw [← oL, full_zero e, okL.1]
      exact .zero
    exact w.mono h0 oN o fun r m => by
      obtain ⟨l, ml, rfl⟩ := List.mem_map.mp m
      exact S.to l ml
  have new : ∀ l ∈ leading cl n rs, l.1 ≠ leadOf (leftOf cl (leading cl n rs) x) := fun l m e => by
    have w := z l m
    rw [e] at w
    exact lead_ne (by rw [okL.1]; exact hl) w
  rw [if_pos hl, putL_new new, List.length_append]
  rfl
theorem dim_none (hc : cl ∈ clocks) : dimF cl n [] = 0 := by
  rw [dim_leading]
  rfl
theorem dim_grow (hc : cl ∈ clocks) : ∀ {us rs : List (List Int)}, RowsOk cl n rs → RowsOk cl n us → dimF cl n rs ≤ dimF cl n (rs ++ us)
  | [], rs, _, _ => by rw [List.append_nil]; exact Nat.le_refl _
  | u :: us, rs, o, ou => by
    have ox := ou u (List.mem_cons_self ..)
    have a := dim_grow hc (us := us) (ok_snoc o ox) fun y m => ou y (List.mem_cons_of_mem _ m)
    rw [List.append_assoc] at a
    refine Nat.le_trans ?_ a
    by_cases h : Spn cl n rs u
    · rw [dim_in hc o h]; exact Nat.le_refl _
    · rw [dim_new hc o ox h]; omega
theorem dim_mono (hc : cl ∈ clocks) (o : RowsOk cl n rs) (o2 : RowsOk cl n ss) (f : ∀ r ∈ rs, Spn cl n ss r) : dimF cl n rs ≤ dimF cl n ss := by
  have c3 := clocks_3 hc
  refine Nat.le_trans (dim_grow hc o o2) (Nat.le_of_eq (dim_same hc (ok_append o o2) o2 (fun r m => ?_) fun r m => ?_))
  · rcases List.mem_append.mp m with m | m
    · exact f r m
    · exact .of (by omega) o2 m
  · exact .of (by omega) (ok_append o o2) (List.mem_append_right _ m)
theorem dim_all (hc : cl ∈ clocks) (o : RowsOk cl n rs) (o2 : RowsOk cl n ss) (f : ∀ r ∈ rs, Spn cl n ss r) (d : dimF cl n ss ≤ dimF cl n rs) (a : Spn cl n ss x) : Spn cl n rs x := by
  have c3 := clocks_3 hc
  refine Classical.byContradiction fun h => ?_
  have ox := a.ok (by omega) o2
  have e := dim_new hc o ox h
  have g := dim_mono hc (ok_snoc o ox) o2 fun r m => by
    rcases List.mem_append.mp m with m | m
    · exact f r m
    · rw [List.mem_singleton.mp m]; exact a
  omega
/-- rows made of others, one for each -/
theorem dim_map (hc : cl ∈ clocks) {n' : Nat} {T : List Int → List Int} (ok : RowsOk cl n ks) (hT : ∀ x, RowOk cl n x → RowOk cl n' (T x))
    (h : ∀ p x, RowsOk cl n p → RowOk cl n x → (Spn cl n (ks ++ p) x ↔ Spn cl n' (p.map T) (T x))) (o : RowsOk cl n rs) : dimF cl n (ks ++ rs) = dimF cl n ks + dimF cl n' (rs.map T) := by
  have okm : ∀ {p : List (List Int)}, RowsOk cl n p → RowsOk cl n' (p.map T) := fun o y m => by
    obtain ⟨z, mz, rfl⟩ := List.mem_map.mp m
    exact hT z (o z mz)
  have aux : ∀ (us p : List (List Int)), RowsOk cl n p → RowsOk cl n us → dimF cl n (ks ++ p) = dimF cl n ks + dimF cl n' (p.map T) → dimF cl n (ks ++ (p ++ us)) = dimF cl n ks + dimF cl n' ((p ++ us).map T) := by
    intro us
    induction us with
    | nil => intro p _ _ e; rw [List.append_nil]; exact e
    | cons u us ih =>
      intro p op ou e
      have ox := ou u (List.mem_cons_self ..)
      have w := ih (p ++ [u]) (ok_snoc op ox) (fun y m => ou y (List.mem_cons_of_mem _ m)) ?_
      · rw [List.append_assoc] at w
        exact w
      · rw [← List.append_assoc, List.map_append, List.map_cons, List.map_nil]
        by_cases c : Spn cl n (ks ++ p) u
        · rw [dim_in hc (ok_append ok op) c, dim_in hc (okm op) ((h p u op ox).mp c), e]
        · rw [dim_new hc (ok_append ok op) ox c, dim_new hc (okm op) (hT u ox) fun z => c ((h p u op ox).mpr z), e]
          omega
  have z := aux rs [] (fun _ m => nomatch m) o (by rw [List.append_nil, List.map_nil, dim_none hc]; rfl)
  rw [List.nil_append] at z
  exact z
/-- a way of making rows of others that keeps sums and multiples -/
structure Lin (cl : Int) (n n' : Nat) (T : List Int → List Int) : Prop where
  ok : ∀ x, RowOk cl n x → RowOk cl n' (T x)
  zero : T (zeroR n) = zeroR n'
  lin : ∀ x y t, RowOk cl n x → RowOk cl n y → T (adM cl t x y) = adM cl t (T x) (T y)
variable {n' : Nat} {T : List Int → List Int}
theorem Lin.rows (L : Lin cl n n' T) (o : RowsOk cl n rs) : RowsOk cl n' (rs.map T) := fun y m => by
  obtain ⟨z, mz, rfl⟩ := List.mem_map.mp m
  exact L.ok z (o z mz)
theorem Lin.spn (L : Lin cl n n' T) (h0 : 0 < cl) (o : RowsOk cl n rs) (a : Spn cl n rs x) : Spn cl n' (rs.map T) (T x) := by
  induction a with
  | zero => rw [L.zero]; exact .zero
  | @add x r t a m ih =>
    rw [L.lin x r t (a.ok h0 o) (o r m)]
    exact .add t ih (List.mem_map.mpr ⟨r, m, rfl⟩)
theorem Lin.of (L : Lin cl n n' T) (h0 : 0 < cl) (o : RowsOk cl n rs) (a : Spn cl n' (rs.map T) y) : ∃ x, Spn cl n rs x ∧ T x = y := by
  induction a with
  | zero => exact ⟨_, .zero, L.zero⟩
  | @add z r t a m ih =>
    obtain ⟨x, sx, ex⟩ := ih
    obtain ⟨s, ms, rfl⟩ := List.mem_map.mp m
    exact ⟨_, sx.add t ms, by rw [L.lin x s t (sx.ok h0 o) (o s ms), ex]⟩
theorem Lin.dim (L : Lin cl n n' T) (hc : cl ∈ clocks) (inj : ∀ x y, RowOk cl n x → RowOk cl n y → T x = T y → x = y) (o : RowsOk cl n rs) : dimF cl n' (rs.map T) = dimF cl n rs := by
  have c3 := clocks_3 hc
  have z := dim_map hc (ks := []) (rs := rs) (T := T) (n := n) (n' := n') (fun _ m => nomatch m) L.ok (fun p x op ox => by
    rw [List.nil_append]
    refine ⟨fun a => L.spn (by omega) op a, fun a => ?_⟩
    obtain ⟨w, sw, ew⟩ := L.of (by omega) op a
    rw [← inj w x (sw.ok (by omega) op) ox ew]
    exact sw) o
  rw [List.nil_append, dim_none hc, Nat.zero_add] at z
  exact z.symm
theorem Spn.none_at {k : Nat} (h0 : 0 < cl) (o : RowsOk cl n rs) (a : Spn cl n rs x) (h : ∀ r ∈ rs, r.getD k 0 = 0) : x.getD k 0 = 0 := by
  induction a with
  | zero => exact zeroR_at k
  | @add x r t a m ih =>
    rw [adM_at (by rw [(a.ok h0 o).1, (o r m).1]), ih, h r m]
    simp
theorem dim_units (hc : cl ∈ clocks) (row : Nat → List Int) {gs : List Nat} (nd : gs.Nodup) (o : ∀ g ∈ gs, RowOk cl n (row g)) (h1 : ∀ g ∈ gs, (row g).getD g 0 ≠ 0) (h2 : ∀ g ∈ gs, ∀ h ∈ gs, h ≠ g → (row g).getD h 0 = 0) : dimF cl n (gs.map row) = gs.length := by
  have c3 := clocks_3 hc
  have aux : ∀ (us p : List Nat), (p ++ us).Nodup → (∀ g ∈ p ++ us, RowOk cl n (row g)) → (∀ g ∈ p ++ us, (row g).getD g 0 ≠ 0) → (∀ g ∈ p ++ us, ∀ h ∈ p ++ us, h ≠ g → (row g).getD h 0 = 0) → dimF cl n (p.map row) = p.length → dimF cl n ((p ++ us).map row) = (p ++ us).length := by
    intro us
    induction us with
    | nil => intro p _ _ _ _ e; rw [List.append_nil]; exact e
    | cons u us ih =>
      intro p nd o h1 h2 e
      have w := ih (p ++ [u])
      rw [List.append_assoc] at w
      refine w nd o h1 h2 ?_
      have mu : u ∈ p ++ u :: us := List.mem_append.mpr (.inr (List.mem_cons_self ..))
      have op : RowsOk cl n (p.map row) := fun y m => by
        obtain ⟨z, mz, rfl⟩ := List.mem_map.mp m
        exact o z (List.mem_append.mpr (.inl mz))
      rw [List.map_append, List.map_cons, List.map_nil, dim_new hc op (o u mu) fun a => ?_, e, List.length_append]
      · rfl
      · refine h1 u mu (a.none_at (by omega) op fun r m => ?_)
        obtain ⟨g, mg, rfl⟩ := List.mem_map.mp m
        refine h2 g (List.mem_append.mpr (.inl mg)) u mu fun e => ?_
        rw [← e] at mg
        exact (List.nodup_append.mp nd).2.2 u mg u (List.mem_cons_self ..) rfl
  have z := aux gs [] (by rw [List.nil_append]; exact nd) (by rw [List.nil_append]; exact o) (by rw [List.nil_append]; exact h1) (by rw [List.nil_append]; exact h2) (dim_none hc)
  rw [List.nil_append] at z
  exact z
theorem gS_ones : ∀ n : Nat, gS n (fun _ => 1) = (n : Int)
  | 0 => rfl
  | n + 1 => by rw [gS_succ, gS_ones n]; omega
theorem sum_ones {α : Type} : ∀ ls : List α, (ls.map fun _ => (1 : Int)).sum = (ls.length : Int)
  | [] => rfl
  | _ :: ls => by rw [List.map_cons, List.sum_cons, sum_ones ls, List.length_cons]; omega
theorem gaps_len (h : LF cl n ls) : (gapsF n ls).length + ls.length = n := by
  have a := filt_sum (gapP ls) (fun _ => 1) n
  have b := gS_split (n := n) (fun _ => 1) h.leads h.leads_lt
  rw [sum_ones, List.length_map, gS_ones] at b
  have e : gS n (fun k => if gapP ls k = true then 1 else 0) = gS n (fun k => if k ∈ ls.map leadOf then 0 else 1) := gS_congr fun k _ => by
    by_cases c : k ∈ ls.map leadOf
    · rw [if_pos c, if_neg (fun z => gapP_yes.mp z c)]
    · rw [if_neg c, if_pos (gapP_yes.mpr c)]
  rw [← e, ← a, sum_ones] at b
  show ((List.range n).filter (gapP ls)).length + ls.length = n
  omega
theorem dim_upright (hc : cl ∈ clocks) (h : LF cl n ls) : dimF cl n (uprightF cl n ls) + ls.length = n := by
  have c3 := clocks_3 hc
  have e := dim_units hc (freeR cl n ls) (gs := gapsF n ls) (n := n) ((List.nodup_range (n := n)).filter _) (fun g m => free_ok (by omega) h (gaps_mem.mp m).1) (fun g m => by rw [free_off (gaps_mem.mp m).1 (gaps_mem.mp m).2, if_pos rfl]; decide) (fun g m k mk ne => by rw [free_off (gaps_mem.mp m).1 (gaps_mem.mp mk).2, if_neg ne])
  have g := gaps_len h
  unfold uprightF
  omega
theorem dim_chess (hc : cl ∈ clocks) (m1 : 1 ≤ m) : dimF cl (2 * m) (chessL m) = 2 := by
  have c3 := clocks_3 hc
  have ok := chessL_ok (cl := cl) (by omega) m
  have z := dim_units hc (n := 2 * m) (fun g => if g = 0 then (List.replicate m [1, 0]).flatten else (List.replicate m [0, 1]).flatten) (gs := [0, 1]) (by decide) (fun g mg => by
    split
    · exact ok _ (List.mem_cons_self ..)
    · exact ok _ (List.mem_cons_of_mem _ (List.mem_cons_self ..))) (fun g mg => by
    rcases List.mem_cons.mp mg with e | e
    · subst e; rw [if_pos rfl, flat_at (by omega)]; decide
    · rw [List.mem_singleton.mp e, if_neg (by decide), flat_at (by omega)]; decide) (fun g mg h mh ne => by
    rcases List.mem_cons.mp mg with e | e <;> rcases List.mem_cons.mp mh with e2 | e2
    · exact absurd (e2.trans e.symm) ne
    · rw [List.mem_singleton.mp e2]; subst e; rw [if_pos rfl, flat_at (by omega)]; decide
    · rw [List.mem_singleton.mp e]; subst e2; rw [if_neg (by decide), flat_at (by omega)]; decide
    · exact absurd ((List.mem_singleton.mp e2).trans (List.mem_singleton.mp e).symm) ne)
  exact z
theorem lin_steps (h0 : 0 < cl) : Lin cl n n (stepsM cl) := ⟨fun x o => stepsM_ok h0 o, stepsM_zero, fun x y t a b => stepsM_adM a b⟩
/-- the chess rows are what steps lose -/
theorem dim_steps (hc : cl ∈ clocks) (m1 : 1 ≤ m) (o : RowsOk cl (2 * m) rs) : dimF cl (2 * m) (chessL m ++ rs) = 2 + dimF cl (2 * m) (rs.map (stepsM cl)) := by
  have c3 := clocks_3 hc
  have oc := chessL_ok (cl := cl) (by omega) m
  have e2 := dim_chess hc m1
  refine (dim_map (T := stepsM cl) hc oc (fun x o => stepsM_ok (by omega) o) (fun p x op ox => ⟨fun a => ?_, fun a => ?_⟩) o).trans (by rw [e2])
  · have z := (lin_steps (n := 2 * m) (show 0 < cl by omega)).spn (by omega) (ok_append oc op) a
    refine z.mono (by omega) (rsteps_ok (by omega) (ok_append oc op)) (rsteps_ok (by omega) op) fun r mr => ?_
    obtain ⟨w, mw, rfl⟩ := List.mem_map.mp mr
    rcases List.mem_append.mp mw with mw | mw
    · rw [chess_steps (by omega) w mw]; exact .zero
    · exact .of (by omega) (rsteps_ok (by omega) op) (List.mem_map.mpr ⟨w, mw, rfl⟩)
  · obtain ⟨z, sz, ez⟩ := a.steps_of (by omega) op
    have oz := sz.ok (by omega) op
    have sc := steps_none (x := adM cl (-1) x z) (by omega) (adM_ok (by omega) ox oz) (by
      rw [stepsM_adM ox oz, ez]
      refine row_ext' (by rw [adM_len rfl, stepsM_len, ox.1]; exact (List.length_replicate ..).symm) fun j _ => ?_
      rw [adM_at rfl, zeroR_at, show (stepsM cl x).getD j 0 + -1 * (stepsM cl x).getD j 0 = 0 by omega]
      rfl)
    have e := adM_back (t := -1) (by omega : 0 < cl) ox oz
    have s2 := (sc.sub (ss := chessL m ++ p) fun r mr => List.mem_append.mpr (.inl mr)).comb (by omega) (ok_append oc op) (sz.sub fun r mr => List.mem_append.mpr (.inr mr)) (-(-1))
    rw [e] at s2
    exact s2
theorem beside_dim (hc : cl ∈ clocks) (o : RowsOk cl n rs) : (besideF cl n rs).length + dimF cl n (rs.map (stepsM cl)) = n := by
  have c3 := clocks_3 hc
  exact dim_upright hc (least_ok hc (rsteps_ok (by omega) o)).1
/-- no two of them swing -/
def Agr (cl : Int) (rs : List (List Int)) : Prop := ∀ x ∈ rs, ∀ y ∈ rs, swL x y % cl = 0
theorem Agr.spn (hc : cl ∈ clocks) (o : RowsOk cl n rs) (h : Agr cl rs) (a : Spn cl n rs x) (b : Spn cl n rs y) : swL x y % cl = 0 := by
  have c3 := clocks_3 hc
  have h0 : 0 < cl := by omega
  have h1 : ∀ z ∈ rs, dotR n (stepsM cl x) z % cl = 0 := fun z mz => by
    rw [dot_turn (a.ok h0 o) (o z mz), dot_comm]
    refine Spn.perp h0 o a fun r mr => ?_
    rw [dot_steps (o z mz) (o r mr)]
    exact h z mz r mr
  rw [← dot_steps (a.ok h0 o) (b.ok h0 o)]
  exact Spn.perp h0 o b h1
theorem fair_iff (hc : cl ∈ clocks) (m1 : 1 ≤ m) (o : RowsOk cl (2 * m) rs) : besideF cl (2 * m) rs = leastForm cl (2 * m) rs ↔ dimF cl (2 * m) rs = m + 1 ∧ Agr cl (leastForm cl (2 * m) rs) := by
  have c3 := clocks_3 hc
  have h0 : 0 < cl := by omega
  have oc := chessL_ok (cl := cl) (by omega) m
  have d1 := beside_dim hc o
  have d2 := dim_steps hc m1 o
  have fl := (least_ok hc o).1
  constructor
  · intro e
    have chess : ∀ r ∈ chessL m, Spn cl (2 * m) rs r := fun r mr => by
      rw [← least_spn hc o, ← e, beside_mem hc o]
      refine ⟨oc r mr, fun y my => ?_⟩
      rw [dot_turn (o y my) (oc r mr), chess_steps (by omega) r mr, dot_zero]
      rfl
    have d3 : dimF cl (2 * m) (chessL m ++ rs) = dimF cl (2 * m) rs := dim_same hc (ok_append oc o) o (fun r mr => (List.mem_append.mp mr).elim (chess r) fun mr => .of h0 o mr) fun r mr => .of h0 (ok_append oc o) (List.mem_append_right _ mr)
    have d4 : (besideF cl (2 * m) rs).length = dimF cl (2 * m) rs := by rw [e]; rfl
    refine ⟨by omega, fun x mx y my => ?_⟩
    have sx := (least_spn hc o).mp (.of h0 fl.ok mx)
    rw [← e] at my
    have z := ((beside_spn hc o).mp (.of h0 (beside_rows hc o).ok my)).2 x sx
    rw [dot_steps (fl.ok x mx) ((beside_rows hc o).ok y my)] at z
    exact z
  · rintro ⟨d, ag⟩
    have f1 : ∀ r ∈ leastForm cl (2 * m) rs, Spn cl (2 * m) (besideF cl (2 * m) rs) r := fun r mr => by
      rw [← beside_least hc o, beside_mem hc fl.ok]
      refine ⟨fl.ok r mr, fun y my => ?_⟩
      rw [dot_steps (fl.ok y my) (fl.ok r mr)]
      exact ag y my r mr
    have d3 := dim_mono hc o (ok_append oc o) fun r mr => .of h0 (ok_append oc o) (List.mem_append_right _ mr)
    have d4 : dimF cl (2 * m) (besideF cl (2 * m) rs) = (besideF cl (2 * m) rs).length := by
      unfold dimF besideF
      rw [least_idem hc (beside_ok hc o)]
    have d5 : dimF cl (2 * m) (leastForm cl (2 * m) rs) = dimF cl (2 * m) rs := by
      unfold dimF
      rw [least_idem hc o]
    refine LF.one h0 (beside_rows hc o) fl (fun r mr => ?_) f1
    exact dim_all hc fl.ok (beside_rows hc o).ok f1 (by omega) (.of h0 (beside_rows hc o).ok mr)
/-- as many rows as half the ends and one more, none of which swings with another -/
structure Fair (cl : Int) (m : Nat) (rs : List (List Int)) : Prop where
  ok : RowsOk cl (2 * m) rs
  dim : dimF cl (2 * m) rs = m + 1
  agr : Agr cl rs
theorem Fair.least (hc : cl ∈ clocks) (f : Fair cl m rs) : Agr cl (leastForm cl (2 * m) rs) := fun x mx y my => by
  have c3 := clocks_3 hc
  have fl := (least_ok hc f.ok).1
  exact f.agr.spn hc f.ok ((least_spn hc f.ok).mp (.of (by omega) fl.ok mx)) ((least_spn hc f.ok).mp (.of (by omega) fl.ok my))
end
end Rp
namespace Rp
/-! ### gaps opened, ropes crossed: fair spaces stay fair -/
section
variable {cl t u : Int} {n m g : Nat} {x y r s : List Int} {rs ss ls : List (List Int)}
def insR (g : Nat) (x : List Int) : List Int := x.take g ++ (0 :: x.getD (g - 1) 0 :: x.drop g)
def unitR (n g : Nat) : List Int := (List.range n).map fun k => if k = g then 1 else 0
theorem unit_at {k : Nat} (h : k < n) : (unitR n g).getD k 0 = if k = g then 1 else 0 := by
  unfold unitR
  rw [List.getD_eq_getElem?_getD, List.getElem?_map, List.getElem?_range h]
  rfl
theorem unit_len : (unitR n g).length = n := by unfold unitR; rw [List.length_map, List.length_range]
theorem unit_ok (h1 : 1 < cl) : RowOk cl n (unitR n g) := by
  refine ⟨unit_len, fun v m => ?_⟩
  obtain ⟨k, _, rfl⟩ := List.mem_map.mp m
  show 0 ≤ (if k = g then (1 : Int) else 0) ∧ (if k = g then (1 : Int) else 0) < cl
  split <;> omega
theorem ins_len (h : g ≤ x.length) : (insR g x).length = x.length + 2 := by
  unfold insR
  rw [List.length_append, List.length_take, List.length_cons, List.length_cons, List.length_drop]
  omega
theorem ins_lo {k : Nat} (h : g ≤ x.length) (hk : k < g) : (insR g x).getD k 0 = x.getD k 0 := by
  unfold insR
  rw [List.getD_eq_getElem?_getD, List.getElem?_append_left (by rw [List.length_take]; omega), List.getElem?_take, if_pos hk, ← List.getD_eq_getElem?_getD]
theorem ins_mid (h : g ≤ x.length) : (insR g x).getD g 0 = 0 := by
  unfold insR
  rw [List.getD_eq_getElem?_getD, List.getElem?_append_right (by rw [List.length_take]; omega), List.length_take, show g - min g x.length = 0 by omega]
  rfl
theorem ins_hi {k : Nat} (h : g ≤ x.length) (hk : g ≤ k + 1) (h1 : 1 ≤ g) : (insR g x).getD (k + 2) 0 = x.getD k 0 := by
  unfold insR
  rw [List.getD_eq_getElem?_getD, List.getElem?_append_right (by rw [List.length_take]; omega), List.length_take, show min g x.length = g by omega]
  by_cases e : k + 1 = g
  · rw [show k + 2 - g = 1 by omega, show k = g - 1 by omega]
    rfl
  · rw [show k + 2 - g = (k - g) + 2 by omega]
    show ((x.drop g)[k - g]?).getD 0 = _
    rw [List.getElem?_drop, show g + (k - g) = k by omega, ← List.getD_eq_getElem?_getD]
theorem ins_ok (h0 : 0 < cl) (h1 : 1 ≤ g) (hg : g ≤ n) (o : RowOk cl n x) : RowOk cl (n + 2) (insR g x) := by
  have hl : g ≤ x.length := by rw [o.1]; exact hg
  refine ⟨by rw [ins_len hl, o.1], fun v mv => ?_⟩
  unfold insR at mv
  rcases List.mem_append.mp mv with mv | mv
  · exact o.2 v (List.mem_of_mem_take mv)
  · rcases List.mem_cons.mp mv with e | mv
    · omega
    · rcases List.mem_cons.mp mv with e | mv
      · have := dig_gd o.2 h0 (g - 1)
        omega
      · exact o.2 v (List.mem_of_mem_drop mv)
theorem at_cases {k g n : Nat} (h : k < n + 2) (h1 : 1 ≤ g) : k < g ∨ k = g ∨ ∃ j, k = j + 2 ∧ g ≤ j + 1 ∧ j < n := by
  by_cases a : k < g
  · exact .inl a
  · by_cases b : k = g
    · exact .inr (.inl b)
    · exact .inr (.inr ⟨k - 2, by omega, by omega, by omega⟩)
theorem lin_ins (h0 : 0 < cl) (h1 : 1 ≤ g) (hg : g ≤ n) : Lin cl n (n + 2) (insR g) := by
  refine ⟨fun x o => ins_ok h0 h1 hg o, ?_, fun x y t a b => ?_⟩
  · have lz : (zeroR n).length = n := List.length_replicate ..
    refine row_ext' (by rw [ins_len (by rw [lz]; exact hg), lz]; exact (List.length_replicate ..).symm) fun k hk => ?_
    rw [ins_len (by rw [lz]; exact hg), lz] at hk
    rw [zeroR_at]
    rcases at_cases hk h1 with c | c | ⟨j, rfl, c1, c2⟩
    · rw [ins_lo (by rw [lz]; exact hg) c, zeroR_at]
    · rw [c, ins_mid (by rw [lz]; exact hg)]
    · rw [ins_hi (by rw [lz]; exact hg) c1 h1, zeroR_at]
  · have l : x.length = y.length := by rw [a.1, b.1]
    have ha : g ≤ x.length := by rw [a.1]; exact hg
    have hb : g ≤ y.length := by rw [b.1]; exact hg
    have hl : (insR g x).length = (insR g y).length := by rw [ins_len ha, ins_len hb, l]
    have hm : g ≤ (adM cl t x y).length := by rw [adM_len l]; exact ha
    refine row_ext' (by rw [ins_len hm, adM_len l, adM_len hl, ins_len ha]) fun k hk => ?_
    rw [ins_len hm, adM_len l, a.1] at hk
    rw [adM_at hl]
    rcases at_cases hk h1 with c | c | ⟨j, rfl, c1, c2⟩
    · rw [ins_lo hm c, ins_lo ha c, ins_lo hb c, adM_at l]
    · rw [c, ins_mid hm, ins_mid ha, ins_mid hb]
      simp
    · rw [ins_hi hm c1 h1, ins_hi ha c1 h1, ins_hi hb c1 h1, adM_at l]
theorem ins_inj (h1 : 1 ≤ g) (hg : g ≤ n) (a : x.length = n) (b : y.length = n) (e : insR g x = insR g y) : x = y := by
  refine row_ext' (by rw [a, b]) fun k hk => ?_
  by_cases c : k < g
  · rw [← ins_lo (by rw [a]; exact hg) c, e, ins_lo (by rw [b]; exact hg) c]
  · rw [← ins_hi (x := x) (by rw [a]; exact hg) (by omega : g ≤ k + 1) h1, e, ins_hi (by rw [b]; exact hg) (by omega) h1]
theorem gS_insert {f f' : Nat → Int} {p : Nat} : ∀ d : Nat, (∀ k, k < p → f' k = f k) → f' p = 0 → f' (p + 1) = 0 → (∀ k, p ≤ k → k < p + d → f' (k + 2) = f k) → gS (p + d + 2) f' = gS (p + d) f
  | 0, a, b, c, _ => by
    show gS (p + 2) f' = gS p f
    rw [gS_succ, gS_succ, b, c, gS_congr a]; omega
  | d + 1, a, b, c, e => by
    have ih := gS_insert d a b c fun k h1 h2 => e k h1 (by omega)
    show gS (p + d + 2 + 1) f' = gS (p + d + 1) f
    rw [gS_succ, gS_succ (p + d) f, ih, e (p + d) (by omega) (by omega)]
theorem swL_ins (h1 : 1 ≤ g) (hg : g ≤ n) (a : x.length = n) (b : y.length = n) : swL (insR g x) (insR g y) = swL x y := by
  have ha : g ≤ x.length := by rw [a]; exact hg
  have hb : g ≤ y.length := by rw [b]; exact hg
  unfold swL
  rw [ins_len ha, a]
  obtain ⟨d, ed⟩ : ∃ d, n = g - 1 + d := ⟨n - (g - 1), by omega⟩
  rw [show gS (n + 2) = gS (g - 1 + d + 2) by rw [← ed], show gS n = gS (g - 1 + d) by rw [← ed]]
  refine gS_insert (p := g - 1) d (fun k hk => ?_) ?_ ?_ fun k hk1 hk2 => ?_
  · unfold nextG
    rw [if_neg (by omega), if_neg (by omega), ins_lo ha (by omega), ins_lo hb (by omega), ins_lo ha (by omega), ins_lo hb (by omega)]
  · unfold nextG
    rw [if_neg (by omega), show g - 1 + 1 = g by omega, ins_mid ha, ins_mid hb, Int.mul_zero, Int.zero_mul]
    rfl
  · rw [show g - 1 + 1 = g by omega, ins_mid ha, ins_mid hb, Int.mul_zero, Int.zero_mul]
    rfl
  · rw [ins_hi ha (by omega) h1, ins_hi hb (by omega) h1]
    unfold nextG
    by_cases e : k + 1 = n
    · rw [if_pos e, if_pos (by omega), ins_lo ha (by omega), ins_lo hb (by omega)]
    · rw [if_neg e, if_neg (by omega), show k + 2 + 1 = (k + 1) + 2 by omega, ins_hi ha (by omega) h1, ins_hi hb (by omega) h1]
theorem dot_unit (hg : g < n) : dotR n x (unitR n g) = x.getD g 0 := by
  unfold dotR
  rw [← gS_point (c := x.getD g 0) hg]
  refine gS_congr fun k hk => ?_
  rw [unit_at hk]
  by_cases e : k = g
  · rw [if_pos e, if_pos e, e, Int.mul_one]
  · rw [if_neg e, if_neg e, Int.mul_zero]
theorem swL_unit (h1 : 1 < cl) (o : RowOk cl n x) (hg : g < n) : swL x (unitR n g) % cl = stepAt x g % cl := by
  rw [← dot_steps o (unit_ok h1), dot_unit hg, stepsM_at (by rw [o.1]; exact hg), Int.emod_emod]
theorem neg_zero {a : Int} (h : a % cl = 0) : -a % cl = 0 := Int.emod_eq_zero_of_dvd (Int.dvd_neg.mpr (Int.dvd_of_emod_eq_zero h))
/-- a gap opened -/
theorem Fair.ins (hc : cl ∈ clocks) (f : Fair cl m rs) (h1 : 1 ≤ g) (hg : g ≤ 2 * m) : Fair cl (m + 1) (rs.map (insR g) ++ [unitR (2 * m + 2) g]) := by
  have c3 := clocks_3 hc
  have h0 : 0 < cl := by omega
  have L := lin_ins (cl := cl) (n := 2 * m) h0 h1 hg
  have oi := L.rows f.ok
  have ou : RowOk cl (2 * m + 2) (unitR (2 * m + 2) g) := unit_ok (by omega)
  have us : ∀ x ∈ rs, swL (insR g x) (unitR (2 * m + 2) g) % cl = 0 := fun x mx => by
    have ox := f.ok x mx
    have hl : g ≤ x.length := by rw [ox.1]; exact hg
    rw [swL_unit (by omega) (L.ok x ox) (by omega)]
    unfold stepAt
    rw [if_neg (by omega), if_neg (by rw [ins_len hl, ox.1]; omega), ins_lo hl (by omega), show g + 1 = (g - 1) + 2 by omega, ins_hi hl (by omega) h1, Int.sub_self]
    rfl
  refine ⟨ok_snoc oi ou, ?_, fun x mx y my => ?_⟩
  · show dimF cl (2 * m + 2) _ = _
    rw [dim_new hc oi ou fun a => ?_, L.dim hc (fun x y ox oy e => ins_inj h1 hg ox.1 oy.1 e) f.ok, f.dim]
    have z := a.none_at (k := g) h0 oi fun r mr => by
      obtain ⟨w, mw, rfl⟩ := List.mem_map.mp mr
      exact ins_mid (by rw [(f.ok w mw).1]; exact hg)
    rw [unit_at (by omega), if_pos rfl] at z
    cases z
  · rcases List.mem_append.mp mx with mx | mx <;> rcases List.mem_append.mp my with my | my
    · obtain ⟨x, mx', rfl⟩ := List.mem_map.mp mx
      obtain ⟨y, my', rfl⟩ := List.mem_map.mp my
      rw [swL_ins h1 hg (f.ok x mx').1 (f.ok y my').1]
      exact f.agr x mx' y my'
    · obtain ⟨x, mx', rfl⟩ := List.mem_map.mp mx
      rw [List.mem_singleton.mp my]
      exact us x mx'
    · obtain ⟨y, my', rfl⟩ := List.mem_map.mp my
      rw [List.mem_singleton.mp mx, swL_anti (by rw [(L.ok y (f.ok y my')).1, unit_len])]
      exact neg_zero (us y my')
    · rw [List.mem_singleton.mp mx, List.mem_singleton.mp my, swL_self]
      rfl
/-! crossings -/
def crossR (cl : Int) (g : Nat) (t : Int) (x : List Int) : List Int := x.set g ((x.getD g 0 + t * stepAt x g) % cl)
theorem cross_len : (crossR cl g t x).length = x.length := by unfold crossR; rw [List.length_set]
theorem cross_at {k : Nat} (hg : g < x.length) : (crossR cl g t x).getD k 0 = if k = g then (x.getD g 0 + t * stepAt x g) % cl else x.getD k 0 := by
  unfold crossR
  rw [set_gd]
  by_cases e : k = g
  · rw [if_pos e, if_pos ⟨e.symm, hg⟩]
  · rw [if_neg e, if_neg fun z => e z.1.symm]
theorem cross_ok (h0 : 0 < cl) (hg : g < n) (o : RowOk cl n x) : RowOk cl n (crossR cl g t x) := by
  refine ⟨by rw [cross_len, o.1], fun v mv => ?_⟩
  unfold crossR at mv
  rcases List.mem_or_eq_of_mem_set mv with mv | e
  · exact o.2 v mv
  · rw [e]
    exact ⟨Int.emod_nonneg _ (by omega), Int.emod_lt_of_pos _ h0⟩
/-- it adds the step, so many times, at its gap -/
theorem cross_eq (h0 : 0 < cl) (hg : g < n) (o : RowOk cl n x) : crossR cl g t x = adM cl (t * stepAt x g) x (unitR n g) := by
  have l : x.length = (unitR n g).length := by rw [unit_len, o.1]
  refine row_ext' (by rw [cross_len, adM_len l]) fun k hk => ?_
  rw [cross_len, o.1] at hk
  rw [cross_at (by rw [o.1]; exact hg), adM_at l, unit_at hk]
  by_cases e : k = g
  · rw [if_pos e, if_pos e, e, Int.mul_one]
  · rw [if_neg e, if_neg e, Int.mul_zero, Int.add_zero, em_of (dig_gd o.2 h0 k)]
theorem stepAt_lin {k : Nat} (a : RowOk cl n x) (b : RowOk cl n y) : stepAt (adM cl u x y) k % cl = (stepAt x k + u * stepAt y k) % cl := by
  have l : x.length = y.length := by rw [a.1, b.1]
  unfold stepAt
  rw [adM_len l, ← l, adM_at l, adM_at l, Int.sub_emod, Int.emod_emod, Int.emod_emod, ← Int.sub_emod, Int.mul_sub]
  congr 1
  omega
theorem em_mul {a b : Int} (t : Int) (h : a % cl = b % cl) : (t * a) % cl = (t * b) % cl := by rw [Int.mul_emod, h, ← Int.mul_emod]
theorem em_add {a a' b b' : Int} (h : a % cl = a' % cl) (h2 : b % cl = b' % cl) : (a + b) % cl = (a' + b') % cl := by rw [Int.add_emod, h, h2, ← Int.add_emod]
theorem lin_cross (h0 : 0 < cl) (hg : g < n) : Lin cl n n (crossR cl g t) := by
  refine ⟨fun x o => cross_ok h0 hg o, ?_, fun x y u a b => ?_⟩
  · have oz := zeroR_ok (cl := cl) (n := n) h0
    refine row_ext' cross_len fun k hk => ?_
    rw [cross_at (by rw [oz.1]; exact hg), zeroR_at, zeroR_at]
    unfold stepAt
    rw [zeroR_at, zeroR_at]
    split <;> simp
  · have l : x.length = y.length := by rw [a.1, b.1]
    have ga : g < x.length := by rw [a.1]; exact hg
    have gb : g < y.length := by rw [b.1]; exact hg
    have lc : (crossR cl g t x).length = (crossR cl g t y).length := by rw [cross_len, cross_len, l]
    refine row_ext' (by rw [cross_len, adM_len l, adM_len lc, cross_len]) fun k _ => ?_
    rw [cross_at (by rw [adM_len l]; exact ga), adM_at lc, cross_at ga, cross_at gb, adM_at l]
    by_cases e : k = g
    · rw [if_pos e, if_pos e, if_pos e, em_l, em_add rfl (em_mul t (stepAt_lin (k := g) a b)), em_l, em_r, Int.mul_add, Int.mul_add, Int.mul_left_comm t u]
      congr 1
      omega
    · rw [if_neg e, if_neg e, if_neg e, adM_at l]
theorem cross_inj (h0 : 0 < cl) (hn : 2 ≤ n) (hg : g < n) (a : RowOk cl n x) (b : RowOk cl n y) (e : crossR cl g t x = crossR cl g t y) : x = y := by
  have ga : g < x.length := by rw [a.1]; exact hg
  have gb : g < y.length := by rw [b.1]; exact hg
  have off : ∀ k, k ≠ g → x.getD k 0 = y.getD k 0 := fun k ne => by
    have z : (crossR cl g t x).getD k 0 = (crossR cl g t y).getD k 0 := by rw [e]
    rw [cross_at ga, cross_at gb, if_neg ne, if_neg ne] at z
    exact z
  refine row_ext' (by rw [a.1, b.1]) fun k _ => ?_
  by_cases c : k = g
  · rw [c]
    have z : (crossR cl g t x).getD k 0 = (crossR cl g t y).getD k 0 := by rw [e]
    rw [c, cross_at ga, cross_at gb, if_pos rfl, if_pos rfl] at z
    have es : stepAt x g = stepAt y g := by
      unfold stepAt
      rw [a.1, b.1, off _ (by split <;> omega), off _ (by split <;> omega)]
    rw [es] at z
    have w := Int.emod_eq_emod_iff_emod_sub_eq_zero.mp z
    rw [show x.getD g 0 + t * stepAt y g - (y.getD g 0 + t * stepAt y g) = x.getD g 0 - y.getD g 0 by omega] at w
    have v := Int.emod_eq_emod_iff_emod_sub_eq_zero.mpr w
    rw [em_of (dig_gd a.2 h0 g), em_of (dig_gd b.2 h0 g)] at v
    exact v
  · exact off k c
theorem swL_cross (h1 : 1 < cl) (hg : g < n) (a : RowOk cl n x) (b : RowOk cl n y) : swL (crossR cl g t x) (crossR cl g t y) % cl = swL x y % cl := by
  have h0 : 0 < cl := by omega
  have ou : RowOk cl n (unitR n g) := unit_ok h1
  have sl : ∀ {p q : List Int}, RowOk cl n p → RowOk cl n q → (stepsM cl p).length = (stepsM cl q).length := fun hp hq => by rw [stepsM_len, stepsM_len, hp.1, hq.1]
  have key : ∀ c d : Int, swL (adM cl c x (unitR n g)) (adM cl d y (unitR n g)) % cl = (swL x y + d * stepAt x g - c * stepAt y g) % cl := fun c d => by
    have oa := adM_ok (t := c) h0 a ou
    have ob := adM_ok (t := d) h0 b ou
    have q1 := (dot_steps a b)
    have q2 := (dot_steps a ou).trans (swL_unit h1 a hg)
    have q3 : dotR n (stepsM cl (unitR n g)) y % cl = (-1 * stepAt y g) % cl := by
      rw [dot_steps ou b, swL_anti (by rw [b.1, ou.1]), show -swL y (unitR n g) = -1 * swL y (unitR n g) by omega]
      exact em_mul _ (swL_unit h1 b hg)
    have q4 : dotR n (stepsM cl (unitR n g)) (unitR n g) % cl = 0 % cl := by rw [dot_steps ou ou, swL_self]
    rw [← dot_steps oa ob, dot_lin _ (by rw [b.1, ou.1]), stepsM_adM a ou, dot_comm (adM cl c _ _) y, dot_comm (adM cl c _ _) (unitR n g)]
    rw [em_add (dot_lin y (sl a ou)) (em_mul d (dot_lin (unitR n g) (sl a ou))), dot_comm y, dot_comm y, dot_comm (unitR n g) (stepsM cl x), dot_comm (unitR n g) (stepsM cl (unitR n g))]
    rw [em_add (em_add q1 (em_mul c q3)) (em_mul d (em_add q2 (em_mul c q4)))]
    congr 1
    rw [Int.mul_zero, Int.add_zero, show c * (-1 * stepAt y g) = -(c * stepAt y g) by rw [Int.mul_left_comm]; omega]
    omega
  rw [cross_eq h0 hg a, cross_eq h0 hg b, key, show swL x y + t * stepAt y g * stepAt x g - t * stepAt x g * stepAt y g = swL x y by rw [Int.mul_assoc, Int.mul_comm (stepAt y g), ← Int.mul_assoc]; omega]
theorem Fair.cross (hc : cl ∈ clocks) (m1 : 1 ≤ m) (f : Fair cl m rs) (hg : g < 2 * m) : Fair cl m (rs.map (crossR cl g t)) := by
  have c3 := clocks_3 hc
  have h0 : 0 < cl := by omega
  have L := lin_cross (cl := cl) (t := t) h0 hg
  refine ⟨L.rows f.ok, by rw [L.dim hc (fun x y ox oy e => cross_inj h0 (by omega) hg ox oy e) f.ok, f.dim], fun x mx y my => ?_⟩
  obtain ⟨x, mx', rfl⟩ := List.mem_map.mp mx
  obtain ⟨y, my', rfl⟩ := List.mem_map.mp my
  rw [swL_cross (by omega) hg (f.ok x mx') (f.ok y my')]
  exact f.agr x mx' y my'
theorem fair_start (hc : cl ∈ clocks) : Fair cl 1 [[1, 0], [0, 1]] := by
  have c3 := clocks_3 hc
  refine ⟨chessL_ok (by omega) 1, dim_chess hc (Nat.le_refl 1), fun x mx y my => ?_⟩
  have ok := chessL_ok (cl := cl) (by omega) 1
  have mx' : x ∈ chessL 1 := mx
  have e := chess_steps (cl := cl) (by omega) x mx'
  rw [← dot_steps (ok x mx) (ok y my), e, dot_comm, dot_zero]
  rfl
end
end Rp
namespace Rp
open PySem PySem.Spec PyProof.Rows L2 LamX RZ
/-! ### a list or a tuple, walked -/
def ItSB (K : PySem.W.Frag) (t : Bool) (a : Addr) : It :=
  match t with
  | true => Itl K a
  | false => Itt K a
def iSeqB (K : PySem.W.Frag) (te : TE) : TI := fun σ H R =>
  te σ H fun v G => ∃ (t : Bool) (a : Addr), v = .ref a ∧ (∃ xs, SqB t K G a xs) ∧ R (ItSB K t a) G
theorem r_iseqB {K : PySem.W.Frag} {te : TE} {σ : L2.St} {H : Hp} {R : It → Hp → Prop}
    (h : te σ H fun v G => ∃ (t : Bool) (a : Addr), v = .ref a ∧ (∃ xs, SqB t K G a xs) ∧ R (ItSB K t a) G) :
    iSeqB K te σ H R := h
theorem pi_seqB {X : Cx} {tg l : Expr} {te : TE} (he : PE X l te) : PI X tg l (iSeqB X.K te) := by
  constructor
  intro pins s σ H R I h
  refine thn (he.run pins s σ H _ I h) ?_
  rintro v s1 ⟨x, G, J, rx, t, a, rfl, ⟨xs, hx⟩, q⟩
  cases rx
  have fp : ∀ b ∈ [s1.heap.objs.size], FpOk X pins G b := by
    intro b m
    rw [List.mem_singleton.mp m]
    have f := J.hok.fresh (Nat.le_refl _)
    exact J.fpOk (Nat.le_refl _) f
  have up : ∀ {o' : Obj} (b : Addr) (o : Obj), s1.heap.get? b = some o → (s1.heap.push o').get? b = some o :=
    fun b o e => Heap.get?_push_of_some _ e
  cases t with
  | true =>
    obtain ⟨us, rv, pl, _⟩ := J.list hx
    refine wpAny_pyIter_list pl.isList ?_
    refine ⟨_, [s1.heap.objs.size], _, _, G, rfl, ?_, turn_list a _, ?_, fun b m => fp b m, q⟩
    · exact J.kept (t' := s1.toks) up
    · exact ⟨_, Heap.get?_push_size _ rfl, rfl, rfl⟩
  | false =>
    obtain ⟨us, rv, pl, _⟩ := J.tuple hx
    have pt : s1.heap.IsTuple a us.toArray := pl
    refine wpAny_pyIter_tuple pt ?_
    refine ⟨_, [s1.heap.objs.size], _, _, G, rfl, ?_, turn_tuple a _, ?_, fun b m => fp b m, q⟩
    · exact J.kept (t' := s1.toks) up
    · exact ⟨_, Heap.get?_push_size _ rfl, rfl, rfl⟩
theorem walk_seqB {K : PySem.W.Frag} {t : Bool} {a : Addr} {xs : List V} :
    Walk (ItSB K t a) xs.length (fun H => SqB t K H a xs) (fun i H x H' => H' = H ∧ xs[i]? = some x) := by
  cases t with
  | true => exact walk_list
  | false => exact walk_tup
end Rp
namespace Rp
open PySem PySem.Spec PyProof.Rows L2 LamX RZ
/-! ### more of what laws want -/
theorem set_intsX {xs : List Int} {k : Nat} {v : Int} : (xs.map V.int).set k (.int v) = (xs.set k v).map V.int := by rw [List.map_set]
theorem ixN_natX {n k : Nat} (h : k < n) : ixN n (k : Int) = some k := by
  unfold ixN
  rw [if_pos (by omega), if_pos (by omega)]
  congr 1
theorem dr_ne_tupX {q c p : Addr} {ns : List Int} {l : Nat} {H : Hp} {xs : List V} (D : Dr q c ns l H) (e : H p = some (.tup xs)) : p ≠ q := by
  obtain ⟨_, ⟨_, hq⟩, _, _⟩ := D
  exact ne_of e hq (fun z => by cases z)
theorem mem_setX {xs : List Int} {k : Nat} {v : Int} {P : Int → Prop} (h : ∀ x ∈ xs, P x) (hv : P v) : ∀ x ∈ xs.set k v, P x := fun x m => by
  rcases List.mem_or_eq_of_mem_set m with m | e
  · exact h x m
  · rw [e]; exact hv
theorem anys_ints {q : Addr} {H : Hp} {xs : List Int} : ∀ x ∈ xs.map V.int, Any q H x := fun x m => by
  obtain ⟨i, _, rfl⟩ := List.mem_map.mp m
  exact .num i
theorem rowV_lst {q a : Addr} {H : Hp} {xs : List Int} (n : a ≠ q) (e : H a = some (.lst (xs.map V.int))) : RowV q H (.ref a) (some (xs.map V.int)) := .lst n e anys_ints
theorem rowV_tup {q a : Addr} {H : Hp} {xs : List Int} (n : a ≠ q) (e : H a = some (.tup (xs.map V.int))) : RowV q H (.ref a) (some (xs.map V.int)) := .tup n e anys_ints
theorem len_sl {xs : List V} (h : xs.length ≤ 1000) : ∀ ys, some xs = some ys → ys.length < sizeLine := fun ys e => by
  cases e
  exact small1000 h
theorem dec_int {i j : Int} : decide (V.int i = V.int j) = decide (i = j) := decide_eq_decide.mpr ⟨fun w => V.int.inj w, fun w => by rw [w]⟩
theorem inB_yesX {i l u : Int} (a : l ≤ i) (b : i ≤ u) : inB (.int i) (some l) (some u) = true := by
  show (decide (l ≤ i) && decide (i ≤ u)) = true
  rw [decide_eq_true a, decide_eq_true b]
  rfl
theorem inB_outX {i l u : Int} (h : i < l ∨ u < i) : inB (.int i) (some l) (some u) = false := by
  show (decide (l ≤ i) && decide (i ≤ u)) = false
  rcases h with h | h
  · rw [decide_eq_false (by omega), Bool.false_and]
  · rw [decide_eq_false (p := i ≤ u) (by omega), Bool.and_false]
theorem atI_nxX {xs : List Int} {i n : Nat} (h : i < n) (l : xs.length = n) : atI (xs.map V.int) (((i : Int) + 1).fmod (n : Int)) = some (.int (xs.getD (if i + 1 = n then 0 else i + 1) 0)) := by
  have z := atI_next (xs := xs) (i := i) (by omega)
  rw [l] at z
  simp only [Int.zero_add] at z
  exact z
theorem atI_pvX {xs : List Int} {i : Nat} (h : i < xs.length) : atI (xs.map V.int) ((i : Int) - 1) = some (.int (xs.getD (if i = 0 then xs.length - 1 else i - 1) 0)) := by
  have z := atI_prev h
  simp only [Int.zero_add] at z
  exact z
theorem fit_boolsX (a b : Bool) : Fit 64 15000000 (.list [.bool a, .bool b]) := by
  cases a <;> cases b <;> exact leaf_fit (by decide +kernel) (by decide +kernel) (by decide +kernel)
theorem shaped_rowX (xs : List Int) : SeqAt.shaped (rowD xs) = true := by
  unfold rowD
  simp [SeqAt.shaped, PyData.canLay0, PyData.depth, canLay_ints, depth_ints]
/-- two tuples of numbers compared -/
theorem ne_tupsX {K : PySem.W.Frag} {H : Hp} {Q : VK} {a b : Addr} {xs ys : List Int} (ha : H a = some (.tup (xs.map V.int))) (hb : H b = some (.tup (ys.map V.int))) (h : Q (.bl (!decide (xs = ys))) H) : rNeD K (.ref a) (.ref b) H Q :=
  ⟨rowD xs, rowD ys, .tup (SqT.of ha) (dp_ints _), .tup (SqT.of hb) (dp_ints _), shaped_rowX _, shaped_rowX _, by rw [eqv_row]; exact h⟩
theorem ne_lstsX {K : PySem.W.Frag} {H : Hp} {Q : VK} {a b : Addr} {xs : List Int} (ha : H a = some (.lst (xs.map V.int))) (hb : H b = some (.lst (xs.map V.int))) (h : Q (.bl false) H) : rNeD K (.ref a) (.ref b) H Q :=
  ⟨_, _, .lst (SqL.of ha) (dp_ints xs), .lst (SqL.of hb) (dp_ints xs), shaped_ints xs, shaped_ints xs, by
    rw [SeqAt.eqv_refl _ (by rw [PyData.canLay0]; exact canLay_ints xs)]
    exact h⟩
theorem map_intX {xs ys : List Int} (h : xs.map V.int = ys.map V.int) : xs = ys := by
  have z := congrArg (List.map numOf) h
  rw [List.map_map, List.map_map] at z
  have e : ∀ l : List Int, List.map (numOf ∘ V.int) l = l := fun l => List.map_id'' (fun _ => rfl) l
  rw [e, e] at z
  exact z
/-- a row as a list or a tuple -/
structure PasR (q : Addr) (H : Hp) (v : V) (xs : List Int) : Prop where
  ex : ∃ a, v = .ref a ∧ a ≠ q ∧ (H a = some (.lst (xs.map V.int)) ∨ H a = some (.tup (xs.map V.int)))
theorem PasR.but {q : Addr} {H G : Hp} {v : V} {xs : List Int} (h : PasR q H v xs) (b : But q H G) : PasR q G v xs := by
  obtain ⟨a, e, n, z⟩ := h.ex
  exact ⟨a, e, n, z.imp (fun z => b _ _ n z) (fun z => b _ _ n z)⟩
theorem PasR.ext {q : Addr} {H G : Hp} {v : V} {xs : List Int} (h : PasR q H v xs) (x : ExtN H G) : PasR q G v xs := by
  obtain ⟨a, e, n, z⟩ := h.ex
  exact ⟨a, e, n, z.imp (fun z => x _ _ z fun _ y => by cases y) (fun z => x _ _ z fun _ y => by cases y)⟩
theorem PasR.row {q : Addr} {H : Hp} {v : V} {xs : List Int} (h : PasR q H v xs) : RowV q H v (some (xs.map V.int)) := by
  obtain ⟨a, rfl, n, z⟩ := h.ex
  rcases z with z | z
  · exact rowV_lst n z
  · exact rowV_tup n z
end Rp
namespace Rp
open PySem PySem.Spec PyProof.Rows L2
/-! ### what pairs make one: by relabelling, round by round -/
abbrev Prs := List (Nat × Nat)
inductive Conn (ps : Prs) : Nat → Nat → Prop
  | refl (x : Nat) : Conn ps x x
  | fwd {a b c : Nat} (h : (a, b) ∈ ps) (t : Conn ps b c) : Conn ps a c
  | bwd {a b c : Nat} (h : (b, a) ∈ ps) (t : Conn ps b c) : Conn ps a c
theorem Conn.trans {ps : Prs} {a b c : Nat} (h : Conn ps a b) (k : Conn ps b c) : Conn ps a c := by
  induction h with
  | refl x => exact k
  | fwd m _ ih => exact .fwd m (ih k)
  | bwd m _ ih => exact .bwd m (ih k)
theorem Conn.symm {ps : Prs} {a b : Nat} (h : Conn ps a b) : Conn ps b a := by
  induction h with
  | refl x => exact .refl x
  | fwd m _ ih => exact ih.trans (.bwd m (.refl _))
  | bwd m _ ih => exact ih.trans (.fwd m (.refl _))
theorem Conn.mono {ps qs : Prs} (s : ∀ e ∈ ps, e ∈ qs) {a b : Nat} (h : Conn ps a b) : Conn qs a b := by
  induction h with
  | refl x => exact .refl x
  | fwd m _ ih => exact .fwd (s _ m) ih
  | bwd m _ ih => exact .bwd (s _ m) ih
/-- the two of a pair get the lesser label -/
def relax (L : Nat → Nat) (e : Nat × Nat) : Nat → Nat := fun x => if x = e.1 ∨ x = e.2 then min (L e.1) (L e.2) else L x
def roundF (ps : Prs) (L : Nat → Nat) : Nat → Nat := ps.foldl relax L
theorem relax_le (L : Nat → Nat) (e : Nat × Nat) (x : Nat) : relax L e x ≤ L x := by
  unfold relax
  split
  · rename_i h
    rcases h with h | h
    · rw [h]; exact Nat.min_le_left _ _
    · rw [h]; exact Nat.min_le_right _ _
  · exact Nat.le_refl _
theorem round_le : ∀ (ps : Prs) (L : Nat → Nat) (x : Nat), roundF ps L x ≤ L x
  | [], _, _ => Nat.le_refl _
  | e :: ps, L, x => Nat.le_trans (round_le ps (relax L e) x) (relax_le L e x)
theorem relax_at (L : Nat → Nat) (e : Nat × Nat) : relax L e e.1 = min (L e.1) (L e.2) ∧ relax L e e.2 = min (L e.1) (L e.2) :=
  ⟨if_pos (.inl rfl), if_pos (.inr rfl)⟩
theorem round_edge : ∀ {ps : Prs} {L : Nat → Nat} {e : Nat × Nat}, e ∈ ps → roundF ps L e.1 ≤ min (L e.1) (L e.2) ∧ roundF ps L e.2 ≤ min (L e.1) (L e.2)
  | d :: ps, L, e, m => by
    rcases List.mem_cons.mp m with h | h
    · subst h
      have a := relax_at L e
      have b := round_le ps (relax L e) e.1
      have c := round_le ps (relax L e) e.2
      rw [a.1] at b
      rw [a.2] at c
      exact ⟨b, c⟩
    · have a := round_edge (L := relax L d) h
      have b := relax_le L d e.1
      have c := relax_le L d e.2
      have le : min (relax L d e.1) (relax L d e.2) ≤ min (L e.1) (L e.2) := by omega
      exact ⟨Nat.le_trans a.1 le, Nat.le_trans a.2 le⟩
theorem relax_conn {ps : Prs} {L : Nat → Nat} {e : Nat × Nat} (h : ∀ x, Conn ps (L x) x) (m : e ∈ ps) : ∀ x, Conn ps (relax L e x) x := by
  intro x
  have c12 : Conn ps e.1 e.2 := .fwd m (.refl _)
  unfold relax
  split
  · rename_i hx
    have a1 : Conn ps (min (L e.1) (L e.2)) e.1 := by
      rcases Nat.le_total (L e.1) (L e.2) with q | q
      · rw [Nat.min_eq_left q]; exact h _
      · rw [Nat.min_eq_right q]; exact (h _).trans c12.symm
    rcases hx with q | q
    · rw [q]; exact a1
    · rw [q]; exact a1.trans c12
  · exact h x
theorem round_conn {ps : Prs} : ∀ {qs : Prs} {L : Nat → Nat}, (∀ e ∈ qs, e ∈ ps) → (∀ x, Conn ps (L x) x) → ∀ x, Conn ps (roundF qs L x) x
  | [], _, _, h => h
  | e :: qs, L, s, h => round_conn (qs := qs) (L := relax L e) (fun d m => s d (List.mem_cons_of_mem _ m)) (relax_conn h (s e (List.mem_cons_self ..)))
def roundsF (ps : Prs) : Nat → (Nat → Nat) → Nat → Nat
  | 0, L => L
  | k + 1, L => roundF ps (roundsF ps k L)
theorem rounds_le (ps : Prs) : ∀ (k : Nat) (x : Nat), roundsF ps k id x ≤ x
  | 0, x => Nat.le_refl _
  | k + 1, x => Nat.le_trans (round_le ps _ x) (rounds_le ps k x)
theorem rounds_conn (ps : Prs) : ∀ (k : Nat) (x : Nat), Conn ps (roundsF ps k id x) x
  | 0, x => .refl x
  | k + 1, x => round_conn (fun _ m => m) (rounds_conn ps k) x
/-- how many pairs have the label u on both -/
def goodN (L : Nat → Nat) (u : Nat) (ps : Prs) : Nat := (ps.filter fun e => decide (L e.1 = u) && decide (L e.2 = u)).length
theorem goodN_le (L : Nat → Nat) (u : Nat) (ps : Prs) : goodN L u ps ≤ ps.length := List.length_filter_le _ _
theorem goodN_mono {L M : Nat → Nat} {u : Nat} : ∀ {ps : Prs}, (∀ e ∈ ps, L e.1 = u → L e.2 = u → M e.1 = u ∧ M e.2 = u) → goodN L u ps ≤ goodN M u ps
  | [], _ => Nat.le_refl _
  | e :: ps, h => by
    have ih := goodN_mono (ps := ps) fun d m => h d (List.mem_cons_of_mem _ m)
    have he := h e (List.mem_cons_self ..)
    unfold goodN at ih ⊢
    rw [List.filter_cons, List.filter_cons]
    by_cases a : L e.1 = u ∧ L e.2 = u
    · obtain ⟨b1, b2⟩ := he a.1 a.2
      simp only [a.1, a.2, b1, b2, decide_true, Bool.and_true, if_true, List.length_cons]
      omega
    · have na : (decide (L e.1 = u) && decide (L e.2 = u)) = false := by
        rw [Bool.and_eq_false_iff]
        by_cases c : L e.1 = u
        · exact .inr (decide_eq_false fun z => a ⟨c, z⟩)
        · exact .inl (decide_eq_false c)
      rw [na]
      split
      · cases ‹false = true›
      · split
        · rw [List.length_cons]; omega
        · exact ih
theorem goodN_lt {L M : Nat → Nat} {u : Nat} : ∀ {ps : Prs} {d : Nat × Nat}, (∀ e ∈ ps, L e.1 = u → L e.2 = u → M e.1 = u ∧ M e.2 = u) → d ∈ ps → ¬ (L d.1 = u ∧ L d.2 = u) → M d.1 = u ∧ M d.2 = u → goodN L u ps + 1 ≤ goodN M u ps
  | e :: ps, d, h, m, n, g => by
    have t : ∀ c ∈ ps, L c.1 = u → L c.2 = u → M c.1 = u ∧ M c.2 = u := fun c k => h c (List.mem_cons_of_mem _ k)
    rcases List.mem_cons.mp m with q | q
    · subst q
      have ih := goodN_mono t
      have na : (decide (L d.1 = u) && decide (L d.2 = u)) = false := by
        rw [Bool.and_eq_false_iff]
        by_cases c : L d.1 = u
        · exact .inr (decide_eq_false fun z => n ⟨c, z⟩)
        · exact .inl (decide_eq_false c)
      unfold goodN at ih ⊢
      rw [List.filter_cons, List.filter_cons, na]
      simp only [g.1, g.2, decide_true, Bool.and_true, if_true, List.length_cons]
      simp
      exact ih
    · have ih := goodN_lt t q n g
      have he := h e (List.mem_cons_self ..)
      unfold goodN at ih ⊢
      rw [List.filter_cons, List.filter_cons]
      by_cases a : L e.1 = u ∧ L e.2 = u
      · obtain ⟨b1, b2⟩ := he a.1 a.2
        simp only [a.1, a.2, b1, b2, decide_true, Bool.and_true, if_true, List.length_cons]
        omega
      · have na : (decide (L e.1 = u) && decide (L e.2 = u)) = false := by
          rw [Bool.and_eq_false_iff]
          by_cases c : L e.1 = u
          · exact .inr (decide_eq_false fun z => a ⟨c, z⟩)
          · exact .inl (decide_eq_false c)
        rw [na]
        split
        · cases ‹false = true›
        · split
          · rw [List.length_cons]; omega
          · exact ih
/-- where not all that is one has the label u, some pair has it on one side alone -/
theorem crossing {ps : Prs} {L : Nat → Nat} {u x y : Nat} (c : Conn ps x y) (hy : L y = u) (hx : L x ≠ u) : ∃ e ∈ ps, ¬ (L e.1 = u ∧ L e.2 = u) ∧ (L e.1 = u ∨ L e.2 = u) ∧ Conn ps x e.1 := by
  induction c with
  | refl x => exact absurd hy hx
  | @fwd a b c m t ih =>
    by_cases hb : L b = u
    · exact ⟨(a, b), m, fun z => hx z.1, .inr hb, .refl _⟩
    · obtain ⟨e, h1, h2, h3, h4⟩ := ih hy hb
      exact ⟨e, h1, h2, h3, .fwd m h4⟩
  | @bwd a b c m t ih =>
    by_cases hb : L b = u
    · exact ⟨(b, a), m, fun z => hx z.2, .inl hb, .bwd m (.refl _)⟩
    · obtain ⟨e, h1, h2, h3, h4⟩ := ih hy hb
      exact ⟨e, h1, h2, h3, .bwd m h4⟩
/-- u is the least of what is one with it -/
def LeastOf (ps : Prs) (u : Nat) : Prop := ∀ y, Conn ps y u → u ≤ y
theorem rounds_ge {ps : Prs} {u x : Nat} (h : LeastOf ps u) (c : Conn ps x u) (k : Nat) : u ≤ roundsF ps k id x := h _ ((rounds_conn ps k x).trans c)
theorem rounds_keep {ps : Prs} {u x : Nat} (h : LeastOf ps u) (c : Conn ps x u) {k : Nat} (e : roundsF ps k id x = u) : roundsF ps (k + 1) id x = u := by
  have a := rounds_ge h c (k + 1)
  have b : roundsF ps (k + 1) id x ≤ roundsF ps k id x := round_le ps _ x
  omega
theorem rounds_grow {ps : Prs} {u x : Nat} (h : LeastOf ps u) (c : Conn ps x u) (k : Nat) : roundsF ps k id x = u ∨ k ≤ goodN (roundsF ps k id) u ps := by
  induction k with
  | zero => exact .inr (Nat.zero_le _)
  | succ k ih =>
    by_cases hx : roundsF ps k id x = u
    · exact .inl (rounds_keep h c hx)
    · have g : k ≤ goodN (roundsF ps k id) u ps := ih.resolve_left hx
      have hu : roundsF ps k id u = u := by
        have a := rounds_ge h (.refl u) k
        have b := rounds_le ps k u
        omega
      obtain ⟨e, m, n, o, p⟩ := crossing c hu hx
      have ce1 : Conn ps e.1 u := p.symm.trans c
      have ce2 : Conn ps e.2 u := Conn.trans (.bwd m (.refl _)) ce1
      have ed := round_edge (L := roundsF ps k id) m
      have lo1 := rounds_ge h ce1 (k + 1)
      have lo2 := rounds_ge h ce2 (k + 1)
      have r1 : roundsF ps (k + 1) id e.1 = roundF ps (roundsF ps k id) e.1 := rfl
      have r2 : roundsF ps (k + 1) id e.2 = roundF ps (roundsF ps k id) e.2 := rfl
      have mn : min (roundsF ps k id e.1) (roundsF ps k id e.2) ≤ u := by
        rcases o with o | o
        · rw [o]; exact Nat.min_le_left _ _
        · rw [o]; exact Nat.min_le_right _ _
      refine .inr (Nat.le_trans (Nat.succ_le_succ g) (goodN_lt (M := roundsF ps (k + 1) id) (fun d md d1 d2 => ?_) m n ⟨by omega, by omega⟩))
      have cd1 : Conn ps d.1 u := by
        have z := (rounds_conn ps k d.1).symm
        rw [d1] at z
        exact z
      have cd2 : Conn ps d.2 u := by
        have z := (rounds_conn ps k d.2).symm
        rw [d2] at z
        exact z
      exact ⟨rounds_keep h cd1 d1, rounds_keep h cd2 d2⟩
/-- as many rounds as there are pairs: each has the least of what is one with it -/
theorem rounds_all {ps : Prs} {u x : Nat} (h : LeastOf ps u) (c : Conn ps x u) : roundsF ps ps.length id x = u := by
  rcases rounds_grow h c ps.length with e | g
  · exact e
  · by_cases hx : roundsF ps ps.length id x = u
    · exact hx
    · exfalso
      have hu : roundsF ps ps.length id u = u := by
        have a := rounds_ge h (.refl u) ps.length
        have b := rounds_le ps ps.length u
        omega
      obtain ⟨e, m, n, o, p⟩ := crossing c hu hx
      have lt : goodN (roundsF ps ps.length id) u ps < ps.length := by
        unfold goodN
        refine List.length_filter_lt_length_iff_exists.mpr ⟨e, m, ?_⟩
        intro z
        have z' := Bool.and_eq_true_iff.mp z
        exact n ⟨of_decide_eq_true z'.1, of_decide_eq_true z'.2⟩
      omega
/-! ### by lesser numbers, from one to the next -/
def rootN (par : Nat → Nat) : Nat → Nat → Nat
  | 0, x => x
  | k + 1, x => if par x = x then x else rootN par k (par x)
def rootF (par : Nat → Nat) (x : Nat) : Nat := rootN par x x
def Down (par : Nat → Nat) : Prop := ∀ y, par y ≤ y
theorem rootN_enough {par : Nat → Nat} (d : Down par) : ∀ (k j x : Nat), x ≤ k → x ≤ j → rootN par k x = rootN par j x
  | 0, 0, _, _, _ => rfl
  | 0, j + 1, x, h, _ => by
    obtain rfl : x = 0 := by omega
    have z : par 0 = 0 := by have := d 0; omega
    show 0 = if par 0 = 0 then 0 else _
    rw [if_pos z]
  | k + 1, 0, x, _, h => by
    obtain rfl : x = 0 := by omega
    have z : par 0 = 0 := by have := d 0; omega
    show (if par 0 = 0 then 0 else _) = 0
    rw [if_pos z]
  | k + 1, j + 1, x, h1, h2 => by
    show (if par x = x then x else rootN par k (par x)) = if par x = x then x else rootN par j (par x)
    by_cases e : par x = x
    · rw [if_pos e, if_pos e]
    · rw [if_neg e, if_neg e]
      have := d x
      exact rootN_enough d k j (par x) (by omega) (by omega)
theorem rootF_eq {par : Nat → Nat} (d : Down par) (x : Nat) : rootF par x = if par x = x then x else rootF par (par x) := by
  unfold rootF
  rw [rootN_enough d x (x + 1) x (Nat.le_refl _) (by omega)]
  show (if par x = x then x else rootN par x (par x)) = _
  by_cases e : par x = x
  · rw [if_pos e, if_pos e]
  · rw [if_neg e, if_neg e]
    have := d x
    exact rootN_enough d x (par x) (par x) (by omega) (Nat.le_refl _)
theorem root_self {par : Nat → Nat} (d : Down par) {x : Nat} (e : par x = x) : rootF par x = x := by rw [rootF_eq d, if_pos e]
theorem root_par {par : Nat → Nat} (d : Down par) (x : Nat) : rootF par (par x) = rootF par x := by
  by_cases e : par x = x
  · rw [e]
  · rw [rootF_eq d x, if_neg e]
theorem root_fix {par : Nat → Nat} (d : Down par) : ∀ x : Nat, par (rootF par x) = rootF par x := by
  intro x
  induction x using Nat.strongRecOn with
  | ind x ih =>
    rw [rootF_eq d x]
    by_cases e : par x = x
    · rw [if_pos e]; exact e
    · rw [if_neg e]
      have := d x
      exact ih (par x) (by omega)
theorem root_le {par : Nat → Nat} (d : Down par) : ∀ x : Nat, rootF par x ≤ x := by
  intro x
  induction x using Nat.strongRecOn with
  | ind x ih =>
    rw [rootF_eq d x]
    by_cases e : par x = x
    · rw [if_pos e]; exact Nat.le_refl _
    · rw [if_neg e]
      have a := d x
      have b := ih (par x) (by omega)
      omega
theorem root_root {par : Nat → Nat} (d : Down par) (x : Nat) : rootF par (rootF par x) = rootF par x := root_self d (root_fix d x)
/-- one way made shorter: the roots stay -/
def halved (par : Nat → Nat) (x : Nat) : Nat → Nat := fun y => if y = x then par (par x) else par y
theorem halved_down {par : Nat → Nat} (d : Down par) (x : Nat) : Down (halved par x) := fun y => by
  unfold halved
  split
  · rename_i e
    have a := d x
    have b := d (par x)
    omega
  · exact d y
theorem halved_root {par : Nat → Nat} (d : Down par) (x : Nat) : ∀ y, rootF (halved par x) y = rootF par y := by
  intro y
  induction y using Nat.strongRecOn with
  | ind y ih =>
    rw [rootF_eq (halved_down d x) y, rootF_eq d y]
    by_cases e : y = x
    · subst e
      have hv : halved par y y = par (par y) := if_pos rfl
      rw [hv]
      by_cases f : par y = y
      · rw [f, f, if_pos rfl, if_pos rfl]
      · have a := d y
        have b := d (par y)
        rw [if_neg (by omega), if_neg f, ih _ (by omega), root_par d]
    · have hv : halved par x y = par y := if_neg e
      rw [hv]
      by_cases f : par y = y
      · rw [if_pos f, if_pos f]
      · have a := d y
        rw [if_neg f, if_neg f, ih _ (by omega)]
/-- two roots made one -/
def united (par : Nat → Nat) (lo hi : Nat) : Nat → Nat := fun y => if y = hi then lo else par y
theorem united_down {par : Nat → Nat} (d : Down par) {lo hi : Nat} (h : lo ≤ hi) : Down (united par lo hi) := fun y => by
  unfold united
  split
  · omega
  · exact d y
theorem united_root {par : Nat → Nat} (d : Down par) {lo hi : Nat} (h : lo ≤ hi) (hl : par lo = lo) (hh : par hi = hi) : ∀ y, rootF (united par lo hi) y = if rootF par y = hi then lo else rootF par y := by
  have dd := united_down d h
  have ul : rootF (united par lo hi) lo = lo := by
    refine root_self dd ?_
    unfold united
    split
    · rfl
    · exact hl
  intro y
  induction y using Nat.strongRecOn with
  | ind y ih =>
    by_cases e : y = hi
    · subst e
      rw [root_self d hh, if_pos rfl, rootF_eq dd]
      have hv : united par lo y y = lo := if_pos rfl
      rw [hv]
      split
      · rename_i q; exact q.symm
      · exact ul
    · have hv : united par lo hi y = par y := if_neg e
      rw [rootF_eq dd, hv, rootF_eq d y]
      by_cases f : par y = y
      · rw [if_pos f, if_pos f, if_neg e]
      · have a := d y
        rw [if_neg f, if_neg f, ih _ (by omega)]
/-- one root exactly if the pairs make them one -/
def Joined (par : Nat → Nat) (ps : Prs) : Prop := ∀ x y, rootF par x = rootF par y ↔ Conn ps x y
theorem joined_nil : Joined id [] := fun x y => by
  have r : ∀ z, rootF id z = z := fun z => root_self (fun _ => Nat.le_refl _) rfl
  rw [r, r]
  constructor
  · rintro rfl; exact .refl _
  · intro h
    cases h with
    | refl => rfl
    | fwd m _ => cases m
    | bwd m _ => cases m
theorem joined_halved {par : Nat → Nat} {ps : Prs} (d : Down par) (j : Joined par ps) (x : Nat) : Joined (halved par x) ps := fun y z => by
  rw [halved_root d, halved_root d]
  exact j y z
theorem joined_more {par : Nat → Nat} {ps : Prs} (d : Down par) (j : Joined par ps) {a b lo hi : Nat} (hlo : lo = min (rootF par a) (rootF par b)) (hhi : hi = max (rootF par a) (rootF par b)) : Joined (united par lo hi) (ps ++ [(a, b)]) := by
  have fa := root_fix d a
  have fb := root_fix d b
  have le : lo ≤ hi := by omega
  have pl : par lo = lo := by
    rcases Nat.le_total (rootF par a) (rootF par b) with q | q
    · rw [hlo, Nat.min_eq_left q]; exact fa
    · rw [hlo, Nat.min_eq_right q]; exact fb
  have ph : par hi = hi := by
    rcases Nat.le_total (rootF par a) (rootF par b) with q | q
    · rw [hhi, Nat.max_eq_right q]; exact fb
    · rw [hhi, Nat.max_eq_left q]; exact fa
  have ur := united_root d le pl ph
  have sub : ∀ e ∈ ps, e ∈ ps ++ [(a, b)] := fun e m => List.mem_append_left _ m
  have cab : Conn (ps ++ [(a, b)]) a b := .fwd (by simp) (.refl _)
  have cr : ∀ x, Conn (ps ++ [(a, b)]) x (rootF par x) := fun x => ((j x (rootF par x)).mp (root_root d x).symm).mono sub
  have clh : Conn (ps ++ [(a, b)]) lo hi := by
    have ca := (cr a).symm
    have cb := cr b
    rcases Nat.le_total (rootF par a) (rootF par b) with q | q
    · rw [hlo, hhi, Nat.min_eq_left q, Nat.max_eq_right q]; exact ca.trans (cab.trans cb)
    · rw [hlo, hhi, Nat.min_eq_right q, Nat.max_eq_left q]; exact (ca.trans (cab.trans cb)).symm
  have cu : ∀ x, Conn (ps ++ [(a, b)]) x (rootF (united par lo hi) x) := fun x => by
    rw [ur]
    split
    · rename_i e
      have z := cr x
      rw [e] at z
      exact z.trans clh.symm
    · exact cr x
  intro x y
  constructor
  · intro e
    have z := cu x
    rw [e] at z
    exact z.trans (cu y).symm
  · intro h
    have edge : ∀ u v, (u, v) ∈ ps ++ [(a, b)] → rootF (united par lo hi) u = rootF (united par lo hi) v := by
      intro u v m
      rcases List.mem_append.mp m with m | m
      · rw [ur, ur, (j u v).mpr (.fwd m (.refl _))]
      · have e := List.mem_singleton.mp m
        cases e
        rw [ur, ur]
        split <;> split <;> omega
    induction h with
    | refl x => rfl
    | fwd m _ ih => exact (edge _ _ m).trans ih
    | bwd m _ ih => exact (edge _ _ m).symm.trans ih
/-- the root is the least of what is one with it -/
theorem joined_least {par : Nat → Nat} {ps : Prs} (d : Down par) (j : Joined par ps) (x : Nat) : LeastOf ps (rootF par x) ∧ Conn ps x (rootF par x) := by
  refine ⟨fun y c => ?_, (j x _).mp (root_root d x).symm⟩
  have e := (j y _).mpr c
  rw [root_root d] at e
  rw [← e]
  exact root_le d y
/-- both ways come to the same numbers -/
theorem rounds_root {par : Nat → Nat} {ps : Prs} (d : Down par) (j : Joined par ps) (x : Nat) : roundsF ps ps.length id x = rootF par x :=
  let ⟨h, c⟩ := joined_least d j x
  rounds_all h c
end Rp
namespace Rp
open PySem PySem.Spec PyProof.Rows L2
/-! ### floors: rings, crossings, regions -/
def nextN (n g : Nat) : Nat := if g + 1 = n then 0 else g + 1
def prevN (n g : Nat) : Nat := if g = 0 then n - 1 else g - 1
structure FR where
  ring : List Nat
  many : Nat
  ps : Prs
  rings : List (List Nat)
  crs : List (Str × List Nat)
def ringOf (w : Str) (r : List Nat) (g new : Nat) : List Nat :=
  if w = "turn" then r.drop g ++ r.take g else if w = "join" then r.take g ++ r.drop (g + 2)
  else if w = "open" then r.take (g + 1) ++ [new] ++ (if 1 < r.length then [r.getD g 0] else []) ++ r.drop (g + 1) else r.take g ++ [new] ++ r.drop (g + 1)
def isCr (w : Str) : Bool := decide (w = "over") || decide (w = "under")
def newOf (w : Str) : Nat := if w = "turn" then 0 else if w = "join" then 0 else 1
def fourOf (r : List Nat) (g new : Nat) : List Nat := [r.getD (prevN r.length g) 0, r.getD g 0, r.getD (nextN r.length g) 0, new]
def stepFR (f : FR) (w : Str) (g : Nat) : FR where
  ring := ringOf w f.ring g f.many
  many := f.many + newOf w
  ps := if w = "join" ∧ 2 < f.ring.length then f.ps ++ [(f.ring.getD (g - 1) 0, f.ring.getD (g + 1) 0)] else f.ps
  rings := f.rings ++ [ringOf w f.ring g f.many]
  crs := if isCr w = true then f.crs ++ [(w, fourOf f.ring g f.many)] else f.crs
def beginFR (m : Nat) : FR := ⟨List.range (max m 1), max m 1, [], [List.range (max m 1)], []⟩
def stepsFR : FR → Dl → FR
  | f, [] => f
  | f, (w, g) :: ds => stepsFR (stepFR f w g.toNat) ds
def floorFR (m : Int) (ds : Dl) : FR := stepsFR (beginFR m.toNat) ds
theorem stepsFR_app : ∀ (f : FR) (ds es : Dl), stepsFR f (ds ++ es) = stepsFR (stepsFR f ds) es
  | _, [], _ => rfl
  | f, (w, g) :: ds, es => stepsFR_app (stepFR f w g.toNat) ds es
theorem stepsFR_take {f : FR} {ds : Dl} {i : Nat} {w : Str} {g : Int} (e : ds[i]? = some (w, g)) : stepsFR f (ds.take (i + 1)) = stepFR (stepsFR f (ds.take i)) w g.toNat := by
  rw [List.take_succ, e, Option.toList_some, stepsFR_app]
  rfl
/-- what holds of a floor as it is laid: now: how many ends; k: how many deeds -/
structure FInv (m : Int) (f : FR) (now : Int) (k : Nat) : Prop where
  len : f.ring.length = max now.toNat 1
  rg : ∀ x ∈ f.ring, x < f.many
  rs : ∀ r ∈ f.rings, r.length ≤ 24 ∧ ∀ x ∈ r, x < f.many
  cs : ∀ c ∈ f.crs, c.2.length = 4 ∧ ∀ x ∈ c.2, x < f.many
  pl : ∀ p ∈ f.ps, p.1 < f.many ∧ p.2 < f.many
  m1 : 1 ≤ f.many
  mny : f.many ≤ max m.toNat 1 + k
  rk : f.rings.length = k + 1
  pk : f.ps.length ≤ k
  ck : f.crs.length ≤ k
  n0 : 0 ≤ now
  n24 : now ≤ 24
  n2 : now % 2 = 0
theorem FInv.begin {m : Int} (h0 : 0 ≤ m) (h24 : m ≤ 24) (h2 : m % 2 = 0) : FInv m (beginFR m.toNat) m 0 where
  len := List.length_range
  rg := fun x mx => List.mem_range.mp mx
  rs := fun r mr => by
    rw [show (beginFR m.toNat).rings = [List.range (max m.toNat 1)] from rfl] at mr
    rw [List.mem_singleton.mp mr]
    refine ⟨?_, fun x mx => List.mem_range.mp mx⟩
    rw [List.length_range]
    have : max m.toNat 1 ≤ 24 := Nat.max_le.mpr ⟨by omega, by decide⟩
    exact this
  cs := fun _ mc => nomatch mc
  pl := fun _ mp => nomatch mp
  m1 := Nat.le_max_right _ _
  mny := Nat.le_refl _
  rk := rfl
  pk := Nat.le_refl _
  ck := Nat.le_refl _
  n0 := h0
  n24 := h24
  n2 := h2
theorem getD_mem {r : List Nat} {g : Nat} (h : g < r.length) : r.getD g 0 ∈ r := by
  rw [List.getD_eq_getElem?_getD, List.getElem?_eq_getElem h]
  exact List.getElem_mem h
theorem getD_atN {r : List Nat} {g : Nat} (h : g < r.length) : r[g]? = some (r.getD g 0) := by
  rw [List.getD_eq_getElem?_getD, List.getElem?_eq_getElem h]
  rfl
/-- where a deed fits its gap is one of the ring -/
theorem fits_gap {w : Str} {m g : Int} (h0 : 0 ≤ m) (h2 : m % 2 = 0) (hw : w ∈ W5) (f : fitsG w m g = true) : 0 ≤ g ∧ g.toNat < max m.toNat 1 ∧ (w = "join" → 1 ≤ g ∧ 2 ≤ m ∧ (m ≤ 2 → g = 1) ∧ (2 < m → g + 1 < m)) ∧ (w ≠ "open" → w ≠ "join" → g < m) := by
  obtain ⟨a, b⟩ := Bool.and_eq_true_iff.mp f
  have a := of_decide_eq_true a
  have b := of_decide_eq_true b
  simp only [W5, List.mem_cons, List.not_mem_nil, or_false] at hw
  unfold gLo at a
  unfold gHi at b
  rcases hw with rfl | rfl | rfl | rfl | rfl
  · rw [if_neg (by decide), if_neg (by decide)] at a b
    exact ⟨a, by omega, fun e => absurd e (by decide), fun _ _ => b⟩
  · rw [if_neg (by decide), if_neg (by decide)] at a b
    exact ⟨a, by omega, fun e => absurd e (by decide), fun _ _ => b⟩
  · rw [if_neg (by decide), if_pos rfl] at a b
    split at a
    · split at b <;> exact ⟨by omega, by omega, fun _ => ⟨by omega, by omega, by omega, by omega⟩, fun _ e => absurd rfl e⟩
    · omega
  · rw [if_pos rfl] at a b
    split at b <;> exact ⟨by omega, by omega, fun e => absurd e (by decide), fun e => absurd rfl e⟩
  · rw [if_neg (by decide), if_neg (by decide)] at a b
    exact ⟨a, by omega, fun e => absurd e (by decide), fun _ _ => b⟩
theorem ringOf_len {w : Str} {r : List Nat} {g new : Nat} {m : Int} (h0 : 0 ≤ m) (h2 : m % 2 = 0) (hw : w ∈ W5) (hl : r.length = max m.toNat 1) {gi : Int} (eg : g = gi.toNat) (f : fitsG w m gi = true) : (ringOf w r g new).length = max (behind w m).toNat 1 := by
  obtain ⟨g0, g1, gj, gt⟩ := fits_gap h0 h2 hw f
  simp only [W5, List.mem_cons, List.not_mem_nil, or_false] at hw
  rcases hw with rfl | rfl | rfl | rfl | rfl
  · have := gt (by decide) (by decide)
    show ((r.take g ++ [new] ++ r.drop (g + 1)).length) = max m.toNat 1
    simp only [List.length_append, List.length_take, List.length_drop, List.length_singleton]
    omega
  · have := gt (by decide) (by decide)
    show ((r.take g ++ [new] ++ r.drop (g + 1)).length) = max m.toNat 1
    simp only [List.length_append, List.length_take, List.length_drop, List.length_singleton]
    omega
  · obtain ⟨j1, j2, j3, j4⟩ := gj rfl
    show ((r.take g ++ r.drop (g + 2)).length) = max (m - 2).toNat 1
    simp only [List.length_append, List.length_take, List.length_drop]
    omega
  · show ((r.take (g + 1) ++ [new] ++ (if 1 < r.length then [r.getD g 0] else []) ++ r.drop (g + 1)).length) = max (m + 2).toNat 1
    split
    · simp only [List.length_append, List.length_take, List.length_drop, List.length_singleton]
      omega
    · simp only [List.length_append, List.length_take, List.length_drop, List.length_singleton, List.length_nil]
      omega
  · have := gt (by decide) (by decide)
    show ((r.drop g ++ r.take g).length) = max m.toNat 1
    simp only [List.length_append, List.length_take, List.length_drop]
    omega
theorem ringOf_mem {w : Str} {r : List Nat} {g new b : Nat} (hr : ∀ x ∈ r, x < b) (hg : g < r.length) (hn : newOf w = 0 ∨ new < b) : ∀ x ∈ ringOf w r g new, x < b := by
  intro x mx
  unfold ringOf at mx
  unfold newOf at hn
  split at mx
  · rcases List.mem_append.mp mx with m | m
    · exact hr x (List.mem_of_mem_drop m)
    · exact hr x (List.mem_of_mem_take m)
  · rename_i e1
    rw [if_neg e1] at hn
    split at mx
    · rcases List.mem_append.mp mx with m | m
      · exact hr x (List.mem_of_mem_take m)
      · exact hr x (List.mem_of_mem_drop m)
    · rename_i e2
      rw [if_neg e2] at hn
      have hn : new < b := by omega
      split at mx
      · rcases List.mem_append.mp mx with m | m
        · rcases List.mem_append.mp m with m | m
          · rcases List.mem_append.mp m with m | m
            · exact hr x (List.mem_of_mem_take m)
            · rw [List.mem_singleton.mp m]; exact hn
          · split at m
            · rw [List.mem_singleton.mp m]; exact hr _ (getD_mem hg)
            · cases m
        · exact hr x (List.mem_of_mem_drop m)
      · rcases List.mem_append.mp mx with m | m
        · rcases List.mem_append.mp m with m | m
          · exact hr x (List.mem_of_mem_take m)
          · rw [List.mem_singleton.mp m]; exact hn
        · exact hr x (List.mem_of_mem_drop m)
theorem prevN_lt {n g : Nat} (h : g < n) : prevN n g < n := by unfold prevN; split <;> omega
theorem nextN_lt {n g : Nat} (h : g < n) : nextN n g < n := by unfold nextN; split <;> omega
theorem FInv.step {m : Int} {f : FR} {now : Int} {k : Nat} {w : Str} {g : Int} (I : FInv m f now k) (hw : w ∈ W5) (fit : fitsG w now g = true) (b : behind w now ≤ 24) : FInv m (stepFR f w g.toNat) (behind w now) (k + 1) := by
  obtain ⟨g0, g1, gj, gt⟩ := fits_gap I.n0 I.n2 hw fit
  have hg : g.toNat < f.ring.length := by rw [I.len]; exact g1
  have nle : f.many ≤ f.many + newOf w := Nat.le_add_right _ _
  have n1 : newOf w ≤ 1 := by unfold newOf; split; decide; split <;> decide
  have hnew : newOf w = 0 ∨ f.many < f.many + newOf w := by omega
  have lnr := ringOf_len (new := f.many) I.n0 I.n2 hw I.len rfl fit
  have mem := ringOf_mem (w := w) (g := g.toNat) (new := f.many) (b := f.many + newOf w) (fun x mx => Nat.lt_of_lt_of_le (I.rg x mx) nle) hg hnew
  refine ⟨lnr, mem, ?_, ?_, ?_, Nat.le_trans I.m1 nle, ?_, ?_, ?_, ?_, fits_ends I.n0 I.n2 fit, b, even_behind I.n2⟩
  · intro r mr
    rcases List.mem_append.mp (show r ∈ f.rings ++ [_] from mr) with mr | mr
    · obtain ⟨a, c⟩ := I.rs r mr
      exact ⟨a, fun x mx => Nat.lt_of_lt_of_le (c x mx) nle⟩
    · rw [List.mem_singleton.mp mr]
      refine ⟨?_, mem⟩
      rw [lnr]
      exact Nat.max_le.mpr ⟨by omega, by decide⟩
  · intro c mc
    have old : c ∈ f.crs → c.2.length = 4 ∧ ∀ x ∈ c.2, x < f.many + newOf w := fun mc => ⟨(I.cs c mc).1, fun x mx => Nat.lt_of_lt_of_le ((I.cs c mc).2 x mx) nle⟩
    by_cases hc : isCr w = true
    · rcases List.mem_append.mp (show c ∈ f.crs ++ [_] by rw [show (stepFR f w g.toNat).crs = f.crs ++ [(w, fourOf f.ring g.toNat f.many)] from if_pos hc] at mc; exact mc) with mc | mc
      · exact old mc
      · rw [List.mem_singleton.mp mc]
        refine ⟨rfl, fun x mx => ?_⟩
        have hn : newOf w = 1 := by
          unfold newOf
          rw [if_neg (fun e => by rw [e] at hc; exact absurd hc (by decide)), if_neg (fun e => by rw [e] at hc; exact absurd hc (by decide))]
        show x < f.many + newOf w
        rw [hn]
        have key : ∀ j, j < f.ring.length → f.ring.getD j 0 < f.many + 1 := fun j hj => Nat.lt_succ_of_lt (I.rg _ (getD_mem hj))
        simp only [fourOf, List.mem_cons, List.not_mem_nil, or_false] at mx
        rcases mx with rfl | rfl | rfl | rfl
        · exact key _ (prevN_lt hg)
        · exact key _ hg
        · exact key _ (nextN_lt hg)
        · omega
    · rw [show (stepFR f w g.toNat).crs = f.crs from if_neg hc] at mc
      exact old mc
  · intro p mp
    have old : p ∈ f.ps → p.1 < f.many + newOf w ∧ p.2 < f.many + newOf w := fun mp => ⟨Nat.lt_of_lt_of_le (I.pl p mp).1 nle, Nat.lt_of_lt_of_le (I.pl p mp).2 nle⟩
    by_cases hc : w = "join" ∧ 2 < f.ring.length
    · rw [show (stepFR f w g.toNat).ps = f.ps ++ [(f.ring.getD (g.toNat - 1) 0, f.ring.getD (g.toNat + 1) 0)] from if_pos hc] at mp
      rcases List.mem_append.mp mp with mp | mp
      · exact old mp
      · obtain ⟨j1, j2, j3, j4⟩ := gj hc.1
        have hl := I.len
        rw [List.mem_singleton.mp mp]
        exact ⟨Nat.lt_of_lt_of_le (I.rg _ (getD_mem (by omega))) nle, Nat.lt_of_lt_of_le (I.rg _ (getD_mem (by omega))) nle⟩
    · rw [show (stepFR f w g.toNat).ps = f.ps from if_neg hc] at mp
      exact old mp
  · show f.many + newOf w ≤ _
    have := I.mny
    omega
  · show (f.rings ++ [_]).length = _
    rw [List.length_append, I.rk]
    rfl
  · by_cases hc : w = "join" ∧ 2 < f.ring.length
    · rw [show (stepFR f w g.toNat).ps = f.ps ++ [(f.ring.getD (g.toNat - 1) 0, f.ring.getD (g.toNat + 1) 0)] from if_pos hc, List.length_append]
      exact Nat.succ_le_succ I.pk
    · rw [show (stepFR f w g.toNat).ps = f.ps from if_neg hc]
      exact Nat.le_succ_of_le I.pk
  · by_cases hc : isCr w = true
    · rw [show (stepFR f w g.toNat).crs = f.crs ++ [(w, fourOf f.ring g.toNat f.many)] from if_pos hc, List.length_append]
      exact Nat.succ_le_succ I.ck
    · rw [show (stepFR f w g.toNat).crs = f.crs from if_neg hc]
      exact Nat.le_succ_of_le I.ck
/-! ### numbers of regions -/
def cntR (lab : Nat → Nat) (n : Nat) : Nat := ((List.range n).filter fun y => decide (lab y = y)).length
theorem cntR_succ (lab : Nat → Nat) (n : Nat) : cntR lab (n + 1) = cntR lab n + if lab n = n then 1 else 0 := by
  unfold cntR
  rw [List.range_succ, List.filter_append, List.length_append]
  congr 1
  by_cases e : lab n = n <;> simp [e]
theorem cntR_le (lab : Nat → Nat) : ∀ n, cntR lab n ≤ n
  | 0 => Nat.le_refl _
  | n + 1 => by
    have := cntR_le lab n
    rw [cntR_succ]
    split <;> omega
theorem cntR_mono (lab : Nat → Nat) {n m : Nat} (h : n ≤ m) : cntR lab n ≤ cntR lab m := by
  induction m with
  | zero => rw [Nat.le_zero.mp h]; exact Nat.le_refl _
  | succ m ih =>
    rcases Nat.lt_or_eq_of_le h with h | h
    · exact Nat.le_trans (ih (Nat.le_of_lt_succ h)) (by rw [cntR_succ]; exact Nat.le_add_right _ _)
    · rw [h]; exact Nat.le_refl _
def labF (f : FR) : Nat → Nat := roundsF f.ps f.ps.length id
def nameF (f : FR) (x : Nat) : Nat := cntR (labF f) (labF f x)
def totF (f : FR) : Nat := cntR (labF f) f.many
def ringsF (f : FR) : List (List Nat) := f.rings.map fun r => r.map (nameF f)
def crsF (f : FR) : List (Str × List Nat) := f.crs.map fun c => (c.1, c.2.map (nameF f))
/-- the numbers so far, as a list -/
def parL (les : List Nat) (y : Nat) : Nat := les.getD y y
theorem parL_out {les : List Nat} {y : Nat} (h : les.length ≤ y) : parL les y = y := by
  unfold parL
  rw [List.getD_eq_getElem?_getD, List.getElem?_eq_none h]
  rfl
theorem parL_new {les : List Nat} : parL (les ++ [les.length]) = parL les := by
  funext y
  unfold parL
  rw [List.getD_eq_getElem?_getD, List.getD_eq_getElem?_getD]
  by_cases h : y < les.length
  · rw [List.getElem?_append_left h]
  · rw [List.getElem?_append_right (by omega), List.getElem?_eq_none (show les.length ≤ y by omega)]
    by_cases e : y = les.length
    · rw [e, Nat.sub_self]; rfl
    · rw [List.getElem?_eq_none (by rw [List.length_singleton]; omega)]
theorem parL_set {les : List Nat} {x v : Nat} (h : x < les.length) : parL (les.set x v) = fun y => if y = x then v else parL les y := by
  funext y
  unfold parL
  rw [List.getD_eq_getElem?_getD, List.getD_eq_getElem?_getD, List.getElem?_set]
  by_cases e : y = x
  · rw [if_pos e.symm, if_pos h, if_pos e]; rfl
  · rw [if_neg (fun z => e z.symm), if_neg e]
theorem parL_range (n : Nat) : parL (List.range n) = id := by
  funext y
  unfold parL
  rw [List.getD_eq_getElem?_getD]
  by_cases h : y < n
  · rw [List.getElem?_range h]; rfl
  · rw [List.getElem?_eq_none (by rw [List.length_range]; omega)]; rfl
theorem conn_same {ps : Prs} {a : Nat} {x y : Nat} (h : Conn (ps ++ [(a, a)]) x y) : Conn ps x y := by
  induction h with
  | refl x => exact .refl x
  | fwd m _ ih =>
    rcases List.mem_append.mp m with m | m
    · exact .fwd m ih
    · cases List.mem_singleton.mp m
      exact ih
  | bwd m _ ih =>
    rcases List.mem_append.mp m with m | m
    · exact .bwd m ih
    · cases List.mem_singleton.mp m
      exact ih
theorem joined_one {par : Nat → Nat} {ps : Prs} {a : Nat} (j : Joined par (ps ++ [(a, a)])) : Joined par ps := fun x y =>
  (j x y).trans ⟨conn_same, fun c => c.mono fun e m => List.mem_append_left _ m⟩
theorem par_for : ∀ (ps : Prs), ∃ par, Down par ∧ Joined par ps := by
  intro ps
  have key : ∀ qs : Prs, ∃ par, Down par ∧ Joined par qs.reverse := by
    intro qs
    induction qs with
    | nil => exact ⟨id, fun _ => Nat.le_refl _, joined_nil⟩
    | cons p qs ih =>
      obtain ⟨par, d, j⟩ := ih
      rw [List.reverse_cons]
      exact ⟨_, united_down d (Nat.le_trans (Nat.min_le_left _ _) (Nat.le_max_left _ _)), joined_more (a := p.1) (b := p.2) d j rfl rfl⟩
  have z := key ps.reverse
  rwa [List.reverse_reverse] at z
/-- the lesser numbers of a floor, as its list tells them -/
structure Les (les : List Nat) (f : FR) : Prop where
  len : les.length = f.many
  down : Down (parL les)
  join : Joined (parL les) f.ps
theorem Les.lab {les : List Nat} {f : FR} (h : Les les f) (x : Nat) : labF f x = rootF (parL les) x := rounds_root h.down h.join x
theorem lab_idem (f : FR) (x : Nat) : labF f (labF f x) = labF f x := by
  obtain ⟨par, d, j⟩ := par_for f.ps
  show roundsF f.ps f.ps.length id (roundsF f.ps f.ps.length id x) = roundsF f.ps f.ps.length id x
  rw [rounds_root d j, rounds_root d j, root_root d]
theorem lab_le (f : FR) (x : Nat) : labF f x ≤ x := rounds_le f.ps f.ps.length x
theorem Les.begin (m : Nat) : Les (List.range (max m 1)) (beginFR m) := ⟨List.length_range, by rw [parL_range]; exact fun _ => Nat.le_refl _, by rw [parL_range]; exact joined_nil⟩
theorem Les.self {les : List Nat} {f : FR} (h : Les les f) {n : Nat} (e : parL les n = n) : labF f n = n ∧ nameF f n = cntR (labF f) n ∧ cntR (labF f) (n + 1) = cntR (labF f) n + 1 := by
  have l : labF f n = n := by rw [h.lab, root_self h.down e]
  exact ⟨l, by unfold nameF; rw [l], by rw [cntR_succ, if_pos l]⟩
theorem Les.less {les : List Nat} {f : FR} (h : Les les f) {n : Nat} (e : parL les n ≠ n) : parL les n < n ∧ nameF f (parL les n) = nameF f n ∧ cntR (labF f) (n + 1) = cntR (labF f) n := by
  have d := h.down n
  have lt : parL les n < n := by omega
  have l : labF f (parL les n) = labF f n := by rw [h.lab, h.lab, root_par h.down]
  refine ⟨lt, by unfold nameF; rw [l], ?_⟩
  have ne : labF f n ≠ n := by
    have := lab_le f (parL les n)
    omega
  rw [cntR_succ, if_neg ne]
  rfl
theorem name_lt {f : FR} {x : Nat} (h : x < f.many) : nameF f x < totF f := by
  have l := lab_le f x
  have s : cntR (labF f) (labF f x + 1) = cntR (labF f) (labF f x) + 1 := by rw [cntR_succ, if_pos (lab_idem f x)]
  have m := cntR_mono (labF f) (show labF f x + 1 ≤ f.many by omega)
  show cntR (labF f) (labF f x) < cntR (labF f) f.many
  omega
/-- the roots, ascending -/
def rootsF (f : FR) : List Nat := (List.range f.many).filter fun y => decide (labF f y = y)
theorem rootsF_len (f : FR) : (rootsF f).length = totF f := rfl
theorem filt_at {p : Nat → Bool} : ∀ {n v : Nat}, v < n → p v = true → ((List.range n).filter p)[((List.range v).filter p).length]? = some v
  | 0, _, h, _ => absurd h (Nat.not_lt_zero _)
  | n + 1, v, h, hp => by
    rw [List.range_succ, List.filter_append]
    rcases Nat.lt_or_eq_of_le (Nat.le_of_lt_succ h) with h | h
    · have z := filt_at h hp
      rw [List.getElem?_append_left (List.getElem?_eq_some_iff.mp z).1]
      exact z
    · subst h
      rw [List.getElem?_append_right (Nat.le_refl _), Nat.sub_self, List.filter_cons_of_pos hp]
      rfl
theorem rootsF_at {f : FR} {x : Nat} (h : x < f.many) : (rootsF f)[nameF f x]? = some (labF f x) :=
  filt_at (Nat.lt_of_le_of_lt (lab_le f x) h) (decide_eq_true (lab_idem f x))
/-- two ascending lists of the same numbers are one -/
theorem asc_one : ∀ {a b : List Int}, a.Pairwise (· < ·) → b.Pairwise (· < ·) → (∀ x, x ∈ a ↔ x ∈ b) → a = b
  | [], [], _, _, _ => rfl
  | [], y :: b, _, _, h => absurd ((h y).mpr (List.mem_cons_self ..)) (List.not_mem_nil)
  | x :: a, [], _, _, h => absurd ((h x).mp (List.mem_cons_self ..)) (List.not_mem_nil)
  | x :: a, y :: b, ha, hb, h => by
    obtain ⟨ha1, ha2⟩ := List.pairwise_cons.mp ha
    obtain ⟨hb1, hb2⟩ := List.pairwise_cons.mp hb
    have e : x = y := by
      rcases List.mem_cons.mp ((h x).mp (List.mem_cons_self ..)) with e | m
      · exact e
      · rcases List.mem_cons.mp ((h y).mpr (List.mem_cons_self ..)) with e | m2
        · exact e.symm
        · have := hb1 x m; have := ha1 y m2; omega
    subst e
    rw [asc_one ha2 hb2 fun z => ?_]
    constructor
    · intro m
      rcases List.mem_cons.mp ((h z).mp (List.mem_cons_of_mem _ m)) with e | m2
      · have := ha1 z m; omega
      · exact m2
    · intro m
      rcases List.mem_cons.mp ((h z).mpr (List.mem_cons_of_mem _ m)) with e | m2
      · have := hb1 z m; omega
      · exact m2
theorem rootsF_asc (f : FR) : ((rootsF f).map fun (y : Nat) => (y : Int)).Pairwise (· < ·) := by
  rw [List.pairwise_map]
  exact (List.Pairwise.filter _ List.pairwise_lt_range).imp fun h => by omega
/-- the distinct labels, ascending, are the roots -/
theorem kept_roots {f : FR} {ks : List Int} (h1 : ks.Pairwise (· < ·)) (h2 : ∀ j, j ∈ ks ↔ j ∈ (List.range f.many).map fun x => ((labF f x : Nat) : Int)) : ks = (rootsF f).map fun (y : Nat) => (y : Int) := by
  refine asc_one h1 (rootsF_asc f) fun j => (h2 j).trans ?_
  constructor
  · intro m
    obtain ⟨x, mx, rfl⟩ := List.mem_map.mp m
    refine List.mem_map.mpr ⟨labF f x, List.mem_filter.mpr ⟨List.mem_range.mpr (Nat.lt_of_le_of_lt (lab_le f x) (List.mem_range.mp mx)), decide_eq_true (lab_idem f x)⟩, rfl⟩
  · intro m
    obtain ⟨y, my, rfl⟩ := List.mem_map.mp m
    obtain ⟨m1, m2⟩ := List.mem_filter.mp my
    exact List.mem_map.mpr ⟨y, m1, by rw [of_decide_eq_true m2]⟩
end Rp
namespace Rp
open PySem PySem.Spec PyProof.Rows L2 LamX RZ
/-! ### a set of a list's numbers, sorted; a list unpacked -/
section
variable {prog : Program} {w : World} {A : Around} {E : Value → Shared → Prop} {s : Shared}
/-- a set just begun -/
abbrev set0 (w : World) : Obj := { cls := .type "set", dict := none, data := .set #[] 0 (.fresh 0 0 (!w.params.followText "set-order")) }
set_option maxRecDepth 100000 in
set_option maxHeartbeats 3200000 in
theorem set_of_list {l : Addr} {its : Array Value} (ns : List Int) {Q : Value → Shared → Prop} (calm : A.handled = none) (atl : s.heap.IsList l its)
    (ofn : IntsAre its.toList ns) (room : ns.length + 1 < scanBound)
    (k : ∀ (g : Heap) (tk c : Nat), SetR w g s.heap.objs.size (fun j => decide (j ∈ ns)) c → c ≤ ns.length →
      (∀ b o, s.heap.get? b = some o → g.get? b = some o) → Q (.ref s.heap.objs.size) { s with heap := g, toks := tk }) :
    wpAny (model prog w) A (call (.type "set") [.ref l]) Q E s := by
  have size_eq : its.size = ns.length := by
    have z := IntsAre.length ofn
    rwa [Array.length_toList] at z
  obtain ⟨_, _, mro_⟩ := F.called_set.mro
  have made_ := F.called_set.made; have sub_ := F.called_set.sub
  refine wpAny_call (codeAny_of_tree ?_); show wpAny _ _ (callAny (.type "set") _) _ _ _
  refine wpAny_pure ⟨Code.quiet_builtin _ (by decide +kernel), codeAny_builtin F.entry_type_call ?_⟩; rw [Around.under_plain (weight_type_call_type "set" [.ref l] []) rfl]
  have nt_ := F.called_set.notType; have cc_ := F.called_set.canCreate; have tc_ := F.typeCall_set_1 (.ref l)
  repeat (any_goals (first | assumption | wp_step))
  refine codeAny_mono (code_set_led1 (.ref l) (E := E) (Q₁ := fun x t => x = .ref s.heap.objs.size ∧ t = { s with heap := s.heap.push (set0 w) }) ⟨rfl, rfl⟩) fun r t hr => ?_
  match r, hr with
  | .error _, hr => exact hr
  | .ok (.ret x), hr =>
    obtain ⟨ex, et⟩ := hr
    subst ex et
    have new_ : (s.heap.push (set0 w)).get? s.heap.objs.size = some (set0 w) := Heap.get?_push_size _ rfl
    have type_ : Shared.TypeIs { s with heap := s.heap.push (set0 w) } (.ref s.heap.objs.size) "set" := ⟨_, new_, rfl⟩
    have look_ := F.called_set.init.lookup; have bind_ := F.called_set.init.bind (.ref s.heap.objs.size)
    repeat (any_goals (first | assumption | wp_step))
    refine codeAny_mono (codeAny_call_builtin (R := wants (fun v u => v = .none ∧ ∃ g tk c, u = { s with heap := g, toks := tk } ∧ SetR w g s.heap.objs.size (fun j => decide (j ∈ ns)) c ∧ c ≤ ns.length ∧ ∀ b o, s.heap.get? b = some o → g.get? b = some o) E)
      F.called_set.init.plain F.entry_set_init (check_set_init_1 type_ ?_)) fun r2 t2 hr2 => ?_
    · obtain ⟨⟨oc, od, oq, osl⟩, at0, hc, n0, hd⟩ := atl
      simp only at hc hd
      subst hc hd
      have at1 : (s.heap.push (set0 w)).get? l = some { cls := .type "list", dict := od, data := .seq its n0, slots := osl } := Heap.get?_push_of_some _ at0
      have s1_ := F.sub_list_set; have s2_ := F.sub_list_frozenset
      have no_ : (Value.type "list" == Value.type "dict") = false := by decide
      have lst1 : (s.heap.push (set0 w)).IsList l its := ⟨_, at1, rfl, n0, rfl⟩
      unfold Builtin.«set.__init__» noKeywords Builtin.Frozenset.updateFrom
      generalize hI : pyIter = PI
      wp_walk
      subst hI
      refine wpAny_pyIter_list lst1 ?_
      refine wpAny_bind (wpAny_runValue ?_)
      have lt_ : l < s.heap.objs.size := Heap.lt_size at0
      have calm3 : A.in1.in1.in1.handled = none := by simp [calm]
      have neI : l ≠ (s.heap.push (set0 w)).objs.size := by rw [Heap.size_push]; exact Nat.ne_of_lt (Nat.lt_succ_of_lt lt_)
      have off : s.heap.objs.size ∉ [(s.heap.push (set0 w)).objs.size, l] := by
        rw [Heap.size_push]
        intro m
        rcases List.mem_cons.mp m with e | m
        · exact absurd e (Nat.ne_of_lt (Nat.lt_succ_self _))
        · exact absurd (List.mem_singleton.mp m) (Nat.ne_of_gt lt_)
      have vals : ∀ (i : Nat) (v : Value), its[i]? = some v → ∃ k t, ns[i]? = some k ∧ v = .int k t := fun i v hv => by
        have hi : i < ns.length := by rw [← size_eq]; exact (Array.getElem?_eq_some_iff.mp hv).1
        obtain ⟨t, e⟩ := PyProof.Rows.IntsAre.int_at ofn i v (by rw [Array.getElem?_toList]; exact hv)
        exact ⟨ns[i], t, List.getElem?_eq_getElem hi, by rw [e, List.getD_eq_getElem?_getD, List.getElem?_eq_getElem hi]; rfl⟩
      refine set_update_ints ((Walks.list calm3 _ l neI its).toS) s.heap.objs.size off ns size_eq room vals (its.size - 0) 0 _ (by omega) (Nat.zero_le _) ⟨⟨_, Heap.get?_push_size _ rfl, rfl, rfl⟩, (lst1.push _)⟩ ?h0 ?hR
      case h0 => exact ⟨0, Nat.le_refl 0, setR_new_at (Heap.get?_push_of_some _ new_)⟩
      case hR =>
        rintro ⟨g, gs, d, tk, os⟩ c moved le_ R_
        have e1 : gs = s.gens := moved.gens
        have e2 : d = s.drawn := moved.drawn
        have e3 : os = s.os := moved.os
        subst e1 e2 e3
        show wpAny _ _ _ _ _ _
        refine wpAny_pure ?_; show wpAny _ _ (ret Value.none) _ _ _
        rw [size_eq] at le_
        refine wpAny_pure ⟨rfl, g, tk, c, rfl, R_, le_, fun b o e => ?_⟩
        have lb : b < s.heap.objs.size := Heap.lt_size e
        refine moved.heap b o (fun m => ?_) (Heap.get?_push_of_some _ (Heap.get?_push_of_some _ e))
        rcases List.mem_cons.mp m with e | m
        · exact absurd e (Nat.ne_of_lt lb)
        · have z := List.mem_singleton.mp m
          rw [Heap.size_push] at z
          exact absurd z (Nat.ne_of_lt (Nat.lt_succ_of_lt lb))
    · match r2, hr2 with
      | .error _, hr2 => exact hr2
      | .ok (.ret v), hr2 =>
        obtain ⟨ev, g, tk, c, et, R_, le_, old⟩ := hr2
        subst ev et
        repeat (any_goals (first | assumption | wp_step))
        exact k _ _ _ R_ le_ old
      | .ok .next, hr2 => exact hr2.elim
      | .ok .brk, hr2 => exact hr2.elim
      | .ok .cont, hr2 => exact hr2.elim
  | .ok .next, hr => exact hr.elim
  | .ok .brk, hr => exact hr.elim
  | .ok .cont, hr => exact hr.elim
/-- a set's numbers, ascending, however many -/
theorem sorted_of_set {a : Addr} {S : Int → Bool} {n : Nat} {Q : Value → Shared → Prop} (R : SetR w s.heap a S n) (calm : A.handled = none) (small : n ≤ sizeLine)
    (k : ∀ t p (out : List Value) (c : Nat) (ns : List Int), (∀ b o, s.heap.get? b = some o → t.heap.get? b = some o) → t.gens = s.gens → t.os = s.os → s.heap.objs.size ≤ p →
      t.heap.get? p = some (seqObj "list" out.toArray c) → IntsAre out ns → ns.Pairwise (· < ·) → (∀ j, j ∈ ns ↔ S j = true) → Q (.ref p) t) :
    wpAny (model prog w) A (call (.builtin "sorted") [.ref a]) Q E s := by
  obtain ⟨o, es, ep, tb, ho, ex_, dt, good, nd, mem_, bd, fit_, hn, ris, led_⟩ := R
  refine Calls.call_function_entry kind_sorted plain_sorted entry_sorted (args_sorted1 _) ?_; unfold Builtin.«sorted»
  refine wpAny_bind (m := checkCount "sorted" 1 1 _) (wpAny_pure ?_)
  refine wpAny_bind (collect_set (A := A.in1) calm ⟨o, ho, ex_.1, dt⟩ fit_ bd ris led_ fun u vs old sz gs os pm => ?_)
  have lv : vs.length = n := by rw [pm.length_eq, List.length_map, Array.length_toList]; exact hn
  have iv_ : IntsAre vs (vs.map SrtO.iv) := SrtO.ints_iv fun v hv => by
    obtain ⟨e, he, q⟩ := List.mem_map.mp (pm.mem_iff.mp hv)
    obtain ⟨j, tk, h1, _⟩ := good e he
    exact ⟨j, tk, by rw [← q]; exact h1⟩
  have key_ : ∀ e : Int × Value, keyOf e = SrtO.iv e.2 := fun ⟨h, v⟩ => by cases v <;> rfl
  have pk : (vs.map SrtO.iv).Perm (es.toList.map keyOf) := by
    have q := pm.map SrtO.iv
    rw [List.map_map] at q
    rwa [show es.toList.map (SrtO.iv ∘ fun x => x.2) = es.toList.map keyOf from List.map_congr_left fun e _ => (key_ e).symm] at q
  refine wpAny_bind (wpAny_newList ?_ (by rw [lv]; exact small))
  have hL : (u.heap.push (seqObj "list" vs.toArray 0)).get? u.heap.objs.size = some (seqObj "list" vs.toArray 0) := Heap.get?_push_size _ rfl
  refine wpAny_bind (wpAny_holding (wpAny_call_entry slot_list_sort ⟨_, hL, rfl⟩ entry_list_sort (SrtO.list_sort_ord SrtO.swo_int hL (by rw [lv]; exact small) (fun h2 => SrtO.ints_sortable iv_ h2) fun out b1 b2 => ⟨_, rfl, ?_⟩) (args_list_sort _)))
  obtain ⟨k1, k2, k3⟩ := SrtO.ints_out iv_ b1 b2
  obtain ⟨c, hc⟩ := sortedHeap_at (vs := vs) (out := out.toArray) hL
  have pn : (out.map SrtO.iv).Perm (es.toList.map keyOf) := k2.trans pk
  refine wpAny_pure ⟨_, rfl, k _ u.heap.objs.size out c _ (fun b x e => ?_) gs os sz hc k1 (lt_of_le_nodup _ k3 (pn.nodup_iff.mpr nd)) fun j => by rw [pn.mem_iff, ← mem_ j]⟩
  have lt_ := Heap.lt_size (old b x e)
  show (sortedHeap (u.heap.push (seqObj "list" vs.toArray 0)) u.heap.objs.size vs out.toArray).get? b = some x
  rw [sortedHeap_old (Nat.ne_of_lt lt_) (by rw [size_push']; exact Nat.lt_succ_of_lt lt_)]
  exact Heap.get?_push_of_some _ (old b x e)
end
def tSortSet (K : PySem.W.Frag) (ta : TE) : TE := fun σ H Q => ta σ H fun x H1 => ∃ (l : Addr) (ns : List Int), x = .ref l ∧ SqL K H1 l (ns.map V.int) ∧ ns.length ≤ 4000 ∧
  ∀ (ks : List Int) (p : Addr), ks.Pairwise (· < ·) → (∀ j, j ∈ ks ↔ j ∈ ns) → H1 p = none → Q (.ref p) (upd H1 p (.lst (ks.map V.int)))
theorem r_sortSet {K : PySem.W.Frag} {ta : TE} {σ : L2.St} {H : Hp} {Q : VK} (h : ta σ H fun x H1 => ∃ (l : Addr) (ns : List Int), x = .ref l ∧ SqL K H1 l (ns.map V.int) ∧ ns.length ≤ 4000 ∧
  ∀ (ks : List Int) (p : Addr), ks.Pairwise (· < ·) → (∀ j, j ∈ ks ↔ j ∈ ns) → H1 p = none → Q (.ref p) (upd H1 p (.lst (ks.map V.int)))) : tSortSet K ta σ H Q := h
theorem pe_sortSet {X : Cx} {a : Expr} {ta : TE} {p p2 q pos : Pos} (hc : X.calm = true) (hg : Gl X "sorted") (hm : X.mg "sorted" = none) (hg2 : Gl X "set") (hm2 : X.mg "set" = none) (ha : PE X a ta)
    (na : starEach [a] X.env = (false, eval a X.env) :: starEach [] X.env := by rfl) : PE X (.Call (.Name "sorted" p) [.Call (.Name "set" p2) [a] [] q] [] pos) (tSortSet X.K ta) := by
  refine ⟨fun pins s σ H Q I h => ?_⟩
  refine Call_ (ld_blt I hg hm boot_sorted ?_)
  refine PyProof.Rows.callWith_builtin1 (PyProof.Rows.args_cons ?_ rfl) rfl rfl
  refine Call_ (ld_blt I hg2 hm2 boot_set ?_)
  refine PyProof.Rows.callWith_type1 (PyProof.Rows.args_cons (thn (ha.run pins s σ H _ I h) fun v s1 ⟨x, H1, I1, r1, q1⟩ => PyProof.Rows.args_nil ?_) na) na rfl
  obtain ⟨l, ns, rfl, hq, hl, q1⟩ := q1
  cases r1
  obtain ⟨its, rv, pl, hz⟩ := I1.list hq
  have it_ : IntsAre its.toArray.toList ns := by simpa using intsAre_vals rv
  refine set_of_list ns (I1.ok.hd hc) pl.isList it_ (by unfold scanBound; omega) fun g tk c R_ le_ old => ?_
  refine PyProof.Rows.args_nil ?_
  have I2 : Inv X pins σ H1 { s1 with heap := g, toks := tk } := I1.kept fun b o e => old b o e
  refine sorted_of_set R_ (I1.ok.hd hc) (Nat.le_trans le_ (Nat.le_trans hl (le_ok rfl))) fun t z out c2 ks old2 gs os lez hz2 hi2 asc mem2 => ?_
  have lk : (ks.map V.int).length ≤ sizeLine := by
    rw [List.length_map]
    have nd : ks.Nodup := asc.imp fun h => Int.ne_of_lt h
    exact Nat.le_trans (nd.length_le_of_subset (fun j hj => of_decide_eq_true ((mem2 j).mp hj))) (Nat.le_trans hl (le_ok rfl))
  have hn : H1 z = none := I2.hok.fresh lez
  have o12 : ∀ b o, s1.heap.get? b = some o → t.heap.get? b = some o := fun b o e => old2 b o (old b o e)
  have lez1 : s1.heap.objs.size ≤ z := by
    obtain ⟨_, _, _, _, hget, _⟩ := R_
    exact Nat.le_trans (Nat.le_of_lt (Heap.lt_size hget)) lez
  have J : Inv X pins σ (upd H1 z (.lst (ks.map V.int))) { s1 with heap := t.heap, gens := t.gens, drawn := t.drawn, toks := t.toks } :=
    I1.call (ch := []) (Un.laid o12 lez1 hn) (I1.hok.laid o12 lez1 ⟨lk, out, c2, vals_of_ints hi2, hz2⟩) (by rw [gs]; exact I1.bare) (fun _ z => nomatch z)
  have e : t = { s1 with heap := t.heap, gens := t.gens, drawn := t.drawn, toks := t.toks } := by
    cases t
    cases os
    rfl
  rw [e]
  exact ⟨.ref z, _, J, rfl, q1 ks z asc (fun j => (mem2 j).trans decide_eq_true_iff) hn⟩
end Rp
namespace Rp
open PySem PySem.Spec PyProof.Rows L2 LamX RZ
/-! ### own methods called where no error may come; more readings -/
structure MetX (P : Program) (w : World) (K : PySem.W.Frag) (mg : Str → Option Value) (base : Heap) (m : Str) (k : Nat) (C f : Addr) (fd : FuncData) (ps : List Str) (sp : Sp) : Prop where
  cls : Cls K C
  mt : Meth K C m f
  F : FnOk P w K mg base (L2.CX P w) k f fd ps sp
  b : Binds K fd ps []
theorem passE0 {X : Cx} : Passes (L2.CX X.prog X.w) X E0 := fun _ _ _ _ _ _ _ h => by
  obtain ⟨_, _, _, _, _, _, _, _, _, _, _, _, z⟩ := h
  exact z.elim
section
variable {X : Cx} {k : Nat} {C f : Addr} {fd : FuncData} {ps : List Str} {sp : Sp} {m : Str} {pos apos : Pos} {e o : Expr} {es : List Expr} {ta : TE} {t : TA}
theorem pe_mX {pl : Sem Bool} (c : MetX X.prog X.w X.K X.mg X.base m k C f fd ps sp) (r : Room k X.A) (he : PE X o ta) (ha : PA X (e :: es) t)
    (h1 : starEach (e :: es) X.env = (false, eval e X.env) :: starEach es X.env := by rfl) (h2 : (backTo pos (starEach es X.env)).any (·.1) = false := by rfl)
    (h3 : eval (.Call (.Attribute o m apos) (e :: es) [] pos) X.env = (do
      let ov ← eval o X.env; standAt apos.atName
      let (f, first) ← holding [ov] (getMethod ov m pl); callWith pos f first (backTo pos (starEach (e :: es) X.env)) (backToKw pos (keywordEach [] X.env))) := by rfl) :
    PE X (.Call (.Attribute o m apos) (e :: es) [] pos) (tMeth C m sp [] E0 ta t) :=
  pe_meth he c.cls c.mt c.F r c.b .nil passE0 ha h1 h2 h3
theorem pe_mX0 {pl : Sem Bool} (c : MetX X.prog X.w X.K X.mg X.base m k C f fd ps sp) (r : Room k X.A) (he : PE X o ta)
    (h3 : eval (.Call (.Attribute o m apos) [] [] pos) X.env = (do
      let ov ← eval o X.env; standAt apos.atName
      let (f, first) ← holding [ov] (getMethod ov m pl); callWith pos f first (backTo pos (starEach [] X.env)) (backToKw pos (keywordEach [] X.env))) := by rfl) :
    PE X (.Call (.Attribute o m apos) [] [] pos) (tMeth C m sp [] E0 ta tNil) :=
  pe_meth0 he c.cls c.mt c.F r c.b .nil passE0 h3
end
section
variable {K : PySem.W.Frag} {C : Addr} {m f : Str} {sp : Sp} {dvs : List V} {E : XK} {ta tv : TE} {t : TA} {σ : L2.St} {H : Hp} {Q : VK} {v : V}
theorem r_meth (h : ta σ H fun x H1 => ∃ a dx fs, x = .ref a ∧ H1 a = some (.ins C dx fs) ∧ fs.lookup m = none ∧ t σ H1 fun vs H2 => sp (x :: (vs ++ dvs)) H2 Q E) : tMeth C m sp dvs E ta t σ H Q := h
theorem r_meth0 (h : ta σ H fun x H1 => ∃ a dx fs, x = .ref a ∧ H1 a = some (.ins C dx fs) ∧ fs.lookup m = none ∧ sp (x :: dvs) H1 Q E) : tMeth C m sp dvs E ta tNil σ H Q := h
theorem r_fldaug {rd : V → V → Hp → VK → Prop} {D : Ends} (h : ta σ H fun x H1 => ∃ a C dx fs v, x = .ref a ∧ H1 a = some (.ins C dx fs) ∧ Cls K C ∧ NoAttr K C f ∧ fs.lookup f = some v ∧
  tv σ H1 fun y H2 => rd v y H2 fun z H3 => ∃ dx' fs', H3 a = some (.ins C dx' fs') ∧ fs'.length < 1000 ∧ D.nx σ (upd H3 a (.ins C dx' (putF f z fs')))) : sFldAug K ta tv rd f D σ H := h
theorem r_glst {n : Nat} {tg : TGs} {R : L2.St → Hp → Prop} (h : ∃ a xs, v = .ref a ∧ SqL K H a xs ∧ xs.length = n ∧ tg xs σ H R) : gLst K n tg v σ H R := h
theorem r_star {tr : TA} {R : List V → Hp → Prop} (h : ta σ H fun x H1 => ∃ p xs, x = .ref p ∧ (SqT K H1 p xs ∨ SqL K H1 p xs) ∧ tr σ H1 fun ys H2 => R (xs ++ ys) H2) : StX.tStar K ta tr σ H R := h
end
/-- lists of natural numbers, as values -/
abbrev nv (xs : List Nat) : List V := xs.map fun (n : Nat) => V.int (n : Int)
theorem nv_at {xs : List Nat} {i : Nat} (h : i < xs.length) : atI (nv xs) (i : Int) = some (.int ((xs.getD i 0 : Nat) : Int)) := atI_nat (by
  rw [List.getElem?_map, List.getD_eq_getElem?_getD, List.getElem?_eq_getElem h]
  rfl)
theorem nv_atD {xs : List Nat} {i : Nat} (h : i < xs.length) : atI (nv xs) (i : Int) = some (.int ((xs.getD i i : Nat) : Int)) := atI_nat (by
  rw [List.getElem?_map, List.getD_eq_getElem?_getD, List.getElem?_eq_getElem h]
  rfl)
theorem nv_set {xs : List Nat} {i v : Nat} : (nv xs).set i (.int (v : Int)) = nv (xs.set i v) := by unfold nv; rw [List.map_set]
theorem nv_len {xs : List Nat} : (nv xs).length = xs.length := List.length_map ..
theorem nv_app {xs ys : List Nat} : nv (xs ++ ys) = nv xs ++ nv ys := List.map_append ..
theorem nv_prev {xs : List Nat} {g : Nat} (h : g < xs.length) : atI (nv xs) ((g : Int) - 1) = some (.int ((xs.getD (prevN xs.length g) 0 : Nat) : Int)) := by
  unfold prevN
  by_cases e : g = 0
  · subst e
    rw [if_pos rfl]
    show atI (nv xs) (-1) = _
    unfold atI
    rw [nv_len, ixN_last (by omega), Option.bind_some, List.getElem?_map, getD_atN (by omega : xs.length - 1 < xs.length)]
    rfl
  · rw [if_neg e, show (g : Int) - 1 = ((g - 1 : Nat) : Int) by omega]
    exact nv_at (by omega)
theorem mod_nextN {n g : Nat} (h : g < n) : ((g : Int) + 1).fmod (n : Int) = ((nextN n g : Nat) : Int) := by
  have z := mod_next h
  rw [Int.zero_add] at z
  exact z
theorem nv_next {xs : List Nat} {g : Nat} (h : g < xs.length) : atI (nv xs) (((g : Int) + 1).fmod (xs.length : Int)) = some (.int ((xs.getD (nextN xs.length g) 0 : Nat) : Int)) := by
  rw [mod_nextN h]
  exact nv_at (nextN_lt h)
theorem cut_loN {xs : List Nat} {n : Nat} (h : n ≤ xs.length) : cutV (nv xs) none (some (n : Int)) = nv (xs.take n) := by
  rw [cut_lo (by rw [nv_len]; exact h)]
  unfold nv
  rw [List.map_take]
theorem cut_hiN {xs : List Nat} {n : Nat} (h : n ≤ xs.length) : cutV (nv xs) (some (n : Int)) none = nv (xs.drop n) := by
  rw [cut_hi (by rw [nv_len]; exact h)]
  unfold nv
  rw [List.map_drop]
/-- a list cut behind its end -/
theorem cut_over {xs : List Nat} {n : Nat} : cutV (nv xs) (some (n : Int)) none = nv (xs.drop n) := by
  by_cases h : n ≤ xs.length
  · exact cut_hiN h
  · unfold cutV
    rw [HT.sIx_nat, nv_len, Nat.min_eq_right (by omega)]
    rw [List.drop_of_length_le (by rw [nv_len]; omega), List.drop_of_length_le (by omega), List.take_nil]
    rfl
end Rp
namespace Pl
open PySem PySem.Spec PyProof.Rows L2 Rp LamX
/-! ### plain data, without a heap -/
inductive D where
  | non | bl (b : Bool) | int (i : Int) | str (s : Str)
  | lst (xs : List D) | tup (xs : List D) | ins (C : Str) (fs : List (Str × D)) | dic (kvs : List (Key × D)) | oth (v : V) | exc (C : Str) (fs : List (Str × D))
  deriving Inhabited
structure Er where
  cls : Str
  fs : List (Str × D)
inductive Res (α : Type) where
  | ok (a : α) | err (e : Er) | bad
def Res.bind {α β : Type} (r : Res α) (f : α → Res β) : Res β :=
  match r with
  | .ok a => f a
  | .err e => .err e
  | .bad => .bad
@[simp] theorem Res.bind_ok {α β : Type} {a : α} {f : α → Res β} : (Res.ok a).bind f = f a := rfl
@[simp] theorem Res.bind_err {α β : Type} {e : Er} {f : α → Res β} : (Res.err e : Res α).bind f = .err e := rfl
@[simp] theorem Res.bind_bad {α β : Type} {f : α → Res β} : (Res.bad : Res α).bind f = .bad := rfl
/-- what a name holds: a value; a list of one's own; an instance of one's own (self, as it is made); the draws' box -/
inductive EV where
  | val (d : D) | own (xs : List D) | obj (C : Str) (fs : List (Str × D)) | box
abbrev En := List (Option EV)
/-- what is drawn from -/
structure DS where
  ns : List Int
  lap : Nat
  rest : Int
structure PS where
  ρ : En
  δ : DS
/-- the written part, and the classes' addresses -/
structure Cx where
  K : PySem.W.Frag
  A : Str → Addr
  own : List Str
  tb : List (Addr × Str)
  er : List Str
  et : List Str
def KT (K : PySem.W.Frag) (a : Addr) (xs : List V) : Prop :=
  ∃ (o : Obj) (its : Array Value) (n : Nat), K.lookup a = some o ∧ o.cls = .type "tuple" ∧ o.data = .seq its n ∧ its.size ≤ sizeLine ∧ Vals xs its.toList
mutual
inductive Vd (G : Cx) (S : Addr → Prop) (H : Hp) : V → D → Prop
  | non : Vd G S H .non .non
  | bl (b : Bool) : Vd G S H (.bl b) (.bl b)
  | int (i : Int) : Vd G S H (.int i) (.int i)
  | str (x : Str) : Vd G S H (.str x) (.str x)
  | lst {a : Addr} {us : List V} {ds : List D} (n : ¬ S a) (e : H a = some (.lst us)) (h : VdA G S H us ds) : Vd G S H (.ref a) (.lst ds)
  | tup {a : Addr} {us : List V} {ds : List D} (n : ¬ S a) (e : H a = some (.tup us)) (h : VdA G S H us ds) : Vd G S H (.ref a) (.tup ds)
  | ktp {a : Addr} {us : List V} {ds : List D} (e : KT G.K a us) (h : VdA G S H us ds) : Vd G S H (.ref a) (.tup ds)
  | ins {a dx : Addr} {C : Str} {vs : List (Str × V)} {fs : List (Str × D)} (m : C ∈ G.own) (n : ¬ S a) (e : H a = some (.ins (G.A C) dx vs)) (h : VdF G S H vs fs) : Vd G S H (.ref a) (.ins C fs)
  | dic {a : Addr} {vs : List (Key × V)} {fs : List (Key × D)} (n : ¬ S a) (e : H a = some (.dK vs)) (h : VdK G S H vs fs) : Vd G S H (.ref a) (.dic fs)
  | oth (v : V) : Vd G S H v (.oth v)
  | exc {a dd : Addr} {C : Str} {vs : List (Str × V)} {fs : List (Str × D)} (m : C ∈ G.er) (n : ¬ S a) (nd : ¬ S dd) (e : H a = some (Rp.ErO a (.ref (G.A C)) (some dd))) (ed : H dd = some (.xd vs)) (h : VdF G S H vs fs) : Vd G S H (.ref a) (.exc C fs)
inductive VdA (G : Cx) (S : Addr → Prop) (H : Hp) : List V → List D → Prop
  | nil : VdA G S H [] []
  | cons {v : V} {vs : List V} {d : D} {ds : List D} (h : Vd G S H v d) (t : VdA G S H vs ds) : VdA G S H (v :: vs) (d :: ds)
inductive VdF (G : Cx) (S : Addr → Prop) (H : Hp) : List (Str × V) → List (Str × D) → Prop
  | nil : VdF G S H [] []
  | cons {x : Str} {v : V} {vs : List (Str × V)} {d : D} {ds : List (Str × D)} (h : Vd G S H v d) (t : VdF G S H vs ds) : VdF G S H ((x, v) :: vs) ((x, d) :: ds)
inductive VdK (G : Cx) (S : Addr → Prop) (H : Hp) : List (Key × V) → List (Key × D) → Prop
  | nil : VdK G S H [] []
  | cons {x : Key} {v : V} {vs : List (Key × V)} {d : D} {ds : List (Key × D)} (h : Vd G S H v d) (t : VdK G S H vs ds) : VdK G S H ((x, v) :: vs) ((x, d) :: ds)
end
/-- all that is not written to stays -/
def Tr (S : Addr → Prop) (H : Hp) (S' : Addr → Prop) (H' : Hp) : Prop := ∀ b o, ¬ S b → H b = some o → ¬ S' b ∧ H' b = some o
section
variable {G : Cx} {S S' S2 : Addr → Prop} {H H' H2 : Hp}
mutual
theorem Vd.tr (t : Tr S H S' H') : ∀ {v : V} {d : D}, Vd G S H v d → Vd G S' H' v d
  | _, _, .non => .non
  | _, _, .bl b => .bl b
  | _, _, .int i => .int i
  | _, _, .str x => .str x
  | _, _, .lst n e h => .lst (t _ _ n e).1 (t _ _ n e).2 (VdA.tr t h)
  | _, _, .tup n e h => .tup (t _ _ n e).1 (t _ _ n e).2 (VdA.tr t h)
  | _, _, .ktp e h => .ktp e (VdA.tr t h)
  | _, _, .ins m n e h => .ins m (t _ _ n e).1 (t _ _ n e).2 (VdF.tr t h)
  | _, _, .dic n e h => .dic (t _ _ n e).1 (t _ _ n e).2 (VdK.tr t h)
  | _, _, .oth v => .oth v
  | _, _, .exc m n nd e ed h => .exc m (t _ _ n e).1 (t _ _ nd ed).1 (t _ _ n e).2 (t _ _ nd ed).2 (VdF.tr t h)
theorem VdA.tr (t : Tr S H S' H') : ∀ {vs : List V} {ds : List D}, VdA G S H vs ds → VdA G S' H' vs ds
  | _, _, .nil => .nil
  | _, _, .cons h r => .cons (Vd.tr t h) (VdA.tr t r)
theorem VdF.tr (t : Tr S H S' H') : ∀ {vs : List (Str × V)} {ds : List (Str × D)}, VdF G S H vs ds → VdF G S' H' vs ds
  | _, _, .nil => .nil
  | _, _, .cons h r => .cons (Vd.tr t h) (VdF.tr t r)
theorem VdK.tr (t : Tr S H S' H') : ∀ {vs : List (Key × V)} {ds : List (Key × D)}, VdK G S H vs ds → VdK G S' H' vs ds
  | _, _, .nil => .nil
  | _, _, .cons h r => .cons (Vd.tr t h) (VdK.tr t r)
end
theorem Tr.refl : Tr S H S H := fun _ _ n e => ⟨n, e⟩
theorem Tr.trans (a : Tr S H S' H') (b : Tr S' H' S2 H2) : Tr S H S2 H2 := fun c o n e => b c o (a c o n e).1 (a c o n e).2
theorem Tr.same (s : Same H H') : Tr S H S H' := fun b o n e => ⟨n, s b o e⟩
theorem Tr.neu {p : Addr} {o : HO} (h : H p = none) : Tr S H S (upd H p o) := Tr.same (same_neu (Same.refl H) h)
theorem Tr.less (s : ∀ p, S' p → S p) : Tr S H S' H := fun b _ n e => ⟨fun z => n (s b z), e⟩
theorem Tr.put {p : Addr} {o : HO} (h : S p) : Tr S H S (upd H p o) := fun b u n e => ⟨n, by rw [upd_ne (fun z => n (by rw [z]; exact h))]; exact e⟩
/-- one address more that is written to: a new one -/
def more (S : Addr → Prop) (p : Addr) : Addr → Prop := fun b => S b ∨ b = p
theorem Tr.grow {p : Addr} {o : HO} (h : H p = none) : Tr S H (more S p) (upd H p o) := fun b u n e => by
  have ne : b ≠ p := ne_of_none e h
  exact ⟨fun z => z.elim n ne, by rw [upd_ne ne]; exact e⟩
def but (S : Addr → Prop) (p : Addr) : Addr → Prop := fun b => S b ∧ b ≠ p
theorem Tr.but {p : Addr} : Tr S H (but S p) H := Tr.less fun _ z => z.1
theorem VdA.len : ∀ {vs : List V} {ds : List D}, VdA G S H vs ds → vs.length = ds.length
  | _, _, .nil => rfl
  | _, _, .cons _ t => by rw [List.length_cons, List.length_cons, t.len]
theorem VdA.get : ∀ {vs : List V} {ds : List D} {i : Nat} {d : D}, VdA G S H vs ds → ds[i]? = some d → ∃ v, vs[i]? = some v ∧ Vd G S H v d
  | _, _, _, _, .nil, e => by simp at e
  | _, _, 0, _, .cons r _, e => by simp at e; subst e; exact ⟨_, rfl, r⟩
  | _, _, i + 1, x, .cons _ t, e => by
    obtain ⟨u, h1, h2⟩ := VdA.get (i := i) (d := x) t (by simpa using e)
    exact ⟨u, by simpa using h1, h2⟩
theorem VdA.app : ∀ {xs ys : List V} {us ws : List D}, VdA G S H xs us → VdA G S H ys ws → VdA G S H (xs ++ ys) (us ++ ws)
  | _, _, _, _, .nil, s => s
  | _, _, _, _, .cons r t, s => .cons r (VdA.app t s)
theorem VdA.take : ∀ {xs : List V} {us : List D} (n : Nat), VdA G S H xs us → VdA G S H (xs.take n) (us.take n)
  | _, _, 0, _ => .nil
  | _, _, _ + 1, .nil => .nil
  | _, _, n + 1, .cons r t => .cons r (VdA.take n t)
theorem VdA.drop : ∀ {xs : List V} {us : List D} (n : Nat), VdA G S H xs us → VdA G S H (xs.drop n) (us.drop n)
  | _, _, 0, r => r
  | _, _, _ + 1, .nil => .nil
  | _, _, n + 1, .cons _ t => VdA.drop n t
theorem VdA.set {x : V} {u : D} (r : Vd G S H x u) : ∀ {xs : List V} {us : List D} (i : Nat), VdA G S H xs us → VdA G S H (xs.set i x) (us.set i u)
  | _, _, _, .nil => .nil
  | _, _, 0, .cons _ t => .cons r t
  | _, _, i + 1, .cons q t => .cons q (VdA.set r i t)
theorem VdA.rev : ∀ {xs : List V} {us : List D}, VdA G S H xs us → VdA G S H xs.reverse us.reverse
  | _, _, .nil => .nil
  | _, _, .cons r t => by
    rw [List.reverse_cons, List.reverse_cons]
    exact VdA.app (VdA.rev t) (.cons r .nil)
theorem VdF.look {f : Str} {d : D} : ∀ {vs : List (Str × V)} {ds : List (Str × D)}, VdF G S H vs ds → ds.lookup f = some d → ∃ v, vs.lookup f = some v ∧ Vd G S H v d
  | _, _, .nil, e => by simp at e
  | _, _, .cons (x := x) h t, e => by
    rw [List.lookup_cons] at e ⊢
    cases q : f == x with
    | true => rw [q] at e; cases e; exact ⟨_, rfl, h⟩
    | false => rw [q] at e; exact VdF.look t e
theorem VdF.len : ∀ {vs : List (Str × V)} {ds : List (Str × D)}, VdF G S H vs ds → vs.length = ds.length
  | _, _, .nil => rfl
  | _, _, .cons _ t => by rw [List.length_cons, List.length_cons, t.len]
end
/-! ### the frame -/
/-- as a def begins: its heap, what others write to, what may be written to of what stood, the draws' box, what is held fast -/
structure Fr where
  H0 : Hp
  S0 : Addr → Prop
  W : Addr → Prop
  q : Option Addr
  pin : Hp
structure DrX (S : Addr → Prop) (δ : DS) (q : Addr) (H : Hp) : Prop where
  ex : ∃ c : Addr, c ≠ q ∧ ¬ S c ∧ H q = some (.lst [.ref c, .int (δ.lap : Int), .int δ.rest]) ∧ H c = some (.lst (δ.ns.map V.int))
  len : δ.ns.length ≤ 60
def Ent (G : Cx) (F : Fr) (S : Addr → Prop) (H : Hp) : Option (Option EV) → Option (Option V) → Prop
  | some (some (.val d)), some (some v) => Vd G S H v d
  | some (some (.own xs)), some (some v) => ∃ p us, v = .ref p ∧ S p ∧ ¬ F.S0 p ∧ F.pin p = none ∧ (F.H0 p = none ∨ F.W p) ∧ H p = some (.lst us) ∧ VdA G S H us xs
  | some (some (.obj C fs)), some (some v) => ∃ p dx vs, v = .ref p ∧ S p ∧ ¬ F.S0 p ∧ F.pin p = none ∧ F.W p ∧ H p = some (.ins (G.A C) dx vs) ∧ VdF G S H vs fs ∧ C ∈ G.own
  | some (some .box), some (some v) => ∃ q, F.q = some q ∧ v = .ref q
  | some (some _), _ => False
  | _, _ => True
def isOwn : Option (Option EV) → Prop
  | some (some (.own _)) => True
  | some (some (.obj _ _)) => True
  | _ => False
structure Sim (G : Cx) (F : Fr) (S : Addr → Prop) (s : PS) (σ : L2.St) (H : Hp) : Prop where
  len : s.ρ.length ≤ σ.length
  live : ∀ p, S p → ∃ o, H p = some o
  sub : ∀ p, F.S0 p → S p
  base : ∀ b o, ¬ F.W b → F.H0 b = some o → H b = some o
  pins : ∀ b o, F.pin b = some o → S b ∧ H b = some o
  ent : ∀ k : Nat, Ent G F S H s.ρ[k]? σ[k]?
  apart : ∀ (j k : Nat) (p : Addr), isOwn s.ρ[j]? → isOwn s.ρ[k]? → σ[j]? = some (some (.ref p)) → σ[k]? = some (some (.ref p)) → j = k
  tabs : Tabs G.tb H
  tbS : ∀ t ∈ G.tb, S t.1 ∧ F.S0 t.1 ∧ F.W t.1 ∧ F.pin t.1 = none
  drw : ∀ q, F.q = some q → S q ∧ F.S0 q ∧ F.pin q = none ∧ F.W q ∧ DrX S s.δ q H
end Pl
namespace Pl
open PySem PySem.Spec PyProof.Rows L2 Rp LamX
section
variable {G : Cx} {F : Fr} {S S' : Addr → Prop} {H H' : Hp} {s : PS} {σ : L2.St}
theorem Ent.tr {e : Option (Option EV)} {v : Option (Option V)} (h : Ent G F S H e v) (t : Tr S H S' H') (k : ∀ p o, S p → F.pin p = none → H p = some o → isOwn e → v = some (some (.ref p)) → S' p ∧ H' p = some o) : Ent G F S' H' e v := by
  match e, v, h, k with
  | some (some (.val d)), some (some v), h, _ => exact Vd.tr t h
  | some (some (.own xs)), some (some v), ⟨p, us, e1, e2, e3, e4, e5, e6, e7⟩, k =>
    subst e1
    obtain ⟨k1, k2⟩ := k p _ e2 e4 e6 True.intro rfl
    exact ⟨p, us, rfl, k1, e3, e4, e5, k2, VdA.tr t e7⟩
  | some (some (.obj C fs)), some (some v), ⟨p, dx, vs, e1, e2, e3, e4, e5, e6, e7⟩, k =>
    subst e1
    obtain ⟨k1, k2⟩ := k p _ e2 e4 e6 True.intro rfl
    exact ⟨p, dx, vs, rfl, k1, e3, e4, e5, k2, VdF.tr t e7.1, e7.2⟩
  | some (some .box), some (some v), h, _ => exact h
  | some none, _, _, _ => exact True.intro
  | none, _, _, _ => exact True.intro
  | some (some (.val d)), some none, h, _ => exact h
  | some (some (.val d)), none, h, _ => exact h
  | some (some (.own d)), some none, h, _ => exact h
  | some (some (.own d)), none, h, _ => exact h
  | some (some (.obj d _)), some none, h, _ => exact h
  | some (some (.obj d _)), none, h, _ => exact h
  | some (some .box), some none, h, _ => exact h
  | some (some .box), none, h, _ => exact h
theorem DrX.tr {δ : DS} {q : Addr} (d : DrX S δ q H) (t : Tr S H S' H') (k : ∀ o, H q = some o → H' q = some o) : DrX S' δ q H' := by
  obtain ⟨⟨c, h1, h2, h3, h4⟩, hl⟩ := d
  exact ⟨⟨c, h1, (t _ _ h2 h4).1, k _ h3, (t _ _ h2 h4).2⟩, hl⟩
/-- a list, an instance is no table -/
def Plain : HO → Prop
  | .lst _ => True
  | .ins _ _ _ => True
  | _ => False
theorem plain_tbl {o : HO} (h : Plain o) : (∀ ps, o ≠ .tbl ps) ∧ ∀ c q, o ≠ CodeO c q := by
  cases o with
  | lst _ => exact ⟨fun _ z => (by cases z), fun _ _ z => (by unfold CodeO at z; cases z)⟩
  | ins _ _ _ => exact ⟨fun _ z => (by cases z), fun _ _ z => (by unfold CodeO at z; cases z)⟩
  | _ => exact h.elim
theorem tabs_put {T : List (Addr × Str)} {p : Addr} {o : HO} (t : Tabs T H) (hp : H p = some o) (pl : Plain o) (k : ∀ b u, b ≠ p → H b = some u → H' b = some u) : Tabs T H' := fun m mt => by
  obtain ⟨ps, h1, h2, h3⟩ := t m mt
  obtain ⟨n1, n2⟩ := plain_tbl pl
  refine ⟨ps, k _ _ (fun z => ?_) h1, h2, fun pos cv hc => ?_⟩
  · rw [z, hp] at h1
    exact n1 _ (Option.some.inj h1)
  · obtain ⟨c, e1, e2⟩ := h3 pos cv hc
    refine ⟨c, e1, k _ _ (fun z => ?_) e2⟩
    rw [z, hp] at e2
    exact n2 _ _ (Option.some.inj e2)
/-- all that is held stays -/
theorem Sim.tr (h : Sim G F S s σ H) (t : Tr S H S' H') (sub : ∀ p, S p → S' p) (live : ∀ p, S' p → ∃ o, H' p = some o) (k : ∀ p o, S p → H p = some o → H' p = some o) : Sim G F S' s σ H' where
  len := h.len
  live := live
  sub := fun p z => sub p (h.sub p z)
  base := fun b o n e => by
    have e1 := h.base b o n e
    by_cases z : S b
    · exact k b o z e1
    · exact (t b o z e1).2
  pins := fun b o e => ⟨sub b (h.pins b o e).1, k b o (h.pins b o e).1 (h.pins b o e).2⟩
  ent := fun i => (h.ent i).tr t fun p o z _ e _ _ => ⟨sub p z, k p o z e⟩
  apart := h.apart
  tabs := h.tabs.ext fun b o e => by
    by_cases z : S b
    · exact k b o z e
    · exact (t b o z e).2
  tbS := fun p m => ⟨sub p.1 (h.tbS p m).1, (h.tbS p m).2⟩
  drw := fun q e => by
    obtain ⟨a, b, c, d, f⟩ := h.drw q e
    exact ⟨sub q a, b, c, d, f.tr t fun o e => k q o a e⟩
theorem Sim.same (h : Sim G F S s σ H) (e : Same H H') : Sim G F S s σ H' :=
  h.tr (Tr.same e) (fun _ z => z) (fun p z => let ⟨o, u⟩ := h.live p z; ⟨o, e p o u⟩) fun p o _ u => e p o u
theorem Sim.neu (h : Sim G F S s σ H) {p : Addr} {o : HO} (n : H p = none) : Sim G F S s σ (upd H p o) := h.same (same_neu (Same.refl H) n)
theorem Sim.new (h : Sim G F S s σ H) {p : Addr} (n : H p = none) : ¬ S p := fun z => by
  obtain ⟨o, e⟩ := h.live p z
  rw [n] at e
  cases e
theorem Sim.grow (h : Sim G F S s σ H) {p : Addr} {o : HO} (n : H p = none) : Sim G F (more S p) s σ (upd H p o) :=
  h.tr (Tr.grow n) (fun _ z => .inl z) (fun b z => z.elim (fun z => let ⟨u, e⟩ := h.live b z; ⟨u, by rw [upd_ne (ne_of_none e n)]; exact e⟩) fun z => ⟨o, by rw [z]; exact upd_same⟩) fun b u _ e => by rw [upd_ne (ne_of_none e n)]; exact e
theorem Sim.none_new (h : Sim G F S s σ H) {p : Addr} (n : H p = none) : F.H0 p = none ∨ F.W p := by
  by_cases w : F.W p
  · exact .inr w
  · refine .inl ?_
    cases e : F.H0 p with
    | none => rfl
    | some o => rw [h.base p o w e] at n; cases n
theorem Sim.pin_new (h : Sim G F S s σ H) {p : Addr} (n : H p = none) : F.pin p = none := by
  cases e : F.pin p with
  | none => rfl
  | some o => rw [(h.pins p o e).2] at n; cases n
/-- all but the tables stays -/
def SameT (T : List (Addr × Str)) (H H' : Hp) : Prop := (∀ b o, (∀ t ∈ T, b ≠ t.1) → H b = some o → H' b = some o) ∧ Tabs T H'
theorem tab_ne {T : List (Addr × Str)} {p : Addr} {o : HO} (t : Tabs T H) (hp : H p = some o) (pl : Plain o) : ∀ m ∈ T, p ≠ m.1 := fun m mt z => by
  obtain ⟨ps, h1, _⟩ := t m mt
  rw [← z, hp] at h1
  exact (plain_tbl pl).1 _ (Option.some.inj h1)
theorem SameT.of {T : List (Addr × Str)} (t : Tabs T H) (s : Same H H') : SameT T H H' := ⟨fun b o _ e => s b o e, t.ext s⟩
theorem Sim.tabd (I : Sim G F S s σ H) (k : SameT G.tb H H') : Tr S H S H' ∧ Sim G F S s σ H' := by
  have t : Tr S H S H' := fun b o n e => ⟨n, k.1 b o (fun m mt z => n (by rw [z]; exact (I.tbS m mt).1)) e⟩
  have kp : ∀ b o, Plain o → H b = some o → H' b = some o := fun b o pl e => k.1 b o (tab_ne I.tabs e pl) e
  refine ⟨t, I.len, fun p z => ?_, I.sub, fun b o n e => ?_, fun b o e => ⟨(I.pins b o e).1, k.1 b o (fun m mt z => ?_) (I.pins b o e).2⟩, fun i => ?_, I.apart, k.2, I.tbS, fun q e => ?_⟩
  · by_cases m : ∀ t ∈ G.tb, p ≠ t.1
    · obtain ⟨o, h⟩ := I.live p z
      exact ⟨o, k.1 p o m h⟩
    · simp only [Classical.not_forall] at m
      obtain ⟨t, mt, h⟩ := m
      obtain ⟨ps, h1, _⟩ := k.2 t mt
      exact ⟨_, by rw [Classical.not_not.mp h]; exact h1⟩
  · exact k.1 b o (fun m mt z => n (by rw [z]; exact (I.tbS m mt).2.2.1)) (I.base b o n e)
  · rw [z, (I.tbS m mt).2.2.2] at e
    cases e
  · have en := I.ent i
    refine en.tr t fun p o sp pn hp ow ev => ⟨sp, ?_⟩
    rw [ev] at en
    match r : s.ρ[i]?, ow, en with
    | some (some (.own xs)), _, en =>
      obtain ⟨p', us, e1, _, _, _, _, e6, _⟩ := en
      cases e1
      rw [hp] at e6
      exact kp _ _ (by rw [Option.some.inj e6]; exact True.intro) hp
    | some (some (.obj C fs)), _, en =>
      obtain ⟨p', dx, us, e1, _, _, _, _, e6, _⟩ := en
      cases e1
      rw [hp] at e6
      exact kp _ _ (by rw [Option.some.inj e6]; exact True.intro) hp
  · obtain ⟨a, b, c, d, f⟩ := I.drw q e
    refine ⟨a, b, c, d, f.tr t fun o h => ?_⟩
    obtain ⟨⟨c2, _, _, h3, _⟩, _⟩ := f
    rw [h] at h3
    exact kp _ _ (by rw [Option.some.inj h3]; exact True.intro) h
end
end Pl
namespace Pl
open PySem PySem.Spec PyProof.Rows L2 Rp
/-! ### what a reading means, without a heap -/
abbrev EF := PS → Res (D × PS)
abbrev LF := PS → Res (List D × PS)
abbrev TF := PS → Res (Bool × PS)
inductive Out where
  | nx (s : PS) | rt (d : D) (δ : DS) | bk (s : PS) | ct (s : PS)
abbrev SF := PS → Res Out
abbrev GF := D → PS → Res PS
abbrev GsF := List D → PS → Res PS
/-- an error of the package leaves -/
def ErX (G : Cx) (S : Addr → Prop) (E : XK) (e : Er) (H : Hp) : Prop := ∀ vs, VdF G S H vs e.fs → ∀ d, H d = none → E (.ref (G.A e.cls)) (some d) (upd H d (.xd vs))
def ErOk (G : Cx) (F : Fr) (E : XK) (e : Er) : Prop := ∀ H, (∀ b o, ¬ F.W b → F.H0 b = some o → H b = some o) → LamX.Tabs G.tb H → ErX G F.S0 E e H
def Po (G : Cx) (F : Fr) (E : XK) {α : Type} (P : α → Prop) : Res α → Prop
  | .ok a => P a
  | .err e => ErOk G F E e
  | .bad => False
theorem Po.mono {G : Cx} {F : Fr} {E : XK} {α : Type} {P R : α → Prop} {r : Res α} (h : Po G F E P r) (k : ∀ a, P a → R a) : Po G F E R r := by
  cases r with
  | ok a => exact k a h
  | err e => exact h
  | bad => exact h
theorem Po.bind {G : Cx} {F : Fr} {E : XK} {α β : Type} {P : β → Prop} {r : Res α} {f : α → Res β} (h : Po G F E P (r.bind f)) : Po G F E (fun a => Po G F E P (f a)) r := by
  cases r with
  | ok a => exact h
  | err e => exact h
  | bad => exact h
def KE (G : Cx) (F : Fr) (S : Addr → Prop) (σ : L2.St) (H : Hp) (Q : VK) (x : D × PS) : Prop := ∀ S' H' v, Tr S H S' H' → Sim G F S' x.2 σ H' → Vd G S' H' v x.1 → Q v H'
def KA (G : Cx) (F : Fr) (S : Addr → Prop) (σ : L2.St) (H : Hp) (Q : List V → Hp → Prop) (x : List D × PS) : Prop := ∀ S' H' v, Tr S H S' H' → Sim G F S' x.2 σ H' → VdA G S' H' v x.1 → Q v H'
def KT_ (G : Cx) (F : Fr) (S : Addr → Prop) (σ : L2.St) (H : Hp) (Q : Bool → Hp → Prop) (x : Bool × PS) : Prop := ∀ S' H', Tr S H S' H' → Sim G F S' x.2 σ H' → Q x.1 H'
def KS (G : Cx) (F : Fr) (S : Addr → Prop) (H : Hp) (B : Ends) : Out → Prop
  | .nx s' => ∀ S' σ' H', Tr S H S' H' → Sim G F S' s' σ' H' → B.nx σ' H'
  | .rt d δ => ∀ S' H' v, Tr S H S' H' → Sim G F S' ⟨[], δ⟩ [] H' → Vd G S' H' v d → B.rt v H'
  | .bk s' => ∀ S' σ' H', Tr S H S' H' → Sim G F S' s' σ' H' → B.bk σ' H'
  | .ct s' => ∀ S' σ' H', Tr S H S' H' → Sim G F S' s' σ' H' → B.ct σ' H'
def KG (G : Cx) (F : Fr) (S : Addr → Prop) (H : Hp) (Q : L2.St → Hp → Prop) (s' : PS) : Prop := ∀ S' σ' H', Tr S H S' H' → Sim G F S' s' σ' H' → Q σ' H'
/-- a list of one's own has come to p -/
structure Flo (G : Cx) (F : Fr) (S : Addr → Prop) (s : PS) (σ : L2.St) (H : Hp) (p : Addr) (xs : List D) : Prop where
  sp : S p
  n0 : ¬ F.S0 p
  pn : F.pin p = none
  h0 : F.H0 p = none ∨ F.W p
  off : ∀ k : Nat, isOwn s.ρ[k]? → σ[k]? ≠ some (some (.ref p))
  at_ : ∃ us, H p = some (.lst us) ∧ VdA G S H us xs
def KF (G : Cx) (F : Fr) (S : Addr → Prop) (σ : L2.St) (H : Hp) (Q : VK) (x : List D × PS) : Prop := ∀ S' H' p, Tr S H S' H' → Sim G F S' x.2 σ H' → Flo G F S' x.2 σ H' p x.1 → Q (.ref p) H'
def ME (G : Cx) (E : XK) (t : TE) (p : EF) : Prop := ∀ (F : Fr) (S : Addr → Prop) (s : PS) (σ : L2.St) (H : Hp) (Q : VK), Sim G F S s σ H → Po G F E (KE G F S σ H Q) (p s) → t σ H Q
def MA (G : Cx) (E : XK) (t : TA) (p : LF) : Prop := ∀ (F : Fr) (S : Addr → Prop) (s : PS) (σ : L2.St) (H : Hp) (Q : List V → Hp → Prop), Sim G F S s σ H → Po G F E (KA G F S σ H Q) (p s) → t σ H Q
def MT (G : Cx) (E : XK) (t : TT) (p : TF) : Prop := ∀ (F : Fr) (S : Addr → Prop) (s : PS) (σ : L2.St) (H : Hp) (Q : Bool → Hp → Prop), Sim G F S s σ H → Po G F E (KT_ G F S σ H Q) (p s) → t σ H Q
def MF (G : Cx) (E : XK) (t : TE) (p : LF) : Prop := ∀ (F : Fr) (S : Addr → Prop) (s : PS) (σ : L2.St) (H : Hp) (Q : VK), Sim G F S s σ H → Po G F E (KF G F S σ H Q) (p s) → t σ H Q
def MS (G : Cx) (E : XK) (t : TS) (p : SF) : Prop := ∀ (F : Fr) (S : Addr → Prop) (s : PS) (σ : L2.St) (H : Hp) (B : Ends), Sim G F S s σ H → Po G F E (KS G F S H B) (p s) → t B σ H
def MG (G : Cx) (E : XK) (t : TG) (p : GF) : Prop := ∀ (F : Fr) (S : Addr → Prop) (s : PS) (σ : L2.St) (H : Hp) (v : V) (d : D) (Q : L2.St → Hp → Prop), Sim G F S s σ H → Vd G S H v d → Po G F E (KG G F S H Q) (p d s) → t v σ H Q
def MGs (G : Cx) (E : XK) (t : TGs) (p : GsF) : Prop := ∀ (F : Fr) (S : Addr → Prop) (s : PS) (σ : L2.St) (H : Hp) (v : List V) (d : List D) (Q : L2.St → Hp → Prop), Sim G F S s σ H → VdA G S H v d → Po G F E (KG G F S H Q) (p d s) → t v σ H Q
/-- an operator; a builtin -/
def Live (S : Addr → Prop) (H : Hp) : Prop := ∀ p, S p → ∃ o, H p = some o
def PoD (G : Cx) (S : Addr → Prop) (H : Hp) (Q : VK) : Res D → Prop
  | .ok d => ∀ H' v, Same H H' → Vd G S H' v d → Q v H'
  | _ => False
def MR (G : Cx) (r : R2) (p : D → D → Res D) : Prop := ∀ (S : Addr → Prop) (H : Hp) (x y : V) (a b : D) (Q : VK), Live S H → Vd G S H x a → Vd G S H y b → PoD G S H Q (p a b) → r x y H Q
def MU (G : Cx) (r : V → Hp → VK → Prop) (p : D → Res D) : Prop := ∀ (S : Addr → Prop) (H : Hp) (x : V) (a : D) (Q : VK), Live S H → Vd G S H x a → PoD G S H Q (p a) → r x H Q
def MB (G : Cx) (r : List V → Hp → VK → Prop) (p : List D → Res D) : Prop := ∀ (S : Addr → Prop) (H : Hp) (x : List V) (a : List D) (Q : VK), Live S H → VdA G S H x a → PoD G S H Q (p a) → r x H Q
/-! ### what is told of it -/
def pVar (k : Nat) : EF := fun s => match s.ρ[k]? with
  | some (some (.val d)) => .ok (d, s)
  | some (some (.own xs)) => .ok (.lst xs, { s with ρ := s.ρ.set k (some (.val (.lst xs))) })
  | _ => .bad
def pC (d : D) : EF := fun s => .ok (d, s)
def up {α : Type} (s : PS) (r : Res α) : Res (α × PS) := r.bind fun a => .ok (a, s)
/-- of what does not raise -/
def nerr {α : Type} : Res α → Res α
  | .ok a => .ok a
  | _ => .bad
def pOp (r : D → D → Res D) (a b : EF) : EF := fun s => (a s).bind fun x => (b x.2).bind fun y => up y.2 (nerr (r x.1 y.1))
def pUn (r : D → Res D) (a : EF) : EF := fun s => (a s).bind fun x => up x.2 (nerr (r x.1))
def pCB (r : List D → Res D) (a : LF) : EF := fun s => (a s).bind fun x => up x.2 (nerr (r x.1))
def pNil : LF := fun s => .ok ([], s)
def pCons (a : EF) (l : LF) : LF := fun s => (a s).bind fun x => (l x.2).bind fun y => .ok (x.1 :: y.1, y.2)
def small (n : Nat) : Bool := decide (n ≤ sizeLine)
def pTup (l : LF) : EF := fun s => (l s).bind fun x => if small x.1.length then .ok (.tup x.1, x.2) else .bad
/-- a list of one's own, given away -/
def pFz (l : LF) : EF := fun s => (l s).bind fun x => .ok (.lst x.1, x.2)
def pLst (l : LF) : LF := fun s => (l s).bind fun x => if small x.1.length then .ok x else .bad
def pTest (a : EF) : TF := fun s => (a s).bind fun x => match x.1 with
  | .bl b => .ok (b, x.2)
  | _ => .bad
def pAnd (a b : TF) : TF := fun s => (a s).bind fun x => if x.1 then b x.2 else .ok (false, x.2)
def pOr (a b : TF) : TF := fun s => (a s).bind fun x => if x.1 then .ok (true, x.2) else b x.2
def pNot (a : TF) : TF := fun s => (a s).bind fun x => .ok (!x.1, x.2)
def pYes : TF := fun s => .ok (true, s)
def pAndV (a b : EF) : EF := fun s => (a s).bind fun x => match x.1 with
  | .bl c => if c then b x.2 else .ok (.bl false, x.2)
  | _ => .bad
def pOrV (a b : EF) : EF := fun s => (a s).bind fun x => match x.1 with
  | .bl c => if c then .ok (.bl true, x.2) else b x.2
  | _ => .bad
def pNotV (a : EF) : EF := fun s => (a s).bind fun x => match x.1 with
  | .bl c => .ok (.bl (!c), x.2)
  | _ => .bad
def pIf (c : TF) (a b : EF) : EF := fun s => (c s).bind fun x => if x.1 then a x.2 else b x.2
section
variable {G : Cx} {E : XK} {F : Fr} {S S' : Addr → Prop} {H H' : Hp} {s : PS} {σ : L2.St} {ta tb tc : TE} {a b c : EF} {pa pb pc : EF} {r : R2} {pr : D → D → Res D} {tl : TA} {pl : LF} {tt tu : TT} {pt pu : TF}
theorem Po.up {α : Type} {P : α × PS → Prop} {r : Res α} (h : Po G F E P (up s (nerr r))) : ∃ a, r = .ok a ∧ P (a, s) := by
  cases r with
  | ok a => exact ⟨a, rfl, h⟩
  | err e => exact h.elim
  | bad => exact h.elim
theorem m_c {v : V} {d : D} (h : ∀ S H, Vd G S H v d) : ME G E (tC v) (pC d) := fun F S s σ H Q I k => k S H v Tr.refl I (h S H)
theorem m_non : ME G E (tC .non) (pC .non) := m_c fun _ _ => .non
theorem m_bl {b : Bool} : ME G E (tC (.bl b)) (pC (.bl b)) := m_c fun _ _ => .bl b
theorem m_int {i : Int} : ME G E (tC (.int i)) (pC (.int i)) := m_c fun _ _ => .int i
theorem m_str {x : Str} : ME G E (tC (.str x)) (pC (.str x)) := m_c fun _ _ => .str x
theorem m_oth {v : V} : ME G E (tC v) (pC (.oth v)) := m_c fun _ _ => .oth v
theorem m_op (ha : ME G E ta pa) (hb : ME G E tb pb) (hr : MR G r pr) : ME G E (tOp r ta tb) (pOp pr pa pb) := fun F S s σ H Q I h =>
  ha F S s σ H _ I (h.bind.mono fun x hx S' H' v t I' vd => hb F S' x.2 σ H' _ I' (hx.bind.mono fun y hy S2 H2 w t2 I2 wd => by
    obtain ⟨z, e, hz⟩ := hy.up
    refine hr S2 H2 v w x.1 y.1 Q I2.live (vd.tr t2) wd ?_
    rw [e]
    exact fun H3 u s3 ud => hz S2 H3 u ((t.trans t2).trans (Tr.same s3)) (I2.same s3) ud))
theorem m_un {r : V → Hp → VK → Prop} {pr : D → Res D} (ha : ME G E ta pa) (hr : MU G r pr) : ME G E (tUn r ta) (pUn pr pa) := fun F S s σ H Q I h =>
  ha F S s σ H _ I (h.bind.mono fun x hx S' H' v t I' vd => by
    obtain ⟨z, e, hz⟩ := hx.up
    refine hr S' H' v x.1 Q I'.live vd ?_
    rw [e]
    exact fun H3 u s3 ud => hz S' H3 u (t.trans (Tr.same s3)) (I'.same s3) ud)
theorem m_nil : MA G E tNil pNil := fun F S s σ H Q I k => k S H [] Tr.refl I .nil
theorem m_cons (ha : ME G E ta pa) (hl : MA G E tl pl) : MA G E (tCons ta tl) (pCons pa pl) := fun F S s σ H Q I h =>
  ha F S s σ H _ I (h.bind.mono fun x hx S' H' v t I' vd => hl F S' x.2 σ H' _ I' (hx.bind.mono fun y hy S2 H2 w t2 I2 wd => hy S2 H2 (v :: w) (t.trans t2) I2 (.cons (vd.tr t2) wd)))
theorem m_cb {r : List V → Hp → VK → Prop} {pr : List D → Res D} (ha : MA G E tl pl) (hr : MB G r pr) : ME G E (tCB r tl) (pCB pr pl) := fun F S s σ H Q I h =>
  ha F S s σ H _ I (h.bind.mono fun x hx S' H' v t I' vd => by
    obtain ⟨z, e, hz⟩ := hx.up
    refine hr S' H' v x.1 Q I'.live vd ?_
    rw [e]
    exact fun H3 u s3 ud => hz S' H3 u (t.trans (Tr.same s3)) (I'.same s3) ud)
theorem m_tup (hl : MA G E tl pl) : ME G E (tTup tl) (pTup pl) := fun F S s σ H Q I h =>
  hl F S s σ H _ I (h.bind.mono fun x hx S' H' v t I' vd => by
    by_cases z : small x.1.length = true
    · rw [if_pos z] at hx
      refine ⟨by rw [vd.len]; exact of_decide_eq_true z, fun p hp => hx S' _ _ (t.trans (Tr.neu hp)) (I'.neu hp) (.tup (I'.new hp) upd_same (vd.tr (Tr.neu hp)))⟩
    · rw [if_neg z] at hx
      exact hx.elim)
/-- a new list -/
theorem flo_new (I : Sim G F S s σ H) {p : Addr} {us : List V} {xs : List D} (hp : H p = none) (h : VdA G S H us xs) : Sim G F (more S p) s σ (upd H p (.lst us)) ∧ Flo G F (more S p) s σ (upd H p (.lst us)) p xs := by
  refine ⟨I.grow hp, .inr rfl, fun z => I.new hp (I.sub p z), I.pin_new hp, I.none_new hp, fun k o e => ?_, us, upd_same, h.tr (Tr.grow hp)⟩
  have en := I.ent k
  rw [e] at en
  match r : s.ρ[k]?, o, en with
  | some (some (.own xs)), o, en =>
    obtain ⟨p', us', e1, e2, _⟩ := en
    cases e1
    exact I.new hp e2
  | some (some (.obj C fs)), o, en =>
    obtain ⟨p', us', _, e1, e2, _⟩ := en
    cases e1
    exact I.new hp e2
theorem m_lst (hl : MA G E tl pl) : MF G E (tLst tl) (pLst pl) := fun F S s σ H Q I h =>
  hl F S s σ H _ I (h.bind.mono fun x hx S' H' v t I' vd => by
    by_cases z : small x.1.length = true
    · rw [if_pos z] at hx
      refine ⟨by rw [vd.len]; exact of_decide_eq_true z, fun p hp => ?_⟩
      obtain ⟨I2, f2⟩ := flo_new I' hp vd
      exact hx _ _ _ (t.trans (Tr.grow hp)) I2 f2
    · rw [if_neg z] at hx
      exact hx.elim)
theorem m_test (ha : ME G E ta pa) : MT G E (tTest ta) (pTest pa) := fun F S s σ H Q I h =>
  ha F S s σ H _ I (h.bind.mono fun x hx S' H' v t I' vd => by
    obtain ⟨d, s'⟩ := x
    cases vd with
    | bl b => exact ⟨b, rfl, hx S' H' t I'⟩
    | _ => exact hx.elim)
theorem m_tb (ha : ME G E ta pa) : MT G E (tB ta) (pTest pa) := m_test ha
theorem m_and (ha : MT G E tt pt) (hb : MT G E tu pu) : MT G E (tAnd tt tu) (pAnd pt pu) := fun F S s σ H Q I h =>
  ha F S s σ H _ I (h.bind.mono fun x hx S' H' t I' => by
    cases z : x.1 with
    | true =>
      rw [z] at hx
      exact iteT (hb F S' x.2 σ H' Q I' (hx.mono fun y hy S2 H2 t2 => hy S2 H2 (t.trans t2)))
    | false =>
      rw [z] at hx
      exact iteF (hx S' H' t I'))
theorem m_or (ha : MT G E tt pt) (hb : MT G E tu pu) : MT G E (tOr tt tu) (pOr pt pu) := fun F S s σ H Q I h =>
  ha F S s σ H _ I (h.bind.mono fun x hx S' H' t I' => by
    cases z : x.1 with
    | false =>
      rw [z] at hx
      exact iteF (hb F S' x.2 σ H' Q I' (hx.mono fun y hy S2 H2 t2 => hy S2 H2 (t.trans t2)))
    | true =>
      rw [z] at hx
      exact iteT (hx S' H' t I'))
theorem m_not (ha : MT G E tt pt) : MT G E (tNot tt) (pNot pt) := fun F S s σ H Q I h => ha F S s σ H _ I (h.bind.mono fun x hx => hx)
theorem m_yes : MT G E tYes pYes := fun F S s σ H Q I h => h S H Tr.refl I
theorem m_if (hc : MT G E tt pt) (ha : ME G E ta pa) (hb : ME G E tb pb) : ME G E (tIf tt ta tb) (pIf pt pa pb) := fun F S s σ H Q I h =>
  hc F S s σ H _ I (h.bind.mono fun x hx S' H' t I' => by
    cases z : x.1 with
    | true =>
      rw [z] at hx
      exact iteT (ha F S' x.2 σ H' Q I' (hx.mono fun y hy S2 H2 v t2 => hy S2 H2 v (t.trans t2)))
    | false =>
      rw [z] at hx
      exact iteF (hb F S' x.2 σ H' Q I' (hx.mono fun y hy S2 H2 v t2 => hy S2 H2 v (t.trans t2))))
theorem m_andV (ha : ME G E ta pa) (hb : ME G E tb pb) : ME G E (tAndV ta tb) (pAndV pa pb) := fun F S s σ H Q I h =>
  ha F S s σ H _ I (h.bind.mono fun x hx S' H' v t I' vd => by
    obtain ⟨d, s'⟩ := x
    cases vd with
    | bl b =>
      refine ⟨b, rfl, ?_⟩
      cases b with
      | true => exact iteT (hb F S' s' σ H' Q I' (Po.mono (show Po G F E _ (pb s') from hx) fun y hy S2 H2 v t2 => hy S2 H2 v (t.trans t2)))
      | false => exact iteF (hx S' H' _ t I' (.bl false))
    | _ => exact hx.elim)
theorem m_orV (ha : ME G E ta pa) (hb : ME G E tb pb) : ME G E (tOrV ta tb) (pOrV pa pb) := fun F S s σ H Q I h =>
  ha F S s σ H _ I (h.bind.mono fun x hx S' H' v t I' vd => by
    obtain ⟨d, s'⟩ := x
    cases vd with
    | bl b =>
      refine ⟨b, rfl, ?_⟩
      cases b with
      | false => exact iteF (hb F S' s' σ H' Q I' (Po.mono (show Po G F E _ (pb s') from hx) fun y hy S2 H2 v t2 => hy S2 H2 v (t.trans t2)))
      | true => exact iteT (hx S' H' _ t I' (.bl true))
    | _ => exact hx.elim)
theorem m_notV (ha : ME G E ta pa) : ME G E (tNotV ta) (pNotV pa) := fun F S s σ H Q I h =>
  ha F S s σ H _ I (h.bind.mono fun x hx S' H' v t I' vd => by
    obtain ⟨d, s'⟩ := x
    cases vd with
    | bl b => exact ⟨b, rfl, hx S' H' _ t I' (.bl _)⟩
    | _ => exact hx.elim)
end
end Pl
namespace Pl
open PySem PySem.Spec PyProof.Rows L2 Rp
section
variable {G : Cx} {E : XK} {F : Fr} {S S' : Addr → Prop} {H H' : Hp} {s : PS} {σ : L2.St} {ta tb tc : TE} {a b c : EF} {pa pb pc : EF} {r : R2} {pr : D → D → Res D} {tl : TA} {pl : LF} {tt tu : TT} {pt pu : TF}
theorem lt_of_some {α : Type} {l : List α} {k : Nat} {x : α} (e : l[k]? = some x) : k < l.length := (List.getElem?_eq_some_iff.mp e).1
theorem set_self {α : Type} {l : List α} {k : Nat} {x y : α} (e : l[k]? = some x) : (l.set k y)[k]? = some y := List.getElem?_set_self (lt_of_some e)
theorem set_other {α : Type} {l : List α} {k i : Nat} {y : α} (n : i ≠ k) : (l.set k y)[i]? = l[i]? := List.getElem?_set_ne (Ne.symm n)
theorem isOwn_set {ρ : En} {k j : Nat} {d : D} (h : isOwn (ρ.set k (some (.val d)))[j]?) : j ≠ k ∧ isOwn ρ[j]? := by
  by_cases e : j = k
  · subst e
    by_cases l : j < ρ.length
    · rw [List.getElem?_set_self l] at h
      exact h.elim
    · rw [List.getElem?_eq_none (by rw [List.length_set]; omega)] at h
      exact h.elim
  · rw [set_other e] at h
    exact ⟨e, h⟩
theorem Sim.val {k : Nat} {d : D} (I : Sim G F S s σ H) (e : s.ρ[k]? = some (some (.val d))) : ∃ v, σ[k]? = some (some v) ∧ Vd G S H v d := by
  have h := I.ent k
  rw [e] at h
  match r : σ[k]?, h with
  | some (some v), h => exact ⟨v, rfl, h⟩
theorem Sim.own {k : Nat} {xs : List D} (I : Sim G F S s σ H) (e : s.ρ[k]? = some (some (.own xs))) : ∃ p us, σ[k]? = some (some (.ref p)) ∧ S p ∧ ¬ F.S0 p ∧ F.pin p = none ∧ (F.H0 p = none ∨ F.W p) ∧ H p = some (.lst us) ∧ VdA G S H us xs := by
  have h := I.ent k
  rw [e] at h
  match r : σ[k]?, h with
  | some (some v), ⟨p, us, e1, h⟩ =>
    subst e1
    exact ⟨p, us, rfl, h⟩
theorem Sim.obj {k : Nat} {C : Str} {fs : List (Str × D)} (I : Sim G F S s σ H) (e : s.ρ[k]? = some (some (.obj C fs))) : ∃ p dx vs, σ[k]? = some (some (.ref p)) ∧ S p ∧ ¬ F.S0 p ∧ F.pin p = none ∧ F.W p ∧ H p = some (.ins (G.A C) dx vs) ∧ VdF G S H vs fs ∧ C ∈ G.own := by
  have h := I.ent k
  rw [e] at h
  match r : σ[k]?, h with
  | some (some v), ⟨p, dx, vs, e1, h⟩ =>
    subst e1
    exact ⟨p, dx, vs, rfl, h⟩
theorem Sim.box {k : Nat} (I : Sim G F S s σ H) (e : s.ρ[k]? = some (some .box)) : ∃ q, σ[k]? = some (some (.ref q)) ∧ F.q = some q := by
  have h := I.ent k
  rw [e] at h
  match r : σ[k]?, h with
  | some (some v), ⟨q, e1, e2⟩ =>
    subst e2
    exact ⟨q, rfl, e1⟩
/-- what is one's own at k is no one else's -/
theorem Sim.off {k : Nat} {p : Addr} (I : Sim G F S s σ H) (o : isOwn s.ρ[k]?) (e : σ[k]? = some (some (.ref p))) : ∀ j : Nat, isOwn s.ρ[j]? → j ≠ k → σ[j]? ≠ some (some (.ref p)) := fun j oj n ej => n (I.apart j k p oj o ej e)
/-- let go of the address p, held by no name now -/
theorem Sim.drop {ρ' : En} {p : Addr} (I : Sim G F S s σ H) (np : ¬ F.S0 p) (pn : F.pin p = none) (off : ∀ j : Nat, isOwn ρ'[j]? → isOwn s.ρ[j]? ∧ σ[j]? ≠ some (some (.ref p)))
    (ent : ∀ j : Nat, Ent G F (but S p) H ρ'[j]? σ[j]?) (len : ρ'.length ≤ σ.length := by assumption) : Sim G F (but S p) { s with ρ := ρ' } σ H where
  len := len
  live := fun b z => I.live b z.1
  sub := fun b z => ⟨I.sub b z, fun e => np (by rw [← e]; exact z)⟩
  base := I.base
  pins := fun b o e => ⟨⟨(I.pins b o e).1, fun z => by rw [z, pn] at e; cases e⟩, (I.pins b o e).2⟩
  ent := ent
  apart := fun j k b oj ok ej ek => I.apart j k b (off j oj).1 (off k ok).1 ej ek
  tabs := I.tabs
  tbS := fun t m => ⟨⟨(I.tbS t m).1, fun z => np (by rw [← z]; exact (I.tbS t m).2.1)⟩, (I.tbS t m).2⟩
  drw := fun q e => by
    obtain ⟨a, b, c, d, f⟩ := I.drw q e
    exact ⟨⟨a, fun z => np (by rw [← z]; exact b)⟩, b, c, d, f.tr Tr.but fun o e => e⟩
theorem Sim.freeze {k : Nat} {xs : List D} (I : Sim G F S s σ H) (e : s.ρ[k]? = some (some (.own xs))) : ∃ p, σ[k]? = some (some (.ref p)) ∧ Sim G F (but S p) { s with ρ := s.ρ.set k (some (.val (.lst xs))) } σ H ∧ Vd G (but S p) H (.ref p) (.lst xs) := by
  obtain ⟨p, us, e1, sp, n0, pn, h0, hp, hv⟩ := I.own e
  have v : Vd G (but S p) H (.ref p) (.lst xs) := .lst (fun z => z.2 rfl) hp (hv.tr Tr.but)
  have o : isOwn s.ρ[k]? := by rw [e]; exact True.intro
  have ln : (s.ρ.set k (some (.val (.lst xs)))).length ≤ σ.length := by rw [List.length_set]; exact I.len
  refine ⟨p, e1, I.drop n0 pn (fun j oj => ?_) (fun j => ?_), v⟩
  · obtain ⟨n, oj⟩ := isOwn_set oj
    exact ⟨oj, I.off o e1 j oj n⟩
  · by_cases n : j = k
    · rw [n, set_self e, e1]
      exact v
    · rw [set_other n]
      exact (I.ent j).tr Tr.but fun b u sb _ hb oj ej => ⟨⟨sb, fun z => I.off o e1 j oj n (by rw [ej, z])⟩, hb⟩
theorem m_var (k : Nat) : ME G E (tVar k) (pVar k) := fun F S s σ H Q I h => by
  unfold pVar at h
  split at h
  · next d e =>
    obtain ⟨v, ev, vd⟩ := I.val e
    exact ⟨v, ev, h S H v Tr.refl I vd⟩
  · next xs e =>
    obtain ⟨p, ep, I2, vd⟩ := I.freeze e
    exact ⟨_, ep, h _ _ _ Tr.but I2 vd⟩
  · exact h.elim
/-- what is given away is let go -/
theorem m_fz (ha : MF G E ta pl) : ME G E ta (pFz pl) := fun F S s σ H Q I h => ha F S s σ H Q I (h.bind.mono fun x hx S' H' p t I' f => by
  obtain ⟨us, hp, hv⟩ := f.at_
  have ln := I'.len
  refine hx (but S' p) H' _ (t.trans Tr.but) (I'.drop f.n0 f.pn (fun j oj => ⟨oj, f.off j oj⟩) fun j => ?_) (.lst (fun z => z.2 rfl) hp (hv.tr Tr.but))
  exact (I'.ent j).tr Tr.but fun b u sb _ hb oj ej => ⟨⟨sb, fun z => f.off j oj (by rw [ej, z])⟩, hb⟩)
/-! ### names are set -/
def setV (k : Nat) (d : D) (s : PS) : PS := { s with ρ := s.ρ.set k (some (.val d)) }
def setO (k : Nat) (xs : List D) (s : PS) : PS := { s with ρ := s.ρ.set k (some (.own xs)) }
theorem Sim.asgV {k : Nat} {d : D} {v : V} (I : Sim G F S s σ H) (h : Vd G S H v d) : Sim G F S (setV k d s) (σ.set k (some v)) H := by
  have key : ∀ j : Nat, isOwn (s.ρ.set k (some (.val d)))[j]? → j ≠ k ∧ isOwn s.ρ[j]? := fun j => isOwn_set
  refine { I with len := (by show (s.ρ.set k _).length ≤ (σ.set k _).length; rw [List.length_set, List.length_set]; exact I.len), ent := fun j => ?_, apart := fun j i b oj oi ej ei => ?_ }
  · by_cases n : j = k
    · subst n
      show Ent G F S H (s.ρ.set j (some (.val d)))[j]? (σ.set j (some v))[j]?
      by_cases l : j < s.ρ.length
      · rw [List.getElem?_set_self l]
        by_cases m : j < σ.length
        · rw [List.getElem?_set_self m]; exact h
        · exact absurd (Nat.lt_of_lt_of_le l I.len) m
      · rw [List.getElem?_eq_none (by rw [List.length_set]; omega)]
        exact True.intro
    · show Ent G F S H (s.ρ.set k (some (.val d)))[j]? (σ.set k (some v))[j]?
      rw [set_other n, set_other n]
      exact I.ent j
  · obtain ⟨n1, o1⟩ := key j oj
    obtain ⟨n2, o2⟩ := key i oi
    rw [set_other n1] at ej
    rw [set_other n2] at ei
    exact I.apart j i b o1 o2 ej ei
theorem Sim.asgO {k : Nat} {p : Addr} {xs : List D} (I : Sim G F S s σ H) (f : Flo G F S s σ H p xs) : Sim G F S (setO k xs s) (σ.set k (some (.ref p))) H := by
  obtain ⟨us, hp, hv⟩ := f.at_
  have key : ∀ j : Nat, j ≠ k → (s.ρ.set k (some (.own xs)))[j]? = s.ρ[j]? := fun j n => set_other n
  have own : ∀ (j : Nat) (b : Addr), j ≠ k → isOwn (s.ρ.set k (some (.own xs)))[j]? → (σ.set k (some (.ref p)))[j]? = some (some (.ref b)) → b ≠ p := fun j b n oj ej z => by
    rw [key j n] at oj
    rw [set_other n, z] at ej
    exact f.off j oj ej
  have self : ∀ b : Addr, isOwn (s.ρ.set k (some (.own xs)))[k]? → (σ.set k (some (.ref p)))[k]? = some (some (.ref b)) → b = p := fun b ok ek => by
    have l : k < σ.length := by
      have := lt_of_some ek
      rw [List.length_set] at this
      exact this
    rw [List.getElem?_set_self l] at ek
    cases ek
    rfl
  refine { I with len := (by show (s.ρ.set k _).length ≤ (σ.set k _).length; rw [List.length_set, List.length_set]; exact I.len), ent := fun j => ?_, apart := fun j i b oj oi ej ei => ?_ }
  · by_cases n : j = k
    · subst n
      show Ent G F S H (s.ρ.set j (some (.own xs)))[j]? (σ.set j (some (.ref p)))[j]?
      by_cases l : j < s.ρ.length
      · rw [List.getElem?_set_self l, List.getElem?_set_self (Nat.lt_of_lt_of_le l I.len)]
        exact ⟨p, us, rfl, f.sp, f.n0, f.pn, f.h0, hp, hv⟩
      · rw [List.getElem?_eq_none (by rw [List.length_set]; omega)]
        exact True.intro
    · show Ent G F S H (s.ρ.set k (some (.own xs)))[j]? (σ.set k (some (.ref p)))[j]?
      rw [set_other n, set_other n]
      exact I.ent j
  · by_cases n1 : j = k
    · by_cases n2 : i = k
      · rw [n1, n2]
      · subst n1
        exact absurd (self b oj ej) (own i b n2 oi ei)
    · by_cases n2 : i = k
      · subst n2
        exact absurd (self b oi ei) (own j b n1 oj ej)
      · rw [set_other n1] at ej
        rw [set_other n2] at ei
        exact I.apart j i b (by rw [← key j n1]; exact oj) (by rw [← key i n2]; exact oi) ej ei
/-- the list at k is written to -/
theorem Sim.putL {k : Nat} {p : Addr} {xs ys : List D} {us vs : List V} (I : Sim G F S s σ H) (e : s.ρ[k]? = some (some (.own xs))) (ep : σ[k]? = some (some (.ref p))) (hp : H p = some (.lst us)) (h : VdA G S H vs ys) :
    Sim G F S (setO k ys s) σ (upd H p (.lst vs)) := by
  obtain ⟨p', us', e1, sp, n0, pn, h0, hp', hv⟩ := I.own e
  rw [ep] at e1
  cases e1
  have o : isOwn s.ρ[k]? := by rw [e]; exact True.intro
  have t : Tr S H S (upd H p (.lst vs)) := Tr.put sp
  have key : ∀ j : Nat, j ≠ k → (s.ρ.set k (some (.own ys)))[j]? = s.ρ[j]? := fun j n => set_other n
  have oo : ∀ j : Nat, isOwn (s.ρ.set k (some (.own ys)))[j]? → isOwn s.ρ[j]? := fun j oj => by
    by_cases n : j = k
    · rw [n]; exact o
    · rw [key j n] at oj; exact oj
  have keep : ∀ b u, b ≠ p → H b = some u → upd H p (.lst vs) b = some u := fun b u n z => by rw [upd_ne n]; exact z
  refine ⟨by show (s.ρ.set k _).length ≤ _; rw [List.length_set]; exact I.len, fun b z => ?_, I.sub, fun b u n z => ?_, fun b u z => ⟨(I.pins b u z).1, keep b u (fun w => by rw [w, pn] at z; cases z) (I.pins b u z).2⟩, fun j => ?_, fun j i b oj oi => I.apart j i b (oo j oj) (oo i oi), tabs_put I.tabs hp True.intro keep, I.tbS, fun q z => ?_⟩
  · by_cases w : b = p
    · exact ⟨_, by rw [w]; exact upd_same⟩
    · obtain ⟨u, hu⟩ := I.live b z
      exact ⟨u, keep b u w hu⟩
  · refine keep b u (fun w => ?_) (I.base b u n z)
    subst w
    rcases h0 with h0 | h0
    · rw [h0] at z; cases z
    · exact n h0
  · by_cases n : j = k
    · subst n
      show Ent G F S _ (s.ρ.set j (some (.own ys)))[j]? σ[j]?
      rw [set_self e, ep]
      exact ⟨p, vs, rfl, sp, n0, pn, h0, upd_same, h.tr t⟩
    · show Ent G F S _ (s.ρ.set k (some (.own ys)))[j]? σ[j]?
      rw [key j n]
      exact (I.ent j).tr t fun b u sb _ hb oj ej => ⟨sb, keep b u (fun w => I.off o ep j oj n (by rw [ej, w])) hb⟩
  · obtain ⟨a, b, c, d, f⟩ := I.drw q z
    exact ⟨a, b, c, d, f.tr t fun u hu => keep q u (fun w => n0 (by rw [← w]; exact b)) hu⟩
end
end Pl
namespace Pl
open PySem PySem.Spec PyProof.Rows L2 Rp
/-! ### statements -/
def pAsg (a : EF) (g : GF) : SF := fun s => (a s).bind fun x => (g x.1 x.2).bind fun s' => .ok (.nx s')
def pName (k : Nat) : GF := fun d s => .ok (setV k d s)
def pSetO (k : Nat) (a : LF) : SF := fun s => (a s).bind fun x => .ok (.nx (setO k x.1 x.2))
def pGNil : GsF := fun ds s => match ds with
  | [] => .ok s
  | _ => .bad
def pGCons (g : GF) (gs : GsF) : GsF := fun ds s => match ds with
  | d :: r => (g d s).bind fun s' => gs r s'
  | [] => .bad
def pGTup (gs : GsF) (n : Nat) : GF := fun d s => match d with
  | .tup ds => if ds.length = n then gs ds s else .bad
  | _ => .bad
def pNext : SF := fun s => .ok (.nx s)
def pThen (p : SF) (o : Out) : Res Out := match o with
  | .nx s => p s
  | o => .ok o
def pSeq (p q : SF) : SF := fun s => (p s).bind (pThen q)
def pIfS (c : TF) (p q : SF) : SF := fun s => (c s).bind fun x => if x.1 then p x.2 else q x.2
def pRet (a : EF) : SF := fun s => (a s).bind fun x => .ok (.rt x.1 x.2.δ)
def pRetN : SF := fun s => .ok (.rt .non s.δ)
def pBreak : SF := fun s => .ok (.bk s)
def pCont : SF := fun s => .ok (.ct s)
def pDrop (a : EF) : SF := fun s => (a s).bind fun x => .ok (.nx x.2)
/-- what comes of a turn: on, or out -/
def pTurn (go : PS → Res Out) (o : Out) : Res Out := match o with
  | .nx s => go s
  | .ct s => go s
  | .bk s => .ok (.nx s)
  | .rt d δ => .ok (.rt d δ)
def pFor (g : GF) (b : SF) : List D → SF
  | [] => fun s => .ok (.nx s)
  | d :: r => fun s => (g d s).bind fun s1 => (b s1).bind (pTurn (pFor g b r))
def pForI (w : LF) (g : GF) (b : SF) : SF := fun s => (w s).bind fun x => pFor g b x.1 x.2
def pWhile (c : TF) (b : SF) : Nat → SF
  | 0 => fun _ => .bad
  | n + 1 => fun s => (c s).bind fun x => if x.1 then (b x.2).bind (pTurn (pWhile c b n)) else .ok (.nx x.2)
/-- how an iterator goes -/
def Steps (G : Cx) (J : It) (ds : List D) (S : Addr → Prop) (H : Hp) : Prop := ∀ S2 H2, Tr S H S2 H2 → Live S2 H2 → ∀ i : Nat,
  (∀ d, ds[i]? = some d → J.go i H2 ∧ ∀ x H3, J.yld i H2 x H3 → Same H2 H3 ∧ Vd G S2 H3 x d) ∧ (ds[i]? = none → i ≤ ds.length → J.stop i H2)
theorem Steps.tr {G : Cx} {J : It} {ds : List D} {S S' : Addr → Prop} {H H' : Hp} (h : Steps G J ds S H) (t : Tr S H S' H') : Steps G J ds S' H' := fun S2 H2 t2 => h S2 H2 (t.trans t2)
def KI (G : Cx) (F : Fr) (S : Addr → Prop) (σ : L2.St) (H : Hp) (R : It → Hp → Prop) (x : List D × PS) : Prop := ∀ S' H' J, Tr S H S' H' → Sim G F S' x.2 σ H' → Steps G J x.1 S' H' → R J H'
def MI (G : Cx) (E : XK) (t : TI) (p : LF) : Prop := ∀ (F : Fr) (S : Addr → Prop) (s : PS) (σ : L2.St) (H : Hp) (R : It → Hp → Prop), Sim G F S s σ H → Po G F E (KI G F S σ H R) (p s) → t σ H R
section
variable {G : Cx} {E : XK} {F : Fr} {S S' : Addr → Prop} {H H' : Hp} {s : PS} {σ : L2.St} {ta tb tc : TE} {a b c : EF} {pa pb pc : EF} {tl : TA} {pl : LF} {tt : TT} {pt : TF} {t u : TS} {p q : SF} {g : TG} {pg : GF} {gs : TGs} {pgs : GsF}
theorem m_name (k : Nat) : MG G E (gName k) (pName k) := fun F S s σ H v d Q I vd h => h S _ H Tr.refl (I.asgV vd)
theorem m_gnil : MGs G E gNil pGNil := fun F S s σ H v d Q I vd h => by
  cases vd with
  | nil => exact ⟨rfl, h S σ H Tr.refl I⟩
  | cons _ _ => exact h.elim
theorem m_gcons (hg : MG G E g pg) (hs : MGs G E gs pgs) : MGs G E (gCons g gs) (pGCons pg pgs) := fun F S s σ H v d Q I vd h => by
  cases vd with
  | nil => exact h.elim
  | cons v1 vr => exact ⟨_, _, rfl, hg F S s σ H _ _ _ I v1 (Po.mono (Po.bind h) fun s' hs' S' σ' H' t I' => hs F S' s' σ' H' _ _ Q I' (vr.tr t) (Po.mono hs' fun s2 k2 S2 σ2 H2 t2 => k2 S2 σ2 H2 (t.trans t2)))⟩
theorem m_gtup {n : Nat} (hs : MGs G E gs pgs) : MG G E (gTup G.K n gs) (pGTup pgs n) := fun F S s σ H v d Q I vd h => by
  cases vd with
  | tup n' e hv =>
    by_cases z : (List.length ‹List D›) = n
    · rw [show pGTup pgs n (.tup _) s = pgs _ s from if_pos z] at h
      exact ⟨_, _, rfl, SqT.of e, by rw [hv.len]; exact z, hs F S s σ H _ _ Q I hv h⟩
    · rw [show pGTup pgs n (.tup _) s = .bad from if_neg z] at h
      exact h.elim
  | ktp e hv =>
    by_cases z : (List.length ‹List D›) = n
    · rw [show pGTup pgs n (.tup _) s = pgs _ s from if_pos z] at h
      exact ⟨_, _, rfl, .inr e, by rw [hv.len]; exact z, hs F S s σ H _ _ Q I hv h⟩
    · rw [show pGTup pgs n (.tup _) s = .bad from if_neg z] at h
      exact h.elim
  | _ => exact h.elim
theorem m_asg (ha : ME G E ta pa) (hg : MG G E g pg) : MS G E (tAsg ta g) (pAsg pa pg) := fun F S s σ H B I h =>
  ha F S s σ H _ I (h.bind.mono fun x hx S' H' v t I' vd => hg F S' x.2 σ H' v x.1 _ I' vd (hx.bind.mono fun s2 k2 S2 σ2 H2 t2 I2 => k2 S2 σ2 H2 (t.trans t2) I2))
theorem m_setO {k : Nat} (ha : MF G E ta pl) : MS G E (tAsg ta (gName k)) (pSetO k pl) := fun F S s σ H B I h =>
  ha F S s σ H _ I (h.bind.mono fun x hx S' H' p t I' f => hx S' _ H' t (I'.asgO f))
theorem m_next : MS G E tNext pNext := fun F S s σ H B I h => h S σ H Tr.refl I
theorem m_seq (hp : MS G E t p) (hq : MS G E u q) : MS G E (tSeq t u) (pSeq p q) := fun F S s σ H B I h =>
  hp F S s σ H _ I (h.bind.mono fun o ho => by
    cases o with
    | nx s' => exact fun S' σ' H' tr I' => hq F S' s' σ' H' B I' (Po.mono ho fun o2 k2 => by
        cases o2 with
        | nx _ => exact fun S2 σ2 H2 t2 => k2 S2 σ2 H2 (tr.trans t2)
        | rt _ _ => exact fun S2 H2 v t2 => k2 S2 H2 v (tr.trans t2)
        | bk _ => exact fun S2 σ2 H2 t2 => k2 S2 σ2 H2 (tr.trans t2)
        | ct _ => exact fun S2 σ2 H2 t2 => k2 S2 σ2 H2 (tr.trans t2))
    | rt _ _ => exact ho
    | bk _ => exact ho
    | ct _ => exact ho)
theorem KS.of_tr {B : Ends} {o : Out} (t : Tr S H S' H') (k : KS G F S H B o) : KS G F S' H' B o := by
  cases o with
  | nx _ => exact fun S2 σ2 H2 t2 => k S2 σ2 H2 (t.trans t2)
  | rt _ _ => exact fun S2 H2 v t2 => k S2 H2 v (t.trans t2)
  | bk _ => exact fun S2 σ2 H2 t2 => k S2 σ2 H2 (t.trans t2)
  | ct _ => exact fun S2 σ2 H2 t2 => k S2 σ2 H2 (t.trans t2)
theorem m_ifS (hc : MT G E tt pt) (hp : MS G E t p) (hq : MS G E u q) : MS G E (tIfS tt t u) (pIfS pt p q) := fun F S s σ H B I h =>
  hc F S s σ H _ I (h.bind.mono fun x hx S' H' tr I' => by
    cases z : x.1 with
    | true =>
      rw [z] at hx
      exact iteT (hp F S' x.2 σ H' B I' (Po.mono hx fun o => KS.of_tr tr))
    | false =>
      rw [z] at hx
      exact iteF (hq F S' x.2 σ H' B I' (Po.mono hx fun o => KS.of_tr tr)))
theorem Sim.bare (I : Sim G F S s σ H) : Sim G F S ⟨[], s.δ⟩ [] H :=
  { I with len := Nat.le_refl _, ent := fun k => (by simp [Ent]), apart := fun j k p oj => by simp [isOwn] at oj }
theorem m_ret (ha : ME G E ta pa) : MS G E (tRet ta) (pRet pa) := fun F S s σ H B I h =>
  ha F S s σ H _ I (h.bind.mono fun x hx S' H' v t I' vd => hx S' H' v t I'.bare vd)
theorem m_retN : MS G E tRetN pRetN := fun F S s σ H B I h => h S H .non Tr.refl I.bare .non
theorem m_break : MS G E tBreak pBreak := fun F S s σ H B I h => h S σ H Tr.refl I
theorem m_cont : MS G E tCont pCont := fun F S s σ H B I h => h S σ H Tr.refl I
theorem m_drop (ha : ME G E ta pa) : MS G E (tDrop ta) (pDrop pa) := fun F S s σ H B I h =>
  ha F S s σ H _ I (h.bind.mono fun x hx S' H' v t I' vd => hx S' σ H' t I')
theorem m_for {wi : TI} {pw : LF} (hw : MI G E wi pw) (hg : MG G E g pg) (hp : MS G E t p) : MS G E (tFor wi g t) (pForI pw pg p) := fun F S s σ H B I h =>
  hw F S s σ H _ I (h.bind.mono fun x hx S1 H1 J t1 I1 st => by
    refine ⟨fun i m τ K => m + i = x.1.length ∧ ∃ S2 s2, Tr S1 H1 S2 K ∧ Sim G F S2 s2 τ K ∧ Po G F E (KS G F S2 K B) (pFor pg p (x.1.drop i) s2), ⟨x.1.length, rfl, S1, x.2, Tr.refl, I1, Po.mono hx fun o => KS.of_tr t1⟩, ?_⟩
    rintro i m τ K ⟨em, S2, s2, t2, I2, k2⟩
    obtain ⟨go, stop⟩ := st S2 K t2 I2.live i
    match e : x.1[i]? with
    | none =>
      refine .inl ⟨stop e (by omega), ?_⟩
      rw [List.drop_of_length_le (List.getElem?_eq_none_iff.mp e)] at k2
      exact k2 S2 τ K Tr.refl I2
    | some d =>
      obtain ⟨g1, g2⟩ := go d e
      refine .inr ⟨g1, fun τ' K' => ∃ S3 s3, Tr S1 H1 S3 K' ∧ Sim G F S3 s3 τ' K' ∧ Po G F E (KS G F S3 K' B) (pFor pg p (x.1.drop (i + 1)) s3), fun τ' K' z => ⟨m - 1, by have := lt_of_some e; omega, by have := lt_of_some e; omega, z⟩, fun v K3 y => ?_⟩
      obtain ⟨sm, vd⟩ := g2 v K3 y
      have ed : x.1.drop i = d :: x.1.drop (i + 1) := by rw [List.drop_eq_getElem_cons (lt_of_some e), (List.getElem?_eq_some_iff.mp e).2]
      rw [ed] at k2
      refine hg F S2 s2 τ K3 v d _ (I2.same sm) vd (Po.mono (Po.bind k2) fun s4 h4 S4 τ4 K4 t4 I4 => ?_)
      have tt4 := (Tr.same sm).trans t4
      refine hp F S4 s4 τ4 K4 _ I4 (Po.mono (Po.bind h4) fun o ho => ?_)
      cases o with
      | nx s5 => exact fun S5 τ5 K5 t5 I5 => ⟨S5, s5, (t2.trans tt4).trans t5, I5, Po.mono ho fun o => KS.of_tr (tt4.trans t5)⟩
      | ct s5 => exact fun S5 τ5 K5 t5 I5 => ⟨S5, s5, (t2.trans tt4).trans t5, I5, Po.mono ho fun o => KS.of_tr (tt4.trans t5)⟩
      | bk s5 => exact fun S5 τ5 K5 t5 I5 => ho S5 τ5 K5 (tt4.trans t5) I5
      | rt d δ => exact fun S5 K5 v t5 => ho S5 K5 v (tt4.trans t5))
theorem m_while {n : Nat} (hc : MT G E tt pt) (hp : MS G E t p) : MS G E (tWhile tt t) (pWhile pt p n) := fun F S s σ H B I h => by
  refine ⟨fun m τ K => ∃ S2 s2, Tr S H S2 K ∧ Sim G F S2 s2 τ K ∧ Po G F E (KS G F S2 K B) (pWhile pt p m s2), ⟨n, S, s, Tr.refl, I, h⟩, ?_⟩
  rintro m τ K ⟨S2, s2, t2, I2, k2⟩
  cases m with
  | zero => exact k2.elim
  | succ m =>
    refine hc F S2 s2 τ K _ I2 (Po.mono (Po.bind k2) fun x hx S3 K3 t3 I3 => ?_)
    cases z : x.1 with
    | false =>
      rw [z] at hx
      exact iteF (hx S3 τ K3 t3 I3)
    | true =>
      rw [z] at hx
      refine iteT ⟨fun τ' K' => ∃ S4 s4, Tr S H S4 K' ∧ Sim G F S4 s4 τ' K' ∧ Po G F E (KS G F S4 K' B) (pWhile pt p m s4), fun τ' K' z => ⟨m, Nat.lt_succ_self m, z⟩, ?_⟩
      refine hp F S3 x.2 τ K3 _ I3 (Po.mono (Po.bind hx) fun o ho => ?_)
      cases o with
      | nx s5 => exact fun S5 τ5 K5 t5 I5 => ⟨S5, s5, (t2.trans t3).trans t5, I5, Po.mono ho fun o => KS.of_tr (t3.trans t5)⟩
      | ct s5 => exact fun S5 τ5 K5 t5 I5 => ⟨S5, s5, (t2.trans t3).trans t5, I5, Po.mono ho fun o => KS.of_tr (t3.trans t5)⟩
      | bk s5 => exact fun S5 τ5 K5 t5 I5 => ho S5 τ5 K5 (t3.trans t5) I5
      | rt d δ => exact fun S5 K5 v t5 => ho S5 K5 v (t3.trans t5)
end
end Pl
namespace Pl
open PySem PySem.Spec PyProof.Rows L2 Rp
/-! ### comprehensions -/
def wipeE (ρ : En) : List Nat → En
  | [] => ρ
  | v :: vs => (wipeE ρ vs).set v none
def onlyVal : Option (Option EV) → Option EV
  | some (some (.val d)) => some (.val d)
  | _ => none
/-- what stood at the comprehension's own names -/
def backE (ρ0 ρ : En) : List Nat → En
  | [] => ρ
  | v :: vs => (backE ρ0 ρ vs).set v (onlyVal ρ0[v]?)
def pLc1 (g : GF) (c : TF) (e : EF) (vs : List Nat) (d : D) : PS → Res (Option D × PS) := fun s =>
  (g d { s with ρ := wipeE s.ρ vs }).bind fun s1 => (c s1).bind fun b => if b.1 then (e b.2).bind fun y => .ok (some y.1, { y.2 with ρ := backE s.ρ y.2.ρ vs }) else .ok (none, { b.2 with ρ := backE s.ρ b.2.ρ vs })
def pLcs (g : GF) (c : TF) (e : EF) (vs : List Nat) : List D → LF
  | [] => fun s => .ok ([], s)
  | d :: r => fun s => (pLc1 g c e vs d s).bind fun x => (pLcs g c e vs r x.2).bind fun y => .ok (x.1.toList ++ y.1, y.2)
def pLc (w : LF) (g : GF) (c : TF) (e : EF) (vs : List Nat) : LF := fun s => (w s).bind fun x => if small x.1.length then pLcs g c e vs x.1 x.2 else .bad
theorem set_get {α : Type} {l : List α} {k i : Nat} {y : α} : (l.set k y)[i]? = if i = k then (l[i]?.map fun _ => y) else l[i]? := by
  by_cases e : i = k
  · subst e
    rw [if_pos rfl]
    by_cases h : i < l.length
    · rw [List.getElem?_set_self h, List.getElem?_eq_getElem h]; rfl
    · rw [List.getElem?_eq_none (by rw [List.length_set]; omega), List.getElem?_eq_none (by omega)]; rfl
  · rw [if_neg e, List.getElem?_set_ne (Ne.symm e)]
theorem wipe_get {σ : L2.St} {i : Nat} : ∀ {vs : List Nat}, (wipe σ vs)[i]? = if i ∈ vs then (σ[i]?.map fun _ => none) else σ[i]?
  | [] => by simp [wipe]
  | v :: vs => by
    unfold wipe
    rw [set_get, wipe_get (vs := vs)]
    by_cases e : i = v
    · subst e
      cases σ[i]? <;> by_cases m : i ∈ vs <;> simp [m]
    · by_cases m : i ∈ vs <;> simp [m, e]
theorem wipeE_get {σ : En} {i : Nat} : ∀ {vs : List Nat}, (wipeE σ vs)[i]? = if i ∈ vs then (σ[i]?.map fun _ => none) else σ[i]?
  | [] => by simp [wipeE]
  | v :: vs => by
    unfold wipeE
    rw [set_get, wipeE_get (vs := vs)]
    by_cases e : i = v
    · subst e
      cases σ[i]? <;> by_cases m : i ∈ vs <;> simp [m]
    · by_cases m : i ∈ vs <;> simp [m, e]
theorem backE_get {ρ0 ρ : En} {i : Nat} : ∀ {vs : List Nat}, (backE ρ0 ρ vs)[i]? = if i ∈ vs then (ρ[i]?.map fun _ => onlyVal ρ0[i]?) else ρ[i]?
  | [] => by simp [backE]
  | v :: vs => by
    unfold backE
    rw [set_get, backE_get (vs := vs)]
    by_cases e : i = v
    · subst e
      cases ρ[i]? <;> by_cases m : i ∈ vs <;> simp [m]
    · by_cases m : i ∈ vs <;> simp [m, e]
theorem wipeE_len {ρ : En} : ∀ vs : List Nat, (wipeE ρ vs).length = ρ.length
  | [] => rfl
  | v :: vs => by unfold wipeE; rw [List.length_set, wipeE_len vs]
theorem backE_len {ρ0 ρ : En} : ∀ vs : List Nat, (backE ρ0 ρ vs).length = ρ.length
  | [] => rfl
  | v :: vs => by unfold backE; rw [List.length_set, backE_len vs]
theorem wipe_wipe {σ : L2.St} {vs : List Nat} : wipe (wipe σ vs) vs = wipe σ vs := by
  refine List.ext_getElem? fun i => ?_
  rw [wipe_get, wipe_get]
  by_cases m : i ∈ vs
  · rw [if_pos m, if_pos m]
    cases σ[i]? <;> rfl
  · rw [if_neg m, if_neg m]
/-- the target stores at its own names alone -/
def Wp (g : TG) (vs : List Nat) : Prop := ∀ v σ H Q, g v σ H Q → g v σ H fun σ2 H2 => wipe σ2 vs = wipe σ vs ∧ Q σ2 H2
def Wps (g : TGs) (vs : List Nat) : Prop := ∀ v σ H Q, g v σ H Q → g v σ H fun σ2 H2 => wipe σ2 vs = wipe σ vs ∧ Q σ2 H2
theorem wp_name {k : Nat} {vs : List Nat} (h : vs.contains k = true) : Wp (gName k) vs := fun v σ H Q q => ⟨by
  refine List.ext_getElem? fun i => ?_
  rw [wipe_get, wipe_get, set_get]
  by_cases m : i ∈ vs
  · rw [if_pos m, if_pos m]
    by_cases e : i = k
    · rw [if_pos e]; cases σ[i]? <;> rfl
    · rw [if_neg e]
  · rw [if_neg m, if_neg m, if_neg (fun e => m (by rw [e]; exact List.contains_iff_mem.mp h))], q⟩
theorem wp_nil {vs : List Nat} : Wps gNil vs := fun v σ H Q q => ⟨q.1, rfl, q.2⟩
/-- ends of a target may be weakened -/
def Mon (g : TG) : Prop := ∀ v σ H (Q R : L2.St → Hp → Prop), (∀ σ2 H2, Q σ2 H2 → R σ2 H2) → g v σ H Q → g v σ H R
def Mons (g : TGs) : Prop := ∀ v σ H (Q R : L2.St → Hp → Prop), (∀ σ2 H2, Q σ2 H2 → R σ2 H2) → g v σ H Q → g v σ H R
theorem mon_name {k : Nat} : Mon (gName k) := fun v σ H Q R m q => m _ _ q
theorem mon_nil : Mons gNil := fun v σ H Q R m q => ⟨q.1, m _ _ q.2⟩
theorem mon_cons {g : TG} {gs : TGs} (a : Mon g) (b : Mons gs) : Mons (gCons g gs) := fun v σ H Q R m q => by
  obtain ⟨x, r, e, h⟩ := q
  exact ⟨x, r, e, a _ _ _ _ _ (fun σ2 H2 => b _ _ _ _ _ m) h⟩
theorem mon_tup {K : PySem.W.Frag} {n : Nat} {gs : TGs} (b : Mons gs) : Mon (gTup K n gs) := fun v σ H Q R m q => by
  obtain ⟨a, xs, e, h1, h2, h⟩ := q
  exact ⟨a, xs, e, h1, h2, b _ _ _ _ _ m h⟩
theorem wp_cons {g : TG} {gs : TGs} {vs : List Nat} (a : Wp g vs) (b : Wps gs vs) (mg : Mon g) (ms : Mons gs) : Wps (gCons g gs) vs := fun v σ H Q q => by
  obtain ⟨x, r, e, h⟩ := q
  refine ⟨x, r, e, mg _ _ _ _ _ (fun σ2 H2 k => ?_) (a _ _ _ _ h)⟩
  exact ms _ _ _ _ _ (fun σ3 H3 z => ⟨z.1.trans k.1, z.2⟩) (b _ _ _ _ k.2)
theorem wp_tup {K : PySem.W.Frag} {n : Nat} {gs : TGs} {vs : List Nat} (b : Wps gs vs) : Wp (gTup K n gs) vs := fun v σ H Q q => by
  obtain ⟨a, xs, e, h1, h2, h⟩ := q
  exact ⟨a, xs, e, h1, h2, b _ _ _ _ h⟩
def pinD (F : Fr) (p : Addr) (o : HO) : Fr := { F with pin := upd F.pin p o }
section
variable {G : Cx} {E : XK} {F : Fr} {S S' S1 : Addr → Prop} {H H' H1 : Hp} {s s1 : PS} {σ σ2 : L2.St}
theorem Ent.pin {e : Option (Option EV)} {v : Option (Option V)} {p : Addr} {o : HO} (h : Ent G F S H e v) (off : isOwn e → v ≠ some (some (.ref p))) : Ent G (pinD F p o) S H e v := by
  match e, v, h, off with
  | some (some (.val d)), some (some v), h, _ => exact h
  | some (some (.own xs)), some (some v), ⟨b, us, e1, e2, e3, e4, e5, e6, e7⟩, off =>
    exact ⟨b, us, e1, e2, e3, by show upd F.pin p o b = none; rw [upd_ne (fun z => off True.intro (by rw [e1, z]))]; exact e4, e5, e6, e7⟩
  | some (some (.obj C fs)), some (some v), ⟨b, dx, us, e1, e2, e3, e4, e5, e6, e7⟩, off =>
    exact ⟨b, dx, us, e1, e2, e3, by show upd F.pin p o b = none; rw [upd_ne (fun z => off True.intro (by rw [e1, z]))]; exact e4, e5, e6, e7⟩
  | some (some .box), some (some v), h, _ => exact h
  | some none, _, _, _ => exact True.intro
  | none, _, _, _ => exact True.intro
  | some (some (.val d)), some none, h, _ => exact h
  | some (some (.val d)), none, h, _ => exact h
  | some (some (.own d)), some none, h, _ => exact h
  | some (some (.own d)), none, h, _ => exact h
  | some (some (.obj d _)), some none, h, _ => exact h
  | some (some (.obj d _)), none, h, _ => exact h
  | some (some .box), some none, h, _ => exact h
  | some (some .box), none, h, _ => exact h
theorem pin_none {p b : Addr} {o : HO} (h : upd F.pin p o b = none) : F.pin b = none := by
  by_cases e : b = p
  · rw [e, upd_same] at h; cases h
  · rw [upd_ne e] at h; exact h
theorem Ent.unpin {e : Option (Option EV)} {v : Option (Option V)} {p : Addr} {o : HO} (h : Ent G (pinD F p o) S H e v) : Ent G F S H e v ∧ (isOwn e → v ≠ some (some (.ref p))) := by
  match e, v, h with
  | some (some (.val d)), some (some v), h => exact ⟨h, fun z => z.elim⟩
  | some (some (.own xs)), some (some v), ⟨b, us, e1, e2, e3, e4, e5, e6, e7⟩ =>
    refine ⟨⟨b, us, e1, e2, e3, pin_none e4, e5, e6, e7⟩, fun _ z => ?_⟩
    rw [e1] at z
    cases z
    exact absurd e4 (by show upd F.pin p o p ≠ none; rw [upd_same]; simp)
  | some (some (.obj C fs)), some (some v), ⟨b, dx, us, e1, e2, e3, e4, e5, e6, e7⟩ =>
    refine ⟨⟨b, dx, us, e1, e2, e3, pin_none e4, e5, e6, e7⟩, fun _ z => ?_⟩
    rw [e1] at z
    cases z
    exact absurd e4 (by show upd F.pin p o p ≠ none; rw [upd_same]; simp)
  | some (some .box), some (some v), h => exact ⟨h, fun z => z.elim⟩
  | some none, _, _ => exact ⟨True.intro, fun z => z.elim⟩
  | none, _, _ => exact ⟨True.intro, fun z => z.elim⟩
  | some (some (.val d)), some none, h => exact h.elim
  | some (some (.val d)), none, h => exact h.elim
  | some (some (.own d)), some none, h => exact h.elim
  | some (some (.own d)), none, h => exact h.elim
  | some (some (.obj d _)), some none, h => exact h.elim
  | some (some (.obj d _)), none, h => exact h.elim
  | some (some .box), some none, h => exact h.elim
  | some (some .box), none, h => exact h.elim
/-- a list that has come is held fast -/
theorem Sim.pin {p : Addr} {xs : List D} {us : List V} (I : Sim G F S s σ H) (f : Flo G F S s σ H p xs) (hp : H p = some (.lst us)) : Sim G (pinD F p (.lst us)) S s σ H :=
  { I with
    pins := fun b o e => by
      by_cases z : b = p
      · rw [z]
        rw [show (pinD F p (.lst us)).pin b = upd F.pin p (.lst us) b from rfl, z, upd_same] at e
        cases e
        exact ⟨f.sp, hp⟩
      · exact I.pins b o (by rw [← e]; exact (upd_ne z).symm)
    ent := fun k => (I.ent k).pin (f.off k)
    drw := fun q e => by
      obtain ⟨a, b, c, d, g⟩ := I.drw q e
      exact ⟨a, b, by show upd F.pin p _ q = none; rw [upd_ne (fun z => f.n0 (by rw [← z]; exact b))]; exact c, d, g⟩
    tbS := fun t m => by
      obtain ⟨a, b, c, d⟩ := I.tbS t m
      exact ⟨a, b, c, by show upd F.pin p _ t.1 = none; rw [upd_ne (fun z => f.n0 (by rw [← z]; exact b))]; exact d⟩ }
theorem Sim.unpin {p : Addr} {o : HO} (I : Sim G (pinD F p o) S s σ H) (pn : F.pin p = none) : Sim G F S s σ H :=
  { I with
    pins := fun b u e => I.pins b u (by
      show upd F.pin p o b = some u
      rw [upd_ne (fun z => by rw [z, pn] at e; cases e)]
      exact e)
    ent := fun k => (I.ent k).unpin.1
    drw := fun q e => by
      obtain ⟨a, b, c, d, g⟩ := I.drw q e
      exact ⟨a, b, pin_none c, d, g⟩
    tbS := fun t m => by
      obtain ⟨a, b, c, d⟩ := I.tbS t m
      exact ⟨a, b, c, pin_none d⟩ }
/-- the list held fast is written to -/
theorem Sim.repin {p : Addr} {us vs : List V} (I : Sim G (pinD F p (.lst us)) S s σ H) (n0 : ¬ F.S0 p) (h0 : F.H0 p = none ∨ F.W p) : Sim G (pinD F p (.lst vs)) S s σ (upd H p (.lst vs)) := by
  have sp : S p ∧ H p = some (.lst us) := I.pins p _ upd_same
  have t : Tr S H S (upd H p (.lst vs)) := Tr.put sp.1
  have keep : ∀ b u, b ≠ p → H b = some u → upd H p (.lst vs) b = some u := fun b u n z => by rw [upd_ne n]; exact z
  refine ⟨I.len, fun b z => ?_, I.sub, fun b u n z => ?_, fun b u z => ?_, fun k => ?_, I.apart, tabs_put I.tabs sp.2 True.intro keep, fun t m => ?_, fun q e => ?_⟩
  · by_cases w : b = p
    · exact ⟨_, by rw [w]; exact upd_same⟩
    · obtain ⟨u, hu⟩ := I.live b z
      exact ⟨u, keep b u w hu⟩
  · refine keep b u (fun w => ?_) (I.base b u n z)
    subst w
    rcases h0 with h0 | h0
    · rw [show F.H0 b = some u from z] at h0; cases h0
    · exact n h0
  · by_cases w : b = p
    · subst w
      rw [show (pinD F b (.lst vs)).pin b = upd F.pin b (.lst vs) b from rfl, upd_same] at z
      cases z
      exact ⟨sp.1, upd_same⟩
    · have z' : upd F.pin p (.lst us) b = some u := by rw [upd_ne w, ← z]; exact (upd_ne w).symm
      exact ⟨(I.pins b u z').1, keep b u w (I.pins b u z').2⟩
  · obtain ⟨e1, off⟩ := (I.ent k).unpin
    exact Ent.pin (e1.tr t fun b u sb pb hb oj ej => ⟨sb, keep b u (fun w => off oj (by rw [ej, w])) hb⟩) off
  · obtain ⟨a, b, c, d⟩ := I.tbS t m
    exact ⟨a, b, c, by show upd F.pin p _ t.1 = none; rw [upd_ne (fun z => n0 (by rw [← z]; exact b))]; exact pin_none d⟩
  · obtain ⟨a, b, c, d, g⟩ := I.drw q e
    have nq : q ≠ p := fun z => n0 (by rw [← z]; exact b)
    exact ⟨a, b, by show upd F.pin p _ q = none; rw [upd_ne nq]; exact pin_none c, d, g.tr t fun u hu => keep q u nq hu⟩
theorem Sim.wipe {vs : List Nat} (I : Sim G F S s σ H) : Sim G F S { s with ρ := wipeE s.ρ vs } (L2.wipe σ vs) H := by
  have key : ∀ j : Nat, isOwn (wipeE s.ρ vs)[j]? → j ∉ vs ∧ isOwn s.ρ[j]? := fun j o => by
    rw [wipeE_get] at o
    by_cases m : j ∈ vs
    · rw [if_pos m] at o
      cases h : s.ρ[j]? with
      | none => rw [h] at o; exact o.elim
      | some x => rw [h] at o; exact o.elim
    · rw [if_neg m] at o
      exact ⟨m, o⟩
  refine { I with len := by show (wipeE s.ρ vs).length ≤ _; rw [wipeE_len, wipe_length]; exact I.len, ent := fun j => ?_, apart := fun j k p oj ok ej ek => ?_ }
  · show Ent G F S H (wipeE s.ρ vs)[j]? _
    rw [wipeE_get, wipe_get]
    by_cases m : j ∈ vs
    · rw [if_pos m, if_pos m]
      cases s.ρ[j]? with
      | none => exact True.intro
      | some x => exact True.intro
    · rw [if_neg m, if_neg m]
      exact I.ent j
  · obtain ⟨n1, o1⟩ := key j oj
    obtain ⟨n2, o2⟩ := key k ok
    rw [wipe_get, if_neg n1] at ej
    rw [wipe_get, if_neg n2] at ek
    exact I.apart j k p o1 o2 ej ek
theorem Sim.back {vs : List Nat} (I0 : Sim G F S1 s1 σ H1) (t : Tr S1 H1 S H) (I : Sim G F S s σ2 H) (e : L2.wipe σ2 vs = L2.wipe σ vs) : Sim G F S { s with ρ := backE s1.ρ s.ρ vs } σ H := by
  have at_ : ∀ j : Nat, j ∉ vs → σ2[j]? = σ[j]? := fun j m => by
    have h := congrArg (fun l : L2.St => l[j]?) e
    simp only [wipe_get, if_neg m] at h
    exact h
  have key : ∀ j : Nat, isOwn (backE s1.ρ s.ρ vs)[j]? → j ∉ vs ∧ isOwn s.ρ[j]? := fun j o => by
    rw [backE_get] at o
    by_cases m : j ∈ vs
    · rw [if_pos m] at o
      cases h : s.ρ[j]? with
      | none => rw [h] at o; exact o.elim
      | some x =>
        rw [h] at o
        exfalso
        revert o
        show isOwn (some (onlyVal s1.ρ[j]?)) → False
        unfold onlyVal
        split <;> exact fun z => z.elim
    · rw [if_neg m] at o
      exact ⟨m, o⟩
  refine { I with len := by show (backE s1.ρ s.ρ vs).length ≤ _; rw [backE_len]; have := congrArg List.length e; rw [wipe_length, wipe_length] at this; rw [← this]; exact I.len, ent := fun j => ?_, apart := fun j k p oj ok ej ek => ?_ }
  · show Ent G F S H (backE s1.ρ s.ρ vs)[j]? _
    rw [backE_get]
    by_cases m : j ∈ vs
    · rw [if_pos m]
      cases s.ρ[j]? with
      | none => exact True.intro
      | some x =>
        show Ent G F S H (some (onlyVal s1.ρ[j]?)) σ[j]?
        unfold onlyVal
        split
        · next d h =>
          obtain ⟨v, ev, vd⟩ := I0.val h
          rw [ev]
          exact vd.tr t
        · exact True.intro
    · rw [if_neg m, ← at_ j m]
      exact I.ent j
  · obtain ⟨n1, o1⟩ := key j oj
    obtain ⟨n2, o2⟩ := key k ok
    rw [← at_ j n1] at ej
    rw [← at_ k n2] at ek
    exact I.apart j k p o1 o2 ej ek
theorem VdA.one {x : V} {d : D} {acc : List V} {ds : List D} (h : VdA G S H acc ds) (v : Vd G S H x d) : VdA G S H (acc ++ [x]) (ds ++ [d]) := VdA.app h (.cons v .nil)
theorem m_lc {wi : TI} {pw : LF} {g : TG} {pg : GF} {tt : TT} {pt : TF} {te : TE} {pe : EF} {vs : List Nat} (hw : MI G E wi pw) (hg : MG G E g pg) (wp : Wp g vs) (mg : Mon g) (hc : MT G E tt pt) (he : ME G E te pe) : MF G E (tLc wi g tt te vs) (pLc pw pg pt pe vs) := fun F S s σ H Q I h =>
  hw F S s σ H _ I (h.bind.mono fun x hx S1 H1 J t1 I1 st L hL => by
    by_cases z : small x.1.length = true
    case neg => rw [if_neg z] at hx; exact hx.elim
    rw [if_pos z] at hx
    have zl : x.1.length ≤ sizeLine := of_decide_eq_true z
    obtain ⟨I2, f2⟩ := flo_new I1 hL (us := []) (xs := []) .nil
    have n0 := f2.n0
    have h0 := f2.h0
    have pn := f2.pn
    have I3 := I2.pin f2 upd_same
    refine ⟨fun i m K => m + i = x.1.length ∧ ∃ S2 s2 acc ds, Tr S1 H1 S2 K ∧ Tr (more S1 L) (upd H1 L (.lst [])) S2 K ∧ Sim G (pinD F L (.lst acc)) S2 s2 σ K ∧ acc.length ≤ i ∧ VdA G S2 K acc ds ∧ Po G F E (fun y => KF G F S2 σ K Q (ds ++ y.1, y.2)) (pLcs pg pt pe vs (x.1.drop i) s2),
      ⟨x.1.length, rfl, more S1 L, x.2, [], [], Tr.grow hL, Tr.refl, I3, Nat.le_refl _, .nil, Po.mono hx fun y hy S' H' p t' => hy S' H' p ((t1.trans (Tr.grow hL)).trans t')⟩, ?_⟩
    rintro i m K ⟨em, S2, s2, acc, ds, t2, _, I4, la, va, k2⟩
    obtain ⟨go, stop⟩ := st S2 K t2 I4.live i
    have pinned : S2 L ∧ K L = some (.lst acc) := I4.pins L _ upd_same
    match e : x.1[i]? with
    | none =>
      refine .inl ⟨stop e (by omega), ?_⟩
      rw [List.drop_of_length_le (List.getElem?_eq_none_iff.mp e)] at k2
      have k3 : KF G F S2 σ K Q (ds ++ [], s2) := k2
      rw [List.append_nil] at k3
      exact k3 S2 K L Tr.refl (I4.unpin pn) ⟨pinned.1, n0, pn, h0, fun k o => (I4.ent k).unpin.2 o, acc, pinned.2, va⟩
    | some d =>
      obtain ⟨g1, g2⟩ := go d e
      have li := lt_of_some e
      have ed : x.1.drop i = d :: x.1.drop (i + 1) := by rw [List.drop_eq_getElem_cons li, (List.getElem?_eq_some_iff.mp e).2]
      rw [ed] at k2
      refine .inr ⟨g1, fun K' => ∃ S3 s3 acc3 ds3, Tr S1 H1 S3 K' ∧ Sim G (pinD F L (.lst acc3)) S3 s3 σ K' ∧ acc3.length ≤ i + 1 ∧ VdA G S3 K' acc3 ds3 ∧ Po G F E (fun y => KF G F S3 σ K' Q (ds3 ++ y.1, y.2)) (pLcs pg pt pe vs (x.1.drop (i + 1)) s3), ?_, fun v K3 y => ?_⟩
      · rintro K' ⟨S3, s3, acc3, ds3, a1, a2, a3, a4, a5⟩
        refine ⟨m - 1, by omega, by omega, S3, s3, acc3, ds3, a1, ?_, a2, a3, a4, a5⟩
        intro b o nb eb
        have hb : b ≠ L := fun w => nb (.inr w)
        rw [upd_ne hb] at eb
        exact a1 b o (fun w => nb (.inl w)) eb
      obtain ⟨sm, vd⟩ := g2 v K3 y
      have I5 := (I4.same sm).wipe (vs := vs)
      have k3 : Po G (pinD F L (.lst acc)) E _ (pLc1 pg pt pe vs d s2) := Po.bind k2
      have k4 := Po.bind k3
      have wv : g v (L2.wipe σ vs) K3 fun σ2 H2 => L2.wipe σ2 vs = L2.wipe (L2.wipe σ vs) vs ∧ _ := wp v _ K3 _ (hg _ S2 _ _ K3 v d _ I5 vd (Po.mono k4 fun s4 h4 S4 τ4 K4 t4 I6 =>
        (show ∀ (w : L2.wipe τ4 vs = L2.wipe σ vs), tt τ4 K4 fun b H3 => if b = true then te τ4 H3 fun y H4 => ∃ acc, H4 L = some (.lst acc) ∧ acc.length < sizeLine ∧ (∃ S3 s3 acc3 ds3, Tr S1 H1 S3 (upd H4 L (.lst (acc ++ [y]))) ∧ Sim G (pinD F L (.lst acc3)) S3 s3 σ (upd H4 L (.lst (acc ++ [y]))) ∧ acc3.length ≤ i + 1 ∧ VdA G S3 (upd H4 L (.lst (acc ++ [y]))) acc3 ds3 ∧ Po G F E (fun y' => KF G F S3 σ (upd H4 L (.lst (acc ++ [y]))) Q (ds3 ++ y'.1, y'.2)) (pLcs pg pt pe vs (x.1.drop (i + 1)) s3))
            else ∃ S3 s3 acc3 ds3, Tr S1 H1 S3 H3 ∧ Sim G (pinD F L (.lst acc3)) S3 s3 σ H3 ∧ acc3.length ≤ i + 1 ∧ VdA G S3 H3 acc3 ds3 ∧ Po G F E (fun y' => KF G F S3 σ H3 Q (ds3 ++ y'.1, y'.2)) (pLcs pg pt pe vs (x.1.drop (i + 1)) s3) from fun w => by
          refine hc _ S4 s4 τ4 K4 _ I6 (Po.mono (Po.bind h4) fun b hb S6 K6 t6 I7 => ?_)
          have T6 := ((Tr.same sm).trans t4).trans t6
          cases zb : b.1 with
          | true =>
            rw [zb] at hb
            refine iteT (he _ S6 b.2 τ4 K6 _ I7 (Po.mono (Po.bind hb) fun y hy S7 K7 u t7 I8 ud => ?_))
            have T7 := T6.trans t7
            have I9 := Sim.back (vs := vs) (I4.same sm) ((t4.trans t6).trans t7) I8 w
            have p7 : S7 L ∧ K7 L = some (.lst acc) := I8.pins L _ upd_same
            have tp : Tr S7 K7 S7 (upd K7 L (.lst (acc ++ [u]))) := Tr.put p7.1
            refine ⟨acc, p7.2, by omega, S7, _, acc ++ [u], ds ++ [y.1], (t2.trans T7).trans tp, I9.repin n0 h0, by rw [List.length_append]; exact Nat.add_le_add_right la 1, ((va.tr T7).one ud).tr tp, ?_⟩
            refine Po.mono (Po.bind hy) fun y2 hy2 => ?_
            have e2 : ds ++ ((some y.1).toList ++ y2.1) = ds ++ [y.1] ++ y2.1 := by rw [List.append_assoc]; rfl
            rw [← e2]
            exact fun S9 K9 p t9 => hy2 S9 K9 p ((T7.trans tp).trans t9)
          | false =>
            rw [zb] at hb
            have I9 := Sim.back (vs := vs) (I4.same sm) (t4.trans t6) I7 w
            refine iteF ⟨S6, _, acc, ds, t2.trans T6, I9, by omega, va.tr T6, ?_⟩
            have hb2 : Po G (pinD F L (.lst acc)) E (fun y => KF G F S2 σ K Q (ds ++ y.1, y.2)) ((pLcs pg pt pe vs (x.1.drop (i + 1)) { b.2 with ρ := backE s2.ρ b.2.ρ vs }).bind fun y => Res.ok ((none : Option D).toList ++ y.1, y.2)) := hb
            refine Po.mono (Po.bind hb2) fun y2 hy2 => ?_
            exact fun S9 K9 p t9 => hy2 S9 K9 p (T6.trans t9)))) 
      exact mg _ _ _ _ _ (fun σ2 H2 k => ⟨k.1.trans wipe_wipe, k.2 (k.1.trans wipe_wipe)⟩) wv)
end
end Pl
namespace Pl
open PySem PySem.Spec PyProof.Rows L2 Rp
/-! ### rules by values, of any kind -/
theorem OpR.or {X : L2.Cx} {f : Value → Value → Sem Value} {r r' : R2} (a : OpR X f r) (b : OpR X f r') : OpR X f (fun x y H Q => r x y H Q ∨ r' x y H Q) := by
  intro pins s σ H x y v u Q I rx ry q
  rcases q with q | q
  · exact a pins s σ H x y v u Q I rx ry q
  · exact b pins s σ H x y v u Q I rx ry q
theorem CallR.or {X : L2.Cx} {f : Value} {r r' : List V → Hp → VK → Prop} (a : CallR X f r) (b : CallR X f r') : CallR X f (fun x H Q => r x H Q ∨ r' x H Q) := by
  intro pins s σ H xs us Q I rx q
  rcases q with q | q
  · exact a pins s σ H xs us Q I rx q
  · exact b pins s σ H xs us Q I rx q
def rAddG (K : PySem.W.Frag) : R2 := fun x y H Q => rI0 (fun i j => V.int (i + j)) x y H Q ∨ rCat x y H Q ∨ rCatA K x y H Q
theorem op_addG {X : L2.Cx} : OpR X (binaryOp .Add) (rAddG X.K) := OpR.or op_add (OpR.or op_cat op_catA)
def rMulG (K : PySem.W.Frag) : R2 := fun x y H Q => rI CMul (fun i j => V.int (i * j)) x y H Q ∨ rRep x y H Q ∨ rRep1 K x y H Q ∨ rRepT K x y H Q
theorem op_mulG {X : L2.Cx} : OpR X (binaryOp .Mult) (rMulG X.K) := OpR.or op_mul (OpR.or op_rep (OpR.or op_rep1 op_repT))
def rSlG (K : PySem.W.Frag) : V → Option Int → Option Int → Hp → VK → Prop := fun x l u H Q => rSlL K x l u H Q ∨ rSlA K x l u H Q
theorem sl_g {X : L2.Cx} : SlR X (rSlG X.K) := SlR.or sl_list sl_tupA
/-- what is walked: a list or a tuple -/
def iSeq (K : PySem.W.Frag) (tl : TE) : TI := fun σ H R => tl σ H fun x H1 => ∃ a, x = .ref a ∧ (((∃ xs, SqL K H1 a xs) ∧ R (Itl K a) H1) ∨ ((∃ xs, SqT K H1 a xs) ∧ R (Itt K a) H1))
theorem pi_seq {X : L2.Cx} {tg l : Expr} {tl : TE} (hl : L2.PE X l tl) : PI X tg l (iSeq X.K tl) := by
  refine ⟨fun pins s σ H R I h => ?_⟩
  refine thn (hl.run pins s σ H _ I h) fun v s1 ⟨x, H1, I1, r1, q1⟩ => ?_
  obtain ⟨a, e, q | q⟩ := q1
  · obtain ⟨⟨xs, hq⟩, q⟩ := q
    subst e
    cases r1
    obtain ⟨its, rv, p, hz⟩ := I1.list hq
    refine wpAny_pyIter_list p.isList ?_
    refine ⟨s1.heap.objs.size, [s1.heap.objs.size], _, _, H1, rfl, I1.kept (t' := s1.toks) fun b o e => Heap.get?_push_of_some _ e, turn_list a _, ⟨_, Heap.get?_push_size _ rfl, rfl, rfl⟩, fun b hb => ?_, q⟩
    have e : b = s1.heap.objs.size := by simpa using hb
    subst e
    exact I1.fpOk (Nat.le_refl _) (I1.hok.fresh (Nat.le_refl _))
  · obtain ⟨⟨xs, hq⟩, q⟩ := q
    subst e
    cases r1
    obtain ⟨its, rv, p, hz⟩ := I1.tuple hq
    refine wpAny_pyIter_tuple (show s1.heap.IsTuple a its.toArray from p) ?_
    refine ⟨s1.heap.objs.size, [s1.heap.objs.size], _, _, H1, rfl, I1.kept (t' := s1.toks) fun b o e => Heap.get?_push_of_some _ e, turn_tuple a _, ⟨_, Heap.get?_push_size _ rfl, rfl, rfl⟩, fun b hb => ?_, q⟩
    have e : b = s1.heap.objs.size := by simpa using hb
    subst e
    exact I1.fpOk (Nat.le_refl _) (I1.hok.fresh (Nat.le_refl _))
def iEnG (K : PySem.W.Frag) (ta : TA) : TI := fun σ H R => ta σ H fun vs H1 => ∃ a xs, vs = [.ref a] ∧ ((SqL K H1 a xs ∧ R (Ite K a) H1) ∨ (SqT K H1 a xs ∧ R (IteT K a) H1))
theorem pi_enG {X : L2.Cx} {e : Expr} {ta : TA} {p pos tpos : Pos} {elts : List Expr} {kk : Nat} (hg : Gl X "enumerate") (hm : X.mg "enumerate" = none) (ha : L2.PA X [e] ta) (hs : starEach [e] X.env = [(false, eval e X.env)] := by rfl) :
    PI X (.Tuple elts kk tpos) (.Call (.Name "enumerate" p) [e] [] pos) (iEnG X.K ta) := by
  refine ⟨fun pins s σ H R I h => ?_⟩
  refine Call_ (ld_blt I hg hm boot_enumerate (PyProof.Rows.callWith_type1 (thn (ha.run pos pins s σ H _ I h) fun us s1 ⟨vs, H1, I1, r1, q1⟩ => ?_) hs rfl))
  obtain ⟨a, xs, ex, q⟩ := q1
  subst ex
  cases r1 with
  | cons r rr =>
    cases rr
    cases r
    rcases q with ⟨hq, q⟩ | ⟨hq, q⟩
    · obtain ⟨its, rv, p', hz⟩ := I1.list hq
      refine call_enumerate_list p'.isList fun h' he hit hsz hk => wpAny_pyIter_enum he ?_
      have I2 : Inv X pins σ H1 { s1 with heap := h' } := I1.kept (t' := s1.toks) hk
      refine ⟨s1.heap.objs.size + 1, [s1.heap.objs.size + 1, s1.heap.objs.size], _, _, H1, rfl, I2, turn_enum a (s1.heap.objs.size + 1) s1.heap.objs.size, ⟨⟨.none, he⟩, hit, Nat.succ_ne_self _⟩, fun b hb => ?_, q⟩
      have e' : b = s1.heap.objs.size + 1 ∨ b = s1.heap.objs.size := by simpa using hb
      have hle : s1.heap.objs.size ≤ b := by
        rcases e' with z | z
        · rw [z]; exact Nat.le_add_right _ _
        · rw [z]; exact Nat.le_refl _
      exact I1.fpOk hle (I1.hok.fresh hle)
    · obtain ⟨its, rv, p', hz⟩ := I1.tuple hq
      have hal : a < s1.heap.objs.size := by obtain ⟨_, ho, _⟩ := p'; exact Heap.lt_size ho
      refine call_enumerate_tuple p' fun h' he hit hsz hk => wpAny_pyIter_enum he ?_
      have I2 : Inv X pins σ H1 { s1 with heap := h' } := I1.kept (t' := s1.toks) hk
      refine ⟨s1.heap.objs.size + 1, [s1.heap.objs.size + 1, s1.heap.objs.size], _, _, H1, rfl, I2, turn_enumT a (s1.heap.objs.size + 1) s1.heap.objs.size (Nat.ne_of_lt hal) (Nat.ne_of_lt (Nat.lt_succ_of_lt hal)).symm, ⟨⟨.none, he⟩, hit, Nat.succ_ne_self _⟩, fun b hb => ?_, q⟩
      have e' : b = s1.heap.objs.size + 1 ∨ b = s1.heap.objs.size := by simpa using hb
      have hle : s1.heap.objs.size ≤ b := by
        rcases e' with z | z
        · rw [z]; exact Nat.le_add_right _ _
        · rw [z]; exact Nat.le_refl _
      exact I1.fpOk hle (I1.hok.fresh hle)
/-! ### what they are worth -/
def addP : D → D → Res D
  | .int i, .int j => .ok (.int (i + j))
  | .lst xs, .lst ys => if small (xs.length + ys.length) then .ok (.lst (xs ++ ys)) else .bad
  | .tup xs, .tup ys => if small (xs.length + ys.length) then .ok (.tup (xs ++ ys)) else .bad
  | _, _ => .bad
/-- two integers -/
def ii (C : Int → Int → Bool) (g : Int → Int → D) : D → D → Res D
  | .int i, .int j => if C i j then .ok (g i j) else .bad
  | _, _ => .bad
def tr2 (_ _ : Int) : Bool := true
def subP := ii tr2 fun i j => .int (i - j)
def cMul (i j : Int) : Bool := (decide (-(2 ^ 64) < i) && decide (i < 2 ^ 64)) || (decide (-(2 ^ 64) < j) && decide (j < 2 ^ 64))
def repD (xs : List D) (k : Int) : List D := (List.replicate k.toNat xs).flatten
def mulP : D → D → Res D
  | .int i, .int j => if cMul i j then .ok (.int (i * j)) else .bad
  | .lst xs, .int k => if decide (-(2 ^ 63) ≤ k) && decide (k < 2 ^ 63) && small (xs.length * k.toNat) then .ok (.lst (repD xs k)) else .bad
  | .tup xs, .int k => if !xs.isEmpty && decide (1 ≤ k) && decide (k ≤ 1000) && decide (xs.length ≤ 1000) then .ok (.tup (repD xs k)) else .bad
  | _, _ => .bad
def fdivP := ii (fun _ j => decide (j ≠ 0) && decide (j.natAbs < 1073741824)) fun i j => .int (i.fdiv j)
def modP := ii (fun _ j => decide (j ≠ 0)) fun i j => .int (i.fmod j)
def powP := ii (fun i j => decide (0 ≤ j) && decide (j ≤ 1000000) && decide (i.natAbs < 2 ^ 64)) fun i j => .int (i ^ j.toNat)
def ltP := ii tr2 fun i j => .bl (decide (i < j))
def leP := ii tr2 fun i j => .bl (decide (i ≤ j))
def gtP := ii tr2 fun i j => .bl (decide (j < i))
def geP := ii tr2 fun i j => .bl (decide (j ≤ i))
def negP : D → Res D
  | .int i => .ok (.int (-i))
  | _ => .bad
mutual
/-- as data of the library, what can be -/
def D.py : D → Option PyData
  | .non => some .none
  | .bl b => some (.bool b)
  | .int i => some (.int i)
  | .str x => some (.str x)
  | .lst xs => (D.pys xs).map .list
  | .tup xs => (D.pys xs).map .tuple
  | .ins _ _ => none
  | .dic _ => none
  | .oth _ => none
  | .exc _ _ => none
def D.pys : List D → Option (List PyData)
  | [] => some []
  | d :: r => match D.py d, D.pys r with
    | some x, some y => some (x :: y)
    | _, _ => none
end
def eqP (a b : D) : Res D := match a.py, b.py with
  | some x, some y => if SeqAt.shaped x && SeqAt.shaped y then .ok (.bl (PyData.eqv x y)) else .bad
  | _, _ => .bad
def neP (a b : D) : Res D := match a.py, b.py with
  | some x, some y => if SeqAt.shaped x && SeqAt.shaped y then .ok (.bl (!PyData.eqv x y)) else .bad
  | _, _ => .bad
def isNon : D → Bool
  | .non => true
  | _ => false
def isOth : D → Bool
  | .oth _ => true
  | _ => false
def isNP (a b : D) : Res D := match b with
  | .non => if isOth a then .bad else .ok (.bl (isNon a))
  | _ => .bad
def notNP (a b : D) : Res D := match b with
  | .non => if isOth a then .bad else .ok (.bl (!isNon a))
  | _ => .bad
/-- is True, is False -/
def isBP (neg : Bool) (a b : D) : Res D := match b, a with
  | .bl c, .bl d => .ok (.bl (if neg then !(d == c) else d == c))
  | .bl _, .oth _ => .bad
  | .bl _, _ => .ok (.bl neg)
  | _, _ => .bad
def ixD (xs : List D) (i : Int) : Res D := match atI xs i with
  | some d => .ok d
  | none => .bad
def ixP : D → D → Res D
  | .lst xs, .int i => ixD xs i
  | .tup xs, .int i => ixD xs i
  | .str z, .int i => if small z.length then (match atI z.cps.toList i with
    | some c => .ok (.str ⟨#[c]⟩)
    | none => .bad) else .bad
  | _, _ => .bad
def lenP : List D → Res D
  | [.lst xs] => .ok (.int (xs.length : Nat))
  | [.tup xs] => .ok (.int (xs.length : Nat))
  | [.str z] => if small z.length then .ok (.int (z.length : Nat)) else .bad
  | _ => .bad
def absP : List D → Res D
  | [.int i] => .ok (.int (if i < 0 then -i else i))
  | _ => .bad
def maxP : List D → Res D
  | [.int i, .int j] => .ok (.int (if j > i then j else i))
  | _ => .bad
def minP : List D → Res D
  | [.int i, .int j] => .ok (.int (if j < i then j else i))
  | _ => .bad
def intP : List D → Res D
  | [.int i] => .ok (.int i)
  | [.bl k] => .ok (.int (if k then 1 else 0))
  | _ => .bad
def tupP : List D → Res D
  | [.lst xs] => .ok (.tup xs)
  | [.tup xs] => .ok (.tup xs)
  | _ => .bad
def blsOf : List D → Option (List Bool)
  | [] => some []
  | .bl b :: r => (blsOf r).map (b :: ·)
  | _ => none
def intsOf : List D → Option (List Int)
  | [] => some []
  | .int b :: r => (intsOf r).map (b :: ·)
  | _ => none
def allP : List D → Res D
  | [.lst xs] => match blsOf xs with
    | some bs => .ok (.bl (bs.all id))
    | none => .bad
  | _ => .bad
def anyP : List D → Res D
  | [.lst xs] => match blsOf xs with
    | some bs => .ok (.bl (bs.any id))
    | none => .bad
  | _ => .bad
def sumP : List D → Res D
  | [.lst xs] => match intsOf xs with
    | some bs => .ok (.int bs.sum)
    | none => .bad
  | _ => .bad
end Pl
namespace Pl
open PySem PySem.Spec PyProof.Rows L2 Rp
section
variable {G : Cx} {S S' : Addr → Prop} {H H' : Hp} {x y : V} {a b : D} {Q : VK}
theorem PoD.ok {d : D} {r : Res D} (h : PoD G S H Q r) (e : r = .ok d) : ∀ H' v, Same H H' → Vd G S H' v d → Q v H' := by rw [e] at h; exact h
theorem PoD.ite {c : Bool} {r : Res D} (h : PoD G S H Q (if c = true then r else .bad)) : c = true ∧ PoD G S H Q r := by
  cases c with
  | true => exact ⟨rfl, h⟩
  | false => exact h.elim
theorem KT.sq {K : PySem.W.Frag} {p : Addr} {xs : List V} (h : KT K p xs) : SqT K H p xs := .inr h
theorem Live.new (l : Live S H) {p : Addr} (h : H p = none) : ¬ S p := fun z => by
  obtain ⟨o, e⟩ := l p z
  rw [h] at e
  cases e
/-- a new list, a new tuple -/
theorem PoD.lst (l : Live S H) {ds : List D} {us : List V} (h : PoD G S H Q (.ok (.lst ds))) (v : VdA G S H us ds) : ∀ p, H p = none → Q (.ref p) (upd H p (.lst us)) := fun p hp =>
  h _ _ (same_neu (Same.refl H) hp) (.lst (l.new hp) upd_same (v.tr (Tr.neu hp)))
theorem PoD.tup (l : Live S H) {ds : List D} {us : List V} (h : PoD G S H Q (.ok (.tup ds))) (v : VdA G S H us ds) : ∀ p, H p = none → Q (.ref p) (upd H p (.tup us)) := fun p hp =>
  h _ _ (same_neu (Same.refl H) hp) (.tup (l.new hp) upd_same (v.tr (Tr.neu hp)))
theorem Vd.sqT {ds : List D} (h : Vd G S H x (.tup ds)) : ∃ p us, x = .ref p ∧ SqT G.K H p us ∧ VdA G S H us ds := by
  cases h with
  | tup n e h => exact ⟨_, _, rfl, SqT.of e, h⟩
  | ktp e h => exact ⟨_, _, rfl, e.sq, h⟩
theorem Vd.sqL {ds : List D} (h : Vd G S H x (.lst ds)) : ∃ p us, x = .ref p ∧ H p = some (.lst us) ∧ ¬ S p ∧ VdA G S H us ds := by
  cases h with
  | lst n e h => exact ⟨_, _, rfl, e, n, h⟩
theorem mr_add : MR G (rAddG G.K) addP := fun S H x y a b Q l va vb h => by
  match a, b, va, vb, h with
  | .int i, .int j, .int _, .int _, h => exact .inl ⟨i, j, rfl, rfl, h H _ (Same.refl H) (.int _)⟩
  | .lst xs, .lst ys, va, vb, h =>
    obtain ⟨p, us, rfl, e1, _, v1⟩ := va.sqL
    obtain ⟨q, vs, rfl, e2, _, v2⟩ := vb.sqL
    obtain ⟨z, h⟩ := PoD.ite h
    exact .inr (.inl ⟨_, _, _, _, rfl, rfl, e1, e2, by rw [v1.len, v2.len]; exact of_decide_eq_true z, h.lst l (v1.app v2)⟩)
  | .tup xs, .tup ys, va, vb, h =>
    obtain ⟨p, us, rfl, e1, v1⟩ := va.sqT
    obtain ⟨q, vs, rfl, e2, v2⟩ := vb.sqT
    obtain ⟨z, h⟩ := PoD.ite h
    refine .inr (.inr ⟨_, _, _, _, rfl, rfl, e1, e2, by rw [v1.len, v2.len]; exact of_decide_eq_true z, ?_⟩)
    refine ⟨fun e => ?_, fun n e => ?_, fun _ _ => h.tup l (v1.app v2)⟩
    · subst e
      cases v1
      exact h H _ (Same.refl H) vb
    · subst e
      cases v2
      rw [List.append_nil] at h
      exact h H _ (Same.refl H) va
  | .non, _, _, _, h => exact h.elim
  | .bl _, _, _, _, h => exact h.elim
  | .str _, _, _, _, h => exact h.elim
  | .ins _ _, _, _, _, h => exact h.elim
  | .dic _, _, _, _, h => exact h.elim
  | .oth _, _, _, _, h => exact h.elim
  | .exc _ _, _, _, _, h => exact h.elim
  | .int _, .non, _, _, h => exact h.elim
  | .int _, .bl _, _, _, h => exact h.elim
  | .int _, .str _, _, _, h => exact h.elim
  | .int _, .lst _, _, _, h => exact h.elim
  | .int _, .tup _, _, _, h => exact h.elim
  | .int _, .ins _ _, _, _, h => exact h.elim
  | .int _, .dic _, _, _, h => exact h.elim
  | .int _, .oth _, _, _, h => exact h.elim
  | .int _, .exc _ _, _, _, h => exact h.elim
  | .lst _, .non, _, _, h => exact h.elim
  | .lst _, .bl _, _, _, h => exact h.elim
  | .lst _, .str _, _, _, h => exact h.elim
  | .lst _, .int _, _, _, h => exact h.elim
  | .lst _, .tup _, _, _, h => exact h.elim
  | .lst _, .ins _ _, _, _, h => exact h.elim
  | .lst _, .dic _, _, _, h => exact h.elim
  | .lst _, .oth _, _, _, h => exact h.elim
  | .lst _, .exc _ _, _, _, h => exact h.elim
  | .tup _, .non, _, _, h => exact h.elim
  | .tup _, .bl _, _, _, h => exact h.elim
  | .tup _, .str _, _, _, h => exact h.elim
  | .tup _, .int _, _, _, h => exact h.elim
  | .tup _, .lst _, _, _, h => exact h.elim
  | .tup _, .ins _ _, _, _, h => exact h.elim
  | .tup _, .dic _, _, _, h => exact h.elim
  | .tup _, .oth _, _, _, h => exact h.elim
  | .tup _, .exc _ _, _, _, h => exact h.elim
theorem ii_of {C : Int → Int → Bool} {g : Int → Int → D} (va : Vd G S H x a) (vb : Vd G S H y b) (h : PoD G S H Q (ii C g a b)) : ∃ i j, a = .int i ∧ b = .int j ∧ x = .int i ∧ y = .int j ∧ C i j = true ∧ PoD G S H Q (.ok (g i j)) := by
  cases va with
  | int i => cases vb with
    | int j =>
      obtain ⟨z, h⟩ := PoD.ite (c := C i j) h
      exact ⟨i, j, rfl, rfl, rfl, rfl, z, h⟩
    | _ => exact h.elim
  | _ => exact h.elim
theorem mr_ii {C : Int → Int → Bool} {g : Int → Int → D} {P : Int → Int → Prop} {u : Int → Int → V} (hC : ∀ i j, C i j = true → P i j) (hu : ∀ i j (S : Addr → Prop) (H : Hp), Vd G S H (u i j) (g i j)) : MR G (rI P u) (ii C g) := fun S H x y a b Q l va vb h => by
  obtain ⟨i, j, rfl, rfl, rfl, rfl, z, h⟩ := ii_of va vb h
  exact ⟨i, j, rfl, rfl, hC i j z, h H _ (Same.refl H) (hu i j S H)⟩
theorem mr_ii0 {g : Int → Int → D} {u : Int → Int → V} (hu : ∀ i j (S : Addr → Prop) (H : Hp), Vd G S H (u i j) (g i j)) : MR G (rI0 u) (ii tr2 g) := fun S H x y a b Q l va vb h => by
  obtain ⟨i, j, rfl, rfl, rfl, rfl, z, h⟩ := ii_of va vb h
  exact ⟨i, j, rfl, rfl, h H _ (Same.refl H) (hu i j S H)⟩
theorem mr_sub : MR G (rI0 fun i j => .int (i - j)) subP := mr_ii0 fun _ _ _ _ => .int _
theorem mr_fdiv : MR G (rI CDivN fun i j => .int (i.fdiv j)) fdivP := mr_ii (fun i j z => by rw [Bool.and_eq_true] at z; exact ⟨of_decide_eq_true z.1, of_decide_eq_true z.2⟩) fun _ _ _ _ => .int _
theorem mr_mod : MR G (rI (fun _ j => j ≠ 0) fun i j => .int (i.fmod j)) modP := mr_ii (fun i j z => of_decide_eq_true z) fun _ _ _ _ => .int _
theorem mr_pow : MR G (rI CPow fun i j => .int (i ^ j.toNat)) powP := mr_ii (fun i j z => by rw [Bool.and_eq_true, Bool.and_eq_true] at z; exact ⟨of_decide_eq_true z.1.1, of_decide_eq_true z.1.2, of_decide_eq_true z.2⟩) fun _ _ _ _ => .int _
theorem mr_lt : MR G (rI0 fun i j => .bl (decide (i < j))) ltP := mr_ii0 fun _ _ _ _ => .bl _
theorem mr_le : MR G (rI0 fun i j => .bl (decide (i ≤ j))) leP := mr_ii0 fun _ _ _ _ => .bl _
theorem mr_gt : MR G (rI0 fun i j => .bl (decide (j < i))) gtP := mr_ii0 fun _ _ _ _ => .bl _
theorem mr_ge : MR G (rI0 fun i j => .bl (decide (j ≤ i))) geP := mr_ii0 fun _ _ _ _ => .bl _
end
end Pl
namespace Pl
open PySem PySem.Spec PyProof.Rows L2 Rp
section
variable {G : Cx} {S S' : Addr → Prop} {H H' : Hp} {x y : V} {a b : D} {Q : VK}
theorem VdA.rep {us : List V} {ds : List D} (h : VdA G S H us ds) : ∀ n : Nat, VdA G S H (List.replicate n us).flatten (List.replicate n ds).flatten
  | 0 => .nil
  | n + 1 => by
    rw [List.replicate_succ, List.replicate_succ, List.flatten_cons, List.flatten_cons]
    exact h.app (VdA.rep h n)
theorem mul_tup {ds : List D} (l : Live S H) (va : Vd G S H x (.tup ds)) (vb : Vd G S H y b) (h : PoD G S H Q (mulP (.tup ds) b)) : rMulG G.K x y H Q := by
  cases vb with
  | int k =>
    obtain ⟨p, us, rfl, e, hv⟩ := va.sqT
    obtain ⟨z, h⟩ := PoD.ite h
    rw [Bool.and_eq_true, Bool.and_eq_true, Bool.and_eq_true] at z
    have z1 := of_decide_eq_true z.1.1.2
    by_cases k1 : k = 1
    · subst k1
      refine .inr (.inr (.inl ⟨_, _, rfl, rfl, e, ?_⟩))
      have er : repD ds 1 = ds := by unfold repD; simp
      rw [er] at h
      exact h H _ (Same.refl H) va
    · refine .inr (.inr (.inr ⟨_, _, _, rfl, rfl, e, fun w => ?_, by omega, of_decide_eq_true z.1.2, by rw [hv.len]; exact of_decide_eq_true z.2, h.tup l (hv.rep _)⟩))
      have := hv.len
      rw [w] at this
      have z2 := z.1.1.1
      rw [List.length_eq_zero_iff.mp this.symm] at z2
      cases z2
  | _ => exact h.elim
theorem mr_mul : MR G (rMulG G.K) mulP := fun S H x y a b Q l va vb h => by
  cases va with
  | int i => cases vb with
    | int j =>
      obtain ⟨z, h⟩ := PoD.ite (c := cMul i j) h
      refine .inl ⟨i, j, rfl, rfl, ?_, h H _ (Same.refl H) (.int _)⟩
      unfold cMul at z
      simpa [CMul] using z
    | _ => exact h.elim
  | lst n e hv => cases vb with
    | int k =>
      obtain ⟨z, h⟩ := PoD.ite h
      rw [Bool.and_eq_true, Bool.and_eq_true] at z
      refine .inr (.inl ⟨_, _, _, rfl, rfl, e, of_decide_eq_true z.1.1, of_decide_eq_true z.1.2, by rw [hv.len]; exact of_decide_eq_true z.2, ?_⟩)
      exact h.lst l (hv.rep _)
    | _ => exact h.elim
  | tup n e hv => exact mul_tup l (.tup n e hv) vb h
  | ktp e hv => exact mul_tup l (.ktp e hv) vb h
  | _ => exact h.elim
theorem mu_neg : MU G (rU fun i => .int (-i)) negP := fun S H x a Q l va h => by
  cases va with
  | int i => exact ⟨i, rfl, h H _ (Same.refl H) (.int _)⟩
  | _ => exact h.elim
mutual
theorem Vd.dp : ∀ {v : V} {d : D} {p : PyData}, Vd G S H v d → d.py = some p → Dp G.K H v p
  | _, _, _, .non, e => by cases e; exact .non
  | _, _, _, .bl b, e => by cases e; exact .bl b
  | _, _, _, .int i, e => by cases e; exact .int i
  | _, _, _, .str x, e => by cases e; exact .str x
  | _, _, _, .lst (ds := ds) n e h, q => by
    unfold D.py at q
    cases r : D.pys ds with
    | none => rw [r] at q; cases q
    | some y => rw [r] at q; cases q; exact .lst (SqL.of e) (VdA.dp h r)
  | _, _, _, .tup (ds := ds) n e h, q => by
    unfold D.py at q
    cases r : D.pys ds with
    | none => rw [r] at q; cases q
    | some y => rw [r] at q; cases q; exact .tup (SqT.of e) (VdA.dp h r)
  | _, _, _, .ktp (ds := ds) e h, q => by
    unfold D.py at q
    cases r : D.pys ds with
    | none => rw [r] at q; cases q
    | some y => rw [r] at q; cases q; exact .tup e.sq (VdA.dp h r)
  | _, _, _, .ins _ n e h, q => by cases q
  | _, _, _, .dic n e h, q => by cases q
  | _, _, _, .oth v, q => by cases q
  | _, _, _, .exc _ _ _ _ _ _, q => by cases q
theorem VdA.dp : ∀ {vs : List V} {ds : List D} {ps : List PyData}, VdA G S H vs ds → D.pys ds = some ps → DpAll G.K H vs ps
  | _, _, _, .nil, e => by cases e; exact .nil
  | _, _, _, .cons (d := d) (ds := ds) h t, e => by
    unfold D.pys at e
    cases r : D.py d with
    | none => rw [r] at e; cases e
    | some y =>
      cases r2 : D.pys ds with
      | none => rw [r, r2] at e; cases e
      | some z => rw [r, r2] at e; cases e; exact .cons (Vd.dp h r) (VdA.dp t r2)
end
mutual
theorem Vd.dd : ∀ {v : V} {d : D} {p : PyData}, Vd G S H v d → d.py = some p → Dd G.K H v p
  | _, _, _, .non, e => by cases e; exact .non
  | _, _, _, .bl b, e => by cases e; exact .bl b
  | _, _, _, .int i, e => by cases e; exact .num i
  | _, _, _, .str x, e => by cases e; exact .str x
  | _, _, _, .lst (ds := ds) n e h, q => by
    unfold D.py at q
    cases r : D.pys ds with
    | none => rw [r] at q; cases q
    | some y => rw [r] at q; cases q; exact .lst (SqL.of e) (VdA.dd h r)
  | _, _, _, .tup (ds := ds) n e h, q => by
    unfold D.py at q
    cases r : D.pys ds with
    | none => rw [r] at q; cases q
    | some y => rw [r] at q; cases q; exact .tup (SqT.of e) (VdA.dd h r)
  | _, _, _, .ktp (ds := ds) e h, q => by
    unfold D.py at q
    cases r : D.pys ds with
    | none => rw [r] at q; cases q
    | some y => rw [r] at q; cases q; exact .tup e.sq (VdA.dd h r)
  | _, _, _, .ins _ n e h, q => by cases q
  | _, _, _, .dic n e h, q => by cases q
  | _, _, _, .oth v, q => by cases q
  | _, _, _, .exc _ _ _ _ _ _, q => by cases q
theorem VdA.dd : ∀ {vs : List V} {ds : List D} {ps : List PyData}, VdA G S H vs ds → D.pys ds = some ps → DdAll G.K H vs ps
  | _, _, _, .nil, e => by cases e; exact .nil
  | _, _, _, .cons (d := d) (ds := ds) h t, e => by
    unfold D.pys at e
    cases r : D.py d with
    | none => rw [r] at e; cases e
    | some y =>
      cases r2 : D.pys ds with
      | none => rw [r, r2] at e; cases e
      | some z => rw [r, r2] at e; cases e; exact .cons (Vd.dd h r) (VdA.dd t r2)
end
theorem mr_eq : MR G (rEqD G.K) eqP := fun S H x y a b Q l va vb h => by
  unfold eqP at h
  split at h
  · next p q e1 e2 =>
    obtain ⟨z, h⟩ := PoD.ite h
    rw [Bool.and_eq_true] at z
    exact ⟨p, q, va.dp e1, vb.dp e2, z.1, z.2, h H _ (Same.refl H) (.bl _)⟩
  · exact h.elim
theorem mr_ne : MR G (rNeD G.K) neP := fun S H x y a b Q l va vb h => by
  unfold neP at h
  split at h
  · next p q e1 e2 =>
    obtain ⟨z, h⟩ := PoD.ite h
    rw [Bool.and_eq_true] at z
    exact ⟨p, q, va.dp e1, vb.dp e2, z.1, z.2, h H _ (Same.refl H) (.bl _)⟩
  · exact h.elim
theorem Vd.isNon (va : Vd G S H x a) (o : isOth a = false) : decide (x = .non) = isNon a := by
  cases va with
  | oth v => cases o
  | _ => rfl
theorem mr_isN : MR G (fun x y H Q => y = .non ∧ Q (.bl (decide (x = .non))) H) isNP := fun S H x y a b Q l va vb h => by
  cases vb with
  | non =>
    unfold isNP at h
    dsimp only at h
    cases o : isOth a with
    | true => rw [o, if_pos rfl] at h; exact h.elim
    | false =>
      rw [o, if_neg (by decide)] at h
      refine ⟨rfl, ?_⟩
      rw [va.isNon o]
      exact h H _ (Same.refl H) (.bl _)
  | _ => exact h.elim
theorem mr_notN : MR G (fun x y H Q => y = .non ∧ Q (.bl (!decide (x = .non))) H) notNP := fun S H x y a b Q l va vb h => by
  cases vb with
  | non =>
    unfold notNP at h
    dsimp only at h
    cases o : isOth a with
    | true => rw [o, if_pos rfl] at h; exact h.elim
    | false =>
      rw [o, if_neg (by decide)] at h
      refine ⟨rfl, ?_⟩
      rw [va.isNon o]
      exact h H _ (Same.refl H) (.bl _)
  | _ => exact h.elim
theorem mr_isB (neg : Bool) : MR G (rIsAny neg) (isBP neg) := fun S H x y a b Q l va vb h => by
  cases vb with
  | bl c =>
    refine ⟨c, rfl, ?_⟩
    cases va with
    | bl d =>
      have h' := h H _ (Same.refl H) (.bl _)
      have e : decide (V.bl d = V.bl c) = (d == c) := by cases d <;> cases c <;> rfl
      rw [e]
      exact h'
    | oth v => exact h.elim
    | _ => cases neg <;> exact h H _ (Same.refl H) (.bl _)
  | _ => cases va <;> exact h.elim
theorem VdA.atI {us : List V} {ds : List D} {i : Int} {d : D} (h : VdA G S H us ds) (e : L2.atI ds i = some d) : ∃ v, L2.atI us i = some v ∧ Vd G S H v d := by
  unfold L2.atI at e ⊢
  rw [h.len]
  cases r : ixN ds.length i with
  | none => rw [r] at e; cases e
  | some j =>
    rw [r] at e
    obtain ⟨v, e1, hv⟩ := h.get (show ds[j]? = some d from e)
    exact ⟨v, e1, hv⟩
theorem mr_ix : MR G (rIx G.K) ixP := fun S H x y a b Q l va vb h => by
  cases vb with
  | int i =>
    cases va with
    | lst n e hv =>
      have h' : PoD G S H Q (ixD _ i) := h
      unfold ixD at h'
      split at h'
      · next d e2 =>
        obtain ⟨v, e3, hd⟩ := hv.atI e2
        exact .inl ⟨_, _, i, v, rfl, rfl, SqL.of e, e3, h' H v (Same.refl H) hd⟩
      · exact h'.elim
    | tup n e hv =>
      have h' : PoD G S H Q (ixD _ i) := h
      unfold ixD at h'
      split at h'
      · next d e2 =>
        obtain ⟨v, e3, hd⟩ := hv.atI e2
        exact .inr (.inl ⟨_, _, i, v, rfl, rfl, SqT.of e, e3, h' H v (Same.refl H) hd⟩)
      · exact h'.elim
    | ktp e hv =>
      have h' : PoD G S H Q (ixD _ i) := h
      unfold ixD at h'
      split at h'
      · next d e2 =>
        obtain ⟨v, e3, hd⟩ := hv.atI e2
        exact .inr (.inl ⟨_, _, i, v, rfl, rfl, e.sq, e3, h' H v (Same.refl H) hd⟩)
      · exact h'.elim
    | str z =>
      obtain ⟨z1, h'⟩ := PoD.ite (c := small z.length) h
      split at h'
      · next c e2 => exact .inr (.inr ⟨z, i, c, rfl, rfl, of_decide_eq_true z1, e2, h' H _ (Same.refl H) (.str _)⟩)
      · exact h'.elim
    | _ => exact h.elim
  | _ => cases va <;> exact h.elim
/-! ### builtins -/
theorem VdA.one1 {vs : List V} (h : VdA G S H vs [a]) : ∃ v, vs = [v] ∧ Vd G S H v a := by
  cases h with
  | cons h t => cases t; exact ⟨_, rfl, h⟩
theorem VdA.two {vs : List V} (h : VdA G S H vs [a, b]) : ∃ v w, vs = [v, w] ∧ Vd G S H v a ∧ Vd G S H w b := by
  cases h with
  | cons h t => cases t with
    | cons h2 t => cases t; exact ⟨_, _, rfl, h, h2⟩
theorem mb_len : MB G (fun xs H Q => ∃ x n, xs = [x] ∧ LenV G.K x H n ∧ Q (.int n) H) lenP := fun S H x a Q l va h => by
  unfold lenP at h
  split at h
  · obtain ⟨v, rfl, hv⟩ := va.one1
    cases hv with
    | lst n e hv => exact ⟨_, _, rfl, .inl ⟨_, SqL.of e, hv.len.symm⟩, h H _ (Same.refl H) (.int _)⟩
  · obtain ⟨v, rfl, hv⟩ := va.one1
    obtain ⟨p, us, rfl, e, hv⟩ := hv.sqT
    exact ⟨_, _, rfl, .inr ⟨_, e, hv.len.symm⟩, h H _ (Same.refl H) (.int _)⟩
  · obtain ⟨v, rfl, hv⟩ := va.one1
    cases hv with
    | str z =>
      obtain ⟨z1, h'⟩ := PoD.ite h
      exact ⟨_, _, rfl, ⟨of_decide_eq_true z1, rfl⟩, h' H _ (Same.refl H) (.int _)⟩
  · exact h.elim
theorem mb_abs : MB G (fun xs H Q => ∃ i, xs = [.int i] ∧ Q (.int (if i < 0 then -i else i)) H) absP := fun S H x a Q l va h => by
  unfold absP at h
  split at h
  · obtain ⟨v, rfl, hv⟩ := va.one1
    cases hv
    exact ⟨_, rfl, h H _ (Same.refl H) (.int _)⟩
  · exact h.elim
theorem mb_max : MB G (fun xs H Q => ∃ i j, xs = [.int i, .int j] ∧ Q (.int (if j > i then j else i)) H) maxP := fun S H x a Q l va h => by
  unfold maxP at h
  split at h
  · obtain ⟨v, w, rfl, hv, hw⟩ := va.two
    cases hv
    cases hw
    exact ⟨_, _, rfl, h H _ (Same.refl H) (.int _)⟩
  · exact h.elim
theorem mb_min : MB G (fun xs H Q => ∃ i j, xs = [.int i, .int j] ∧ Q (.int (if j < i then j else i)) H) minP := fun S H x a Q l va h => by
  unfold minP at h
  split at h
  · obtain ⟨v, w, rfl, hv, hw⟩ := va.two
    cases hv
    cases hw
    exact ⟨_, _, rfl, h H _ (Same.refl H) (.int _)⟩
  · exact h.elim
theorem mb_int : MB G (fun xs H Q => (∃ i, xs = [.int i] ∧ Q (.int i) H) ∨ ∃ k, xs = [.bl k] ∧ Q (.int (if k then 1 else 0)) H) intP := fun S H x a Q l va h => by
  unfold intP at h
  split at h
  · obtain ⟨v, rfl, hv⟩ := va.one1
    cases hv
    exact .inl ⟨_, rfl, h H _ (Same.refl H) (.int _)⟩
  · obtain ⟨v, rfl, hv⟩ := va.one1
    cases hv
    exact .inr ⟨_, rfl, h H _ (Same.refl H) (.int _)⟩
  · exact h.elim
theorem mb_tup : MB G (rTupOf G.K) tupP := fun S H x a Q l va h => by
  unfold tupP at h
  split at h
  · obtain ⟨v, rfl, hv⟩ := va.one1
    cases hv with
    | lst n e hv => exact ⟨_, _, rfl, .inl ⟨SqL.of e, h.tup l hv⟩⟩
  · obtain ⟨v, rfl, hv⟩ := va.one1
    obtain ⟨p, us, rfl, e, _⟩ := hv.sqT
    exact ⟨_, _, rfl, .inr ⟨e, h H _ (Same.refl H) hv⟩⟩
  · exact h.elim
theorem bls_of : ∀ {us : List V} {ds : List D} {bs : List Bool}, VdA G S H us ds → blsOf ds = some bs → us = bs.map V.bl
  | _, _, _, .nil, e => by cases e; rfl
  | _, _, _, .cons (ds := r) h t, e => by
    cases h with
    | bl b =>
      unfold blsOf at e
      cases q : blsOf r with
      | none => rw [q] at e; cases e
      | some z => rw [q] at e; cases e; rw [List.map_cons, bls_of t q]
    | _ => cases e
theorem ints_of : ∀ {us : List V} {ds : List D} {bs : List Int}, VdA G S H us ds → intsOf ds = some bs → us = bs.map V.int
  | _, _, _, .nil, e => by cases e; rfl
  | _, _, _, .cons (ds := r) h t, e => by
    cases h with
    | int b =>
      unfold intsOf at e
      cases q : intsOf r with
      | none => rw [q] at e; cases e
      | some z => rw [q] at e; cases e; rw [List.map_cons, ints_of t q]
    | _ => cases e
theorem mb_all : MB G (rAll G.K) allP := fun S H x a Q l va h => by
  unfold allP at h
  split at h
  · obtain ⟨v, rfl, hv⟩ := va.one1
    obtain ⟨p, us, rfl, e, _, hv⟩ := hv.sqL
    split at h
    · next bs q =>
      rw [bls_of hv q] at e
      exact ⟨_, _, rfl, SqL.of e, h H _ (Same.refl H) (.bl _)⟩
    · exact h.elim
  · exact h.elim
theorem mb_any : MB G (rAny G.K) anyP := fun S H x a Q l va h => by
  unfold anyP at h
  split at h
  · obtain ⟨v, rfl, hv⟩ := va.one1
    obtain ⟨p, us, rfl, e, _, hv⟩ := hv.sqL
    split at h
    · next bs q =>
      rw [bls_of hv q] at e
      exact ⟨_, _, rfl, SqL.of e, h H _ (Same.refl H) (.bl _)⟩
    · exact h.elim
  · exact h.elim
theorem mb_sum : MB G (rSum G.K) sumP := fun S H x a Q l va h => by
  unfold sumP at h
  split at h
  · obtain ⟨v, rfl, hv⟩ := va.one1
    obtain ⟨p, us, rfl, e, _, hv⟩ := hv.sqL
    split at h
    · next bs q =>
      rw [ints_of hv q] at e
      exact ⟨_, _, rfl, SqL.of e, h H _ (Same.refl H) (.int _)⟩
    · exact h.elim
  · exact h.elim
end
end Pl
namespace Pl
open PySem PySem.Spec PyProof.Rows L2 Rp
/-! ### slices -/
def MO (G : Cx) (E : XK) (t : TO) (p : PS → Res (Option Int × PS)) : Prop := ∀ (F : Fr) (S : Addr → Prop) (s : PS) (σ : L2.St) (H : Hp) (Q : Option Int → Hp → Prop), Sim G F S s σ H →
  Po G F E (fun x => ∀ S' H', Tr S H S' H' → Sim G F S' x.2 σ H' → Q x.1 H') (p s) → t σ H Q
def pNoP : PS → Res (Option Int × PS) := fun s => .ok (none, s)
def pPart (a : EF) : PS → Res (Option Int × PS) := fun s => (a s).bind fun x => match x.1 with
  | .int i => .ok (some i, x.2)
  | _ => .bad
def cutD (xs : List D) (lo hi : Option Int) : List D := (xs.drop (HT.sIx xs.length 0 lo)).take (HT.sIx xs.length xs.length hi - HT.sIx xs.length 0 lo)
def pSl (a : EF) (lo hi : PS → Res (Option Int × PS)) : EF := fun s => (a s).bind fun x => (lo x.2).bind fun l => (hi l.2).bind fun u => match x.1 with
  | .lst xs => .ok (.lst (cutD xs l.1 u.1), u.2)
  | .tup xs => .ok (.tup (cutD xs l.1 u.1), u.2)
  | _ => .bad
/-- the same, of a list: a list of one's own -/
def pSlF (a : EF) (lo hi : PS → Res (Option Int × PS)) : LF := fun s => (a s).bind fun x => (lo x.2).bind fun l => (hi l.2).bind fun u => match x.1 with
  | .lst xs => .ok (cutD xs l.1 u.1, u.2)
  | _ => .bad
section
variable {G : Cx} {E : XK} {F : Fr} {S S' : Addr → Prop} {H H' : Hp} {s : PS} {σ : L2.St} {x y : V} {a b : D} {Q : VK} {ta tb tc : TE} {pa pb pc : EF} {tl : TA} {pl pm : LF}
theorem m_noP : MO G E tNoPart pNoP := fun F S s σ H Q I h => h S H Tr.refl I
theorem m_part (ha : ME G E ta pa) : MO G E (tPart ta) (pPart pa) := fun F S s σ H Q I h =>
  ha F S s σ H _ I (h.bind.mono fun x hx S' H' v t I' vd => by
    obtain ⟨d, s'⟩ := x
    cases vd with
    | int i => exact ⟨i, rfl, hx S' H' t I'⟩
    | _ => exact hx.elim)
theorem VdA.cut {us : List V} {ds : List D} (h : VdA G S H us ds) (lo hi : Option Int) : VdA G S H (cutV us lo hi) (cutD ds lo hi) := by
  unfold cutV cutD
  rw [h.len]
  exact (h.drop _).take _
theorem cutD_whole {ds : List D} {lo hi : Option Int} (h : HT.sIx ds.length 0 lo = 0 ∧ HT.sIx ds.length ds.length hi = ds.length) : cutD ds lo hi = ds := by
  unfold cutD
  rw [h.1, h.2, List.drop_zero, Nat.sub_zero, List.take_length]
theorem m_sl {tlo thi : TO} {plo phi : PS → Res (Option Int × PS)} (ha : ME G E ta pa) (hl : MO G E tlo plo) (hh : MO G E thi phi) : ME G E (tSl (rSlG G.K) ta tlo thi) (pSl pa plo phi) := fun F S s σ H Q I h =>
  ha F S s σ H _ I (h.bind.mono fun x hx S1 H1 v t1 I1 vd => hl F S1 x.2 σ H1 _ I1 (hx.bind.mono fun l hl2 S2 H2 t2 I2 => hh F S2 l.2 σ H2 _ I2 (hl2.bind.mono fun u hu S3 H3 t3 I3 => by
    have vd := vd.tr (t2.trans t3)
    obtain ⟨d, s'⟩ := x
    match d, vd, hu with
    | .lst ds, vd, hu =>
      obtain ⟨p, us, rfl, e, _, hv⟩ := vd.sqL
      exact .inl ⟨p, us, rfl, SqL.of e, fun p hp => hu S3 _ _ ((t1.trans (t2.trans t3)).trans (Tr.neu hp)) (I3.neu hp) (.lst (I3.new hp) upd_same ((hv.cut _ _).tr (Tr.neu hp)))⟩
    | .tup ds, vd, hu =>
      obtain ⟨p, us, rfl, e, hv⟩ := vd.sqT
      refine .inr ⟨p, us, rfl, e, fun w => ?_, fun _ p hp => hu S3 _ _ ((t1.trans (t2.trans t3)).trans (Tr.neu hp)) (I3.neu hp) (.tup (I3.new hp) upd_same ((hv.cut _ _).tr (Tr.neu hp)))⟩
      have k := hu S3 H3 (.ref p) (t1.trans (t2.trans t3)) I3
      rw [hv.len] at w
      dsimp only at k
      rw [cutD_whole w] at k
      exact k vd
    | .non, _, hu => exact hu.elim
    | .bl _, _, hu => exact hu.elim
    | .int _, _, hu => exact hu.elim
    | .str _, _, hu => exact hu.elim
    | .ins _ _, _, hu => exact hu.elim
    | .dic _, _, hu => exact hu.elim
    | .oth _, _, hu => exact hu.elim
    | .exc _ _, _, hu => exact hu.elim)))
theorem m_slF {tlo thi : TO} {plo phi : PS → Res (Option Int × PS)} (ha : ME G E ta pa) (hl : MO G E tlo plo) (hh : MO G E thi phi) : MF G E (tSl (rSlG G.K) ta tlo thi) (pSlF pa plo phi) := fun F S s σ H Q I h =>
  ha F S s σ H _ I (h.bind.mono fun x hx S1 H1 v t1 I1 vd => hl F S1 x.2 σ H1 _ I1 (hx.bind.mono fun l hl2 S2 H2 t2 I2 => hh F S2 l.2 σ H2 _ I2 (hl2.bind.mono fun u hu S3 H3 t3 I3 => by
    have vd := vd.tr (t2.trans t3)
    obtain ⟨d, s'⟩ := x
    match d, vd, hu with
    | .lst ds, vd, hu =>
      obtain ⟨p, us, rfl, e, _, hv⟩ := vd.sqL
      refine .inl ⟨p, us, rfl, SqL.of e, fun p hp => ?_⟩
      obtain ⟨I4, f4⟩ := flo_new I3 hp (hv.cut _ _)
      exact hu _ _ _ ((t1.trans (t2.trans t3)).trans (Tr.grow hp)) I4 f4
    | .tup ds, vd, hu => exact hu.elim
    | .non, _, hu => exact hu.elim
    | .bl _, _, hu => exact hu.elim
    | .int _, _, hu => exact hu.elim
    | .str _, _, hu => exact hu.elim
    | .ins _ _, _, hu => exact hu.elim
    | .dic _, _, hu => exact hu.elim
    | .oth _, _, hu => exact hu.elim
    | .exc _ _, _, hu => exact hu.elim)))
/-! ### a < b < c -/
def pChain (r r' : D → D → Res D) (a b c : EF) : EF := fun s => (a s).bind fun x => (b x.2).bind fun y => (up y.2 (nerr (r x.1 y.1))).bind fun z => match z.1 with
  | .bl k => if k then (c z.2).bind fun w => up w.2 (nerr (r' y.1 w.1)) else .ok (.bl false, z.2)
  | _ => .bad
theorem m_chain {r r' : R2} {pr pr' : D → D → Res D} (ha : ME G E ta pa) (hb : ME G E tb pb) (hc : ME G E tc pc) (hr : MR G r pr) (hr' : MR G r' pr') : ME G E (tChain r r' ta tb tc) (pChain pr pr' pa pb pc) := fun F S s σ H Q I h =>
  ha F S s σ H _ I (h.bind.mono fun x hx S1 H1 v t1 I1 vd => hb F S1 x.2 σ H1 _ I1 (hx.bind.mono fun y hy S2 H2 w t2 I2 wd => by
    obtain ⟨z, e, hz⟩ := Po.up hy.bind
    refine hr S2 H2 v w x.1 y.1 _ I2.live (vd.tr t2) wd ?_
    rw [e]
    intro H3 u s3 ud
    cases ud with
    | bl k =>
      refine ⟨k, rfl, ?_⟩
      cases k with
      | false => exact iteF (hz S2 H3 _ ((t1.trans t2).trans (Tr.same s3)) (I2.same s3) (.bl false))
      | true =>
        refine iteT (hc F S2 y.2 σ H3 _ (I2.same s3) (Po.mono (Po.bind (show Po G F E _ ((pc y.2).bind _) from hz)) fun w2 hw2 S4 H4 u4 t4 I4 ud4 => ?_))
        obtain ⟨z2, e2, hz2⟩ := hw2.up
        refine hr' S4 H4 w u4 y.1 w2.1 _ I4.live (wd.tr ((Tr.same s3).trans t4)) ud4 ?_
        rw [e2]
        exact fun H5 u5 s5 ud5 => hz2 S4 H5 u5 ((((t1.trans t2).trans (Tr.same s3)).trans t4).trans (Tr.same s5)) (I4.same s5) ud5
    | _ => exact hz.elim))
/-! ### isinstance -/
def tyD : D → Option String
  | .non => some "NoneType"
  | .bl _ => some "bool"
  | .int _ => some "int"
  | .str _ => some "str"
  | .lst _ => some "list"
  | .tup _ => some "tuple"
  | .dic _ => some "dict"
  | _ => none
theorem Vd.ty {T : String} (h : Vd G S H x a) (e : tyD a = some T) : TyX G.K H x (.type T) := by
  cases h with
  | non => cases e; exact .base .non
  | bl b => cases e; exact .base (.bl b)
  | int i => cases e; exact .base (.int i)
  | str z => cases e; exact .base (.str z)
  | lst n h _ => cases e; exact .base (.lst h)
  | tup n h _ => cases e; exact .base (.tup h)
  | ktp h _ => cases e; obtain ⟨o, its, n, h1, h2, _⟩ := h; exact .kTuple h1 h2
  | ins _ _ _ _ => cases e
  | dic n h _ => cases e; exact .base (.dK h)
  | oth v => cases e
  | exc _ _ _ _ _ _ => cases e
def BTy : List String := ["NoneType", "bool", "int", "str", "list", "tuple", "dict"]
theorem tyD_in {T : String} (e : tyD a = some T) : T ∈ BTy := by
  cases a <;> first | (cases e; decide) | cases e
/-- what is told of the package's own classes -/
structure Own (G : Cx) : Prop where
  cls : ∀ C ∈ G.own, Cls G.K (G.A C)
  ha : ∀ C ∈ G.own, PySem.W.findIn G.K (.ref (G.A C)) "__class__" = some (some (.builtin "object.__class__"))
  hn : PySem.W.specialIn G.K (.builtin "object.__class__") "__get__" = some (some (.builtin "getset_descriptor.__get__"))
  ht : PySem.W.takesIn G.K (.builtin "object.__class__") = some true
  hm : ∀ C ∈ G.own, PySem.W.mroIn G.K (G.A C) (.type "object") = some true
  oo : ∀ C ∈ G.own, ∀ C' ∈ G.own, PySem.W.kitOne G.K (.ref (G.A C)) (.ref (G.A C')) = some (decide (C = C'))
  bo : ∀ T ∈ BTy, ∀ C ∈ G.own, PySem.W.kitOne G.K (.type T) (.ref (G.A C)) = some false
  ob : ∀ C ∈ G.own, ∀ T ∈ BTy, PySem.W.kitOne G.K (.ref (G.A C)) (.type T) = some false
/-- is it an instance of a builtin class -/
def isiP (T : String) (d : D) : Res D := match tyD d with
  | some t => match kitB t T with
    | some b => .ok (.bl b)
    | none => .bad
  | none => match d with
    | .ins _ _ => if BTy.contains T then .ok (.bl false) else .bad
    | _ => .bad
/-- of a class of the package -/
def isoP (C : Str) (d : D) : Res D := match tyD d with
  | some _ => .ok (.bl false)
  | none => match d with
    | .ins C' _ => .ok (.bl (decide (C' = C)))
    | _ => .bad
theorem Own.ty {C : Str} {fs : List (Str × D)} (o : Own G) (h : Vd G S H x (.ins C fs)) : TyX G.K H x (.ref (G.A C)) ∧ C ∈ G.own := by
  cases h with
  | ins m n e _ => exact ⟨.base (.ins e (o.cls _ m) (o.ha _ m) o.hn o.ht (o.hm _ m)), m⟩
def pIsi (T : String) (a : EF) : EF := fun s => (a s).bind fun x => up x.2 (nerr (isiP T x.1))
def pIso (C : Str) (a : EF) : EF := fun s => (a s).bind fun x => up x.2 (nerr (isoP C x.1))
theorem m_isi {T : String} (o : Own G) (ha : ME G E ta pa) : ME G E (tCB (rIsi G.K) (tCons ta (tCons (tC (.ty T)) tNil))) (pIsi T pa) := fun F S s σ H Q I h =>
  ha F S s σ H _ I (h.bind.mono fun x hx S' H' v t I' vd => by
    obtain ⟨z, e, hz⟩ := hx.up
    have fin : ∀ b, z = .bl b → Q (.bl b) H' := fun b w => by subst w; exact hz S' H' _ t I' (.bl b)
    unfold isiP at e
    split at e
    · next T' et =>
      split at e
      · next b eb => cases e; exact ⟨v, .ty T, _, _, b, rfl, .ty T, vd.ty et, kit_ty eb, fin b rfl⟩
      · cases e
    · split at e
      · next C fs ed =>
        split at e
        · next hb =>
          cases e
          rw [ed] at vd
          exact ⟨v, .ty T, _, _, false, rfl, .ty T, (o.ty vd).1, o.ob _ (o.ty vd).2 T (List.contains_iff_mem.mp hb), fin false rfl⟩
        · cases e
      · cases e)
theorem m_iso {C : Str} (o : Own G) (mC : C ∈ G.own) (ha : ME G E ta pa) : ME G E (tCB (rIsi G.K) (tCons ta (tCons (tC (.ref (G.A C))) tNil))) (pIso C pa) := fun F S s σ H Q I h =>
  ha F S s σ H _ I (h.bind.mono fun x hx S' H' v t I' vd => by
    obtain ⟨z, e, hz⟩ := hx.up
    have fin : ∀ b, z = .bl b → Q (.bl b) H' := fun b w => by subst w; exact hz S' H' _ t I' (.bl b)
    unfold isoP at e
    split at e
    · next T' et =>
      cases e
      exact ⟨v, .ref (G.A C), _, _, false, rfl, .own _, vd.ty et, o.bo T' (tyD_in et) C mC, fin false rfl⟩
    · split at e
      · next C' fs ed =>
        cases e
        rw [ed] at vd
        exact ⟨v, .ref (G.A C), _, _, _, rfl, .own _, (o.ty vd).1, o.oo _ (o.ty vd).2 C mC, fin _ rfl⟩
      · cases e)
/-- of a list, or a tuple -/
def isltP (d : D) : Res D := match tyD d with
  | some t => .ok (.bl (decide (t = "list") || decide (t = "tuple")))
  | none => match d with
    | .ins _ _ => .ok (.bl false)
    | _ => .bad
def pIslt (a : EF) : EF := fun s => (a s).bind fun x => up x.2 (nerr (isltP x.1))
theorem kitAny2 {K : PySem.W.Frag} {t : Value} {a b : String} {x y : Bool} (h1 : PySem.W.kitOne K t (.type a) = some x) (h2 : PySem.W.kitOne K t (.type b) = some y) : PySem.W.kitAny K t [.type a, .type b] = some (x || y) := by
  refine kitAny_cons h1 (fun e => ?_) (fun e => by rw [e]; rfl)
  rw [e]
  refine kitAny_cons h2 (fun e => ?_) (fun e => by rw [e]; rfl)
  rw [e]
  exact kitAny_nil
theorem m_islt (o : Own G) (ha : ME G E ta pa) : ME G E (tCB (rIsiT G.K) (tCons ta (tCons (tTup (tCons (tC (.ty "list")) (tCons (tC (.ty "tuple")) tNil))) tNil))) (pIslt pa) := fun F S s σ H Q I h =>
  ha F S s σ H _ I (h.bind.mono fun x hx S' H' v t I' vd => by
    refine ⟨len_ok rfl, fun p hp => ?_⟩
    obtain ⟨z, e, hz⟩ := hx.up
    have fin : ∀ b, z = .bl b → Q (.bl b) (upd H' p (.tup [.ty "list", .ty "tuple"])) := fun b w => by subst w; exact hz S' _ _ (t.trans (Tr.neu hp)) (I'.neu hp) (.bl b)
    have vd' := vd.tr (Tr.neu (o := .tup [.ty "list", .ty "tuple"]) hp)
    unfold isltP at e
    split at e
    · next T' et =>
      cases e
      refine ⟨v, p, _, _, [.type "list", .type "tuple"], _, rfl, upd_same, .cons (.ty _) (.cons (.ty _) .nil), vd'.ty et, ?_, fin _ rfl⟩
      have hm := tyD_in et
      simp only [BTy, List.mem_cons, List.not_mem_nil, or_false] at hm
      rcases hm with rfl | rfl | rfl | rfl | rfl | rfl | rfl <;> exact kit2 (by decide +kernel) (by decide +kernel)
    · split at e
      · next C fs ed =>
        cases e
        rw [ed] at vd'
        obtain ⟨h1, h2⟩ := o.ty vd'
        exact ⟨v, p, _, _, [.type "list", .type "tuple"], _, rfl, upd_same, .cons (.ty _) (.cons (.ty _) .nil), h1, kitAny2 (o.ob _ h2 "list" (by decide)) (o.ob _ h2 "tuple" (by decide)), fin _ rfl⟩
      · cases e)
/-! ### in, index -/
def toV : D → Option V
  | .non => some .non
  | .bl b => some (.bl b)
  | .int i => some (.int i)
  | .str x => some (.str x)
  | _ => none
def toVs : List D → Option (List V)
  | [] => some []
  | d :: r => match toV d, toVs r with
    | some v, some vs => some (v :: vs)
    | _, _ => none
theorem Vd.toV {v : V} (h : Vd G S H x a) (e : toV a = some v) : x = v ∧ flatV v = true := by
  cases h <;> cases e <;> exact ⟨rfl, rfl⟩
theorem VdA.toV : ∀ {us vs : List V} {ds : List D}, VdA G S H us ds → toVs ds = some vs → us = vs ∧ vs.all flatV = true
  | _, _, _, .nil, e => by cases e; exact ⟨rfl, rfl⟩
  | _, _, _, .cons (d := d) (ds := ds) h t, e => by
    unfold toVs at e
    cases r : Pl.toV d with
    | none => rw [r] at e; cases e
    | some y =>
      cases r2 : toVs ds with
      | none => rw [r, r2] at e; cases e
      | some z =>
        rw [r, r2] at e
        cases e
        obtain ⟨h1, h2⟩ := Vd.toV h r
        obtain ⟨h3, h4⟩ := VdA.toV t r2
        exact ⟨by rw [h1, h3], by rw [List.all_cons, h2, h4]; rfl⟩
def inP (neg : Bool) (a b : D) : Res D := match toV a, (match b with | .lst ys => toVs ys | .tup ys => toVs ys | _ => none) with
  | some v, some vs => .ok (.bl (if neg then !inV v vs else inV v vs))
  | _, _ => .bad
theorem mr_in (neg : Bool) : MR G (rIn G.K neg) (inP neg) := fun S H x y a b Q l va vb h => by
  unfold inP at h
  split at h
  · next v vs e1 e2 =>
    obtain ⟨rfl, f1⟩ := va.toV e1
    have k := h H _ (Same.refl H) (.bl _)
    match b, vb, e2 with
    | .lst ys, vb, e2 =>
      obtain ⟨p, us, rfl, e, _, hv⟩ := vb.sqL
      obtain ⟨rfl, f2⟩ := hv.toV e2
      exact ⟨p, _, rfl, .inl (SqL.of e), f1, f2, k⟩
    | .tup ys, vb, e2 =>
      obtain ⟨p, us, rfl, e, hv⟩ := vb.sqT
      obtain ⟨rfl, f2⟩ := hv.toV e2
      exact ⟨p, _, rfl, .inr e, f1, f2, k⟩
  · exact h.elim
end
end Pl
namespace Pl
open PySem PySem.Spec PyProof.Rows L2 Rp RT RZ
/-! ### what is walked -/
def seqD : D → Res (List D)
  | .lst xs => .ok xs
  | .tup xs => .ok xs
  | _ => .bad
def pSeqI (a : EF) : LF := fun s => (a s).bind fun x => up x.2 (nerr (seqD x.1))
def rangeD (a b : Int) : List D := (List.range (b - a).toNat).map fun (i : Nat) => D.int (a + (i : Int))
def rangeC (a c : Int) (n : Nat) : List D := (List.range n).map fun (i : Nat) => D.int (a + (i : Int) * c)
def inR (i : Int) : Bool := decide (-(2 ^ 62) ≤ i) && decide (i < 2 ^ 62)
def rg1P : List D → Res (List D)
  | [.int j] => if inR j then .ok (rangeD 0 j) else .bad
  | _ => .bad
def rg2P : List D → Res (List D)
  | [.int i, .int j] => if inR i && inR j then .ok (rangeD i j) else .bad
  | _ => .bad
def rg3P : List D → Res (List D)
  | [.int i, .int j, .int c] => if decide (c ≠ 0) && decide (c.natAbs < 1073741824) && Builtin.Range.small i j c && decide (0 ≤ Builtin.Range.rangeSize i j c) then .ok (rangeC i c (Builtin.Range.rangeSize i j c).toNat) else .bad
  | _ => .bad
def zipD : List D → List D → List D
  | x :: xs, y :: ys => .tup [x, y] :: zipD xs ys
  | _, _ => []
def zipP : List D → Res (List D)
  | [a, b] => (seqD a).bind fun xs => (seqD b).bind fun ys => .ok (zipD xs ys)
  | _ => .bad
def enumD (xs : List D) : List D := zipD (rangeD 0 (xs.length : Int)) xs
def enumP : List D → Res (List D)
  | [a] => (seqD a).bind fun xs => .ok (enumD xs)
  | _ => .bad
def pLI (r : List D → Res (List D)) (a : LF) : LF := fun s => (a s).bind fun x => up x.2 (nerr (r x.1))
def pRevI (a : EF) : LF := fun s => (a s).bind fun x => up x.2 (nerr ((seqD x.1).bind fun xs => .ok xs.reverse))
section
variable {G : Cx} {E : XK} {F : Fr} {S S' : Addr → Prop} {H H' : Hp} {s : PS} {σ : L2.St} {x y : V} {a b : D} {Q : VK} {ta tb tc : TE} {pa pb pc : EF} {tl : TA} {pl pm : LF}
/-- a list, a tuple, at an address -/
theorem Vd.seq {xs : List D} (h : Vd G S H x a) (e : seqD a = .ok xs) : ∃ p us, x = .ref p ∧ VdA G S H us xs ∧ ((¬ S p ∧ H p = some (.lst us)) ∨ (∀ S2 H2, Tr S H S2 H2 → SqT G.K H2 p us)) := by
  cases h with
  | lst n e1 hv => cases e; exact ⟨_, _, rfl, hv, .inl ⟨n, e1⟩⟩
  | tup n e1 hv => cases e; exact ⟨_, _, rfl, hv, .inr fun S2 H2 t => SqT.of (t _ _ n e1).2⟩
  | ktp e1 hv => cases e; exact ⟨_, _, rfl, hv, .inr fun S2 H2 t => e1.sq⟩
  | _ => cases e
theorem steps_of {J : It} {ds : List D} {us : List V} (hv : VdA G S H us ds) (go : ∀ S2 H2 (i : Nat) (v : V), Tr S H S2 H2 → us[i]? = some v → J.go i H2 ∧ ∀ x H3, J.yld i H2 x H3 → H3 = H2 ∧ x = v) (st : ∀ S2 H2 (i : Nat), Tr S H S2 H2 → us.length ≤ i → J.stop i H2) : Steps G J ds S H := fun S2 H2 t l i => by
  refine ⟨fun d e => ?_, fun e _ => st S2 H2 i t (by rw [hv.len]; exact List.getElem?_eq_none_iff.mp e)⟩
  obtain ⟨v, ev, vd⟩ := hv.get e
  obtain ⟨g1, g2⟩ := go S2 H2 i v t ev
  refine ⟨g1, fun x H3 y => ?_⟩
  obtain ⟨rfl, rfl⟩ := g2 x H3 y
  exact ⟨Same.refl _, vd.tr t⟩
theorem m_seqI (ha : ME G E ta pa) : MI G E (iSeq G.K ta) (pSeqI pa) := fun F S s σ H R I h =>
  ha F S s σ H _ I (h.bind.mono fun x hx S' H' v t I' vd => by
    obtain ⟨xs, e, hz⟩ := hx.up
    obtain ⟨p, us, rfl, hv, w⟩ := vd.seq e
    refine ⟨p, rfl, ?_⟩
    rcases w with ⟨n, w⟩ | w
    · refine .inl ⟨⟨us, SqL.of w⟩, hz S' H' _ t I' (steps_of hv (fun S2 H2 i v t2 ev => ?_) fun S2 H2 i t2 l => ⟨us, SqL.of (t2 _ _ n w).2, l⟩)⟩
      exact ⟨⟨us, v, SqL.of (t2 _ _ n w).2, ev⟩, fun x H3 y => ⟨y.1, Option.some.inj ((y.2 us (SqL.of (t2 _ _ n w).2)).symm.trans ev)⟩⟩
    · refine .inr ⟨⟨us, w _ _ Tr.refl⟩, hz S' H' _ t I' (steps_of hv (fun S2 H2 i v t2 ev => ?_) fun S2 H2 i t2 l => ⟨us, w _ _ t2, l⟩)⟩
      exact ⟨⟨us, v, w _ _ t2, ev⟩, fun x H3 y => ⟨y.1, Option.some.inj ((y.2 us (w _ _ t2)).symm.trans ev)⟩⟩)
theorem vd_ints {f : Nat → Int} : ∀ n k : Nat, VdA G S H ((List.range' k n).map fun i => V.int (f i)) ((List.range' k n).map fun i => D.int (f i))
  | 0, _ => .nil
  | n + 1, k => .cons (.int _) (vd_ints n (k + 1))
theorem vd_rg {f : Nat → Int} {n : Nat} : VdA G S H ((List.range n).map fun i => V.int (f i)) ((List.range n).map fun i => D.int (f i)) := by
  rw [List.range_eq_range']
  exact vd_ints n 0
theorem steps_rg {lo : Int} {n : Nat} : Steps G (Itr lo n) ((List.range n).map fun (i : Nat) => D.int (lo + (i : Int))) S H :=
  steps_of (us := (List.range n).map fun (i : Nat) => V.int (lo + (i : Int))) vd_rg (fun S2 H2 i v _ ev => by
    rw [List.getElem?_map] at ev
    cases r : (List.range n)[i]? with
    | none => rw [r] at ev; cases ev
    | some j =>
      have l := lt_of_some r
      rw [List.length_range] at l
      rw [List.getElem?_range l] at r
      cases r
      rw [List.getElem?_range l] at ev
      cases ev
      exact ⟨l, fun x H3 y => ⟨y.1, y.2⟩⟩) fun S2 H2 i _ l => by
    rw [List.length_map, List.length_range] at l
    exact l
theorem steps_rgC {lo c : Int} {n : Nat} : Steps G (Itc lo c n) (rangeC lo c n) S H :=
  steps_of (us := (List.range n).map fun (i : Nat) => V.int (lo + (i : Int) * c)) (vd_rg (f := fun i => lo + (i : Int) * c)) (fun S2 H2 i v _ ev => by
    rw [List.getElem?_map] at ev
    cases r : (List.range n)[i]? with
    | none => rw [r] at ev; cases ev
    | some j =>
      have l := lt_of_some r
      rw [List.length_range] at l
      rw [List.getElem?_range l] at r
      cases r
      rw [List.getElem?_range l] at ev
      cases ev
      exact ⟨l, fun x H3 y => ⟨y.1, y.2⟩⟩) fun S2 H2 i _ l => by
    rw [List.length_map, List.length_range] at l
    exact l
theorem VdA.three {c : D} {vs : List V} (h : VdA G S H vs [a, b, c]) : ∃ v w u, vs = [v, w, u] ∧ Vd G S H v a ∧ Vd G S H w b ∧ Vd G S H u c := by
  cases h with
  | cons h t =>
    obtain ⟨w, u, rfl, h2, h3⟩ := t.two
    exact ⟨_, w, u, rfl, h, h2, h3⟩
theorem inR_of {i : Int} (h : inR i = true) : -(2 ^ 62) ≤ i ∧ i < 2 ^ 62 := by
  unfold inR at h
  rw [Bool.and_eq_true] at h
  exact ⟨of_decide_eq_true h.1, of_decide_eq_true h.2⟩
theorem m_rg1 (ha : MA G E tl pl) : MI G E (iRng1 tl) (pLI rg1P pl) := fun F S s σ H R I h =>
  ha F S s σ H _ I (h.bind.mono fun x hx S' H' v t I' vd => by
    obtain ⟨xs, e, hz⟩ := hx.up
    obtain ⟨l, s'⟩ := x
    unfold rg1P at e
    split at e
    · next j el =>
      split at e
      · next hj =>
        cases e
        dsimp only at el
        subst el
        obtain ⟨v, rfl, hv⟩ := vd.one1
        cases hv
        refine ⟨j, rfl, (inR_of hj).1, (inR_of hj).2, hz S' H' _ t I' ?_⟩
        have := steps_rg (G := G) (lo := 0) (n := j.toNat) (S := S') (H := H')
        show Steps G (Itr 0 j.toNat) (rangeD 0 j) S' H'
        unfold rangeD
        rw [Int.sub_zero]
        exact this
      · cases e
    · cases e)
theorem m_rg2 (ha : MA G E tl pl) : MI G E (iRng2 tl) (pLI rg2P pl) := fun F S s σ H R I h =>
  ha F S s σ H _ I (h.bind.mono fun x hx S' H' v t I' vd => by
    obtain ⟨xs, e, hz⟩ := hx.up
    obtain ⟨l, s'⟩ := x
    unfold rg2P at e
    split at e
    · next i j el =>
      split at e
      · next hj =>
        cases e
        rw [Bool.and_eq_true] at hj
        dsimp only at el
        subst el
        obtain ⟨v, w, rfl, hv, hw⟩ := vd.two
        cases hv
        cases hw
        exact ⟨i, j, rfl, ⟨(inR_of hj.1).1, (inR_of hj.1).2, (inR_of hj.2).1, (inR_of hj.2).2⟩, hz S' H' _ t I' steps_rg⟩
      · cases e
    · cases e)
theorem m_rg3 (ha : MA G E tl pl) : MI G E (iRng3 tl) (pLI rg3P pl) := fun F S s σ H R I h =>
  ha F S s σ H _ I (h.bind.mono fun x hx S' H' v t I' vd => by
    obtain ⟨xs, e, hz⟩ := hx.up
    obtain ⟨l, s'⟩ := x
    unfold rg3P at e
    split at e
    · next i j c el =>
      split at e
      · next hj =>
        cases e
        rw [Bool.and_eq_true, Bool.and_eq_true, Bool.and_eq_true] at hj
        dsimp only at el
        subst el
        obtain ⟨v, w, u, rfl, hv, hw, hu⟩ := vd.three
        cases hv
        cases hw
        cases hu
        have z0 := of_decide_eq_true hj.2
        exact ⟨i, j, c, _, rfl, ⟨of_decide_eq_true hj.1.1.1, of_decide_eq_true hj.1.1.2, hj.1.2, by omega⟩, hz S' H' _ t I' steps_rgC⟩
      · cases e
    · cases e)
theorem Vd.sqB {xs : List D} (h : Vd G S H x a) (e : seqD a = .ok xs) : ∃ t p us, x = .ref p ∧ VdA G S H us xs ∧ ∀ S2 H2, Tr S H S2 H2 → SqB t G.K H2 p us := by
  obtain ⟨p, us, rfl, hv, w⟩ := h.seq e
  rcases w with ⟨n, w⟩ | w
  · exact ⟨true, p, us, rfl, hv, fun S2 H2 t => SqL.of (t _ _ n w).2⟩
  · exact ⟨false, p, us, rfl, hv, w⟩
theorem zipD_get : ∀ {xs ys : List D} {i : Nat} {d : D}, (zipD xs ys)[i]? = some d → ∃ x y, xs[i]? = some x ∧ ys[i]? = some y ∧ d = .tup [x, y]
  | [], _, _, _, e => by simp [zipD] at e
  | _ :: _, [], _, _, e => by simp [zipD] at e
  | x :: xs, y :: ys, 0, d, e => by
    simp [zipD] at e
    exact ⟨x, y, rfl, rfl, e.symm⟩
  | x :: xs, y :: ys, i + 1, d, e => by
    simp only [zipD, List.getElem?_cons_succ] at e
    obtain ⟨a, b, h1, h2, h3⟩ := zipD_get e
    exact ⟨a, b, by simpa using h1, by simpa using h2, h3⟩
theorem zipD_len : ∀ {xs ys : List D}, (zipD xs ys).length = min xs.length ys.length
  | [], _ => by simp [zipD]
  | _ :: _, [] => by simp [zipD]
  | x :: xs, y :: ys => by simp [zipD, zipD_len (xs := xs) (ys := ys)]
theorem zipD_none {xs ys : List D} {i : Nat} (e : (zipD xs ys)[i]? = none) : xs.length ≤ i ∨ ys.length ≤ i := by
  have := List.getElem?_eq_none_iff.mp e
  rw [zipD_len] at this
  omega
theorem m_zip (ha : MA G E tl pl) : MI G E (iZipB G.K tl) (pLI zipP pl) := fun F S s σ H R I h =>
  ha F S s σ H _ I (h.bind.mono fun x hx S' H' v t I' vd => by
    obtain ⟨zs, e, hz⟩ := hx.up
    obtain ⟨l, s'⟩ := x
    unfold zipP at e
    split at e
    · next a b el =>
      dsimp only at el
      subst el
      obtain ⟨v, w, rfl, hv, hw⟩ := vd.two
      cases q1 : seqD a with
      | ok xs =>
        cases q2 : seqD b with
        | ok ys =>
          rw [q1, q2] at e
          cases e
          obtain ⟨b1, p1, us, rfl, v1, s1⟩ := hv.sqB q1
          obtain ⟨b2, p2, ws, rfl, v2, s2⟩ := hw.sqB q2
          refine ⟨b1, b2, p1, p2, us, ws, rfl, s1 _ _ Tr.refl, s2 _ _ Tr.refl, hz S' H' _ t I' ?_⟩
          intro S2 H2 t2 l2 i
          refine ⟨fun d ed => ?_, fun ed li => ?_⟩
          · obtain ⟨x, y, ex, ey, rfl⟩ := zipD_get ed
            obtain ⟨u1, eu1, d1⟩ := v1.get ex
            obtain ⟨u2, eu2, d2⟩ := v2.get ey
            refine ⟨⟨us, ws, u1, u2, s1 _ _ t2, s2 _ _ t2, eu1, eu2⟩, ?_⟩
            rintro z H3 ⟨T, x', y', rfl, hT, rfl, k1, k2⟩
            have e1 := Option.some.inj ((k1 us (s1 _ _ t2)).symm.trans eu1)
            have e2 := Option.some.inj ((k2 ws (s2 _ _ t2)).symm.trans eu2)
            subst e1
            subst e2
            exact ⟨same_neu (Same.refl _) hT, .tup (l2.new hT) upd_same (.cons (d1.tr (t2.trans (Tr.neu hT))) (.cons (d2.tr (t2.trans (Tr.neu hT))) .nil))⟩
          · have ln := zipD_none ed
            rw [zipD_len] at li
            exact ⟨us, ws, s1 _ _ t2, s2 _ _ t2, by rw [v1.len, v2.len]; omega⟩
        | err x => rw [q1, q2] at e; cases e
        | bad => rw [q1, q2] at e; cases e
      | err x => rw [q1] at e; cases e
      | bad => rw [q1] at e; cases e
    · cases e)
theorem m_enum (ha : MA G E tl pl) : MI G E (iEnG G.K tl) (pLI enumP pl) := fun F S s σ H R I h =>
  ha F S s σ H _ I (h.bind.mono fun x hx S' H' v t I' vd => by
    obtain ⟨zs, e, hz⟩ := hx.up
    obtain ⟨l, s'⟩ := x
    unfold enumP at e
    split at e
    · next a el =>
      dsimp only at el
      subst el
      obtain ⟨v, rfl, hv⟩ := vd.one1
      cases q1 : seqD a with
      | ok xs =>
        rw [q1] at e
        cases e
        obtain ⟨p, us, rfl, v1, w⟩ := hv.seq q1
        have at_ : ∀ (i : Nat) (d : D), (enumD xs)[i]? = some d → ∃ x u, us[i]? = some u ∧ Vd G S' H' u x ∧ d = .tup [.int (i : Int), x] := fun i d ed => by
          obtain ⟨x, y, ex, ey, rfl⟩ := zipD_get ed
          obtain ⟨u, eu, du⟩ := v1.get ey
          refine ⟨y, u, eu, du, ?_⟩
          unfold rangeD at ex
          rw [List.getElem?_map] at ex
          cases r : (List.range ((xs.length : Int) - 0).toNat)[i]? with
          | none => rw [r] at ex; cases ex
          | some j =>
            have l := lt_of_some r
            rw [List.length_range] at l
            rw [List.getElem?_range l] at r
            cases r
            rw [List.getElem?_range l] at ex
            cases ex
            show D.tup [D.int (0 + (i : Int)), y] = _
            rw [Int.zero_add]
        have end_ : ∀ i : Nat, (enumD xs)[i]? = none → us.length ≤ i := fun i ed => by
          have := List.getElem?_eq_none_iff.mp ed
          unfold enumD at this
          rw [zipD_len, rangeD, List.length_map, List.length_range] at this
          rw [v1.len]
          omega
        rcases w with ⟨n, w⟩ | w
        · refine ⟨p, us, rfl, .inl ⟨SqL.of w, hz S' H' _ t I' fun S2 H2 t2 l2 i => ⟨fun d ed => ?_, fun ed _ => ⟨us, SqL.of (t2 _ _ n w).2, end_ i ed⟩⟩⟩⟩
          obtain ⟨x, u, eu, du, rfl⟩ := at_ i d ed
          refine ⟨⟨us, u, SqL.of (t2 _ _ n w).2, eu⟩, ?_⟩
          rintro z H3 ⟨T, x', rfl, hT, rfl, k1⟩
          have e1 := Option.some.inj ((k1 us (SqL.of (t2 _ _ n w).2)).symm.trans eu)
          subst e1
          exact ⟨same_neu (Same.refl _) hT, .tup (l2.new hT) upd_same (.cons (.int _) (.cons (du.tr (t2.trans (Tr.neu hT))) .nil))⟩
        · refine ⟨p, us, rfl, .inr ⟨w _ _ Tr.refl, hz S' H' _ t I' fun S2 H2 t2 l2 i => ⟨fun d ed => ?_, fun ed _ => ⟨us, w _ _ t2, end_ i ed⟩⟩⟩⟩
          obtain ⟨x, u, eu, du, rfl⟩ := at_ i d ed
          refine ⟨⟨us, u, w _ _ t2, eu⟩, ?_⟩
          rintro z H3 ⟨T, x', rfl, hT, rfl, k1⟩
          have e1 := Option.some.inj ((k1 us (w _ _ t2)).symm.trans eu)
          subst e1
          exact ⟨same_neu (Same.refl _) hT, .tup (l2.new hT) upd_same (.cons (.int _) (.cons (du.tr (t2.trans (Tr.neu hT))) .nil))⟩
      | err x => rw [q1] at e; cases e
      | bad => rw [q1] at e; cases e
    · cases e)
theorem m_revI (ha : ME G E ta pa) : MI G E (iRevA G.K ta) (pRevI pa) := fun F S s σ H R I h =>
  ha F S s σ H _ I (h.bind.mono fun x hx S' H' v t I' vd => by
    obtain ⟨zs, e, hz⟩ := hx.up
    cases q1 : seqD x.1 with
    | ok xs =>
      rw [q1] at e
      cases e
      obtain ⟨p, us, rfl, v1, w⟩ := vd.seq q1
      have rv : ∀ (i : Nat) (v : V), us.reverse[i]? = some v → i < us.length ∧ us[us.length - 1 - i]? = some v := fun i v ev => by
        have l := lt_of_some ev
        rw [List.length_reverse] at l
        rw [List.getElem?_reverse l] at ev
        exact ⟨l, ev⟩
      rcases w with ⟨n, w⟩ | w
      · refine ⟨p, us, rfl, .inl ⟨SqL.of w, hz S' H' _ t I' (steps_of v1.rev (fun S2 H2 i v t2 ev => ?_) fun S2 H2 i t2 l => by rw [List.length_reverse] at l; exact l)⟩⟩
        obtain ⟨l, ev⟩ := rv i v ev
        exact ⟨⟨l, us, v, SqL.of (t2 _ _ n w).2, ev⟩, fun x H3 y => ⟨y.1, Option.some.inj ((y.2 us (SqL.of (t2 _ _ n w).2)).symm.trans ev)⟩⟩
      · refine ⟨p, us, rfl, .inr ⟨w _ _ Tr.refl, hz S' H' _ t I' (steps_of v1.rev (fun S2 H2 i v t2 ev => ?_) fun S2 H2 i t2 l => by rw [List.length_reverse] at l; exact l)⟩⟩
        obtain ⟨l, ev⟩ := rv i v ev
        exact ⟨⟨l, us, v, w _ _ t2, ev⟩, fun x H3 y => ⟨y.1, Option.some.inj ((y.2 us (w _ _ t2)).symm.trans ev)⟩⟩
    | err x => rw [q1] at e; cases e
    | bad => rw [q1] at e; cases e)
end
end Pl
namespace Pl
open PySem PySem.Spec PyProof.Rows L2 Rp LamX
/-! ### defs -/
def TbS (G : Cx) (S : Addr → Prop) (H : Hp) : Prop := Tabs G.tb H ∧ ∀ t ∈ G.tb, S t.1
/-- the promise of a def that only makes new things -/
def spP (G : Cx) (f : List D → Res D) : Sp := fun vs H Q E => ∃ (S : Addr → Prop) (ds : List D), Live S H ∧ TbS G S H ∧ VdA G S H vs ds ∧
  match f ds with
  | .ok d => ∀ H' v, SameT G.tb H H' → Vd G S H' v d → Q v H'
  | .err e => ∀ H', SameT G.tb H H' → ErX G S E e H'
  | .bad => False
/-- all but the tables and the box -/
def ButT (T : List (Addr × Str)) (q : Addr) (H H' : Hp) : Prop := (∀ b o, b ≠ q → (∀ t ∈ T, b ≠ t.1) → H b = some o → H' b = some o) ∧ Tabs T H'
/-- of one that draws: its first parameter is the box -/
def spB (G : Cx) (f : DS → List D → Res (D × DS)) : Sp := fun vs H Q E => ∃ (S : Addr → Prop) (q : Addr) (δ : DS) (us : List V) (ds : List D), vs = .ref q :: us ∧ Live S H ∧ TbS G S H ∧ S q ∧ DrX S δ q H ∧ VdA G S H us ds ∧
  match f δ ds with
  | .ok (d, δ') => ∀ H' v, ButT G.tb q H H' → DrX S δ' q H' → Vd G S H' v d → Q v H'
  | .err e => ∀ H', ButT G.tb q H H' → ErX G S E e H'
  | .bad => False
/-- of an __init__: self is written to -/
def spI (G : Cx) (C : Str) (f : List D → Res (List (Str × D))) : Sp := fun vs H Q E => ∃ (S : Addr → Prop) (x dx : Addr) (us : List V) (ds : List D), vs = .ref x :: us ∧ Live S H ∧ TbS G S H ∧ S x ∧ S dx ∧ H x = some (.ins (G.A C) dx []) ∧ VdA G S H us ds ∧
  match f ds with
  | .ok fs => ∀ H' dy gs, ButT G.tb x H H' → H' x = some (.ins (G.A C) dy gs) → VdF G S H' gs fs → Q .non H'
  | .err e => ∀ H', ButT G.tb x H H' → ErX G (but S x) E e H'
  | .bad => False
def pGo (f : List D → Res D) (a : LF) : EF := fun s => (a s).bind fun x => up x.2 (f x.1)
def pGo0 (f : List D → Res D) (a : LF) : EF := fun s => (a s).bind fun x => up x.2 (nerr (f x.1))
/-- called with the box at k -/
def pGoB (f : DS → List D → Res (D × DS)) (k : Nat) (a : LF) : EF := fun s => match s.ρ[k]? with
  | some (some .box) => (a s).bind fun x => match f x.2.δ x.1 with
    | .ok (d, δ) => .ok (d, { x.2 with δ := δ })
    | _ => .bad
  | _ => .bad
def pMk (C : Str) (f : List D → Res (List (Str × D))) (a : LF) : EF := fun s => (a s).bind fun x => (f x.1).bind fun fs => .ok (.ins C fs, x.2)
def pMk0 (C : Str) (f : List D → Res (List (Str × D))) (a : LF) : EF := fun s => (a s).bind fun x => (nerr (f x.1)).bind fun fs => .ok (.ins C fs, x.2)
def fldP (f : Str) : D → Res D
  | .ins _ fs => match fs.lookup f with
    | some d => .ok d
    | none => .bad
  | _ => .bad
def pFld (f : Str) (a : EF) : EF := fun s => (a s).bind fun x => up x.2 (nerr (fldP f x.1))
section
variable {G : Cx} {E : XK} {F : Fr} {S S' : Addr → Prop} {H H' : Hp} {s : PS} {σ : L2.St} {x y : V} {a b : D} {Q : VK} {ta tb tc : TE} {pa pb pc : EF} {tl tk : TA} {pl pm : LF}
/-- an error of a callee leaves the caller too -/
theorem ErX.less {e : Er} (h : ErX G S E e H) (l : ∀ p, S p → S' p) : ErX G S' E e H := fun vs z => h vs (z.tr (Tr.less l))
theorem Sim.tb2 (I : Sim G F S s σ H) : TbS G S H := ⟨I.tabs, fun t m => (I.tbS t m).1⟩
theorem Sim.errT (I : Sim G F S s σ H) {e : Er} (h : ErOk G F E e) {H' : Hp} (k : SameT G.tb H H') : ErX G S E e H' :=
  (h H' (fun b o n z => k.1 b o (fun m mt w => n (by rw [w]; exact (I.tbS m mt).2.2.1)) (I.base b o n z)) k.2).less I.sub
theorem m_go {f : List D → Res D} (ha : MA G E tl pl) : ME G E (tGoE (spP G f) E tl) (pGo f pl) := fun F S s σ H Q I h =>
  ha F S s σ H _ I (h.bind.mono fun x hx S' H' v t I' vd => by
    refine ⟨S', x.1, I'.live, I'.tb2, vd, ?_⟩
    unfold up at hx
    cases r : f x.1 with
    | ok d =>
      rw [r] at hx
      exact fun H2 u s2 ud => hx S' H2 u (t.trans (I'.tabd s2).1) (I'.tabd s2).2 ud
    | err e =>
      rw [r] at hx
      exact fun H2 s2 => I'.errT hx s2
    | bad => rw [r] at hx; exact hx.elim)
theorem m_go0 {f : List D → Res D} (ha : MA G E tl pl) : ME G E (tGo (spP G f) tl) (pGo0 f pl) := fun F S s σ H Q I h =>
  ha F S s σ H _ I (h.bind.mono fun x hx S' H' v t I' vd => by
    refine ⟨S', x.1, I'.live, I'.tb2, vd, ?_⟩
    obtain ⟨d, e, hd⟩ := hx.up
    rw [e]
    exact fun H2 u s2 ud => hd S' H2 u (t.trans (I'.tabd s2).1) (I'.tabd s2).2 ud)
/-- by keywords -/
def ixs (n : List Nat) (l : List D) : List D := n.map fun i => l.getD i .non
def pKw0 (f : List D → Res D) (n m : Nat) (ix : List Nat) (a k : LF) : EF := fun s => (a s).bind fun x => (k x.2).bind fun y => if decide (x.1.length = n) && decide (y.1.length = m) then up y.2 (nerr (f (ixs ix (x.1 ++ y.1)))) else .bad
theorem VdA.getD (h : VdA G S H us ds) (i : Nat) : Vd G S H (us.getD i .non) (ds.getD i .non) := by
  rw [List.getD_eq_getElem?_getD, List.getD_eq_getElem?_getD]
  cases e : ds[i]? with
  | none =>
    have l := List.getElem?_eq_none_iff.mp e
    rw [List.getElem?_eq_none (by rw [h.len]; exact l)]
    exact .non
  | some d =>
    obtain ⟨v, ev, hv⟩ := h.get e
    rw [ev]
    exact hv
theorem VdA.ixs (h : VdA G S H us ds) : ∀ n : List Nat, VdA G S H (n.map fun i => us.getD i .non) (Pl.ixs n ds)
  | [] => .nil
  | i :: r => .cons (h.getD i) (VdA.ixs h r)
theorem m_kw0 {f : List D → Res D} {n m : Nat} {ix : List Nat} (ha : MA G E tl pl) (hk : MA G E tk pm) : ME G E (tKw (spP G f) n m ix E0 tl tk) (pKw0 f n m ix pl pm) := fun F S s σ H Q I h =>
  ha F S s σ H _ I (h.bind.mono fun x hx S1 H1 v t1 I1 vd => hk F S1 x.2 σ H1 _ I1 (hx.bind.mono fun y hy S' H' w t2 I' wd => by
    split at hy
    · next c =>
      rw [Bool.and_eq_true] at c
      have vd' := vd.tr t2
      refine ⟨by rw [vd'.len]; exact of_decide_eq_true c.1, by rw [wd.len]; exact of_decide_eq_true c.2, S', ixs ix (x.1 ++ y.1), I'.live, I'.tb2, (vd'.app wd).ixs ix, ?_⟩
      obtain ⟨d, e, hd⟩ := hy.up
      rw [e]
      exact fun H2 u s2 ud => hd S' H2 u ((t1.trans t2).trans (I'.tabd s2).1) (I'.tabd s2).2 ud
    · exact hy.elim))
/-- behind a draw -/
theorem Sim.drew {q : Addr} {δ : DS} (I : Sim G F S s σ H) (e : F.q = some q) (b : ButT G.tb q H H') (d : DrX S δ q H') : Tr S H S H' ∧ Sim G F S { s with δ := δ } σ H' := by
  obtain ⟨a1, a2, a3, a4, a5⟩ := I.drw q e
  have t : Tr S H S H' := fun p o n z => ⟨n, b.1 p o (fun w => n (by rw [w]; exact a1)) (fun m mt w => n (by rw [w]; exact (I.tbS m mt).1)) z⟩
  refine ⟨t, I.len, fun p z => ?_, I.sub, fun p o n z => b.1 p o (fun w => n (by rw [w]; exact a4)) (fun m mt w => n (by rw [w]; exact (I.tbS m mt).2.2.1)) (I.base p o n z), fun p o z => ⟨(I.pins p o z).1, b.1 p o (fun w => by rw [w, a3] at z; cases z) (fun m mt w => by rw [w, (I.tbS m mt).2.2.2] at z; cases z) (I.pins p o z).2⟩, fun k => (I.ent k).tr t fun p o sp pn hp ow ev => ⟨sp, ?_⟩, I.apart, b.2, I.tbS, fun q' e' => ?_⟩
  · by_cases w : p = q
    · obtain ⟨⟨c, _, _, h1, _⟩, _⟩ := d
      exact ⟨_, by rw [w]; exact h1⟩
    · by_cases m : ∀ t ∈ G.tb, p ≠ t.1
      · obtain ⟨o, h⟩ := I.live p z
        exact ⟨o, b.1 p o w m h⟩
      · simp only [Classical.not_forall] at m
        obtain ⟨t, mt, h⟩ := m
        obtain ⟨ps, h1, _⟩ := b.2 t mt
        exact ⟨_, by rw [Classical.not_not.mp h]; exact h1⟩
  · have en := I.ent k
    rw [ev] at en
    match r : s.ρ[k]?, ow, en with
    | some (some (.own xs)), _, en =>
      obtain ⟨p', us, e1, e2, e3, e4, e5, e6, _⟩ := en
      cases e1
      rw [hp] at e6
      exact b.1 _ _ (fun w => e3 (by rw [w]; exact a2)) (tab_ne I.tabs hp (by rw [Option.some.inj e6]; exact True.intro)) hp
    | some (some (.obj C fs)), _, en =>
      obtain ⟨p', dx, us, e1, e2, e3, e4, e5, e6, _⟩ := en
      cases e1
      rw [hp] at e6
      exact b.1 _ _ (fun w => e3 (by rw [w]; exact a2)) (tab_ne I.tabs hp (by rw [Option.some.inj e6]; exact True.intro)) hp
  · rw [e] at e'
    cases e'
    exact ⟨a1, a2, a3, a4, d⟩
theorem m_goB {f : DS → List D → Res (D × DS)} {k : Nat} (ha : MA G E tl pl) : ME G E (tGo (spB G f) (tCons (tVar k) tl)) (pGoB f k pl) := fun F S s σ H Q I h => by
  unfold pGoB at h
  split at h
  · next e =>
    obtain ⟨q, eq, fq⟩ := I.box e
    refine ⟨_, eq, ?_⟩
    refine ha F S s σ H _ I (h.bind.mono fun x hx S' H' v t I' vd => ?_)
    obtain ⟨a1, a2, a3, a4, a5⟩ := I'.drw q fq
    refine ⟨S', q, x.2.δ, v, x.1, rfl, I'.live, I'.tb2, a1, a5, vd, ?_⟩
    split at hx
    · next d δ r =>
      rw [r]
      intro H2 u b2 d2 ud
      obtain ⟨t2, I2⟩ := I'.drew fq b2 d2
      exact hx S' H2 u (t.trans t2) I2 ud
    · exact hx.elim
  · exact h.elim
theorem m_mk_ {C : Str} {f : List D → Res (List (Str × D))} {E2 : XK} (mC : C ∈ G.own) (ha : MA G E tl pl) (F : Fr) (S : Addr → Prop) (s : PS) (σ : L2.St) (H : Hp) (Q : VK) (I : Sim G F S s σ H) {p : EF}
    (h : Po G F E (fun x => match f x.1 with
      | .ok fs => KE G F S σ H Q (.ins C fs, x.2)
      | .err e => ErOk G F E2 e
      | .bad => False) (pl s)) : tMake (G.A C) (spI G C f) [] E2 tl σ H Q :=
  ha F S s σ H _ I (h.mono fun x hx S' H' v t I' vd n dn hn hdn ne => by
    have h1 : (upd H' dn (.own n)) n = none := by rw [upd_ne ne.symm]; exact hn
    have tr1 : Tr S' H' (more S' dn) (upd H' dn (.own n)) := Tr.grow hdn
    have tr2 : Tr S' H' (more (more S' dn) n) (upd (upd H' dn (.own n)) n (.ins (G.A C) dn [])) := tr1.trans (Tr.grow h1)
    have I2 := (I'.grow (o := .own n) hdn).grow (o := .ins (G.A C) dn []) h1
    refine ⟨more (more S' dn) n, n, dn, v, x.1, by rw [List.append_nil], I2.live, I2.tb2, .inr rfl, .inl (.inr rfl), upd_same, vd.tr tr2, ?_⟩
    have low : ∀ p, S' p → more (more S' dn) n p := fun p z => .inl (.inl z)
    have nt : ∀ t ∈ G.tb, n ≠ t.1 := tab_ne I2.tabs upd_same True.intro
    have keep : ∀ {H2 : Hp}, ButT G.tb n (upd (upd H' dn (.own n)) n (.ins (G.A C) dn [])) H2 → SameT G.tb H' H2 := fun b2 => ⟨fun b o m e => by
      have e1 : b ≠ n := ne_of_none e hn
      refine b2.1 b o e1 m ?_
      rw [upd_ne e1, upd_ne (ne_of_none e hdn)]
      exact e, b2.2⟩
    cases r : f x.1 with
    | ok fs =>
      rw [r] at hx
      intro H2 dy gs b2 en hf
      exact ⟨rfl, hx S' H2 _ (t.trans (I'.tabd (keep b2)).1) (I'.tabd (keep b2)).2 (.ins mC (I'.new hn) en (hf.tr (Tr.less low)))⟩
    | err e =>
      rw [r] at hx
      intro H2 b2
      exact (I'.errT hx (keep b2)).less fun p z => ⟨low p z, fun w => I'.new hn (by rw [← w]; exact z)⟩
    | bad => rw [r] at hx; exact hx.elim)
theorem m_mk {C : Str} {f : List D → Res (List (Str × D))} (mC : C ∈ G.own) (ha : MA G E tl pl) : ME G E (tMake (G.A C) (spI G C f) [] E tl) (pMk C f pl) := fun F S s σ H Q I h =>
  m_mk_ mC ha F S s σ H Q I (p := pMk C f pl) (h.bind.mono fun x hx => by
    cases r : f x.1 with
    | ok fs => rw [r] at hx; exact hx
    | err e => rw [r] at hx; exact hx
    | bad => rw [r] at hx; exact hx)
theorem m_mk0 {C : Str} {f : List D → Res (List (Str × D))} (mC : C ∈ G.own) (ha : MA G E tl pl) : ME G E (tMake (G.A C) (spI G C f) [] E0 tl) (pMk0 C f pl) := fun F S s σ H Q I h =>
  m_mk_ mC ha F S s σ H Q I (p := pMk0 C f pl) (h.bind.mono fun x hx => by
    cases r : f x.1 with
    | ok fs => rw [r] at hx; exact hx
    | err e => rw [r] at hx; exact hx.elim
    | bad => rw [r] at hx; exact hx.elim)
theorem m_fld {f : Str} (o : Own G) (na : ∀ C ∈ G.own, NoAttr G.K (G.A C) f) (ha : ME G E ta pa) : ME G E (tFld G.K ta f) (pFld f pa) := fun F S s σ H Q I h =>
  ha F S s σ H _ I (h.bind.mono fun x hx S' H' v t I' vd => by
    obtain ⟨z, e, hz⟩ := hx.up
    obtain ⟨d, s'⟩ := x
    cases vd with
    | ins m n e1 hf =>
      unfold fldP at e
      dsimp only at e
      split at e
      · next d' el =>
        cases e
        obtain ⟨u, eu, ud⟩ := hf.look el
        exact ⟨_, _, _, _, u, rfl, e1, o.cls _ m, na _ m, eu, hz S' H' u t I' ud⟩
      · cases e
    | _ => cases e)
end
end Pl
namespace Pl
open PySem PySem.Spec PyProof.Rows L2 Rp
/-! ### lists of one's own are written to -/
def isL (e : Option (Option EV)) : Bool := match e with
  | some (some (.own _)) => true
  | some (some (.val (.lst _))) => true
  | _ => false
def guardL {α : Type} (k : Nat) (p : PS → Res α) : PS → Res α := fun s => if isL s.ρ[k]? then p s else .bad
def pApp (k : Nat) (a : EF) : SF := fun s => (a s).bind fun x => match x.2.ρ[k]? with
  | some (some (.own xs)) => if small (xs.length + 1) then .ok (.nx (setO k (xs ++ [x.1]) x.2)) else .bad
  | _ => .bad
def pExt (k : Nat) (a : EF) : SF := fun s => (a s).bind fun x => match x.2.ρ[k]?, x.1 with
  | some (some (.own xs)), .lst ys => if small (xs.length + ys.length) then .ok (.nx (setO k (xs ++ ys) x.2)) else .bad
  | _, _ => .bad
/-- k[i] = .., as a target -/
def pGSub (k : Nat) (i : EF) : GF := fun d s => (i s).bind fun x => match x.2.ρ[k]?, x.1 with
  | some (some (.own xs)), .int j => match ixN xs.length j with
    | some m => .ok (setO k (xs.set m d) x.2)
    | none => .bad
  | _, _ => .bad
/-- an item of a list of one's own, that stays so -/
def pIxO (k : Nat) (i : EF) : EF := fun s => (i s).bind fun x => match x.2.ρ[k]?, x.1 with
  | some (some (.own xs)), .int j => up x.2 (nerr (ixD xs j))
  | _, _ => .bad
def pLenO (k : Nat) : EF := fun s => match s.ρ[k]? with
  | some (some (.own xs)) => .ok (.int (xs.length : Nat), s)
  | _ => .bad
/-- a list of one's own, and another one behind it -/
def pCatO (k : Nat) (b : EF) : LF := fun s => (b s).bind fun y => match y.2.ρ[k]?, y.1 with
  | some (some (.own xs)), .lst ys => if small (xs.length + ys.length) then .ok (xs ++ ys, y.2) else .bad
  | _, _ => .bad
def pCat (a b : EF) : LF := fun s => (a s).bind fun x => (b x.2).bind fun y => match x.1, y.1 with
  | .lst xs, .lst ys => if small (xs.length + ys.length) then .ok (xs ++ ys, y.2) else .bad
  | _, _ => .bad
def pListOf (l : LF) : LF := fun s => (l s).bind fun x => match x.1 with
  | [.lst xs] => .ok (xs, x.2)
  | [.tup xs] => .ok (xs, x.2)
  | _ => .bad
def rgOk (a b : Int) : Bool := inR a && inR b && decide ((b - a).toNat ≤ 2 ^ 24)
def pRg1 (a : EF) : LF := fun s => (a s).bind fun x => match x.1 with
  | .int n => if rgOk 0 n then .ok (rangeD 0 n, x.2) else .bad
  | _ => .bad
def pRg2 (a b : EF) : LF := fun s => (a s).bind fun x => (b x.2).bind fun y => match x.1, y.1 with
  | .int i, .int j => if rgOk i j then .ok (rangeD i j, y.2) else .bad
  | _, _ => .bad
/-- [x] * k and its like -/
def pRep (a b : EF) : LF := fun s => (a s).bind fun x => (b x.2).bind fun y => match x.1, y.1 with
  | .lst xs, .int k => if decide (-(2 ^ 63) ≤ k) && decide (k < 2 ^ 63) && small (xs.length * k.toNat) then .ok (repD xs k, y.2) else .bad
  | _, _ => .bad
section
variable {G : Cx} {E : XK} {F : Fr} {S S' : Addr → Prop} {H H' : Hp} {s : PS} {σ : L2.St} {x y : V} {a b : D} {Q : VK} {ta tb tc : TE} {pa pb pc : EF} {tl tk : TA} {pl pm : LF}
theorem tVar_run {k : Nat} {v : V} (e : σ[k]? = some (some v)) (q : Q v H) : tVar k σ H Q := ⟨v, e, q⟩
/-- a statement about the list at k: what it is now is asked behind the argument -/
theorem own_late {k : Nat} {xs : List D} {s2 : PS} {S2 : Addr → Prop} {H2 : Hp} (I2 : Sim G F S2 s2 σ H2) (e : s2.ρ[k]? = some (some (.own xs))) {v : V} (ev : σ[k]? = some (some v)) : ∃ p us, v = .ref p ∧ H2 p = some (.lst us) ∧ VdA G S2 H2 us xs := by
  obtain ⟨p, us, e1, _, _, _, _, hp, hv⟩ := I2.own e
  rw [ev] at e1
  cases e1
  exact ⟨p, us, rfl, hp, hv⟩
/-- what stands at k ahead, if it is a list of one's own behind -/
theorem own_ahead {k : Nat} {Q : VK} (I : Sim G F S s σ H) (h : ∀ p us, σ[k]? = some (some (.ref p)) → H p = some (.lst us) → Q (.ref p) H) (c : ∃ xs, s.ρ[k]? = some (some (.own xs)) ∨ s.ρ[k]? = some (some (.val (.lst xs)))) : tVar k σ H Q := by
  obtain ⟨xs, e | e⟩ := c
  · obtain ⟨p, us, e1, _, _, _, _, hp, hv⟩ := I.own e
    exact ⟨_, e1, h p us e1 hp⟩
  · obtain ⟨v, e1, hv⟩ := I.val e
    obtain ⟨p, us, rfl, hp, _, _⟩ := hv.sqL
    exact ⟨_, e1, h p us e1 hp⟩
theorem isL_of {e : Option (Option EV)} (h : isL e = true) : ∃ xs, e = some (some (.own xs)) ∨ e = some (some (.val (.lst xs))) := by
  unfold isL at h
  split at h
  · exact ⟨_, .inl rfl⟩
  · exact ⟨_, .inr rfl⟩
  · cases h
theorem m_app {k : Nat} (ha : ME G E ta pa) : MS G E (tDrop (tBM G.K "list" rAppend (tVar k) (tCons ta tNil))) (guardL k (pApp k pa)) := fun F S s σ H B I h => by
  unfold guardL at h
  split at h
  · next c =>
    refine own_ahead (Q := fun x H1 => tyV G.K "list" x H1 ∧ tCons ta tNil σ H1 fun xs H2 => rAppend x xs H2 fun _ H3 => B.nx σ H3) I (fun p us ep hp => ⟨ty_lst hp, ?_⟩) (isL_of c)
    refine ha F S s σ H _ I (h.bind.mono fun x hx S' H' v t I' vd => ?_)
    split at hx
    · next xs e =>
      obtain ⟨p', us', e1, hp', hv⟩ := own_late I' e ep
      cases e1
      split at hx
      · next z =>
        have l : us'.length < sizeLine := by rw [hv.len]; exact Nat.lt_of_succ_le (of_decide_eq_true z)
        have sp := (I'.own e).choose_spec
        refine ⟨p, us', v, rfl, rfl, hp', l, hx S' σ _ (t.trans (Tr.put ?_)) (I'.putL e ep hp' (hv.one vd))⟩
        obtain ⟨p2, us2, e2, s2, _⟩ := I'.own e
        rw [ep] at e2
        cases e2
        exact s2
      · exact hx.elim
    · exact hx.elim
  · exact h.elim
theorem Sim.ownS {k : Nat} {xs : List D} {p : Addr} (I : Sim G F S s σ H) (e : s.ρ[k]? = some (some (.own xs))) (ep : σ[k]? = some (some (.ref p))) : S p := by
  obtain ⟨p2, us2, e2, s2, _⟩ := I.own e
  rw [ep] at e2
  cases e2
  exact s2
theorem m_ext {k : Nat} (ha : ME G E ta pa) : MS G E (tDrop (tBM G.K "list" rExtend (tVar k) (tCons ta tNil))) (guardL k (pExt k pa)) := fun F S s σ H B I h => by
  unfold guardL at h
  split at h
  · next c =>
    refine own_ahead (Q := fun x H1 => tyV G.K "list" x H1 ∧ tCons ta tNil σ H1 fun xs H2 => rExtend x xs H2 fun _ H3 => B.nx σ H3) I (fun p us ep hp => ⟨ty_lst hp, ?_⟩) (isL_of c)
    refine ha F S s σ H _ I (h.bind.mono fun x hx S' H' v t I' vd => ?_)
    split at hx
    · next xs ys e el =>
      rw [el] at vd
      obtain ⟨p', us', e1, hp', hv⟩ := own_late I' e ep
      cases e1
      obtain ⟨b, ws, rfl, hb, _, hw⟩ := vd.sqL
      split at hx
      · next z =>
        exact ⟨p, b, us', ws, rfl, rfl, hp', hb, by rw [hv.len, hw.len]; exact of_decide_eq_true z, hx S' σ _ (t.trans (Tr.put (I'.ownS e ep))) (I'.putL e ep hp' (hv.app hw))⟩
      · exact hx.elim
    · exact hx.elim
  · exact h.elim
theorem m_gsub {k : Nat} {ti : TE} {pi : EF} (hi : ME G E ti pi) : MG G E (gSub (tVar k) ti rSetL) (fun d => guardL k (pGSub k pi d)) := fun F S s σ H v d Q I vd h => by
  replace h : Po G F E (KG G F S H Q) (guardL k (pGSub k pi d) s) := h
  unfold guardL at h
  split at h
  · next c =>
    refine own_ahead I (fun p us ep hp => ?_) (isL_of c)
    refine hi F S s σ H _ I (Po.mono (Po.bind h) fun x hx S' H' w t I' wd => ?_)
    obtain ⟨dx, s2⟩ := x
    dsimp only at hx
    split at hx
    · next xs j e =>
      cases wd
      obtain ⟨p', us', e1, hp', hv⟩ := own_late I' e ep
      cases e1
      split at hx
      · next m em =>
        refine ⟨p, us', j, m, rfl, rfl, hp', by rw [hv.len]; exact em, hx S' σ _ (t.trans (Tr.put (I'.ownS e ep))) (I'.putL e ep hp' (hv.set (vd.tr t) m))⟩
      · exact hx.elim
    · exact hx.elim
  · exact h.elim
theorem m_ixO {k : Nat} (hb : ME G E tb pb) : ME G E (tOp (rIx G.K) (tVar k) tb) (guardL k (pIxO k pb)) := fun F S s σ H Q I h => by
  unfold guardL at h
  split at h
  · next c =>
    refine own_ahead I (fun p us ep hp => ?_) (isL_of c)
    refine hb F S s σ H _ I (Po.mono (Po.bind h) fun x hx S' H' w t I' wd => ?_)
    obtain ⟨dx, s2⟩ := x
    dsimp only at hx
    split at hx
    · next xs j e =>
      cases wd
      obtain ⟨p', us', e1, hp', hv⟩ := own_late I' e ep
      cases e1
      obtain ⟨z, ez, hz⟩ := Po.up hx
      unfold ixD at ez
      split at ez
      · next d ed =>
        cases ez
        obtain ⟨u, eu, ud⟩ := hv.atI ed
        exact .inl ⟨p, us', j, u, rfl, rfl, SqL.of hp', eu, hz S' H' u t I' ud⟩
      · cases ez
    · exact hx.elim
  · exact h.elim
theorem m_lenO {k : Nat} : ME G E (tCB (fun xs H Q => ∃ x n, xs = [x] ∧ LenV G.K x H n ∧ Q (.int n) H) (tCons (tVar k) tNil)) (pLenO k) := fun F S s σ H Q I h => by
  unfold pLenO at h
  split at h
  · next xs e =>
    obtain ⟨p, us, e1, _, _, _, _, hp, hv⟩ := I.own e
    exact ⟨_, e1, _, _, rfl, .inl ⟨us, SqL.of hp, hv.len.symm⟩, h S H _ Tr.refl I (.int _)⟩
  · exact h.elim
theorem m_catO {k : Nat} (hb : ME G E tb pb) : MF G E (tOp (rAddG G.K) (tVar k) tb) (guardL k (pCatO k pb)) := fun F S s σ H Q I h => by
  unfold guardL at h
  split at h
  · next c =>
    refine own_ahead I (fun p us ep hp => ?_) (isL_of c)
    refine hb F S s σ H _ I (Po.mono (Po.bind h) fun x hx S' H' w t I' wd => ?_)
    obtain ⟨dx, s2⟩ := x
    dsimp only at hx
    split at hx
    · next xs ys e =>
      obtain ⟨p', us', e1, hp', hv⟩ := own_late I' e ep
      cases e1
      obtain ⟨b, ws, rfl, hb, _, hw⟩ := wd.sqL
      split at hx
      · next z =>
        refine .inr (.inl ⟨p, b, us', ws, rfl, rfl, hp', hb, by rw [hv.len, hw.len]; exact of_decide_eq_true z, fun r hr => ?_⟩)
        obtain ⟨I2, f2⟩ := flo_new I' hr (hv.app hw)
        exact hx _ _ _ (t.trans (Tr.grow hr)) I2 f2
      · exact hx.elim
    · exact hx.elim
  · exact h.elim
theorem m_cat (ha : ME G E ta pa) (hb : ME G E tb pb) : MF G E (tOp (rAddG G.K) ta tb) (pCat pa pb) := fun F S s σ H Q I h =>
  ha F S s σ H _ I (h.bind.mono fun x hx S1 H1 v t1 I1 vd => hb F S1 x.2 σ H1 _ I1 (hx.bind.mono fun y hy S' H' w t I' wd => by
    have vd := vd.tr t
    obtain ⟨d, s1⟩ := x
    obtain ⟨e, s2⟩ := y
    dsimp only at hy
    split at hy
    · next xs ys =>
      obtain ⟨p, us, rfl, hp, _, hv⟩ := vd.sqL
      obtain ⟨b, ws, rfl, hb, _, hw⟩ := wd.sqL
      split at hy
      · next z =>
        refine .inr (.inl ⟨p, b, us, ws, rfl, rfl, hp, hb, by rw [hv.len, hw.len]; exact of_decide_eq_true z, fun r hr => ?_⟩)
        obtain ⟨I2, f2⟩ := flo_new I' hr (hv.app hw)
        exact hy _ _ _ ((t1.trans t).trans (Tr.grow hr)) I2 f2
      · exact hy.elim
    · exact hy.elim))
theorem m_listOf (ha : MA G E tl pl) : MF G E (tCB (fun xs H Q => ∃ p ys, xs = [.ref p] ∧ (SqL G.K H p ys ∨ SqT G.K H p ys) ∧ ∀ l, H l = none → Q (.ref l) (upd H l (.lst ys))) tl) (pListOf pl) := fun F S s σ H Q I h =>
  ha F S s σ H _ I (h.bind.mono fun x hx S' H' v t I' vd => by
    obtain ⟨l, s'⟩ := x
    dsimp only at hx
    split at hx
    · next xs =>
      obtain ⟨w, rfl, wd⟩ := vd.one1
      obtain ⟨p, us, rfl, hp, _, hv⟩ := wd.sqL
      refine ⟨p, us, rfl, .inl (SqL.of hp), fun r hr => ?_⟩
      obtain ⟨I2, f2⟩ := flo_new I' hr hv
      exact hx _ _ _ (t.trans (Tr.grow hr)) I2 f2
    · next xs =>
      obtain ⟨w, rfl, wd⟩ := vd.one1
      obtain ⟨p, us, rfl, hp, hv⟩ := wd.sqT
      refine ⟨p, us, rfl, .inr hp, fun r hr => ?_⟩
      obtain ⟨I2, f2⟩ := flo_new I' hr hv
      exact hx _ _ _ (t.trans (Tr.grow hr)) I2 f2
    · exact hx.elim)
theorem rgOk_of {a b : Int} (h : rgOk a b = true) : RgOk a b := by
  unfold rgOk at h
  rw [Bool.and_eq_true, Bool.and_eq_true] at h
  exact ⟨(inR_of h.1.1).1, (inR_of h.1.1).2, (inR_of h.1.2).1, (inR_of h.1.2).2, of_decide_eq_true h.2⟩
theorem m_lrg1 (ha : ME G E ta pa) : MF G E (tLstRg (tRg1 ta)) (pRg1 pa) := fun F S s σ H Q I h =>
  ha F S s σ H _ I (h.bind.mono fun x hx S' H' v t I' vd => by
    obtain ⟨d, s'⟩ := x
    dsimp only at hx
    split at hx
    · next n =>
      cases vd
      split at hx
      · next z =>
        refine ⟨n, rfl, rgOk_of z, fun r hr => ?_⟩
        obtain ⟨I2, f2⟩ := flo_new I' hr (us := rgV 0 n) (xs := rangeD 0 n) vd_rg
        exact hx _ _ _ (t.trans (Tr.grow hr)) I2 f2
      · exact hx.elim
    · exact hx.elim)
theorem m_lrg2 (ha : ME G E ta pa) (hb : ME G E tb pb) : MF G E (tLstRg (tRg2 ta tb)) (pRg2 pa pb) := fun F S s σ H Q I h =>
  ha F S s σ H _ I (h.bind.mono fun x hx S1 H1 v t1 I1 vd => hb F S1 x.2 σ H1 _ I1 (hx.bind.mono fun y hy S' H' w t I' wd => by
    have vd := vd.tr t
    obtain ⟨d, s1⟩ := x
    obtain ⟨e, s2⟩ := y
    dsimp only at hy vd wd
    cases vd with
    | int i => cases wd with
      | int j =>
        dsimp only at hy
        split at hy
        · next z =>
          refine ⟨i, j, rfl, rfl, rgOk_of z, fun r hr => ?_⟩
          obtain ⟨I2, f2⟩ := flo_new I' hr (us := rgV i j) (xs := rangeD i j) vd_rg
          exact hy _ _ _ ((t1.trans t).trans (Tr.grow hr)) I2 f2
        · exact hy.elim
      | _ => exact hy.elim
    | _ => exact hy.elim))
theorem m_rep (ha : ME G E ta pa) (hb : ME G E tb pb) : MF G E (tOp (rMulG G.K) ta tb) (pRep pa pb) := fun F S s σ H Q I h =>
  ha F S s σ H _ I (h.bind.mono fun x hx S1 H1 v t1 I1 vd => hb F S1 x.2 σ H1 _ I1 (hx.bind.mono fun y hy S' H' w t I' wd => by
    have vd := vd.tr t
    obtain ⟨d, s1⟩ := x
    obtain ⟨e, s2⟩ := y
    dsimp only at hy vd wd
    cases vd with
    | lst n hp hv => cases wd with
      | int k =>
        dsimp only at hy
        split at hy
        · next z =>
          rw [Bool.and_eq_true, Bool.and_eq_true] at z
          refine .inr (.inl ⟨_, k, _, rfl, rfl, hp, of_decide_eq_true z.1.1, of_decide_eq_true z.1.2, by rw [hv.len]; exact of_decide_eq_true z.2, fun r hr => ?_⟩)
          obtain ⟨I2, f2⟩ := flo_new I' hr (hv.rep k.toNat)
          exact hy _ _ _ ((t1.trans t).trans (Tr.grow hr)) I2 f2
        · exact hy.elim
      | _ => exact hy.elim
    | _ => exact hy.elim))
end
end Pl
namespace Pl
open PySem PySem.Spec PyProof.Rows L2 Rp LamX
/-! ### errors are raised; self is made; defs are run -/
def pErr (c f : Str) (a : EF) : SF := fun s => (a s).bind fun x => .err ⟨c, [(f, x.1)]⟩
def pErr2 (c f g : Str) (a b : EF) : SF := fun s => (a s).bind fun x => (b x.2).bind fun y => .err ⟨c, [(g, y.1), (f, x.1)]⟩
def putD (f : Str) (d : D) : List (Str × D) → List (Str × D)
  | [] => [(f, d)]
  | (g, x) :: r => if g = f then (g, d) :: r else (g, x) :: putD f d r
/-- self.f = .. -/
def pSfld (k : Nat) (f : Str) (a : EF) : SF := fun s => (a s).bind fun x => match x.2.ρ[k]? with
  | some (some (.obj C fs)) => if decide (fs.length < 1000) then .ok (.nx { x.2 with ρ := x.2.ρ.set k (some (.obj C (putD f x.1 fs))) }) else .bad
  | _ => .bad
/-- self.f, as it is made -/
def pFldO (k : Nat) (f : Str) : EF := fun s => match s.ρ[k]? with
  | some (some (.obj _ fs)) => match fs.lookup f with
    | some d => .ok (d, s)
    | none => .bad
  | _ => .bad
def startE (n : Nat) (ds : List EV) : En := ds.map some ++ List.replicate (n - ds.length) none
def δ0 : DS := ⟨[], 0, 0⟩
/-- a def of n places and m parameters -/
def runF (n m : Nat) (p : SF) (ds : List D) : Res D := if ds.length = m then match p ⟨startE n (ds.map .val), δ0⟩ with
    | .ok (.rt d _) => .ok d
    | .ok (.nx _) => .ok .non
    | .err e => .err e
    | _ => .bad else .bad
def runB (n m : Nat) (p : SF) (δ : DS) (ds : List D) : Res (D × DS) := if ds.length + 1 = m then match p ⟨startE n (.box :: ds.map .val), δ⟩ with
    | .ok (.rt d δ) => .ok (d, δ)
    | .ok (.nx s) => .ok (.non, s.δ)
    | .err e => .err e
    | _ => .bad else .bad
def runI (C : Str) (n m : Nat) (p : SF) (ds : List D) : Res (List (Str × D)) := if ds.length + 1 = m then match p ⟨startE n (.obj C [] :: ds.map .val), δ0⟩ with
    | .ok (.nx s) => match s.ρ[(0 : Nat)]? with
      | some (some (.obj C' fs)) => if C' = C then .ok fs else .bad
      | _ => .bad
    | .err e => .err e
    | _ => .bad else .bad
section
variable {G : Cx} {E : XK} {F : Fr} {S S' : Addr → Prop} {H H' : Hp} {s : PS} {σ : L2.St} {x y : V} {a b : D} {Q : VK} {ta tb tc : TE} {pa pb pc : EF} {tl tk : TA} {pl pm : LF} {t : TS} {p : SF}
theorem Sim.errAt (I : Sim G F S s σ H) {e : Er} (h : ErOk G F E e) {vs : List (Str × V)} (v : VdF G S H vs e.fs) : ∀ d, H d = none → E (.ref (G.A e.cls)) (some d) (upd H d (.xd vs)) := h H I.base I.tabs vs (v.tr (Tr.less I.sub))
theorem m_err {c f : Str} (ha : ME G E ta pa) : MS G E (fun _ σ H => tErr (G.A c) f ta σ H fun cls d H' => E cls d H') (pErr c f pa) := fun F S s σ H B I h =>
  ha F S s σ H _ I (h.bind.mono fun x hx S' H' v t I' vd => I'.errAt (show ErOk G F E ⟨c, [(f, x.1)]⟩ from hx) (.cons vd .nil))
theorem m_err2 {c f g : Str} (ha : ME G E ta pa) (hb : ME G E tb pb) : MS G E (fun _ σ H => tErr2 (G.A c) f g ta tb σ H fun cls d H' => E cls d H') (pErr2 c f g pa pb) := fun F S s σ H B I h =>
  ha F S s σ H _ I (h.bind.mono fun x hx S1 H1 v t1 I1 vd => hb F S1 x.2 σ H1 _ I1 (hx.bind.mono fun y hy S' H' w t I' wd =>
    I'.errAt (show ErOk G F E ⟨c, [(g, y.1), (f, x.1)]⟩ from hy) (.cons wd (.cons (vd.tr t) .nil))))
theorem VdF.put {f : Str} {v : V} {d : D} (hv : Vd G S H v d) : ∀ {vs : List (Str × V)} {ds : List (Str × D)}, VdF G S H vs ds → VdF G S H (putF f v vs) (putD f d ds)
  | _, _, .nil => .cons hv .nil
  | _, _, .cons (x := x) h t => by
    unfold putF putD
    by_cases e : x = f
    · rw [if_pos e, if_pos e]
      exact .cons hv t
    · rw [if_neg e, if_neg e]
      exact .cons h (VdF.put hv t)
/-- what stands in self is exchanged -/
theorem Sim.putO {k : Nat} {q dx dy : Addr} {C : Str} {fs gs : List (Str × D)} {us vs : List (Str × V)} (I : Sim G F S s σ H) (e : s.ρ[k]? = some (some (.obj C fs))) (ep : σ[k]? = some (some (.ref q))) (h : VdF G S H vs gs) :
    Sim G F S { s with ρ := s.ρ.set k (some (.obj C gs)) } σ (upd H q (.ins (G.A C) dx vs)) := by
  obtain ⟨p', dx', us', e1, sp, n0, pn, h0, hp', hv, mo⟩ := I.obj e
  rw [ep] at e1
  cases e1
  have o : isOwn s.ρ[k]? := by rw [e]; exact True.intro
  have t : Tr S H S (upd H q (.ins (G.A C) dx vs)) := Tr.put sp
  have key : ∀ j : Nat, j ≠ k → (s.ρ.set k (some (.obj C gs)))[j]? = s.ρ[j]? := fun j n => set_other n
  have oo : ∀ j : Nat, isOwn (s.ρ.set k (some (.obj C gs)))[j]? → isOwn s.ρ[j]? := fun j oj => by
    by_cases n : j = k
    · rw [n]; exact o
    · rw [key j n] at oj; exact oj
  have keep : ∀ b u, b ≠ q → H b = some u → upd H q (.ins (G.A C) dx vs) b = some u := fun b u n z => by rw [upd_ne n]; exact z
  refine ⟨by show (s.ρ.set k _).length ≤ _; rw [List.length_set]; exact I.len, fun b z => ?_, I.sub, fun b u n z => ?_, fun b u z => ⟨(I.pins b u z).1, keep b u (fun w => by rw [w, pn] at z; cases z) (I.pins b u z).2⟩, fun j => ?_, fun j i b oj oi => I.apart j i b (oo j oj) (oo i oi), tabs_put I.tabs hp' True.intro keep, I.tbS, fun r z => ?_⟩
  · by_cases w : b = q
    · exact ⟨_, by rw [w]; exact upd_same⟩
    · obtain ⟨u, hu⟩ := I.live b z
      exact ⟨u, keep b u w hu⟩
  · refine keep b u (fun w => ?_) (I.base b u n z)
    subst w
    exact n h0
  · by_cases n : j = k
    · subst n
      show Ent G F S _ (s.ρ.set j (some (.obj C gs)))[j]? σ[j]?
      rw [set_self e, ep]
      exact ⟨q, dx, vs, rfl, sp, n0, pn, h0, upd_same, h.tr t, mo⟩
    · show Ent G F S _ (s.ρ.set k (some (.obj C gs)))[j]? σ[j]?
      rw [key j n]
      exact (I.ent j).tr t fun b u sb _ hb oj ej => ⟨sb, keep b u (fun w => I.off o ep j oj n (by rw [ej, w])) hb⟩
  · obtain ⟨a, b, c, d, f⟩ := I.drw r z
    exact ⟨a, b, c, d, f.tr t fun u hu => keep r u (fun w => n0 (by rw [← w]; exact b)) hu⟩
theorem m_sfld {k : Nat} {f : Str} (cl : ∀ C ∈ G.own, Cls G.K (G.A C)) (na : ∀ C ∈ G.own, NoAttr G.K (G.A C) f) (ha : ME G E ta pa) : MS G E (sFld G.K (tVar k) ta f) (pSfld k f pa) := fun F S s σ H B I h =>
  ha F S s σ H _ I (h.bind.mono fun x hx S' H' v t I' vd => by
    split at hx
    · next C fs e =>
      obtain ⟨q, dx, us, e1, sp, n0, pn, h0, hq, hv, mo⟩ := I'.obj e
      split at hx
      · next z =>
        exact ⟨_, e1, q, _, dx, us, rfl, hq, cl C mo, na C mo, by rw [hv.len]; exact of_decide_eq_true z, hx S' σ _ (t.trans (Tr.put sp)) (I'.putO (us := us) (dy := dx) e e1 (VdF.put vd hv))⟩
      · exact hx.elim
    · exact hx.elim)
theorem get_start {n : Nat} {ds : List EV} {us : List V} (l : ds.length = us.length) (k : Nat) : (∃ i e v, k = i ∧ ds[i]? = some e ∧ us[i]? = some v ∧ (startE n ds)[k]? = some (some e) ∧ (us.map some ++ List.replicate (n - us.length) (none : Option V))[k]? = some (some v)) ∨ ((startE n ds)[k]? = none ∨ (startE n ds)[k]? = some none) := by
  unfold startE
  by_cases h : k < ds.length
  · refine .inl ⟨k, ds[k], us[k]'(by omega), rfl, List.getElem?_eq_getElem h, List.getElem?_eq_getElem (by omega), ?_, ?_⟩
    · rw [List.getElem?_append_left (by rw [List.length_map]; exact h), List.getElem?_map, List.getElem?_eq_getElem h]; rfl
    · rw [List.getElem?_append_left (by rw [List.length_map]; omega), List.getElem?_map, List.getElem?_eq_getElem (by omega)]; rfl
  · refine .inr ?_
    rw [List.getElem?_append_right (by rw [List.length_map]; omega), List.getElem?_replicate]
    split
    · exact .inr rfl
    · exact .inl rfl
/-- a def begins -/
theorem sim_start {F : Fr} {δ : DS} {n : Nat} {ds : List EV} {us : List V} (l : ds.length = us.length) (live : Live S H) (tb : Tabs G.tb H) (tbS : ∀ t ∈ G.tb, S t.1 ∧ F.S0 t.1 ∧ F.W t.1) (sub : ∀ p, F.S0 p → S p) (h0 : F.H0 = H) (pn : ∀ b, F.pin b = none) (dr : ∀ q, F.q = some q → S q ∧ F.S0 q ∧ F.W q ∧ DrX S δ q H)
    (ent : ∀ (i : Nat) e v, ds[i]? = some e → us[i]? = some v → Ent G F S H (some (some e)) (some (some v))) (ap : ∀ (i j : Nat) e e', ds[i]? = some e → ds[j]? = some e' → isOwn (some (some e)) → isOwn (some (some e')) → i = j) : Sim G F S ⟨startE n ds, δ⟩ (us.map some ++ List.replicate (n - us.length) none) H := by
  refine ⟨?_, live, sub, fun b o _ e => by rw [← h0]; exact e, fun b o e => (by rw [pn b] at e; cases e), fun k => ?_, fun j k p oj ok _ _ => ?_, tb, fun t m => ⟨(tbS t m).1, (tbS t m).2.1, (tbS t m).2.2, pn _⟩, fun q e => ?_⟩
  · show (startE n ds).length ≤ _
    unfold startE
    simp only [List.length_append, List.length_map, List.length_replicate]
    omega
  · rcases get_start (n := n) l k with ⟨i, e, v, rfl, e1, e2, e3, e4⟩ | e | e
    · show Ent G F S H (startE n ds)[k]? _
      rw [e3, e4]
      exact ent _ _ _ e1 e2
    · show Ent G F S H (startE n ds)[k]? _
      rw [e]
      exact True.intro
    · show Ent G F S H (startE n ds)[k]? _
      rw [e]
      exact True.intro
  · have oj' : isOwn (startE n ds)[j]? := oj
    have ok' : isOwn (startE n ds)[k]? := ok
    rcases get_start (n := n) l j with ⟨i, e, v, rfl, e1, e2, e3, e4⟩ | e | e
    · rcases get_start (n := n) l k with ⟨i', e', v', rfl, f1, f2, f3, f4⟩ | e' | e'
      · rw [e3] at oj'
        rw [f3] at ok'
        exact ap _ _ _ _ e1 f1 oj' ok'
      · rw [e'] at ok'; exact ok'.elim
      · rw [e'] at ok'; exact ok'.elim
    · rw [e] at oj'; exact oj'.elim
    · rw [e] at oj'; exact oj'.elim
  · obtain ⟨a, b, c, d⟩ := dr q e
    exact ⟨a, b, pn q, c, d⟩
theorem map_val {ds : List D} {i : Nat} {e : EV} (h : (ds.map EV.val)[i]? = some e) : ∃ d, ds[i]? = some d ∧ e = .val d := by
  rw [List.getElem?_map] at h
  cases r : ds[i]? with
  | none => rw [r] at h; cases h
  | some d => rw [r] at h; cases h; exact ⟨d, rfl, rfl⟩
theorem VdA.at {us : List V} {ds : List D} {i : Nat} {d : D} {v : V} (h : VdA G S H us ds) (e : ds[i]? = some d) (e' : us[i]? = some v) : Vd G S H v d := by
  obtain ⟨w, e2, hw⟩ := h.get e
  rw [e'] at e2
  cases e2
  exact hw
theorem ar_P {n m : Nat} {p : SF} {vs : List V} (h : spP G (runF n m p) vs H Q E) : vs.length = m := by
  obtain ⟨S, ds, lv, tb, va, h⟩ := h
  by_cases l : ds.length = m
  · rw [va.len, l]
  · rw [show runF n m p ds = .bad from if_neg l] at h
    exact h.elim
theorem run_P {N : List Str} {m : Nat} {p : SF} {t : TS} {vs : List V} (hp : MS G E t p) (h : spP G (runF N.length m p) vs H Q E) : t ⟨fun _ G => Q .non G, Q, fun _ _ => False, fun _ _ => False⟩ (L2.start N vs) H := by
  have lm := ar_P h
  obtain ⟨S, ds, lv, tb, va, h⟩ := h
  have l : ds.length = m := by rw [← va.len]; exact lm
  rw [show runF N.length m p ds = _ from if_pos l] at h
  have I : Sim G ⟨H, S, fun b => ∃ t ∈ G.tb, b = t.1, none, fun _ => none⟩ S ⟨startE N.length (ds.map .val), δ0⟩ (L2.start N vs) H :=
    sim_start (by rw [List.length_map]; exact va.len.symm) lv tb.1 (fun t m => ⟨tb.2 t m, tb.2 t m, ⟨t, m, rfl⟩⟩) (fun _ z => z) rfl (fun _ => rfl) (fun q e => nomatch e) (fun i e v h1 h2 => by
      obtain ⟨d, hd, rfl⟩ := map_val h1
      exact va.at hd h2) fun i j e e' h1 _ o _ => by
      obtain ⟨d, hd, rfl⟩ := map_val h1
      exact o.elim
  refine hp _ S _ _ H _ I ?_
  cases r : p ⟨startE N.length (ds.map .val), δ0⟩ with
  | ok o =>
    rw [r] at h
    cases o with
    | rt d δ => exact fun S' H' v t' I' vd => h H' v ⟨fun b o m e => I'.base b o (fun z => let ⟨t, mt, w⟩ := z; m t mt w) e, I'.tabs⟩ (vd.tr (Tr.less I'.sub))
    | nx s' => exact fun S' σ' H' t' I' => h H' .non ⟨fun b o m e => I'.base b o (fun z => let ⟨t, mt, w⟩ := z; m t mt w) e, I'.tabs⟩ .non
    | bk _ => exact h.elim
    | ct _ => exact h.elim
  | err e =>
    rw [r] at h
    exact fun H' k kt => h H' ⟨fun b o m e => k b o (fun z => let ⟨t, mt, w⟩ := z; m t mt w) e, kt⟩
  | bad => rw [r] at h; exact h.elim
theorem ar_B {n m : Nat} {p : SF} {vs : List V} (h : spB G (runB n m p) vs H Q E) : vs.length = m := by
  obtain ⟨S, q, δ, us, ds, rfl, lv, tb, sq, dx, va, h⟩ := h
  by_cases l : ds.length + 1 = m
  · rw [List.length_cons, va.len, l]
  · rw [show runB n m p δ ds = .bad from if_neg l] at h
    exact h.elim
theorem run_B {N : List Str} {m : Nat} {p : SF} {t : TS} {vs : List V} (hp : MS G E t p) (h : spB G (runB N.length m p) vs H Q E) : t ⟨fun _ G => Q .non G, Q, fun _ _ => False, fun _ _ => False⟩ (L2.start N vs) H := by
  have lm := ar_B h
  obtain ⟨S, q, δ, us, ds, rfl, lv, tb, sq, dx, va, h⟩ := h
  have l : ds.length + 1 = m := by rw [← va.len]; exact lm
  rw [show runB N.length m p δ ds = _ from if_pos l] at h
  have bs : ∀ {F' : Fr} {S' : Addr → Prop} {s' : PS} {σ' : L2.St} {H' : Hp}, F'.H0 = H → F'.W = (fun b => b = q ∨ ∃ t ∈ G.tb, b = t.1) → Sim G F' S' s' σ' H' → ButT G.tb q H H' := fun e1 e2 I' => ⟨fun b o n m e => I'.base b o (fun z => by rw [e2] at z; rcases z with z | ⟨t, mt, w⟩; exact n z; exact m t mt w) (by rw [e1]; exact e), I'.tabs⟩
  have I : Sim G ⟨H, S, fun b => b = q ∨ ∃ t ∈ G.tb, b = t.1, some q, fun _ => none⟩ S ⟨startE N.length (.box :: ds.map .val), δ⟩ (L2.start N (.ref q :: us)) H :=
    sim_start (by rw [List.length_cons, List.length_cons, List.length_map, va.len]) lv tb.1 (fun t m => ⟨tb.2 t m, tb.2 t m, .inr ⟨t, m, rfl⟩⟩) (fun _ z => z) rfl (fun _ => rfl) (fun q' e => by cases e; exact ⟨sq, sq, .inl rfl, dx⟩) (fun i e v h1 h2 => by
      cases i with
      | zero => cases h1; cases h2; exact ⟨q, rfl, rfl⟩
      | succ i =>
        obtain ⟨d, hd, rfl⟩ := map_val (by simpa using h1)
        exact va.at hd (by simpa using h2)) fun i j e e' h1 _ o _ => by
      cases i with
      | zero => cases h1; exact o.elim
      | succ i =>
        obtain ⟨d, hd, rfl⟩ := map_val (by simpa using h1)
        exact o.elim
  refine hp _ S _ _ H _ I ?_
  cases r : p ⟨startE N.length (.box :: ds.map .val), δ⟩ with
  | ok o =>
    rw [r] at h
    cases o with
    | rt d δ' => exact fun S' H' v t' I' vd => h H' v (bs rfl rfl I') ((I'.drw q rfl).2.2.2.2.tr (Tr.less I'.sub) fun _ z => z) (vd.tr (Tr.less I'.sub))
    | nx s' => exact fun S' σ' H' t' I' => h H' .non (bs rfl rfl I') ((I'.drw q rfl).2.2.2.2.tr (Tr.less I'.sub) fun _ z => z) .non
    | bk _ => exact h.elim
    | ct _ => exact h.elim
  | err e =>
    rw [r] at h
    exact fun H' k kt => h H' ⟨fun b o n m e => k b o (fun z => by rcases z with z | ⟨t, mt, w⟩; exact n z; exact m t mt w) e, kt⟩
  | bad => rw [r] at h; exact h.elim
theorem ar_I {C : Str} {n m : Nat} {p : SF} {vs : List V} (h : spI G C (runI C n m p) vs H Q E) : vs.length = m := by
  obtain ⟨S, x, dx, us, ds, rfl, lv, tb, sx, sd, hx, va, h⟩ := h
  by_cases l : ds.length + 1 = m
  · rw [List.length_cons, va.len, l]
  · rw [show runI C n m p ds = .bad from if_neg l] at h
    exact h.elim
theorem run_I {C : Str} {N : List Str} {m : Nat} {p : SF} {t : TS} {vs : List V} (mC : C ∈ G.own) (hN : N.length ≠ 0) (hp : MS G E t p) (h : spI G C (runI C N.length m p) vs H Q E) : t ⟨fun _ G => Q .non G, Q, fun _ _ => False, fun _ _ => False⟩ (L2.start N vs) H := by
  have lm := ar_I h
  obtain ⟨S, x, dx, us, ds, rfl, lv, tb, sx, sd, hx, va, h⟩ := h
  have l : ds.length + 1 = m := by rw [← va.len]; exact lm
  rw [show runI C N.length m p ds = _ from if_pos l] at h
  have nx : ∀ t ∈ G.tb, x ≠ t.1 := tab_ne tb.1 hx True.intro
  have I : Sim G ⟨H, but S x, fun b => b = x ∨ ∃ t ∈ G.tb, b = t.1, none, fun _ => none⟩ S ⟨startE N.length (.obj C [] :: ds.map .val), δ0⟩ (L2.start N (.ref x :: us)) H :=
    sim_start (by rw [List.length_cons, List.length_cons, List.length_map, va.len]) lv tb.1 (fun t m => ⟨tb.2 t m, ⟨tb.2 t m, (nx t m).symm⟩, .inr ⟨t, m, rfl⟩⟩) (fun _ z => z.1) rfl (fun _ => rfl) (fun q' e => nomatch e) (fun i e v h1 h2 => by
      cases i with
      | zero => cases h1; cases h2; exact ⟨x, dx, [], rfl, sx, fun z => z.2 rfl, rfl, .inl rfl, hx, .nil, mC⟩
      | succ i =>
        obtain ⟨d, hd, rfl⟩ := map_val (by simpa using h1)
        exact va.at hd (by simpa using h2)) fun i j e e' h1 h2 o o' => by
      cases i with
      | zero =>
        cases j with
        | zero => rfl
        | succ j =>
          obtain ⟨d, hd, rfl⟩ := map_val (by simpa using h2)
          exact o'.elim
      | succ i =>
        obtain ⟨d, hd, rfl⟩ := map_val (by simpa using h1)
        exact o.elim
  refine hp _ (S) _ _ H _ I ?_
  cases r : p ⟨startE N.length (.obj C [] :: ds.map .val), δ0⟩ with
  | ok o =>
    rw [r] at h
    cases o with
    | nx s' =>
      intro S' σ' H' t' I'
      cases e : s'.ρ[(0 : Nat)]? with
      | none => dsimp only at h; rw [e] at h; exact h.elim
      | some z =>
        dsimp only at h
        rw [e] at h
        match z, e, h with
        | some (.obj C' fs'), e, h =>
          obtain ⟨p', dy, gs, e1, sp, n0, pn, h0, hp', hv, mo⟩ := I'.obj e
          have px : p' = x := by
            rcases h0 with h0 | ⟨t, mt, w⟩
            · exact h0
            · exact absurd w (tab_ne I'.tabs hp' True.intro t mt)
          subst px
          by_cases ec : C' = C
          · subst ec
            dsimp only at h
            rw [if_pos rfl] at h
            exact h H' dy gs ⟨fun b o n m z => I'.base b o (fun w => by rcases w with w | ⟨t, mt, w⟩; exact n w; exact m t mt w) z, I'.tabs⟩ hp' (hv.tr (Tr.less fun b z => by
              by_cases w : b = p'
              · rw [w]; exact sp
              · exact I'.sub b ⟨z, w⟩))
          · dsimp only at h
            rw [if_neg ec] at h
            exact h.elim
        | some (.val _), e, h => exact h.elim
        | some (.own _), e, h => exact h.elim
        | some .box, e, h => exact h.elim
        | none, e, h => exact h.elim
    | rt _ _ => exact h.elim
    | bk _ => exact h.elim
    | ct _ => exact h.elim
  | err e =>
    rw [r] at h
    intro H' k kt
    exact h H' ⟨fun b o n m e => k b o (fun z => by rcases z with z | ⟨t, mt, w⟩; exact n z; exact m t mt w) e, kt⟩
  | bad => rw [r] at h; exact h.elim
end
end Pl
namespace Pl
open PySem PySem.Spec PyProof.Rows L2 Rp
/-! ### a, b = .., .. -/
inductive Src where
  | val (d : D) | own (xs : List D)
abbrev XF := PS → Res (Src × PS)
abbrev XsF := PS → Res (List Src × PS)
def xV (a : EF) : XF := fun s => (a s).bind fun x => .ok (.val x.1, x.2)
def xO (a : LF) : XF := fun s => (a s).bind fun x => .ok (.own x.1, x.2)
def xNil : XsF := fun s => .ok ([], s)
def xCons (a : XF) (r : XsF) : XsF := fun s => (a s).bind fun x => (r x.2).bind fun y => .ok (x.1 :: y.1, y.2)
def putE (k : Nat) : Src → PS → PS
  | .val d => setV k d
  | .own xs => setO k xs
def putAll : List Nat → List Src → PS → PS
  | k :: ks, e :: es, s => putAll ks es (putE k e s)
  | _, _, s => s
def setAll : List Nat → List V → L2.St → L2.St
  | k :: ks, v :: vs, σ => setAll ks vs (σ.set k (some v))
  | _, _, σ => σ
def pPar (ks : List Nat) (l : XsF) : SF := fun s => (l s).bind fun x => if x.1.length = ks.length then .ok (.nx (putAll ks x.1 x.2)) else .bad
def Slot (G : Cx) (F : Fr) (S : Addr → Prop) (s : PS) (σ : L2.St) (H : Hp) (v : V) : Src → Prop
  | .val d => Vd G S H v d
  | .own xs => ∃ p, v = .ref p ∧ Flo G F S s σ H p xs
def offs (v : V) : List V → List Src → Prop
  | w :: ws, .own _ :: es => v ≠ w ∧ offs v ws es
  | _ :: ws, .val _ :: es => offs v ws es
  | _, _ => True
def isO : Src → Prop
  | .own _ => True
  | .val _ => False
def Slots (G : Cx) (F : Fr) (S : Addr → Prop) (s : PS) (σ : L2.St) (H : Hp) : List V → List Src → Prop
  | [], [] => True
  | v :: vs, e :: es => Slot G F S s σ H v e ∧ (isO e → offs v vs es) ∧ Slots G F S s σ H vs es
  | _, _ => False
def MX (G : Cx) (E : XK) (t : TE) (p : XF) : Prop := ∀ (F : Fr) (S : Addr → Prop) (s : PS) (σ : L2.St) (H : Hp) (Q : VK), Sim G F S s σ H →
  Po G F E (fun x => ∀ S' H' v, Tr S H S' H' → Sim G F S' x.2 σ H' → Slot G F S' x.2 σ H' v x.1 → Q v H') (p s) → t σ H Q
def MXs (G : Cx) (E : XK) (t : TA) (p : XsF) : Prop := ∀ (F : Fr) (S : Addr → Prop) (s : PS) (σ : L2.St) (H : Hp) (Q : List V → Hp → Prop), Sim G F S s σ H →
  Po G F E (fun x => ∀ S' H' v, Tr S H S' H' → Sim G F S' x.2 σ H' → Slots G F S' x.2 σ H' v x.1 → Q v H') (p s) → t σ H Q
section
variable {G : Cx} {E : XK} {F : Fr} {S S' : Addr → Prop} {H H' : Hp} {s : PS} {σ : L2.St} {x y : V} {a b : D} {Q : VK} {ta tb tc : TE} {pa pb pc : EF} {tl tk : TA} {pl pm : LF}
theorem mx_v (ha : ME G E ta pa) : MX G E ta (xV pa) := fun F S s σ H Q I h => ha F S s σ H Q I (h.bind.mono fun x hx S' H' v t I' vd => hx S' H' v t I' vd)
theorem mx_o (ha : MF G E ta pl) : MX G E ta (xO pl) := fun F S s σ H Q I h => ha F S s σ H Q I (h.bind.mono fun x hx S' H' p t I' f => hx S' H' _ t I' ⟨p, rfl, f⟩)
theorem mxs_nil : MXs G E tNil xNil := fun F S s σ H Q I h => h S H [] Tr.refl I True.intro
theorem Flo.unpin {p q : Addr} {o : HO} {xs : List D} (f : Flo G (pinD F p o) S s σ H q xs) : Flo G F S s σ H q xs ∧ q ≠ p :=
  ⟨⟨f.sp, f.n0, pin_none f.pn, f.h0, f.off, f.at_⟩, fun z => by
    have := f.pn
    rw [show (pinD F p o).pin q = upd F.pin p o q from rfl, z, upd_same] at this
    cases this⟩
theorem Slots.unpin {p : Addr} {o : HO} : ∀ {vs : List V} {es : List Src}, Slots G (pinD F p o) S s σ H vs es → Slots G F S s σ H vs es ∧ offs (.ref p) vs es
  | [], [], _ => ⟨True.intro, True.intro⟩
  | v :: vs, .val d :: es, h => by
    obtain ⟨h1, h2, h3⟩ := h
    obtain ⟨k1, k2⟩ := Slots.unpin h3
    exact ⟨⟨h1, h2, k1⟩, k2⟩
  | v :: vs, .own xs :: es, h => by
    obtain ⟨⟨q, e, f⟩, h2, h3⟩ := h
    obtain ⟨k1, k2⟩ := Slots.unpin h3
    obtain ⟨f1, f2⟩ := f.unpin
    exact ⟨⟨⟨q, e, f1⟩, h2, k1⟩, fun z => by rw [e] at z; cases z; exact f2 rfl, k2⟩
  | [], _ :: _, h => h.elim
  | _ :: _, [], h => h.elim
theorem mxs_cons {px : XF} {pxs : XsF} (ha : MX G E ta px) (hl : MXs G E tl pxs) : MXs G E (tCons ta tl) (xCons px pxs) := fun F S s σ H Q I h =>
  ha F S s σ H _ I (h.bind.mono fun x hx S' H' v t I' sl => by
    obtain ⟨e, s'⟩ := x
    match e, sl, hx with
    | .val d, sl, hx => exact hl F S' s' σ H' _ I' (Po.mono (Po.bind hx) fun y hy S2 H2 w t2 I2 ws => hy S2 H2 (v :: w) (t.trans t2) I2 ⟨Vd.tr t2 sl, fun z => z.elim, ws⟩)
    | .own xs, ⟨p, ev, f⟩, hx =>
      subst ev
      obtain ⟨us, hp, hv⟩ := f.at_
      have I1 := I'.pin f hp
      exact hl (pinD F p (.lst us)) S' s' σ H' _ I1 (Po.mono (Po.bind (show Po G (pinD F p (.lst us)) E _ ((pxs s').bind _) from hx)) fun y hy S2 H2 w t2 I2 ws => by
        obtain ⟨w1, w2⟩ := ws.unpin
        obtain ⟨k1, k2⟩ := I2.pins p _ upd_same
        exact hy S2 H2 (.ref p :: w) (t.trans t2) (I2.unpin f.pn) ⟨⟨p, rfl, k1, f.n0, f.pn, f.h0, fun k o => (I2.ent k).unpin.2 o, us, k2, hv.tr t2⟩, fun _ => w2, w1⟩))
theorem Flo.asgV {k : Nat} {d : D} {v : V} {p : Addr} {xs : List D} (f : Flo G F S s σ H p xs) : Flo G F S (setV k d s) (σ.set k (some v)) H p xs := by
  refine ⟨f.sp, f.n0, f.pn, f.h0, fun j o => ?_, f.at_⟩
  obtain ⟨n, o⟩ := isOwn_set (show isOwn (s.ρ.set k (some (.val d)))[j]? from o)
  rw [set_other n]
  exact f.off j o
theorem Flo.asgO {k : Nat} {ys : List D} {p q : Addr} {xs : List D} (f : Flo G F S s σ H p xs) (n : p ≠ q) : Flo G F S (setO k ys s) (σ.set k (some (.ref q))) H p xs := by
  refine ⟨f.sp, f.n0, f.pn, f.h0, fun j o e => ?_, f.at_⟩
  by_cases w : j = k
  · subst w
    have l := lt_of_some e
    rw [List.length_set] at l
    rw [List.getElem?_set_self l] at e
    cases e
    exact n rfl
  · rw [set_other w] at e
    exact f.off j (by rw [← set_other (y := some (EV.own ys)) w]; exact o) e
theorem Slots.asg {k : Nat} {e : Src} {v : V} (sl : Slot G F S s σ H v e) : ∀ {vs : List V} {es : List Src}, (isO e → offs v vs es) → Slots G F S s σ H vs es → Slots G F S (putE k e s) (σ.set k (some v)) H vs es
  | [], [], _, _ => True.intro
  | w :: vs, .val d :: es, o, h => ⟨h.1, h.2.1, Slots.asg sl (fun z => o z) h.2.2⟩
  | w :: vs, .own xs :: es, o, h => by
    obtain ⟨⟨q, ew, f⟩, h2, h3⟩ := h
    refine ⟨⟨q, ew, ?_⟩, h2, Slots.asg sl (fun z => (o z).2) h3⟩
    match e, sl, o with
    | .val d, sl, o => exact f.asgV
    | .own ys, ⟨p, ev, fp⟩, o =>
      subst ev
      exact f.asgO fun z => (o True.intro).1 (by rw [ew, z])
  | [], _ :: _, _, h => h.elim
  | _ :: _, [], _, h => h.elim
theorem sim_all : ∀ {ks : List Nat} {vs : List V} {es : List Src} {s : PS} {σ : L2.St}, Sim G F S s σ H → Slots G F S s σ H vs es → es.length = ks.length → Sim G F S (putAll ks es s) (setAll ks vs σ) H ∧ vs.length = ks.length
  | [], [], [], _, _, I, _, _ => ⟨I, rfl⟩
  | k :: ks, v :: vs, e :: es, s, σ, I, h, l => by
    obtain ⟨h1, h2, h3⟩ := h
    have I2 : Sim G F S (putE k e s) (σ.set k (some v)) H := by
      match e, h1 with
      | .val d, h1 => exact I.asgV h1
      | .own xs, ⟨p, ev, f⟩ => subst ev; exact I.asgO f
    obtain ⟨a, b⟩ := sim_all I2 (h3.asg h1 h2) (by simpa using l)
    exact ⟨a, by simp [b]⟩
  | [], _ :: _, [], _, _, _, h, _ => h.elim
  | [], [], _ :: _, _, _, _, h, _ => h.elim
  | [], _ :: _, _ :: _, _, _, _, _, l => by simp at l
  | _ :: _, [], [], _, _, _, _, l => by simp at l
  | _ :: _, [], _ :: _, _, _, _, h, _ => h.elim
  | _ :: _, _ :: _, [], _, _, _, h, _ => h.elim
theorem m_par2 {i j : Nat} {px : XsF} (hl : MXs G E tl px) : MS G E (tPar i j tl) (pPar [i, j] px) := fun F S s σ H B I h =>
  hl F S s σ H _ I (h.bind.mono fun x hx S' H' v t I' sl => by
    split at hx
    · next l =>
      obtain ⟨I2, lv⟩ := sim_all I' sl l
      match v, lv with
      | [a, b], _ => exact ⟨a, b, rfl, hx S' _ H' t I2⟩
    · exact hx.elim)
theorem m_par3 {i j k : Nat} {px : XsF} (hl : MXs G E tl px) : MS G E (tPar3 i j k tl) (pPar [i, j, k] px) := fun F S s σ H B I h =>
  hl F S s σ H _ I (h.bind.mono fun x hx S' H' v t I' sl => by
    split at hx
    · next l =>
      obtain ⟨I2, lv⟩ := sim_all I' sl l
      match v, lv with
      | [a, b, c], _ => exact ⟨a, b, c, rfl, hx S' _ H' t I2⟩
    · exact hx.elim)
/-- the last one first -/
def pRevL (a : EF) : LF := fun s => (a s).bind fun x => match x.1 with
  | .lst xs => .ok (xs.reverse, x.2)
  | _ => .bad
theorem m_revL (ha : ME G E ta pa) : MF G E (tRevL G.K ta) (pRevL pa) := fun F S s σ H Q I h =>
  ha F S s σ H _ I (h.bind.mono fun x hx S' H' v t I' vd => by
    obtain ⟨d, s'⟩ := x
    dsimp only at hx vd
    cases vd with
    | lst n e hv =>
      refine ⟨_, _, rfl, SqL.of e, fun r hr => ?_⟩
      obtain ⟨I2, f2⟩ := flo_new I' hr hv.rev
      exact hx _ _ _ (t.trans (Tr.grow hr)) I2 f2
    | _ => exact hx.elim)
theorem kt_of {K : PySem.W.Frag} {p : Addr} {xs : List V} (h : ∀ {H : Hp}, SqT K H p xs) : KT K p xs := by
  rcases (h (H := fun _ => none)) with h | h
  · rcases h with h | ⟨o, h⟩ <;> cases h
  · exact h
theorem m_kt {p : Addr} {us : List V} {ds : List D} (h : ∀ {H : Hp}, SqT G.K H p us) (hv : ∀ S H, VdA G S H us ds) : ME G E (tC (.ref p)) (pC (.tup ds)) := m_c fun S H => .ktp (kt_of h) (hv S H)
/-! ### repr -/
def reprP : List D → Res D
  | [d] => match d.py with
    | some x => if x.showable && decide (x.depth ≤ 64) && decide (cost x ≤ 15000000) then .ok (.str x.shown) else .bad
    | none => .bad
  | _ => .bad
theorem mb_repr : MB G (rReprA G.K) reprP := fun S H x a Q l va h => by
  unfold reprP at h
  split at h
  · obtain ⟨v, rfl, hv⟩ := va.one1
    split at h
    · next x e =>
      obtain ⟨z, h⟩ := PoD.ite h
      rw [Bool.and_eq_true, Bool.and_eq_true] at z
      exact ⟨v, x, rfl, hv.dd e, ⟨z.1.1, of_decide_eq_true z.1.2, of_decide_eq_true z.2⟩, h H _ (Same.refl H) (.str _)⟩
    · exact h.elim
  · exact h.elim
end
end Pl
namespace Pl
open PySem PySem.Spec PyProof.Rows L2 Rp
section
variable {G : Cx} {E : XK} {ta tb : TE} {pa pb : EF} {tl : TA} {pl : LF}
theorem m_errC {C : Addr} {c f : Str} (h : G.A c = C) (ha : ME G E ta pa) : MS G E (fun _ σ H => tErr C f ta σ H fun cls d H' => E cls d H') (pErr c f pa) := h ▸ m_err ha
theorem m_err2C {C : Addr} {c f g : Str} (h : G.A c = C) (ha : ME G E ta pa) (hb : ME G E tb pb) : MS G E (fun _ σ H => tErr2 C f g ta tb σ H fun cls d H' => E cls d H') (pErr2 c f g pa pb) := h ▸ m_err2 ha hb
theorem m_mkC {C : Addr} {c : Str} {f : List D → Res (List (Str × D))} (mC : c ∈ G.own) (h : G.A c = C) (ha : MA G E tl pl) : ME G E (tMake C (spI G c f) [] E tl) (pMk c f pl) := h ▸ m_mk mC ha
theorem m_mk0C {C : Addr} {c : Str} {f : List D → Res (List (Str × D))} (mC : c ∈ G.own) (h : G.A c = C) (ha : MA G E tl pl) : ME G E (tMake C (spI G c f) [] E0 tl) (pMk0 c f pl) := h ▸ m_mk0 mC ha
theorem m_isoC {C : Addr} {c : Str} (o : Own G) (mC : c ∈ G.own) (h : G.A c = C) (ha : ME G E ta pa) : ME G E (tCB (rIsi G.K) (tCons ta (tCons (tC (.ref C)) tNil))) (pIso c pa) := h ▸ m_iso o mC ha
end
end Pl
namespace Pl
open PySem PySem.Spec PyProof.Rows L2 Rp LamX
/-! ### what draws -/
def bxD (δ : DS) : Int → Res D
  | 0 => .ok (.lst (δ.ns.map .int))
  | 1 => .ok (.int (δ.lap : Int))
  | 2 => .ok (.int δ.rest)
  | _ => .bad
def pBoxIx (k : Nat) (i : Int) : EF := fun s => match s.ρ[k]? with
  | some (some .box) => (bxD s.δ i).bind fun d => .ok (d, s)
  | _ => .bad
def bxS (δ : DS) : Int → D → Res DS
  | 1, .int n => if decide (0 ≤ n) then .ok { δ with lap := n.toNat } else .bad
  | 2, .int n => .ok { δ with rest := n }
  | _, _ => .bad
def pGBox (k : Nat) (i : Int) : GF := fun d s => match s.ρ[k]? with
  | some (some .box) => (bxS s.δ i d).bind fun δ => .ok { s with δ := δ }
  | _ => .bad
section
variable {G : Cx} {E : XK} {F : Fr} {S S' : Addr → Prop} {H H' : Hp} {s : PS} {σ : L2.St} {x y : V} {a b : D} {Q : VK} {ta tb tc : TE} {pa pb pc : EF} {tl tk : TA} {pl pm : LF}
theorem vd_nums : ∀ ns : List Int, VdA G S H (ns.map V.int) (ns.map D.int)
  | [] => .nil
  | n :: r => .cons (.int n) (vd_nums r)
theorem m_bix {k : Nat} {i : Int} : ME G E (tOp (rIx G.K) (tVar k) (tC (.int i))) (pBoxIx k i) := fun F S s σ H Q I h => by
  unfold pBoxIx at h
  split at h
  · next e =>
    obtain ⟨q, eq, fq⟩ := I.box e
    obtain ⟨a1, a2, a3, a4, ⟨c, h1, h2, h3, h4⟩, h5⟩ := I.drw q fq
    refine ⟨_, eq, ?_⟩
    unfold bxD at h
    split at h
    · exact .inl ⟨q, _, 0, .ref c, rfl, rfl, SqL.of h3, rfl, h S H _ Tr.refl I (.lst h2 h4 (vd_nums _))⟩
    · exact .inl ⟨q, _, 1, _, rfl, rfl, SqL.of h3, rfl, h S H _ Tr.refl I (.int _)⟩
    · exact .inl ⟨q, _, 2, _, rfl, rfl, SqL.of h3, rfl, h S H _ Tr.refl I (.int _)⟩
    · exact h.elim
  · exact h.elim
theorem m_bset {k : Nat} {i : Int} : MG G E (gSub (tVar k) (tC (.int i)) rSetL) (pGBox k i) := fun F S s σ H v d Q I vd h => by
  unfold pGBox at h
  split at h
  · next e =>
    obtain ⟨q, eq, fq⟩ := I.box e
    obtain ⟨a1, a2, a3, a4, ⟨c, h1, h2, h3, h4⟩, h5⟩ := I.drw q fq
    refine ⟨_, eq, ?_⟩
    have fin : ∀ δ u, v = .int u → DrX S δ q (upd H q (.lst [.ref c, .int (δ.lap : Int), .int δ.rest])) → δ.ns = s.δ.ns → KG G F S H Q { s with δ := δ } → Q σ (upd H q (.lst [.ref c, .int (δ.lap : Int), .int δ.rest])) := fun δ u _ dr _ k => by
      obtain ⟨t2, I2⟩ := I.drew fq ⟨fun b o n _ z => (by rw [upd_ne n]; exact z), tabs_put I.tabs h3 True.intro fun b o n z => by rw [upd_ne n]; exact z⟩ dr
      exact k S σ _ t2 I2
    have dr : ∀ δ : DS, δ.ns = s.δ.ns → DrX S δ q (upd H q (.lst [.ref c, .int (δ.lap : Int), .int δ.rest])) := fun δ e => ⟨⟨c, h1, h2, upd_same, by rw [upd_ne h1, e]; exact h4⟩, by rw [e]; exact h5⟩
    unfold bxS at h
    split at h
    · cases vd with
      | int n =>
        next n' =>
        split at h
        · next z =>
          have z := of_decide_eq_true z
          refine ⟨q, _, 1, 1, rfl, rfl, h3, rfl, ?_⟩
          have k := fin { s.δ with lap := n'.toNat } _ rfl (dr _ rfl) rfl h
          have e2 : ((n'.toNat : Nat) : Int) = n' := Int.toNat_of_nonneg z
          simp only [e2] at k
          exact k
        · exact h.elim
    · cases vd with
      | int n =>
        next n' => exact ⟨q, _, 2, 2, rfl, rfl, h3, rfl, fin { s.δ with rest := n' } _ rfl (dr _ rfl) rfl h⟩
    · exact h.elim
  · exact h.elim
/-! ### a law begins: the box is made -/
def lawE (n k : Nat) : En := (List.replicate n none).set k (some .box)
theorem run_law {K : PySem.W.Frag} {k : Nat} {A : Str → Addr} {own : List Str} {tb : List (Addr × Str)} {er et : List Str} {N : List Str} {t : TS} {p : SF} {a : Addr} {ns : List Int} {Q : VK} (hk : 0 < k) (hN : k < N.length) (hp : MS ⟨K, A, own, tb, er, et⟩ E t p) (hT : Tabs tb H) (hS : SqL K H a (ns.map V.int)) (q : ∀ H', Q (.bl true) H')
    (h : ∀ (ns : List Int) (rest : Int), ns.length ≤ 60 → ∃ δ, p ⟨lawE N.length k, ⟨ns, 0, rest⟩⟩ = .ok (.rt (.bl true) δ)) :
    tSeq (tAsg (tGo (spBox K) (tCons (tVar 0) tNil)) (gName k)) t ⟨fun _ G => Q .non G, Q, fun _ _ => False, fun _ _ => False⟩ (L2.start N [.ref a]) H := by
  refine ⟨.ref a, rfl, a, ns, rfl, hS, fun H' q' c ns' D0 sm nq => ?_⟩
  obtain ⟨ne, ⟨rest, hb⟩, hc, hl⟩ := D0
  obtain ⟨δ, hδ⟩ := h ns' rest hl
  show t _ ((L2.start N [.ref a]).set k (some (.ref q'))) H'
  have ls : (L2.start N [.ref a]).length = N.length := by
    unfold L2.start
    simp only [List.length_append, List.length_map, List.length_replicate, List.length_cons, List.length_nil]
    omega
  have tb' : Tabs tb H' := hT.ext sm
  let SS : Addr → Prop := fun b => b = q' ∨ ∃ t ∈ tb, b = t.1
  have at_ : ∀ j : Nat, (lawE N.length k)[j]? = if j = k then some (some .box) else if j < N.length then some none else none := fun j => by
    unfold lawE
    rw [set_get]
    by_cases e : j = k
    · rw [if_pos e, if_pos e, List.getElem?_replicate, if_pos (by omega)]
      rfl
    · rw [if_neg e, if_neg e, List.getElem?_replicate]
  have I : Sim ⟨K, A, own, tb, er, et⟩ ⟨H', SS, SS, some q', fun _ => none⟩ SS ⟨lawE N.length k, ⟨ns', 0, rest⟩⟩ ((L2.start N [.ref a]).set k (some (.ref q'))) H' := by
    refine ⟨(by show (lawE N.length k).length ≤ _; unfold lawE; rw [List.length_set, List.length_set, List.length_replicate, ls]; exact Nat.le_refl _), fun b z => ?_, fun _ z => z, fun b o _ e => e, fun b o e => (nomatch e), fun j => ?_, fun j i b oj => ?_, tb', fun t m => ⟨.inr ⟨t, m, rfl⟩, .inr ⟨t, m, rfl⟩, .inr ⟨t, m, rfl⟩, rfl⟩, fun q2 e2 => ?_⟩
    · rcases z with z | ⟨t, m, w⟩
      · exact ⟨_, (congrArg H' z).trans hb⟩
      · obtain ⟨ps, h1, _⟩ := tb' t m
        exact ⟨_, (congrArg H' w).trans h1⟩
    · show Ent _ _ _ _ (lawE N.length k)[j]? _
      rw [at_ j]
      by_cases e : j = k
      · rw [if_pos e, e, List.getElem?_set_self (by omega)]
        exact ⟨q', rfl, rfl⟩
      · rw [if_neg e]
        split <;> exact True.intro
    · have oj' : isOwn (lawE N.length k)[j]? := oj
      rw [at_ j] at oj'
      by_cases e : j = k
      · rw [if_pos e] at oj'; exact oj'.elim
      · rw [if_neg e] at oj'
        split at oj' <;> exact oj'.elim
    · cases e2
      exact ⟨.inl rfl, .inl rfl, rfl, .inl rfl, ⟨c, ne, fun z => z.elim ne fun ⟨t, m, w⟩ => tab_ne tb' hc True.intro t m w, hb, hc⟩, hl⟩
  refine hp _ _ _ _ _ _ I ?_
  rw [hδ]
  intro S' H2 v t' I' vd
  cases vd
  exact q _
end
end Pl
namespace Pl
open PySem PySem.Spec PyProof.Rows L2 LamX Rp
/-! ### lambdas: all but the tables stays -/
def ExtP (T : List (Addr × Str)) (H H' : Hp) : Prop := ∀ b o, (∀ t ∈ T, b ≠ t.1) → H b = some o → H' b = some o
def tLamP (T : List (Addr × Str)) (TT : (XK → Hp → VK → Prop) → Hp → VK → Prop) (t : XK → TE) : TE := fun σ H Q => Tabs T H ∧ ∀ H1, ExtP T H H1 → Tabs T H1 → TT (fun E H' Q' => t E σ H' Q') H1 Q
section
variable {X : L2.Cx} {pins : List (Addr × Obj)} {σ : L2.St} {H : Hp} {s : Shared}
theorem lam_tailP {T : List (Addr × Str)} {c P : Addr} {params : Arguments} {body : Expr} {scope : Scope} {pos : Pos} {line : Nat} {dV : Value} {us : List Value} {Z : Value → Shared → Prop} {Q : Value → Shared → Prop} (I : Inv X pins σ H s) (TB : TabB X.base X.mg c P) (cd : X.env.code = .ref c)
    (mem : (P, X.env.qual ++ "<lambda>") ∈ T) (one : ∀ p ∈ T, p.1 = P → p.2 = X.env.qual ++ "<lambda>") (tabs : Tabs T H) (cap : ∀ y ∈ scope.names, y.2 = .free → ∃ c, X.env.cells.lookup y.1 = some c) (dv : DvOk dV us H X.stack s.heap)
    (k : ∀ (f c' : Addr) (doc pm ctv : Value) (G : Hp) (t : Shared), Inv X pins σ G t → ExtP T H G → Tabs T G → t.heap.get? f = some (lamObj X params body scope dV doc pm c' ctv) → G f = none → f ∉ frs X.stack → DvOk dV us G X.stack t.heap → G c' = some (CodeO c' (X.env.qual ++ "<lambda>")) → Q (.ref f) t) :
    wpAny (model X.prog X.w) X.A (makeTail "<lambda>" (X.env.qual ++ "<lambda>") params (.expr body) scope X.env dV .none none pos line) Q Z s := by
  obtain ⟨ps, isP, trip, told⟩ := tabs _ mem
  have atP : s.heap.get? P = some { cls := .none, data := .fields ps } := I.hok P _ isP
  have clo := closure_ok cap
  have names := I.mod.glob.keeps I.bk
  have code := TB.code.keeps I.bk
  have blt : s.heap.BuiltinsAt X.mg P := TB.bm.keeps I.bk
  rcases found : codeAmong pos ps.toList with _ | cv
  · -- a code object is made, and noted in the table
    apply PySem.W.kdv_makeTail clo I.ok.glob names cd code atP trip found TB.gP blt
    rintro c' ctv doc h tk other fresh lt ⟨c2, oc, vs, t, rfl', hoc, dat, nm⟩ tab
    cases rfl'
    have nc : H c' = none := I.hok.fresh fresh
    have le : s.heap.objs.size ≤ h.objs.size := Nat.le_trans fresh (Nat.le_of_lt lt)
    have cP : P ≠ c' := ne_of_none isP nc
    have J := inv_table (q := X.env.qual ++ "<lambda>") (t' := tk) (h' := h.push (lamObj X params body scope dV doc ((X.mg "__name__").getD .none) c' ctv)) I isP (fun b o n e => Heap.get?_push_of_some _ (other b o n e)) (Heap.get?_push_of_some _ tab) fresh ⟨oc, vs, t, Heap.get?_push_of_some _ hoc, dat, nm⟩
    generalize hG : upd (upd H P _) c' _ = G at J
    have Gc : G c' = some (CodeO c' (X.env.qual ++ "<lambda>")) := by rw [← hG, upd_same]
    have GP : G P = some (.tbl (ps ++ #[rawInt pos.line, rawInt pos.col, .ref c'])) := by rw [← hG, upd_ne cP, upd_same]
    have Go : ∀ b, b ≠ P → b ≠ c' → G b = H b := fun b n1 n2 => by rw [← hG, upd_ne n2, upd_ne n1]
    have grow : ExtP T H G := by
      intro b o n e
      rw [Go b (fun z => n _ mem z) (ne_of_none e nc)]
      exact e
    have snoc : (ps ++ #[rawInt pos.line, rawInt pos.col, Value.ref c']).toList = ps.toList ++ [rawInt pos.line, rawInt pos.col, .ref c'] := by simp
    refine k h.objs.size c' doc _ ctv G _ J grow ?_ (Heap.get?_push_size _ rfl) ?_ (unframed I le) ?_ Gc
    · intro p mp
      by_cases eP : p.1 = P
      · rw [one p mp eP, eP]
        refine ⟨_, GP, snoc ▸ PySem.TriplesOk_snoc _ _ _ _ trip, ?_⟩
        intro at_ cv z
        rw [snoc] at z
        rcases among_app _ trip z with z | rfl
        · obtain ⟨c0, rfl, z0⟩ := told at_ cv z
          exact ⟨c0, rfl, grow _ _ (fun m mm z => by obtain ⟨p2, q2, _⟩ := tabs m mm; rw [← z, z0] at q2; exact codeO_ne _ (Option.some.inj q2)) z0⟩
        · exact ⟨c', rfl, Gc⟩
      · obtain ⟨ps2, t1, t2, t3⟩ := tabs p mp
        refine ⟨ps2, (Go _ eP (ne_of_none t1 nc)).trans t1, t2, ?_⟩
        intro at_ cv z
        obtain ⟨c0, rfl, z0⟩ := t3 at_ cv z
        exact ⟨c0, rfl, grow _ _ (fun m mm z => by obtain ⟨p2, q2, _⟩ := tabs m mm; rw [← z, z0] at q2; exact codeO_ne _ (Option.some.inj q2)) z0⟩
    · rw [Go _ (Nat.ne_of_gt (Nat.lt_of_lt_of_le (Heap.lt_size atP) le)) (Nat.ne_of_gt lt)]
      exact I.hok.fresh le
    · rcases dv with z | ⟨nz, t, rfl, et, nt, ft⟩
      · exact .inl z
      · have tP : t ≠ P := by
          rintro rfl
          cases nt.symm.trans isP
        exact .inr ⟨nz, t, rfl, Heap.get?_push_of_some _ (other _ _ tP et), (Go t tP (Nat.ne_of_lt (Nat.lt_of_lt_of_le (Heap.lt_size et) fresh))).trans nt, ft⟩
  · -- it is there already
    obtain ⟨c', rfl, isC⟩ := told pos cv found
    apply PySem.W.kdv_makeTailHit clo I.ok.glob names cd code atP trip found blt
    intro ctv doc h tk all le
    refine k h.objs.size c' doc _ ctv H _ (I.kept fun b o e => Heap.get?_push_of_some _ (all b o e)) (fun _ _ _ z => z) tabs (Heap.get?_push_size _ rfl) (I.hok.fresh le) (unframed I le) ?_ isC
    exact dv.imp id fun ⟨nz, t, e1, e2, e3⟩ => ⟨nz, t, e1, Heap.get?_push_of_some _ (all _ _ e2), e3⟩
/-- what comes of a lambda's expression -/
def LamMadeP (X : L2.Cx) (pins : List (Addr × Obj)) (σ : L2.St) (H : Hp) (T : List (Addr × Str)) (params : Arguments) (body : Expr) (scope : Scope) (dvs : List V) (f : Addr) (s' : Shared) : Prop := ∃ (c' : Addr) (dV doc pm ctv : Value) (us : List Value) (H1 : Hp), Inv X pins σ H1 s' ∧ ExtP T H H1 ∧ Tabs T H1 ∧
  s'.heap.get? f = some (lamObj X params body scope dV doc pm c' ctv) ∧ H1 f = none ∧ f ∉ frs X.stack ∧ DvOk dV us H1 X.stack s'.heap ∧ Vals dvs us ∧ H1 c' = some (CodeO c' (X.env.qual ++ "<lambda>"))
theorem lam_make0P {T : List (Addr × Str)} {c P : Addr} {params : Arguments} {body : Expr} {scope : Scope} {pos : Pos} {E : Value → Shared → Prop} {Q : Value → Shared → Prop} (I : Inv X pins σ H s) (TB : TabB X.base X.mg c P) (hcode : X.env.code = .ref c)
    (hm : (P, X.env.qual ++ "<lambda>") ∈ T) (hu : ∀ p ∈ T, p.1 = P → p.2 = X.env.qual ++ "<lambda>") (hT : Tabs T H) (hdef : defaultsOf params X.env = ([], [])) (hfree : ∀ y ∈ scope.names, y.2 = .free → ∃ c, X.env.cells.lookup y.1 = some c)
    (h : ∀ (f : Addr) (s' : Shared), LamMadeP X pins σ H T params body scope [] f s' → Q (.ref f) s') :
    wpAny (model X.prog X.w) X.A (eval (.Lambda params body scope pos) X.env) Q E s := by
  refine PySem.W.kla_eval hdef ?_
  rw [makeFunction_eq]
  simp only [List.zip_nil_right, List.filterMap_nil, List.isEmpty_nil, if_true, pure_bind]
  exact lam_tailP I TB hcode hm hu hT hfree (.inl ⟨rfl, rfl⟩) fun f c' doc pm ctv H1 s' I1 e T1 h1 h2 h3 h4 h5 => h f s' ⟨c', _, doc, pm, ctv, [], H1, I1, e, T1, h1, h2, h3, h4, .nil, h5⟩
theorem lam_make1P {T : List (Addr × Str)} {c P : Addr} {params : Arguments} {body : Expr} {scope : Scope} {pos : Pos} {i : Int} {j : Nat} {dp : Pos} {E : Value → Shared → Prop} {Q : Value → Shared → Prop} (I : Inv X pins σ H s) (TB : TabB X.base X.mg c P) (hcode : X.env.code = .ref c)
    (hm : (P, X.env.qual ++ "<lambda>") ∈ T) (hu : ∀ p ∈ T, p.1 = P → p.2 = X.env.qual ++ "<lambda>") (hT : Tabs T H) (hdef : params.defaults = [.Constant (.int i) j dp]) (hkd : params.kw_defaults = []) (hfree : ∀ y ∈ scope.names, y.2 = .free → ∃ c, X.env.cells.lookup y.1 = some c)
    (h : ∀ (f : Addr) (s' : Shared), LamMadeP X pins σ H T params body scope [.int i] f s' → Q (.ref f) s') :
    wpAny (model X.prog X.w) X.A (eval (.Lambda params body scope pos) X.env) Q E s := by
  refine PySem.W.kdv_lam (by rw [hdef]; rfl) hkd ?_
  rw [hdef]
  refine PySem.W.kdv_all1 (wpAny_Constant_int ?_)
  refine PySem.W.kdv_all0 ?_
  generalize hv : (Value.int i _) = v
  have rv : L2.RelV (.int i) v := by rw [← hv]; exact ⟨_, rfl⟩
  rw [makeFunction_eq]
  simp only [List.zip_nil_right, List.filterMap_nil, List.isEmpty_nil, if_true, pure_bind, List.isEmpty_cons, Bool.false_eq_true, if_false]
  refine wpAny_bind (wpAny_newTextTuple ?_)
  have I1 := (I.tok (s.toks + 1)).kept (t' := s.toks + 1) (h' := s.heap.push (PySem.W.kdv_tup [v])) fun b u e => Heap.get?_push_of_some _ e
  exact lam_tailP I1 TB hcode hm hu hT hfree (.inr ⟨by simp, _, rfl, Heap.get?_push_size _ rfl, I.hok.fresh (Nat.le_refl _), unframed I (Nat.le_refl _)⟩) fun f c' doc pm ctv H1 s' I1 e T1 h1 h2 h3 h4 h5 => h f s' ⟨c', _, doc, pm, ctv, [v], H1, I1, e, T1, h1, h2, h3, h4, .cons rv .nil, h5⟩
theorem lam_makeP {pins : List (Addr × Obj)} {σ : L2.St} {H : Hp} {s : Shared} {T : List (Addr × Str)} {c P : Addr} {params : Arguments} {body : Expr} {scope : Scope} {ps : List Str} {dvs : List V} {pos : Pos} {E : Value → Shared → Prop} {Q : Value → Shared → Prop} (I : Inv X pins σ H s) (G : LamGo X T c P params body scope ps dvs) (D : DefsOk X params dvs) (hT : Tabs T H)
    (h : ∀ (f : Addr) (s' : Shared), LamMadeP X pins σ H T params body scope dvs f s' → Q (.ref f) s') : wpAny (model X.prog X.w) X.A (eval (.Lambda params body scope pos) X.env) Q E s := by
  rcases D with ⟨rfl, d⟩ | ⟨i, j, dp, rfl, d, kd⟩
  · exact lam_make0P I G.TB G.code G.mem G.one hT d (G.L.has I.ok) h
  · exact lam_make1P I G.TB G.code G.mem G.one hT d kd (G.L.has I.ok) h
/-- x(lambda ..: body) -/
theorem pe_lamXP {T : List (Addr × Str)} {TT : (XK → Hp → VK → Prop) → Hp → VK → Prop} {x a : Str} {g c P : Addr} {k : Nat} {pg : Arguments} {bg : List Stmt} {sg : Scope} {dV kV dc pm cdv ct oc : Value} {an od : Option Addr} {sl : Array (Option Value)} {Ng ps : List Str} {dvs : List V} {params : Arguments} {body : Expr} {scope : Scope} {t : XK → TE} {p lp pos : Pos}
    (glob : Gl X x) (mgx : X.mg x = some (.ref g)) (kp : PySem.W.keepIn X.K (.ref g) = true) (look : X.K.lookup g = some ⟨oc, od, .func (PySem.W.fnOf x x pg bg sg dV kV dc pm an cdv ct), sl⟩) (code : PySem.W.codeIn X.K cdv x = true)
    (b : L2.Binds X.K (PySem.W.fnOf x x pg bg sg dV kV dc pm an cdv ct) [a] []) (S : FnScope Ng [a] sg) (first : Ng[0]? = some a) (vis : Vis sg a) (give : GivesG X Ng x sg g cdv bg a (X.env.qual ++ "<lambda>") TT) (room : Room (k + 2) X.A) (G : LamGo X T c P params body scope ps dvs) (D : DefsOk X params dvs)
    (B : ∀ (A : Around) (outer : List Env) (s : Shared) (H : Hp) (E : XK) (f c' : Addr), Room k (A.deeper (lamEnv X scope s.heap.objs.size f c')) → L2.PE (lamCx X A outer s H E scope f c') body (t E))
    (d0 : (x == ("__debug__" : Str)) = false := by decide) (d1 : (a == ("__debug__" : Str)) = false := by decide) (d2 : (a == ("__classdict__" : Str)) = false := by decide) :
    L2.PE X (.Call (.Name x p) [.Lambda params body scope lp] [] pos) (tLamP T TT t) := by
  constructor
  rintro pins s σ H Q I ⟨tabs, q⟩
  apply wpAny_Call_Name_kw (ld_glob I glob mgx ?_ d0)
  refine PySem.W.callWith_K (h₀ := X.base) I.ok.mod.kin kp ?_ (by rfl) (by rfl)
  refine Calls.spliced_cons (lam_makeP I G D tabs ?_)
  rintro f t1 ⟨c', dV', dc', pm', ctv, us, H1, J, grow, T1, isF, nF, oF, dv, rv, isC⟩
  refine Calls.spliced_nil ⟨J.kIn, wpAny_call ?_⟩
  have go := taken (Q := Q) look code S room J.env0 (b t1 [.ref f] J.kIn rfl) (show L2.RelV (.ref f) (.ref f) from rfl) fun r =>
    give f c' t1 H1 Q (fun E G Q' => t E σ G Q') (fun W pn xe E p1 p2 tk sub => pe_act3 (i := 0) J G.L isF nF oF dv rv G.binds G.pl tk sub r (fun A outer s H r2 => B A outer s H E f c' r2) first vis d1 d2) isC (q H1 grow T1)
  apply codeAny_mono go
  rintro (e | fl) t2 z
  · exact (show False from z).elim
  · cases fl with
    | ret u => exact J.after z
    | next => exact z.elim
    | brk => exact z.elim
    | cont => exact z.elim
end
end Pl
namespace Pl
open PySem PySem.Spec PyProof.Rows L2 Rp LamX
/-! ### an error that is caught, and what is told of it -/
/-- the error classes: those that are raised, and those that are asked for -/
structure ErrG (G : Cx) (top : Addr) : Prop where
  ex : ∀ C ∈ G.er, ExcC G.K (G.A C)
  xf : ∀ C ∈ G.er, XfC G.K (G.A C)
  up : ∀ C ∈ G.er, PySem.W.exmOne G.K (.ref (G.A C)) (.ref top) = some true
  nn : ∀ C ∈ G.et, PySem.W.kitOne G.K (.type "NoneType") (.ref (G.A C)) = some false
  kk : ∀ C ∈ G.er, ∀ C' ∈ G.et, PySem.W.kitOne G.K (.ref (G.A C)) (.ref (G.A C')) = some (decide (C = C'))
def isEP (C : Str) : D → Res D
  | .non => .ok (.bl false)
  | .exc C' _ => .ok (.bl (decide (C' = C)))
  | _ => .bad
def pIsE (C : Str) (a : EF) : EF := fun s => (a s).bind fun x => up x.2 (nerr (isEP C x.1))
def xtP (f : Str) : D → Res D
  | .exc _ fs => match fs.lookup f with
    | some d => .ok d
    | none => .bad
  | _ => .bad
def pXt (f : Str) (a : EF) : EF := fun s => (a s).bind fun x => up x.2 (nerr (xtP f x.1))
/-- what is told: the rest of a def that hears, of n places, behind its try -/
def toldF (n k : Nat) (p : SF) (c : D) : Res D := match p ⟨(List.replicate n none).set k (some (.val c)), δ0⟩ with
  | .ok (.rt d _) => .ok d
  | _ => .bad
/-- what follows from what is told -/
def Tell (G : Cx) (S : Addr → Prop) (H : Hp) (Q : VK) (r : Res D) : Prop := match r with
  | .ok d => ∀ H' v, SameT G.tb H H' → Vd G S H' v d → Q v H'
  | _ => False
def ErrIs (G : Cx) (told : D → Res D) (Q : VK) : XK := fun cls d H => ∃ (S : Addr → Prop) (e : Er) (vs : List (Str × V)) (dd : Addr), cls = .ref (G.A e.cls) ∧ e.cls ∈ G.er ∧ d = some dd ∧ H dd = some (.xd vs) ∧ VdF G S H vs e.fs ∧ ¬ S dd ∧ Live S H ∧ TbS G S H ∧ Tell G S H Q (told (.exc e.cls e.fs))
def NonIs (G : Cx) (told : D → Res D) (Q : VK) : VK := fun _ H => ∃ (S : Addr → Prop), Live S H ∧ TbS G S H ∧ Tell G S H Q (told .non)
/-- the def that hears tells so -/
def TTp (G : Cx) (told : D → Res D) : (XK → Hp → VK → Prop) → Hp → VK → Prop := fun tl H Q => tl (ErrIs G told Q) H (NonIs G told Q)
def pHear (ers : List Str) (told : D → Res D) (f : List D → Res D) (a : LF) : EF := fun s => (nerr (a s)).bind fun x => match f x.1 with
  | .ok _ => up x.2 (nerr (told .non))
  | .err e => up x.2 (nerr (if ers.contains e.cls then told (.exc e.cls e.fs) else .bad))
  | .bad => .bad
def pHearM (ers : List Str) (told : D → Res D) (f : List D → Res (List (Str × D))) (a : LF) : EF := fun s => (nerr (a s)).bind fun x => match f x.1 with
  | .ok _ => up x.2 (nerr (told .non))
  | .err e => up x.2 (nerr (if ers.contains e.cls then told (.exc e.cls e.fs) else .bad))
  | .bad => .bad
/-- by keywords -/
def pHearK (ers : List Str) (told : D → Res D) (f : List D → Res D) (n m : Nat) (ix : List Nat) (a k : LF) : EF := fun s => (nerr (a s)).bind fun x => (nerr (k x.2)).bind fun y => if decide (x.1.length = n) && decide (y.1.length = m) then (match f (ixs ix (x.1 ++ y.1)) with
  | .ok _ => up y.2 (nerr (told .non))
  | .err e => up y.2 (nerr (if ers.contains e.cls then told (.exc e.cls e.fs) else .bad))
  | .bad => .bad) else .bad
section
variable {G : Cx} {E : XK} {F : Fr} {S S' : Addr → Prop} {H H' : Hp} {s : PS} {σ : L2.St} {x y : V} {a b : D} {Q : VK} {ta tb tc : TE} {pa pb pc : EF} {tl tk : TA} {pl pm : LF} {told : D → Res D}
theorem Po.nerr {α β : Type} {P : β → Prop} {r : Res α} {f : α → Res β} (h : Po G F E P ((nerr r).bind f)) : ∃ a, r = .ok a ∧ Po G F E P (f a) := by
  cases r with
  | ok a => exact ⟨a, rfl, h⟩
  | err e => exact h.elim
  | bad => exact h.elim
theorem m_isE {top C : Addr} {c : Str} (T : ErrG G top) (mC : c ∈ G.et) (hC : G.A c = C) (ha : ME G E ta pa) : ME G E (tCB (rIsO G.K) (tCons ta (tCons (tC (.ref C)) tNil))) (pIsE c pa) := fun F S s σ H Q I h =>
  ha F S s σ H _ I (h.bind.mono fun x hx S' H' v t I' vd => by
    subst hC
    obtain ⟨z, e, hz⟩ := hx.up
    unfold isEP at e
    split at e
    · next ed =>
      rw [ed] at vd
      cases vd
      cases e
      exact .inr ⟨.non, .ref (G.A c), _, _, false, rfl, .own _, .base .non, T.nn c mC, hz S' H' _ t I' (.bl _)⟩
    · next C' fs ed =>
      rw [ed] at vd
      cases vd with
      | exc m n nd e1 e2 hf =>
        cases e
        exact .inl ⟨_, _, _, _, .ref (G.A c), .ref (G.A c), _, rfl, T.ex C' m, e1, e2, fun _ r => r, T.kk C' m c mC, hz S' H' _ t I' (.bl _)⟩
    · cases e)
theorem m_xt {top : Addr} {f : Str} (T : ErrG G top) (ne : ∀ C ∈ G.er, PySem.W.findIn G.K (.ref (G.A C)) f = some none) (ha : ME G E ta pa) : ME G E (tXt G.K f ta) (pXt f pa) := fun F S s σ H Q I h =>
  ha F S s σ H _ I (h.bind.mono fun x hx S' H' v t I' vd => by
    obtain ⟨z, e, hz⟩ := hx.up
    unfold xtP at e
    split at e
    · next C' fs ed =>
      rw [ed] at vd
      cases vd with
      | exc m n nd e1 e2 hf =>
        split at e
        · next d el =>
          cases e
          obtain ⟨u, eu, ud⟩ := hf.look el
          exact ⟨_, _, _, _, u, rfl, T.xf C' m, ne C' m, e1, e2, eu, hz S' H' u t I' ud⟩
        · cases e
    · cases e)
theorem Tell.go {σ : L2.St} (I : Sim G F S s σ H) {P : D × PS → Prop} {r : Res D} (h : Po G F E P (up s (nerr r))) (k : ∀ d, P (d, s) → ∀ S' H' v, Tr S H S' H' → Sim G F S' s σ H' → Vd G S' H' v d → Q v H') : Tell G S H Q r := by
  obtain ⟨d, e, hd⟩ := h.up
  rw [e]
  exact fun H' v s2 vd => k d hd S H' v (I.tabd s2).1 (I.tabd s2).2 vd
theorem TbS.of (h : TbS G S H) (k : SameT G.tb H H') : TbS G S H' := ⟨k.2, h.2⟩
/-- an error of a callee, as it is caught -/
theorem erx_is {e : Er} (lv : Live S H) (tb : TbS G S H) (m : e.cls ∈ G.er) (h : Tell G S H Q (told (.exc e.cls e.fs))) : ErX G S (ErrIs G told Q) e H := fun vs hv d hd => by
  have n : ¬ S d := lv.new hd
  refine ⟨S, e, vs, d, rfl, m, rfl, upd_same, hv.tr (Tr.neu hd), n, fun p z => ?_, ⟨tb.1.ext fun b o u => by rw [upd_ne (ne_of_none u hd)]; exact u, tb.2⟩, ?_⟩
  · obtain ⟨o, u⟩ := lv p z
    exact ⟨o, by rw [upd_ne (ne_of_none u hd)]; exact u⟩
  · unfold Tell at h ⊢
    split at h
    · next d' r =>
      intro H' v s2 vd
      exact h H' v ⟨fun b o mt u => s2.1 b o mt (by rw [upd_ne (ne_of_none u hd)]; exact u), s2.2⟩ vd
    · exact h.elim
theorem err_in {P : D × PS → Prop} {ers : List Str} {c : Str} {r : Res D} (h : Po G F E P (up s (nerr (if ers.contains c then r else .bad)))) : c ∈ ers ∧ Po G F E P (up s (nerr r)) := by
  by_cases z : ers.contains c = true
  · rw [if_pos z] at h
    exact ⟨List.contains_iff_mem.mp z, h⟩
  · rw [if_neg z] at h
    exact h.elim
theorem m_hear {f : List D → Res D} {ers : List Str} (er : ers = G.er) (ha : ∀ E, MA G E tl pl) : ME G E (tLamP G.tb (TTp G told) fun E => tGoE (spP G f) E tl) (pHear ers told f pl) := fun F S s σ H Q I h => by
  refine ⟨I.tabs, fun H1 grow T1 => ?_⟩
  obtain ⟨t1, I1⟩ := I.tabd ⟨fun b o m e => grow b o m e, T1⟩
  obtain ⟨x, ex, hx⟩ := h.nerr
  refine ha (ErrIs G told Q) F S s σ H1 _ I1 ?_
  rw [ex]
  intro S' H' v t I' vd
  refine ⟨S', x.1, I'.live, I'.tb2, vd, ?_⟩
  cases r : f x.1 with
  | ok d =>
    rw [r] at hx
    intro H2 u s2 _
    obtain ⟨t2, I2⟩ := I'.tabd s2
    exact ⟨S', I2.live, I2.tb2, Tell.go I2 hx fun d hd S3 H3 v3 t3 I3 vd3 => hd S3 H3 v3 (((t1.trans t).trans t2).trans t3) I3 vd3⟩
  | err e =>
    rw [r] at hx
    intro H2 s2
    obtain ⟨t2, I2⟩ := I'.tabd s2
    obtain ⟨mc, hx⟩ := err_in hx
    exact erx_is I2.live I2.tb2 (by rw [← er]; exact mc) (Tell.go I2 hx fun d hd S3 H3 v3 t3 I3 vd3 => hd S3 H3 v3 (((t1.trans t).trans t2).trans t3) I3 vd3)
  | bad => rw [r] at hx; exact hx.elim
/-- the rest of a def that hears -/
theorem run_told {n k : Nat} {p : SF} {t : TS} {c : D} {σ : L2.St} (lv : Live S H) (tb : TbS G S H) (hp : MS G E t p) (ln : σ.length = n) (ec : ∃ v, σ[k]? = some (some v) ∧ Vd G S H v c) (h : Tell G S H Q (toldF n k p c)) : t ⟨fun _ G => Q .non G, Q, fun _ _ => False, fun _ _ => False⟩ σ H := by
  obtain ⟨v, ev, vd⟩ := ec
  have lk : k < n := by rw [← ln]; exact lt_of_some ev
  have at_ : ∀ j : Nat, ((List.replicate n (none : Option EV)).set k (some (.val c)))[j]? = if j = k then some (some (.val c)) else if j < n then some none else none := fun j => by
    rw [set_get]
    by_cases e : j = k
    · rw [if_pos e, if_pos e, List.getElem?_replicate, if_pos (by omega)]
      rfl
    · rw [if_neg e, if_neg e, List.getElem?_replicate]
  have I : Sim G ⟨H, S, fun b => ∃ t ∈ G.tb, b = t.1, none, fun _ => none⟩ S ⟨(List.replicate n none).set k (some (.val c)), δ0⟩ σ H := by
    refine ⟨(by show ((List.replicate n none).set k _).length ≤ _; rw [List.length_set, List.length_replicate, ln]; exact Nat.le_refl _), lv, fun _ z => z, fun b o _ e => e, fun b o e => (nomatch e), fun j => ?_, fun j i b oj => ?_, tb.1, fun t m => ⟨tb.2 t m, tb.2 t m, ⟨t, m, rfl⟩, rfl⟩, fun q e => nomatch e⟩
    · show Ent G _ S H ((List.replicate n (none : Option EV)).set k (some (.val c)))[j]? σ[j]?
      rw [at_ j]
      by_cases e : j = k
      · rw [if_pos e, e, ev]
        exact vd
      · rw [if_neg e]
        split
        · exact True.intro
        · exact True.intro
    · have oj' : isOwn ((List.replicate n (none : Option EV)).set k (some (.val c)))[j]? := oj
      rw [at_ j] at oj'
      by_cases e : j = k
      · rw [if_pos e] at oj'; exact oj'.elim
      · rw [if_neg e] at oj'
        split at oj' <;> exact oj'.elim
  refine hp _ S _ _ H _ I ?_
  unfold toldF at h
  cases r : p ⟨(List.replicate n none).set k (some (.val c)), δ0⟩ with
  | ok o =>
    rw [r] at h
    cases o with
    | rt d δ => exact fun S' H' v t' I' vd => h H' v ⟨fun b o m e => I'.base b o (fun z => let ⟨t, mt, w⟩ := z; m t mt w) e, I'.tabs⟩ (vd.tr (Tr.less I'.sub))
    | _ => exact h.elim
  | err e => rw [r] at h; exact h.elim
  | bad => rw [r] at h; exact h.elim
theorem hear_run {top f c' : Addr} {N : List Str} {q : Str} {n iC iE : Nat} {p : SF} {t : TS} {tl : XK → Hp → VK → Prop} (hp : MS G E t p) (T : ErrG G top) (hn : N.length = n) (h0 : iC ≠ 0) (h1 : iC ≠ iE) (h2 : iC < n) (h3 : iE < n) (hc : H c' = some (CodeO c' q)) (h : TTp G (toldF n iC p) tl H Q) :
    tSeq (tAsg (tC .non) (gName iC)) (tSeq (fun D σ H => tTake f c' q n tl (wAsT G.K (.ref top) iE (fun _ _ _ => tAsg (tVar iE) (gName iC)) (fun _ _ _ _ => False) D) D σ H) t) ⟨fun _ G => Q .non G, Q, fun _ _ => False, fun _ _ => False⟩ (L2.start N [.ref f]) H := by
  have ls : (L2.start N [.ref f]).length = n := by
    unfold L2.start
    simp only [List.length_append, List.length_map, List.length_replicate, List.length_cons, List.length_nil]
    omega
  refine ⟨ErrIs G (toldF n iC p) Q, NonIs G (toldF n iC p) Q, fun cls d σ' H' he hl => ?_, ?_, hc, h, fun v K hv => ?_⟩
  · obtain ⟨S, e, vs, dd, rfl, m, rfl, hd, hf, nd, lv, tb, tell⟩ := he
    refine ⟨true, T.up _ m, fun _ a na => ?_, fun z => nomatch z⟩
    have n1 : (σ'.set iE (some (.ref a))).length = n := by rw [List.length_set]; exact hl
    refine ⟨.ref a, List.getElem?_set_self (by omega), ?_⟩
    have k : ∀ b o, H' b = some o → upd H' a (ErO a (.ref (G.A e.cls)) (some dd)) b = some o := fun b o u => by rw [upd_ne (ne_of_none u na)]; exact u
    refine run_told (k := iC) (S := S) (c := .exc e.cls e.fs) (n := n) (fun p z => let ⟨o, u⟩ := lv p z; ⟨o, k p o u⟩) ⟨tb.1.ext k, tb.2⟩ hp (by simp only [List.length_set]; exact hl) ⟨.ref a, ?_, .exc m (lv.new na) nd upd_same (k _ _ hd) (hf.tr (Tr.neu na))⟩ ?_
    · rw [List.getElem?_set_ne (Ne.symm h1), List.getElem?_set_self (by omega)]
    · unfold Tell at tell ⊢
      split at tell
      · exact fun K v s2 vd => tell K v ⟨fun b o mt u => s2.1 b o mt (k b o u), s2.2⟩ vd
      · exact tell.elim
  · show ((L2.start N [.ref f]).set iC (some .non))[0]? = _
    rw [List.getElem?_set_ne h0]
    rfl
  · obtain ⟨S, lv, tb, tell⟩ := hv
    exact run_told (k := iC) (S := S) (c := .non) (n := n) lv tb hp (by rw [List.length_set]; exact ls) ⟨.non, List.getElem?_set_self (by omega), .non⟩ tell
end
end Pl
namespace Pl
open PySem PySem.Spec PyProof.Rows L2 Rp LamX
/-- two plain values -/
def eqSP (neg : Bool) (a b : D) : Res D := match toV a, toV b with
  | some v, some w => if scal v w then .ok (.bl (if neg then !decide (v = w) else decide (v = w))) else .bad
  | _, _ => .bad
section
variable {G : Cx} {E : XK} {S : Addr → Prop} {H : Hp} {Q : VK}
theorem mr_eqS : MR G rEq (eqSP false) := fun S H x y a b Q l va vb h => by
  unfold eqSP at h
  split at h
  · next v w e1 e2 =>
    obtain ⟨z, h⟩ := PoD.ite h
    rw [(va.toV e1).1, (vb.toV e2).1]
    exact ⟨z, h H _ (Same.refl H) (.bl _)⟩
  · exact h.elim
theorem mr_neS : MR G rNe (eqSP true) := fun S H x y a b Q l va vb h => by
  unfold eqSP at h
  split at h
  · next v w e1 e2 =>
    obtain ⟨z, h⟩ := PoD.ite h
    rw [(va.toV e1).1, (vb.toV e2).1]
    exact ⟨z, h H _ (Same.refl H) (.bl _)⟩
  · exact h.elim
/-- own __eq__ -/
def eqIP (c : Str) (f : List D → Res D) (neg : Bool) (a b : D) : Res D := match a, b with
  | .ins c1 _, .ins c2 _ => if decide (c1 = c) && decide (c2 = c) then (match f [a, b] with
    | .ok (.bl z) => .ok (.bl (if neg then !z else z))
    | _ => .bad) else .bad
  | _, _ => .bad
end
def spLawP (tb : List (Addr × Str)) (K : PySem.W.Frag) : Sp := fun vs H Q _ => ∃ (a : Addr) (ns : List Int), vs = [.ref a] ∧ SqL K H a (ns.map V.int) ∧ Tabs tb H ∧ ∀ H', Q (.bl true) H'
end Pl
namespace Pl
open PySem PySem.Spec PyProof.Rows L2 Rp LamX
section
variable {G : Cx} {E : XK} {ta tb : TE} {pa pb : EF}
theorem m_eqI {C : Addr} {c : Str} {f : List D → Res D} {neg : Bool} (hC : G.A c = C) (ha : ME G E ta pa) (hb : ME G E tb pb) : ME G E (tOp (rOwnI C (spP G f) E0 neg) ta tb) (pOp (eqIP c f neg) pa pb) := fun F S s σ H Q I h =>
  ha F S s σ H _ I (h.bind.mono fun x hx S1 H1 v t1 I1 vd => hb F S1 x.2 σ H1 _ I1 (hx.bind.mono fun y hy S' H' w t I' wd => by
    subst hC
    have vd := vd.tr t
    obtain ⟨z, e, hz⟩ := hy.up
    unfold eqIP at e
    split at e
    · next c1 fs c2 gs e1 e2 =>
      rw [e1] at vd
      rw [e2] at wd
      split at e
      · next zz =>
        rw [Bool.and_eq_true] at zz
        obtain rfl := of_decide_eq_true zz.1
        obtain rfl := of_decide_eq_true zz.2
        have va' := vd
        have vb' := wd
        cases vd with
        | ins m n g1 hf =>
          cases wd with
          | ins m2 n2 g2 hf2 =>
            refine ⟨_, _, _, _, _, _, rfl, rfl, g1, g2, S', [_, _], I'.live, I'.tb2, .cons va' (.cons vb' .nil), ?_⟩
            rw [e1, e2] at e
            split at e
            · next w r =>
              cases e
              rw [r]
              intro H2 v s2 ud
              cases ud
              exact ⟨w, rfl, hz S' H2 _ ((t1.trans t).trans (I'.tabd s2).1) (I'.tabd s2).2 (.bl _)⟩
            · cases e
      · cases e
    · cases e))
end
end Pl
namespace Pl
open PySem PySem.Spec PyProof.Rows L2 Rp LamX
/-! ### reckoning with what is told -/
section
variable {s : PS} {a b c : EF} {l m : LF} {t u : TF} {p q : SF} {g : GF} {r : D → D → Res D} {f : List D → Res D}
theorem var_run {k : Nat} : pVar k s = match s.ρ[k]? with
  | some (some (.val d)) => .ok (d, s)
  | some (some (.own xs)) => .ok (.lst xs, { s with ρ := s.ρ.set k (some (.val (.lst xs))) })
  | _ => .bad := (rfl)
theorem c_run {d : D} : pC d s = .ok (d, s) := (rfl)
theorem up_run {α : Type} {x : Res α} : up s x = x.bind fun a => .ok (a, s) := (rfl)
@[simp] theorem nerr_ok {α : Type} {x : α} : nerr (.ok x) = .ok x := (rfl)
@[simp] theorem nerr_bad {α : Type} : nerr (.bad : Res α) = .bad := (rfl)
@[simp] theorem nerr_err {α : Type} {e : Er} : nerr (.err e : Res α) = .bad := (rfl)
theorem op_run : pOp r a b s = (a s).bind fun x => (b x.2).bind fun y => up y.2 (nerr (r x.1 y.1)) := (rfl)
theorem cb_run : pCB f l s = (l s).bind fun x => up x.2 (nerr (f x.1)) := (rfl)
theorem nil_run : pNil s = .ok ([], s) := (rfl)
theorem cons_run : pCons a l s = (a s).bind fun x => (l x.2).bind fun y => .ok (x.1 :: y.1, y.2) := (rfl)
theorem tup_run : pTup l s = (l s).bind fun x => if small x.1.length then .ok (.tup x.1, x.2) else .bad := (rfl)
theorem fz_run : pFz l s = (l s).bind fun x => .ok (.lst x.1, x.2) := (rfl)
theorem lst_run : pLst l s = (l s).bind fun x => if small x.1.length then .ok x else .bad := (rfl)
theorem test_run : pTest a s = (a s).bind fun x => match x.1 with
  | .bl b => .ok (b, x.2)
  | _ => .bad := (rfl)
theorem and_run : pAnd t u s = (t s).bind fun x => if x.1 then u x.2 else .ok (false, x.2) := (rfl)
theorem or_run : pOr t u s = (t s).bind fun x => if x.1 then .ok (true, x.2) else u x.2 := (rfl)
theorem not_run : pNot t s = (t s).bind fun x => .ok (!x.1, x.2) := (rfl)
theorem yes_run : pYes s = .ok (true, s) := (rfl)
theorem andv_run : pAndV a b s = (a s).bind fun x => match x.1 with
  | .bl c => if c then b x.2 else .ok (.bl false, x.2)
  | _ => .bad := (rfl)
theorem orv_run : pOrV a b s = (a s).bind fun x => match x.1 with
  | .bl c => if c then .ok (.bl true, x.2) else b x.2
  | _ => .bad := (rfl)
theorem notv_run : pNotV a s = (a s).bind fun x => match x.1 with
  | .bl c => .ok (.bl (!c), x.2)
  | _ => .bad := (rfl)
theorem if_run : pIf t a b s = (t s).bind fun x => if x.1 then a x.2 else b x.2 := (rfl)
theorem asg_run : pAsg a g s = (a s).bind fun x => (g x.1 x.2).bind fun s' => .ok (.nx s') := (rfl)
theorem name_run {k : Nat} {d : D} : pName k d s = .ok { s with ρ := s.ρ.set k (some (.val d)) } := (rfl)
theorem seto_run {k : Nat} : pSetO k l s = (l s).bind fun x => .ok (.nx { x.2 with ρ := x.2.ρ.set k (some (.own x.1)) }) := (rfl)
theorem gtup_run {gs : GsF} {n : Nat} {ds : List D} : pGTup gs n (.tup ds) s = if ds.length = n then gs ds s else .bad := (rfl)
theorem gcons_run {gs : GsF} {d : D} {ds : List D} : pGCons g gs (d :: ds) s = (g d s).bind fun s' => gs ds s' := (rfl)
theorem gnil_run : pGNil [] s = .ok s := (rfl)
theorem next_run : pNext s = .ok (.nx s) := (rfl)
@[simp] theorem then_nx : pThen p (.nx s) = p s := (rfl)
@[simp] theorem then_rt {d : D} {δ : DS} : pThen p (.rt d δ) = .ok (.rt d δ) := (rfl)
@[simp] theorem then_bk : pThen p (.bk s) = .ok (.bk s) := (rfl)
@[simp] theorem then_ct : pThen p (.ct s) = .ok (.ct s) := (rfl)
theorem seq_run : pSeq p q s = (p s).bind (pThen q) := (rfl)
theorem ifs_run : pIfS t p q s = (t s).bind fun x => if x.1 then p x.2 else q x.2 := (rfl)
theorem ret_run : pRet a s = (a s).bind fun x => .ok (.rt x.1 x.2.δ) := (rfl)
theorem retn_run : pRetN s = .ok (.rt .non s.δ) := (rfl)
theorem brk_run : pBreak s = .ok (.bk s) := (rfl)
theorem cont_run : pCont s = .ok (.ct s) := (rfl)
theorem drop_run : pDrop a s = (a s).bind fun x => .ok (.nx x.2) := (rfl)
@[simp] theorem turn_nx {go : PS → Res Out} : pTurn go (.nx s) = go s := (rfl)
@[simp] theorem turn_ct {go : PS → Res Out} : pTurn go (.ct s) = go s := (rfl)
@[simp] theorem turn_bk {go : PS → Res Out} : pTurn go (.bk s) = .ok (.nx s) := (rfl)
@[simp] theorem turn_rt {go : PS → Res Out} {d : D} {δ : DS} : pTurn go (.rt d δ) = .ok (.rt d δ) := (rfl)
theorem fori_run : pForI l g p s = (l s).bind fun x => pFor g p x.1 x.2 := (rfl)
theorem for_nil : pFor g p [] s = .ok (.nx s) := (rfl)
theorem for_cons {d : D} {ds : List D} : pFor g p (d :: ds) s = (g d s).bind fun s1 => (p s1).bind (pTurn (pFor g p ds)) := (rfl)
theorem while_run {n : Nat} : pWhile t p (n + 1) s = (t s).bind fun x => if x.1 then (p x.2).bind (pTurn (pWhile t p n)) else .ok (.nx x.2) := (rfl)
theorem go_run : pGo f l s = (l s).bind fun x => up x.2 (f x.1) := (rfl)
theorem go0_run : pGo0 f l s = (l s).bind fun x => up x.2 (nerr (f x.1)) := (rfl)
theorem kw0_run {n k : Nat} {ix : List Nat} : pKw0 f n k ix l m s = (l s).bind fun x => (m x.2).bind fun y => if decide (x.1.length = n) && decide (y.1.length = k) then up y.2 (nerr (f (ixs ix (x.1 ++ y.1)))) else .bad := (rfl)
theorem gob_run {h : DS → List D → Res (D × DS)} {k : Nat} : pGoB h k l s = match s.ρ[k]? with
  | some (some .box) => (l s).bind fun x => match h x.2.δ x.1 with
    | .ok (d, δ) => .ok (d, { x.2 with δ := δ })
    | _ => .bad
  | _ => .bad := (rfl)
theorem mk_run {C : Str} {h : List D → Res (List (Str × D))} : pMk C h l s = (l s).bind fun x => (h x.1).bind fun fs => .ok (.ins C fs, x.2) := (rfl)
theorem mk0_run {C : Str} {h : List D → Res (List (Str × D))} : pMk0 C h l s = (l s).bind fun x => (nerr (h x.1)).bind fun fs => .ok (.ins C fs, x.2) := (rfl)
theorem fld_run {x : Str} : pFld x a s = (a s).bind fun y => up y.2 (nerr (fldP x y.1)) := (rfl)
theorem err_run {C x : Str} : pErr C x a s = (a s).bind fun y => .err ⟨C, [(x, y.1)]⟩ := (rfl)
theorem err2_run {C x y : Str} : pErr2 C x y a b s = (a s).bind fun z => (b z.2).bind fun w => .err ⟨C, [(y, w.1), (x, z.1)]⟩ := (rfl)
theorem sfld_run {k : Nat} {x : Str} : pSfld k x a s = (a s).bind fun y => match y.2.ρ[k]? with
  | some (some (.obj C fs)) => if decide (fs.length < 1000) then .ok (.nx { y.2 with ρ := y.2.ρ.set k (some (.obj C (putD x y.1 fs))) }) else .bad
  | _ => .bad := (rfl)
theorem fldo_run {k : Nat} {x : Str} : pFldO k x s = match s.ρ[k]? with
  | some (some (.obj _ fs)) => match fs.lookup x with
    | some d => .ok (d, s)
    | none => .bad
  | _ => .bad := (rfl)
theorem guard_run {α : Type} {k : Nat} {h : PS → Res α} : guardL k h s = if isL s.ρ[k]? then h s else .bad := (rfl)
theorem app_run {k : Nat} : pApp k a s = (a s).bind fun x => match x.2.ρ[k]? with
  | some (some (.own xs)) => if small (xs.length + 1) then .ok (.nx { x.2 with ρ := x.2.ρ.set k (some (.own (xs ++ [x.1]))) }) else .bad
  | _ => .bad := (rfl)
theorem ext_run {k : Nat} : pExt k a s = (a s).bind fun x => match x.2.ρ[k]?, x.1 with
  | some (some (.own xs)), .lst ys => if small (xs.length + ys.length) then .ok (.nx { x.2 with ρ := x.2.ρ.set k (some (.own (xs ++ ys))) }) else .bad
  | _, _ => .bad := (rfl)
theorem gsub_run {k : Nat} {d : D} : pGSub k a d s = (a s).bind fun x => match x.2.ρ[k]?, x.1 with
  | some (some (.own xs)), .int j => match ixN xs.length j with
    | some m => .ok { x.2 with ρ := x.2.ρ.set k (some (.own (xs.set m d))) }
    | none => .bad
  | _, _ => .bad := (rfl)
theorem ixo_run {k : Nat} : pIxO k a s = (a s).bind fun x => match x.2.ρ[k]?, x.1 with
  | some (some (.own xs)), .int j => up x.2 (nerr (ixD xs j))
  | _, _ => .bad := (rfl)
theorem leno_run {k : Nat} : pLenO k s = match s.ρ[k]? with
  | some (some (.own xs)) => .ok (.int (xs.length : Nat), s)
  | _ => .bad := (rfl)
theorem cato_run {k : Nat} : pCatO k b s = (b s).bind fun y => match y.2.ρ[k]?, y.1 with
  | some (some (.own xs)), .lst ys => if small (xs.length + ys.length) then .ok (xs ++ ys, y.2) else .bad
  | _, _ => .bad := (rfl)
theorem cat_run : pCat a b s = (a s).bind fun x => (b x.2).bind fun y => match x.1, y.1 with
  | .lst xs, .lst ys => if small (xs.length + ys.length) then .ok (xs ++ ys, y.2) else .bad
  | _, _ => .bad := (rfl)
theorem listof_run : pListOf l s = (l s).bind fun x => match x.1 with
  | [.lst xs] => .ok (xs, x.2)
  | [.tup xs] => .ok (xs, x.2)
  | _ => .bad := (rfl)
theorem rg1_run : pRg1 a s = (a s).bind fun x => match x.1 with
  | .int n => if rgOk 0 n then .ok (rangeD 0 n, x.2) else .bad
  | _ => .bad := (rfl)
theorem rg2_run : pRg2 a b s = (a s).bind fun x => (b x.2).bind fun y => match x.1, y.1 with
  | .int i, .int j => if rgOk i j then .ok (rangeD i j, y.2) else .bad
  | _, _ => .bad := (rfl)
theorem rep_run : pRep a b s = (a s).bind fun x => (b x.2).bind fun y => match x.1, y.1 with
  | .lst xs, .int k => if decide (-(2 ^ 63) ≤ k) && decide (k < 2 ^ 63) && small (xs.length * k.toNat) then .ok (repD xs k, y.2) else .bad
  | _, _ => .bad := (rfl)
theorem par_run {ks : List Nat} {x : XsF} : pPar ks x s = (x s).bind fun y => if y.1.length = ks.length then .ok (.nx (putAll ks y.1 y.2)) else .bad := (rfl)
theorem xv_run : xV a s = (a s).bind fun x => .ok (.val x.1, x.2) := (rfl)
theorem xo_run : xO l s = (l s).bind fun x => .ok (.own x.1, x.2) := (rfl)
theorem xnil_run : xNil s = .ok ([], s) := (rfl)
theorem xcons_run {x : XF} {y : XsF} : xCons x y s = (x s).bind fun z => (y z.2).bind fun w => .ok (z.1 :: w.1, w.2) := (rfl)
theorem revl_run : pRevL a s = (a s).bind fun x => match x.1 with
  | .lst xs => .ok (xs.reverse, x.2)
  | _ => .bad := (rfl)
theorem bix_run {k : Nat} {i : Int} : pBoxIx k i s = match s.ρ[k]? with
  | some (some .box) => (bxD s.δ i).bind fun d => .ok (d, s)
  | _ => .bad := (rfl)
theorem gbox_run {k : Nat} {i : Int} {d : D} : pGBox k i d s = match s.ρ[k]? with
  | some (some .box) => (bxS s.δ i d).bind fun δ => .ok { s with δ := δ }
  | _ => .bad := (rfl)
theorem ise_run {C : Str} : pIsE C a s = (a s).bind fun x => up x.2 (nerr (isEP C x.1)) := (rfl)
theorem xt_run {x : Str} : pXt x a s = (a s).bind fun y => up y.2 (nerr (xtP x y.1)) := (rfl)
theorem isi_run {T : String} : pIsi T a s = (a s).bind fun x => up x.2 (nerr (isiP T x.1)) := (rfl)
theorem iso_run {C : Str} : pIso C a s = (a s).bind fun x => up x.2 (nerr (isoP C x.1)) := (rfl)
theorem islt_run : pIslt a s = (a s).bind fun x => up x.2 (nerr (isltP x.1)) := (rfl)
theorem seqi_run : pSeqI a s = (a s).bind fun x => up x.2 (nerr (seqD x.1)) := (rfl)
theorem li_run {h : List D → Res (List D)} : pLI h l s = (l s).bind fun x => up x.2 (nerr (h x.1)) := (rfl)
theorem revi_run : pRevI a s = (a s).bind fun x => up x.2 (nerr ((seqD x.1).bind fun xs => .ok xs.reverse)) := (rfl)
theorem chain_run {r' : D → D → Res D} : pChain r r' a b c s = (a s).bind fun x => (b x.2).bind fun y => (up y.2 (nerr (r x.1 y.1))).bind fun z => match z.1 with
  | .bl k => if k then (c z.2).bind fun w => up w.2 (nerr (r' y.1 w.1)) else .ok (.bl false, z.2)
  | _ => .bad := (rfl)
theorem sl_run {lo hi : PS → Res (Option Int × PS)} : pSl a lo hi s = (a s).bind fun x => (lo x.2).bind fun l => (hi l.2).bind fun u => match x.1 with
  | .lst xs => .ok (.lst (cutD xs l.1 u.1), u.2)
  | .tup xs => .ok (.tup (cutD xs l.1 u.1), u.2)
  | _ => .bad := (rfl)
end
end Pl
namespace Pl
open PySem PySem.Spec PyProof.Rows L2 Rp LamX
section
variable {s : PS} {a b c : EF} {l m : LF} {t u : TF} {p q : SF} {g : GF} {r : D → D → Res D} {f : List D → Res D}
theorem nop_run : pNoP s = .ok (none, s) := (rfl)
theorem part_run : pPart a s = (a s).bind fun x => match x.1 with
  | .int i => .ok (some i, x.2)
  | _ => .bad := (rfl)
theorem slf_run {lo hi : PS → Res (Option Int × PS)} : pSlF a lo hi s = (a s).bind fun x => (lo x.2).bind fun l => (hi l.2).bind fun u => match x.1 with
  | .lst xs => .ok (cutD xs l.1 u.1, u.2)
  | _ => .bad := (rfl)
theorem lc_run {g : GF} {vs : List Nat} : pLc l g t a vs s = (l s).bind fun x => if small x.1.length then pLcs g t a vs x.1 x.2 else .bad := (rfl)
theorem runF_run {n m : Nat} {ds : List D} (h : ds.length = m) : runF n m p ds = (p ⟨startE n (ds.map .val), δ0⟩).bind fun o => match o with
  | .rt d _ => .ok d
  | .nx _ => .ok .non
  | _ => .bad := by
  unfold runF
  rw [if_pos h]
  cases p ⟨startE n (ds.map .val), δ0⟩ with
  | ok o => cases o <;> rfl
  | _ => rfl
theorem runB_run {n m : Nat} {δ : DS} {ds : List D} (h : ds.length + 1 = m) : runB n m p δ ds = (p ⟨startE n (.box :: ds.map .val), δ⟩).bind fun o => match o with
  | .rt d δ => .ok (d, δ)
  | .nx s => .ok (.non, s.δ)
  | _ => .bad := by
  unfold runB
  rw [if_pos h]
  cases p ⟨startE n (.box :: ds.map .val), δ⟩ with
  | ok o => cases o <;> rfl
  | _ => rfl
theorem runI_run {C : Str} {n m : Nat} {ds : List D} (h : ds.length + 1 = m) : runI C n m p ds = (p ⟨startE n (.obj C [] :: ds.map .val), δ0⟩).bind fun o => match o with
  | .nx s => match s.ρ[(0 : Nat)]? with
    | some (some (.obj C' fs)) => if C' = C then .ok fs else .bad
    | _ => .bad
  | _ => .bad := by
  unfold runI
  rw [if_pos h]
  cases p ⟨startE n (.obj C [] :: ds.map .val), δ0⟩ with
  | ok o => cases o <;> rfl
  | _ => rfl
end
/-! ### what comes out well -/
def Gd {α : Type} (r : Res α) (P : α → Prop) : Prop := ∃ x, r = .ok x ∧ P x
theorem Gd.ok {α : Type} {x : α} {P : α → Prop} (h : P x) : Gd (.ok x) P := ⟨x, rfl, h⟩
theorem Gd.bind {α β : Type} {r : Res α} {f : α → Res β} {P : α → Prop} {Q : β → Prop} (h : Gd r P) (k : ∀ x, P x → Gd (f x) Q) : Gd (r.bind f) Q := by
  obtain ⟨x, rfl, hx⟩ := h
  exact k x hx
theorem Gd.mono {α : Type} {r : Res α} {P Q : α → Prop} (h : Gd r P) (k : ∀ x, P x → Q x) : Gd r Q := by
  obtain ⟨x, e, hx⟩ := h
  exact ⟨x, e, k x hx⟩
theorem Gd.eq {α : Type} {r : Res α} {x : α} (h : Gd r fun y => y = x) : r = .ok x := by
  obtain ⟨y, e, rfl⟩ := h
  exact e
theorem Gd.of {α : Type} {r : Res α} {x : α} {P : α → Prop} (e : r = .ok x) (h : P x) : Gd r P := ⟨x, e, h⟩
theorem Gd.ok_iff {α : Type} {x : α} {P : α → Prop} : Gd (.ok x) P ↔ P x := ⟨fun ⟨_, e, h⟩ => by cases e; exact h, Gd.ok⟩
theorem Gd.trans {α : Type} {r r' : Res α} {P : α → Prop} (e : r = r') (h : Gd r' P) : Gd r P := e ▸ h
/-- a for: what holds at each turn -/
theorem for_inv {g : GF} {b : SF} (I : List D → PS → Prop) (step : ∀ d r s, I (d :: r) s → Gd ((g d s).bind b) fun o => ∃ s', (o = .nx s' ∨ o = .ct s') ∧ I r s') : ∀ {ds : List D} {s : PS}, I ds s → Gd (pFor g b ds s) fun o => ∃ s', o = .nx s' ∧ I [] s'
  | [], s, h => ⟨_, rfl, s, rfl, h⟩
  | d :: r, s, h => by
    obtain ⟨o, e, s', z, hs⟩ := step d r s h
    rw [for_cons]
    cases e1 : g d s with
    | ok s1 =>
      rw [e1, Res.bind_ok] at e
      rw [Res.bind_ok, e, Res.bind_ok]
      rcases z with rfl | rfl
      · exact for_inv I step hs
      · exact for_inv I step hs
    | err x => rw [e1] at e; cases e
    | bad => rw [e1] at e; cases e
/-- the same, where a turn may return -/
theorem for_ret {g : GF} {b : SF} (I : List D → PS → Prop) (R : D → DS → Prop) (step : ∀ d r s, I (d :: r) s → Gd ((g d s).bind b) fun o => (∃ s', (o = .nx s' ∨ o = .ct s') ∧ I r s') ∨ ∃ v δ, o = .rt v δ ∧ R v δ) : ∀ {ds : List D} {s : PS}, I ds s → Gd (pFor g b ds s) fun o => (∃ s', o = .nx s' ∧ I [] s') ∨ ∃ v δ, o = .rt v δ ∧ R v δ
  | [], s, h => ⟨_, rfl, .inl ⟨s, rfl, h⟩⟩
  | d :: r, s, h => by
    obtain ⟨o, e, z⟩ := step d r s h
    rw [for_cons]
    cases e1 : g d s with
    | ok s1 =>
      rw [e1, Res.bind_ok] at e
      rw [Res.bind_ok, e, Res.bind_ok]
      rcases z with ⟨s', rfl | rfl, hs⟩ | ⟨v, δ, rfl, hr⟩
      · exact for_ret I R step hs
      · exact for_ret I R step hs
      · exact ⟨_, rfl, .inr ⟨v, δ, rfl, hr⟩⟩
    | err x => rw [e1] at e; cases e
    | bad => rw [e1] at e; cases e
/-- a while: a measure goes down -/
theorem while_inv {t : TF} {b : SF} (I : Nat → PS → Prop) (step : ∀ n s, I n s → Gd (t s) fun x => (x.1 = true → ∃ k, n = k + 1 ∧ Gd (b x.2) fun o => ∃ s' j, (o = .nx s' ∨ o = .ct s') ∧ j ≤ k ∧ I j s') ∧ (x.1 = false → I 0 x.2)) : ∀ {N n : Nat} {s : PS}, n < N → I n s → Gd (pWhile t b N s) fun o => ∃ s', o = .nx s' ∧ I 0 s'
  | N + 1, n, s, hn, h => by
    obtain ⟨⟨c, s1⟩, e, h1, h2⟩ := step n s h
    rw [while_run, e, Res.bind_ok]
    cases c with
    | false => exact ⟨_, rfl, s1, rfl, h2 rfl⟩
    | true =>
      obtain ⟨k, rfl, o, e2, s', j, z, hj, hs⟩ := h1 rfl
      show Gd ((b s1).bind _) _
      rw [e2, Res.bind_ok]
      rcases z with rfl | rfl
      · exact while_inv I step (by omega) hs
      · exact while_inv I step (by omega) hs
/-- a comprehension that leaves the names as they are -/
theorem lcs_map {g : GF} {c : TF} {e : EF} {vs : List Nat} {s : PS} {F : D → D} : ∀ {ds : List D}, (∀ d ∈ ds, pLc1 g c e vs d s = .ok (some (F d), s)) → pLcs g c e vs ds s = .ok (ds.map F, s)
  | [], _ => rfl
  | d :: r, h => by
    show (pLc1 g c e vs d s).bind _ = _
    rw [h d (List.mem_cons_self ..), Res.bind_ok, lcs_map fun x m => h x (List.mem_cons_of_mem _ m), Res.bind_ok]
    rfl
theorem lcs_filter {g : GF} {c : TF} {e : EF} {vs : List Nat} {s : PS} {F : D → Option D} : ∀ {ds : List D}, (∀ d ∈ ds, pLc1 g c e vs d s = .ok (F d, s)) → pLcs g c e vs ds s = .ok (ds.filterMap F, s)
  | [], _ => rfl
  | d :: r, h => by
    show (pLc1 g c e vs d s).bind _ = _
    rw [h d (List.mem_cons_self ..), Res.bind_ok, lcs_filter fun x m => h x (List.mem_cons_of_mem _ m), Res.bind_ok]
    rw [List.filterMap_cons]
    cases F d <;> rfl
/-! ### operations on what is known -/
theorem add_int {i j : Int} : addP (.int i) (.int j) = .ok (.int (i + j)) := (rfl)
theorem add_tup {xs ys : List D} : addP (.tup xs) (.tup ys) = if small (xs.length + ys.length) then .ok (.tup (xs ++ ys)) else .bad := (rfl)
theorem add_lst {xs ys : List D} : addP (.lst xs) (.lst ys) = if small (xs.length + ys.length) then .ok (.lst (xs ++ ys)) else .bad := (rfl)
theorem sub_int {i j : Int} : subP (.int i) (.int j) = .ok (.int (i - j)) := (rfl)
theorem mul_int {i j : Int} : mulP (.int i) (.int j) = if cMul i j then .ok (.int (i * j)) else .bad := (rfl)
theorem fdiv_int {i j : Int} : fdivP (.int i) (.int j) = if decide (j ≠ 0) && decide (j.natAbs < 1073741824) then .ok (.int (i.fdiv j)) else .bad := (rfl)
theorem fd64 {i : Int} : fdivP (.int i) (.int 64) = .ok (.int (i.fdiv 64)) := (rfl)
theorem mod_int {i j : Int} : modP (.int i) (.int j) = if decide (j ≠ 0) then .ok (.int (i.fmod j)) else .bad := (rfl)
theorem pow_int {i j : Int} : powP (.int i) (.int j) = if decide (0 ≤ j) && decide (j ≤ 1000000) && decide (i.natAbs < 2 ^ 64) then .ok (.int (i ^ j.toNat)) else .bad := (rfl)
theorem pow18 : powP (.int 10) (.int 18) = .ok (.int 1000000000000000000) := (rfl)
theorem pow_of {i : Int} {k : Nat} (h : i.natAbs < 18446744073709551616) (hk : k ≤ 1000000) : powP (.int i) (.int (k : Int)) = .ok (.int (i ^ k)) := by
  rw [pow_int, decide_eq_true (Int.natCast_nonneg k), decide_eq_true (by omega), decide_eq_true (by exact h)]
  rfl
theorem lt_int {i j : Int} : ltP (.int i) (.int j) = .ok (.bl (decide (i < j))) := (rfl)
theorem le_int {i j : Int} : leP (.int i) (.int j) = .ok (.bl (decide (i ≤ j))) := (rfl)
theorem gt_int {i j : Int} : gtP (.int i) (.int j) = .ok (.bl (decide (j < i))) := (rfl)
theorem ge_int {i j : Int} : geP (.int i) (.int j) = .ok (.bl (decide (j ≤ i))) := (rfl)
theorem shaped_leaf {d : PyData} (h : d.depth = 0) (k : d.canLay0 = true) : SeqAt.shaped d = true := by
  unfold SeqAt.shaped
  rw [h, k]
  rfl
theorem shaped_int {i : Int} : SeqAt.shaped (.int i) = true := shaped_leaf (by simp only [PyData.depth]) (by simp only [PyData.canLay0])
theorem shaped_str {i : Str} (h : PyData.strOk i = true) : SeqAt.shaped (.str i) = true := shaped_leaf (by simp only [PyData.depth]) (by simp only [PyData.canLay0]; exact h)
theorem shaped_bool {i : Bool} : SeqAt.shaped (.bool i) = true := shaped_leaf (by simp only [PyData.depth]) (by simp only [PyData.canLay0])
theorem shaped_none : SeqAt.shaped .none = true := shaped_leaf (by simp only [PyData.depth]) (by simp only [PyData.canLay0])
theorem eq_of {a b : D} {x y : PyData} (ha : a.py = some x) (hb : b.py = some y) (sx : SeqAt.shaped x = true) (sy : SeqAt.shaped y = true) : eqP a b = .ok (.bl (PyData.eqv x y)) := by
  unfold eqP
  rw [ha, hb]
  show (if _ then _ else _) = _
  rw [sx, sy]
  rfl
theorem ne_of {a b : D} {x y : PyData} (ha : a.py = some x) (hb : b.py = some y) (sx : SeqAt.shaped x = true) (sy : SeqAt.shaped y = true) : neP a b = .ok (.bl (!PyData.eqv x y)) := by
  unfold neP
  rw [ha, hb]
  show (if _ then _ else _) = _
  rw [sx, sy]
  rfl
theorem py_int {i : Int} : D.py (.int i) = some (.int i) := by unfold D.py; rfl
theorem py_str {i : Str} : D.py (.str i) = some (.str i) := by unfold D.py; rfl
theorem py_bl {i : Bool} : D.py (.bl i) = some (.bool i) := by unfold D.py; rfl
theorem py_non : D.py .non = some .none := by unfold D.py; rfl
theorem py_lst {xs : List D} {ys : List PyData} (h : D.pys xs = some ys) : D.py (.lst xs) = some (.list ys) := by unfold D.py; rw [h]; rfl
theorem py_tup {xs : List D} {ys : List PyData} (h : D.pys xs = some ys) : D.py (.tup xs) = some (.tuple ys) := by unfold D.py; rw [h]; rfl
theorem pys_nil : D.pys [] = some [] := by unfold D.pys; rfl
theorem pys_cons {d : D} {r : List D} {x : PyData} {y : List PyData} (h : d.py = some x) (k : D.pys r = some y) : D.pys (d :: r) = some (x :: y) := by unfold D.pys; rw [h, k]
theorem eq_int {i j : Int} : eqP (.int i) (.int j) = .ok (.bl (decide (i = j))) := by
  rw [eq_of py_int py_int shaped_int shaped_int, PyData.eqv, Bool.beq_eq_decide_eq]
theorem ne_int {i j : Int} : neP (.int i) (.int j) = .ok (.bl (!decide (i = j))) := by
  rw [ne_of py_int py_int shaped_int shaped_int, PyData.eqv, Bool.beq_eq_decide_eq]
theorem eq_str {i j : Str} (hi : PyData.strOk i = true) (hj : PyData.strOk j = true) : eqP (.str i) (.str j) = .ok (.bl (decide (i = j))) := by
  rw [eq_of py_str py_str (shaped_str hi) (shaped_str hj), PyData.eqv, Bool.beq_eq_decide_eq]
theorem ne_str {i j : Str} (hi : PyData.strOk i = true) (hj : PyData.strOk j = true) : neP (.str i) (.str j) = .ok (.bl (!decide (i = j))) := by
  rw [ne_of py_str py_str (shaped_str hi) (shaped_str hj), PyData.eqv, Bool.beq_eq_decide_eq]
theorem isN_non : isNP .non .non = .ok (.bl true) := (rfl)
theorem isN_int {i : Int} : isNP (.int i) .non = .ok (.bl false) := (rfl)
theorem isN_exc {C : Str} {fs : List (Str × D)} : isNP (.exc C fs) .non = .ok (.bl false) := (rfl)
theorem isN_ins {C : Str} {fs : List (Str × D)} : isNP (.ins C fs) .non = .ok (.bl false) := (rfl)
theorem isN_lst {xs : List D} : isNP (.lst xs) .non = .ok (.bl false) := (rfl)
theorem isN_tup {xs : List D} : isNP (.tup xs) .non = .ok (.bl false) := (rfl)
theorem len_lst {xs : List D} : lenP [.lst xs] = .ok (.int (xs.length : Nat)) := (rfl)
theorem len_tup {xs : List D} : lenP [.tup xs] = .ok (.int (xs.length : Nat)) := (rfl)
theorem abs_int {i : Int} : absP [.int i] = .ok (.int (if i < 0 then -i else i)) := (rfl)
theorem max_int {i j : Int} : maxP [.int i, .int j] = .ok (.int (if j > i then j else i)) := (rfl)
theorem min_int {i j : Int} : minP [.int i, .int j] = .ok (.int (if j < i then j else i)) := (rfl)
theorem int_int {i : Int} : intP [.int i] = .ok (.int i) := (rfl)
theorem int_bl {i : Bool} : intP [.bl i] = .ok (.int (if i then 1 else 0)) := (rfl)
theorem tup_lst {xs : List D} : tupP [.lst xs] = .ok (.tup xs) := (rfl)
theorem tup_tup {xs : List D} : tupP [.tup xs] = .ok (.tup xs) := (rfl)
theorem seq_lst {xs : List D} : seqD (.lst xs) = .ok xs := (rfl)
theorem seq_tup {xs : List D} : seqD (.tup xs) = .ok xs := (rfl)
theorem ixp_lst {xs : List D} {i : Int} : ixP (.lst xs) (.int i) = match atI xs i with
  | some d => .ok d
  | none => .bad := (rfl)
theorem ixp_tup {xs : List D} {i : Int} : ixP (.tup xs) (.int i) = match atI xs i with
  | some d => .ok d
  | none => .bad := (rfl)
/-- a list or a tuple of them -/
def IsSeq (v : D) (xs : List D) : Prop := v = .lst xs ∨ v = .tup xs
theorem IsSeq.seq {v : D} {xs : List D} (h : IsSeq v xs) : seqD v = .ok xs := by rcases h with rfl | rfl <;> rfl
theorem IsSeq.islt {v : D} {xs : List D} (h : IsSeq v xs) : isltP v = .ok (.bl true) := by rcases h with rfl | rfl <;> rfl
theorem IsSeq.len {v : D} {xs : List D} (h : IsSeq v xs) : lenP [v] = .ok (.int (xs.length : Nat)) := by rcases h with rfl | rfl <;> rfl
theorem IsSeq.tup {v : D} {xs : List D} (h : IsSeq v xs) : tupP [v] = .ok (.tup xs) := by rcases h with rfl | rfl <;> rfl
theorem bk_ok {α β : Type} {a : α} {f : α → Res β} : (Res.ok a).bind f = f a := (rfl)
theorem bk_err {α β : Type} {e : Er} {f : α → Res β} : (Res.err e : Res α).bind f = .err e := (rfl)
theorem bk_bad {α β : Type} {f : α → Res β} : (Res.bad : Res α).bind f = .bad := (rfl)
theorem Res.bind_cong {α β : Type} {r r' : Res α} {f : α → Res β} (h : r = r') : r.bind f = r'.bind f := h ▸ rfl

theorem Res.bind_assoc {α β γ : Type} {r : Res α} {f : α → Res β} {g : β → Res γ} : (r.bind f).bind g = r.bind fun x => (f x).bind g := by cases r <;> rfl
theorem blsOf_map {α : Type} {F : α → D} {B : α → Bool} (h : ∀ x, F x = .bl (B x)) : ∀ xs : List α, blsOf (xs.map F) = some (xs.map B)
  | [] => rfl
  | x :: r => by
    rw [List.map_cons, h x]
    show (blsOf (r.map F)).map _ = _
    rw [blsOf_map h r]
    rfl
theorem intsOf_map {α : Type} {F : α → D} {B : α → Int} (h : ∀ x, F x = .int (B x)) : ∀ xs : List α, intsOf (xs.map F) = some (xs.map B)
  | [] => rfl
  | x :: r => by
    rw [List.map_cons, h x]
    show (intsOf (r.map F)).map _ = _
    rw [intsOf_map h r]
    rfl
/-- a comprehension over what is a map -/
theorem lcs_maps {α : Type} {g : GF} {c : TF} {e : EF} {vs : List Nat} {s : PS} {F G : α → D} {ds : List α} (h : ∀ d ∈ ds, pLc1 g c e vs (F d) s = .ok (some (G d), s)) : pLcs g c e vs (ds.map F) s = .ok (ds.map G, s) := by
  induction ds with
  | nil => rfl
  | cons d r ih =>
    show (pLc1 g c e vs (F d) s).bind _ = _
    rw [h d (List.mem_cons_self ..), Res.bind_ok, ih fun x m => h x (List.mem_cons_of_mem _ m), Res.bind_ok]
    rfl
theorem lt0_ : ((0 : Nat) < 1000) = True := by decide
theorem lt1_ : ((1 : Nat) < 1000) = True := by decide
theorem lt2_ : ((2 : Nat) < 1000) = True := by decide
theorem lt3_ : ((3 : Nat) < 1000) = True := by decide
theorem lt4_ : ((4 : Nat) < 1000) = True := by decide
theorem lt5_ : ((5 : Nat) < 1000) = True := by decide
theorem lt6_ : ((6 : Nat) < 1000) = True := by decide
theorem lt7_ : ((7 : Nat) < 1000) = True := by decide
theorem sm0_ : small 0 = true := by decide
theorem sm1_ : small 1 = true := by decide
theorem sm2_ : small 2 = true := by decide
theorem sm3_ : small 3 = true := by decide
theorem sm4_ : small 4 = true := by decide
theorem sm5_ : small 5 = true := by decide
theorem sm6_ : small 6 = true := by decide
theorem sm7_ : small 7 = true := by decide
theorem nc0 : ((0 : Nat) : Int) = 0 := rfl
theorem nc1 : ((1 : Nat) : Int) = 1 := rfl
theorem nc2 : ((2 : Nat) : Int) = 2 := rfl
theorem nc3 : ((3 : Nat) : Int) = 3 := rfl
theorem nc4 : ((4 : Nat) : Int) = 4 := rfl
theorem nc5 : ((5 : Nat) : Int) = 5 := rfl
theorem at0 {α : Type} {a : α} {r : List α} : atI (a :: r) 0 = some a := by simp [atI, ixN]
theorem at1 {α : Type} {a b : α} {r : List α} : atI (a :: b :: r) 1 = some b := by
  have h : (1 : Int) < (r.length : Int) + 1 + 1 := by omega
  simp [atI, ixN, h]
theorem at2 {α : Type} {a b c : α} {r : List α} : atI (a :: b :: c :: r) 2 = some c := by
  have h : (2 : Int) < (r.length : Int) + 1 + 1 + 1 := by omega
  simp [atI, ixN, h]
theorem at_nat {α : Type} {xs : List α} {i : Nat} (h : i < xs.length) : atI xs (i : Int) = some xs[i] := by
  simp [atI, ixN, h]
theorem rg1_ {j : Int} : rg1P [.int j] = if inR j then .ok (rangeD 0 j) else .bad := (rfl)
theorem rg2_ {i j : Int} : rg2P [.int i, .int j] = if inR i && inR j then .ok (rangeD i j) else .bad := (rfl)
theorem fld_ins {C x : Str} {fs : List (Str × D)} : fldP x (.ins C fs) = match fs.lookup x with
  | some d => .ok d
  | none => .bad := (rfl)
theorem bx0 {δ : DS} : bxD δ 0 = .ok (.lst (δ.ns.map .int)) := (rfl)
theorem bx1 {δ : DS} : bxD δ 1 = .ok (.int (δ.lap : Int)) := (rfl)
theorem bx2 {δ : DS} : bxD δ 2 = .ok (.int δ.rest) := (rfl)
theorem bs1 {δ : DS} {n : Int} : bxS δ 1 (.int n) = if decide (0 ≤ n) then .ok { δ with lap := n.toNat } else .bad := (rfl)
theorem bs2 {δ : DS} {n : Int} : bxS δ 2 (.int n) = .ok { δ with rest := n } := (rfl)
theorem ise_non {C : Str} : isEP C .non = .ok (.bl false) := (rfl)
theorem ise_exc {C C' : Str} {fs : List (Str × D)} : isEP C (.exc C' fs) = .ok (.bl (decide (C' = C))) := (rfl)
theorem xt_exc {x C : Str} {fs : List (Str × D)} : xtP x (.exc C fs) = match fs.lookup x with
  | some d => .ok d
  | none => .bad := (rfl)
theorem in_is {neg : Bool} {a : D} {v : V} {xs : List D} {vs : List V} (h : toV a = some v) (k : toVs xs = some vs) : inP neg a (.lst xs) = .ok (.bl (if neg then !inV v vs else inV v vs)) ∧ inP neg a (.tup xs) = .ok (.bl (if neg then !inV v vs else inV v vs)) := by
  constructor <;> simp only [inP, h, k]
theorem toVs_map {α : Type} {F : α → D} {W : α → V} (h : ∀ x, toV (F x) = some (W x)) : ∀ xs : List α, toVs (xs.map F) = some (xs.map W)
  | [] => rfl
  | x :: r => by
    show (match toV (F x), toVs (r.map F) with | some v, some vs => some (v :: vs) | _, _ => none) = _
    rw [h x, toVs_map h r]
    rfl
theorem isi_int_ {i : Int} : isiP "int" (.int i) = .ok (.bl true) := (rfl)
theorem isi_bool_ {i : Int} : isiP "bool" (.int i) = .ok (.bl false) := (rfl)
theorem isi_str_ {i : Str} : isiP "str" (.str i) = .ok (.bl true) := (rfl)
theorem islt_tup {xs : List D} : isltP (.tup xs) = .ok (.bl true) := (rfl)
theorem islt_lst {xs : List D} : isltP (.lst xs) = .ok (.bl true) := (rfl)
theorem iso_ins {C C' : Str} {fs : List (Str × D)} : isoP C (.ins C' fs) = .ok (.bl (decide (C' = C))) := (rfl)
theorem small_le {n : Nat} (h : n ≤ sizeLine) : small n = true := decide_eq_true h
end Pl
namespace Pl
open PySem PySem.Spec PyProof.Rows L2 Rp LamX
/-! ### deeds -/
inductive Wd where
  | over | under | join | open_ | turn
  deriving DecidableEq, Inhabited
def Wd.s : Wd → Str
  | .over => "over" | .under => "under" | .join => "join" | .open_ => "open" | .turn => "turn"
abbrev De := Wd × Int
def deD (d : De) : D := .tup [.str d.1.s, .int d.2]
theorem wd_ok (w : Wd) : PyData.strOk w.s = true := by cases w <;> decide +kernel
theorem wd_inj {a b : Wd} : (a.s = b.s) ↔ a = b := by cases a <;> cases b <;> decide +kernel
theorem wd_eq {w : Wd} (v : Wd) : eqP (.str w.s) (.str v.s) = .ok (.bl (decide (w = v))) := by
  rw [eq_str (wd_ok w) (wd_ok v)]
  simp only [wd_inj]
theorem wd_over {w : Wd} : eqP (.str w.s) (.str "over") = .ok (.bl (decide (w = .over))) := wd_eq .over
theorem wd_under {w : Wd} : eqP (.str w.s) (.str "under") = .ok (.bl (decide (w = .under))) := wd_eq .under
theorem wd_join {w : Wd} : eqP (.str w.s) (.str "join") = .ok (.bl (decide (w = .join))) := wd_eq .join
theorem wd_open {w : Wd} : eqP (.str w.s) (.str "open") = .ok (.bl (decide (w = .open_))) := wd_eq .open_
theorem wd_turn {w : Wd} : eqP (.str w.s) (.str "turn") = .ok (.bl (decide (w = .turn))) := wd_eq .turn
theorem wd_in {w : Wd} : inP false (.str w.s) (.tup [.str "over", .str "under", .str "join", .str "open", .str "turn"]) = .ok (.bl true) := by
  rw [(in_is (a := .str w.s) rfl rfl).2]
  have h : inV (.str w.s) [.str "over", .str "under", .str "join", .str "open", .str "turn"] = true := in_W5 (by cases w <;> simp [W5, Wd.s])
  rw [h]
  rfl
theorem deD_tup {w : Wd} {g : Int} : deD (w, g) = .tup [.str w.s, .int g] := rfl
theorem de_py (d : De) : (deD d).py = some (.tuple [.str d.1.s, .int d.2]) := py_tup (pys_cons py_str (pys_cons py_int pys_nil))
def dePy (d : De) : PyData := .tuple [.str d.1.s, .int d.2]
theorem des_py : ∀ ds : List De, D.pys (ds.map deD) = some (ds.map dePy)
  | [] => pys_nil
  | d :: r => pys_cons (de_py d) (des_py r)
theorem des_shaped (ds : List De) : SeqAt.shaped (.tuple (ds.map dePy)) = true ∧ SeqAt.shaped (.list (ds.map dePy)) = true := by
  have h : ∀ ds : List De, PyData.canLayAll0 (ds.map dePy) = true ∧ PyData.depthAll (ds.map dePy) ≤ 1 := by
    intro ds
    induction ds with
    | nil => simp [PyData.canLayAll0, PyData.depthAll]
    | cons d r ih =>
      have o := wd_ok d.1
      simp [PyData.canLayAll0, PyData.depthAll, dePy, PyData.canLay0, PyData.depth, ih.1, ih.2, o]
  have k := (h ds).2
  have sh : ∀ x : PyData, x.canLay0 = true → x.depth ≤ 2 → SeqAt.shaped x = true := fun x a b => by
    unfold SeqAt.shaped
    rw [a, decide_eq_true (Nat.le_trans b (by decide))]
    rfl
  refine ⟨sh _ (by simp only [PyData.canLay0]; exact (h ds).1) ?_, sh _ (by simp only [PyData.canLay0]; exact (h ds).1) ?_⟩ <;> simp only [PyData.depth]
  · omega
  · omega
theorem des_eqv : ∀ a b : List De, PyData.eqvAll (a.map dePy) (b.map dePy) = decide (a = b)
  | [], [] => by simp [PyData.eqvAll]
  | [], _ :: _ => by simp [PyData.eqvAll]
  | _ :: _, [] => by simp [PyData.eqvAll]
  | (w, g) :: r, (v, k) :: t => by
    simp only [List.map_cons, PyData.eqvAll, dePy, PyData.eqv, des_eqv r t, Bool.beq_eq_decide_eq, wd_inj, List.cons.injEq, Prod.mk.injEq, Bool.and_true]
    by_cases h1 : w = v <;> by_cases h2 : g = k <;> by_cases h3 : r = t <;> simp [h1, h2, h3]
theorem des_eq {a b : List De} : eqP (.tup (a.map deD)) (.tup (b.map deD)) = .ok (.bl (decide (a = b))) := by
  rw [eq_of (py_tup (des_py a)) (py_tup (des_py b)) (des_shaped a).1 (des_shaped b).1, PyData.eqv, des_eqv]
theorem des_eqL {a b : List De} : eqP (.lst (a.map deD)) (.lst (b.map deD)) = .ok (.bl (decide (a = b))) := by
  rw [eq_of (py_lst (des_py a)) (py_lst (des_py b)) (des_shaped a).2 (des_shaped b).2, PyData.eqv, des_eqv]
/-- ends behind a deed -/
def eb (w : Wd) (m : Int) : Int := match w with
  | .join => m - 2
  | .open_ => m + 2
  | _ => m
/-- its gaps: from, to -/
def gapL (w : Wd) (m : Int) : Int := match w with
  | .join => if 0 < m then 1 else 0
  | _ => 0
def gapR (w : Wd) (m : Int) : Int := match w with
  | .open_ => if 1 > m then 1 else m
  | .join => if 0 < m then (if 2 > m - 1 then 2 else m - 1) else m
  | _ => m
def fitB (w : Wd) (m g : Int) : Bool := decide (gapL w m ≤ g) && decide (g < gapR w m)
/-- the ends behind deeds that fit -/
def runE : List De → Int → Option Int
  | [], m => some m
  | (w, g) :: r, m => if fitB w m g && decide (eb w m ≤ 24) then runE r (eb w m) else none
theorem in_rg {g a b : Int} : inP true (.int g) (.lst (rangeD a b)) = .ok (.bl (!(decide (a ≤ g) && decide (g < b)))) := by
  have h : toVs (rangeD a b) = some (rgV a b) := toVs_map (fun x => rfl) _
  rw [(in_is (neg := true) (a := .int g) rfl h).1, inV_rg]
  rfl
theorem in_rg0 {g a b : Int} : inP false (.int g) (.lst (rangeD a b)) = .ok (.bl (decide (a ≤ g) && decide (g < b))) := by
  have h : toVs (rangeD a b) = some (rgV a b) := toVs_map (fun x => rfl) _
  rw [(in_is (neg := false) (a := .int g) rfl h).1, inV_rg]
  rfl
theorem inR_ok {i : Int} (h : -1000000 ≤ i) (k : i ≤ 1000000) : inR i = true := by
  unfold inR
  rw [decide_eq_true (by omega), decide_eq_true (by omega)]
  rfl
theorem rgOk_ok {a b : Int} (h : -1000000 ≤ a) (k : a ≤ 1000000) (h' : -1000000 ≤ b) (k' : b ≤ 1000000) : rgOk a b = true := by
  unfold rgOk
  rw [inR_ok h k, inR_ok h' k', decide_eq_true (by omega)]
  rfl
theorem small_ok {n : Nat} (h : n ≤ 100000) : small n = true := small_le (Nat.le_trans h (by decide))
end Pl
namespace Pl
open PySem PySem.Spec PyProof.Rows L2 Rp LamX
/-! ### texts of data -/
theorem neS_str {a b : Str} : eqSP true (.str a) (.str b) = .ok (.bl (!decide (a = b))) := by
  unfold eqSP
  simp [toV, scal]
theorem eqS_str {a b : Str} : eqSP false (.str a) (.str b) = .ok (.bl (decide (a = b))) := by
  unfold eqSP
  simp [toV, scal]
theorem repr_of {d : D} {x : PyData} (h : d.py = some x) (f : Fit 64 15000000 x) : reprP [d] = .ok (.str x.shown) := by
  unfold reprP
  simp only [h]
  rw [if_pos]
  rw [f.sh, decide_eq_true f.dp, decide_eq_true f.co]
  rfl
theorem fit_de (d : De) (h : -100000 ≤ d.2) (k : d.2 ≤ 100000) : Fit 1 200 (dePy d) := by
  have f1 : Fit 0 60 (.str d.1.s) := by
    refine leaf_fit (by simp only [PyData.showable]) (by simp only [PyData.depth]; exact Nat.le_refl _) ?_
    cases d.1 <;> decide +kernel
  have f2 : Fit 0 60 (.int d.2) := (fit_int (by omega)).le (Nat.le_refl _) (by omega)
  exact ((FitA.cons f1 (FitA.cons (e := 0) f2 FitA.nil)).tuple).le (by decide) (by decide)
theorem fit_des {ds : List De} {n : Nat} (h : ∀ d ∈ ds, -100000 ≤ d.2 ∧ d.2 ≤ 100000) (hn : ds.length ≤ n) : FitA 1 (202 * n) (ds.map dePy) := by
  have : ∀ ds : List De, (∀ d ∈ ds, -100000 ≤ d.2 ∧ d.2 ≤ 100000) → FitA 1 (202 * ds.length) (ds.map dePy) := by
    intro ds
    induction ds with
    | nil => exact fun _ => FitA.nil (n := 1) (c := 202 * 0)
    | cons d r ih =>
      intro h
      have f := FitA.cons (fit_de d (h d (List.mem_cons_self ..)).1 (h d (List.mem_cons_self ..)).2) (ih fun x m => h x (List.mem_cons_of_mem _ m))
      exact f.le (Nat.le_refl _) (by rw [List.length_cons]; omega)
  exact (this ds h).le (Nat.le_refl _) (by omega)
/-! ### deeds that fit -/
theorem fit_gap {w : Wd} {m g : Int} (h : fitB w m g = true) (k : m ≤ 24) : 0 ≤ g ∧ g ≤ 23 := by
  unfold fitB gapL gapR at h
  rw [Bool.and_eq_true, decide_eq_true_eq, decide_eq_true_eq] at h
  cases w <;> simp only at h
  all_goals (repeat' split at h) <;> omega
theorem fit_low {w : Wd} {m g : Int} (h : fitB w m g = true) (k : -1 ≤ m) : -1 ≤ eb w m := by
  unfold fitB gapL gapR at h
  rw [Bool.and_eq_true, decide_eq_true_eq, decide_eq_true_eq] at h
  cases w <;> simp only [eb] at h ⊢
  all_goals (repeat' split at h) <;> omega
theorem fit_iff {w : Wd} {m g : Int} : fitB w m g = true ↔ gapL w m ≤ g ∧ g < gapR w m := by
  unfold fitB
  rw [Bool.and_eq_true, decide_eq_true_eq, decide_eq_true_eq]
theorem runE_cons {w : Wd} {g m k : Int} {r : List De} : runE ((w, g) :: r) m = some k ↔ fitB w m g = true ∧ eb w m ≤ 24 ∧ runE r (eb w m) = some k := by
  rw [runE]
  by_cases h : fitB w m g = true <;> by_cases h2 : eb w m ≤ 24 <;> simp [h, h2]
theorem runE_app {b : List De} {k : Int} : ∀ {a : List De} {m j : Int}, runE a m = some j → runE b j = some k → runE (a ++ b) m = some k
  | [], m, j, h, h2 => by cases h; exact h2
  | (w, g) :: r, m, j, h, h2 => by
    obtain ⟨a, b', c⟩ := runE_cons.mp h
    exact runE_cons.mpr ⟨a, b', runE_app c h2⟩
theorem runE_bound : ∀ {a : List De} {m j : Int}, runE a m = some j → -1 ≤ m → m ≤ 24 → -1 ≤ j ∧ j ≤ 24
  | [], m, j, h, l, k => by cases h; exact ⟨l, k⟩
  | (w, g) :: r, m, j, h, l, k => by
    obtain ⟨a, b', c⟩ := runE_cons.mp h
    exact runE_bound c (fit_low a l) b'
theorem runE_gaps : ∀ {a : List De} {m j : Int}, runE a m = some j → m ≤ 24 → ∀ d ∈ a, 0 ≤ d.2 ∧ d.2 ≤ 23
  | [], m, j, h, k, d, z => nomatch z
  | (w, g) :: r, m, j, h, k, d, z => by
    obtain ⟨a, b', c⟩ := runE_cons.mp h
    rcases List.mem_cons.mp z with rfl | z
    · exact fit_gap a k
    · exact runE_gaps c b' d z
/-- a deed taken back -/
def tb1 : De → Int → De
  | (.over, g), _ => (.under, g)
  | (.under, g), _ => (.over, g)
  | (.join, g), _ => (.open_, g - 1)
  | (.open_, g), _ => (.join, g + 1)
  | (.turn, g), m => (.turn, if g > 0 then m - g else 0)
def backs : List De → Int → List De
  | [], _ => []
  | (w, g) :: r, m => tb1 (w, g) m :: backs r (eb w m)
/-- the deeds taken back, the last one first -/
def img (ds : List De) (m : Int) : List De := (backs ds m).reverse
theorem backs_len : ∀ (ds : List De) (m : Int), (backs ds m).length = ds.length
  | [], _ => rfl
  | (w, g) :: r, m => by show (backs r _).length + 1 = _; rw [backs_len r]; rfl
theorem img_len (ds : List De) (m : Int) : (img ds m).length = ds.length := by unfold img; rw [List.length_reverse, backs_len]
theorem tb_fit {w : Wd} {m g : Int} (h : fitB w m g = true) (l2 : -1 ≤ m) : fitB (tb1 (w, g) m).1 (eb w m) (tb1 (w, g) m).2 = true ∧ eb (tb1 (w, g) m).1 (eb w m) = m ∧ tb1 (tb1 (w, g) m) (eb w m) = (w, g) := by
  rw [fit_iff] at h
  refine ⟨fit_iff.mpr ?_, ?_, ?_⟩
  · cases w
    · exact h
    · exact h
    · have h : (if 0 < m then (1 : Int) else 0) ≤ g ∧ g < (if 0 < m then (if 2 > m - 1 then 2 else m - 1) else m) := h
      show (0 : Int) ≤ g - 1 ∧ g - 1 < (if 1 > m - 2 then 1 else m - 2)
      (repeat' split at h) <;> (repeat' split) <;> omega
    · have h : (0 : Int) ≤ g ∧ g < (if 1 > m then 1 else m) := h
      show (if 0 < m + 2 then (1 : Int) else 0) ≤ g + 1 ∧ g + 1 < (if 0 < m + 2 then (if 2 > m + 2 - 1 then 2 else m + 2 - 1) else m + 2)
      (repeat' split at h) <;> (repeat' split) <;> omega
    · have h : (0 : Int) ≤ g ∧ g < m := h
      show (0 : Int) ≤ (if g > 0 then m - g else 0) ∧ (if g > 0 then m - g else 0) < m
      (repeat' split) <;> omega
  · cases w <;> simp only [tb1, eb] <;> omega
  · cases w
    · rfl
    · rfl
    · show (Wd.join, g - 1 + 1) = (Wd.join, g)
      rw [Int.sub_add_cancel]
    · show (Wd.open_, g + 1 - 1) = (Wd.open_, g)
      rw [Int.add_sub_cancel]
    · have h : (0 : Int) ≤ g ∧ g < m := h
      show (Wd.turn, if (if g > 0 then m - g else 0) > 0 then m - (if g > 0 then m - g else 0) else 0) = (Wd.turn, g)
      refine congrArg (Prod.mk Wd.turn) ?_
      (repeat' split) <;> omega
theorem runE_one {d : De} {m k : Int} (h : fitB d.1 m d.2 = true) (e : eb d.1 m = k) (l : k ≤ 24) : runE [d] m = some k := by
  obtain ⟨w, g⟩ := d
  exact runE_cons.mpr ⟨h, by rw [e]; exact l, by rw [e]; rfl⟩
theorem img_run : ∀ {ds : List De} {m k : Int}, runE ds m = some k → -1 ≤ m → m ≤ 24 → runE (img ds m) k = some m
  | [], m, k, h, _, _ => by cases h; rfl
  | (w, g) :: r, m, k, h, l2, l => by
    obtain ⟨a, b, c⟩ := runE_cons.mp h
    have t := tb_fit a l2
    have l3 := fit_low a l2
    have e : img ((w, g) :: r) m = img r (eb w m) ++ [tb1 (w, g) m] := by unfold img; show (_ :: _).reverse = _; rw [List.reverse_cons]
    rw [e]
    exact runE_app (img_run c l3 b) (runE_one t.1 t.2.1 l)
theorem backs_app : ∀ (a : List De) {b : List De} {m j : Int}, runE a m = some j → backs (a ++ b) m = backs a m ++ backs b j
  | [], b, m, j, h => by cases h; rfl
  | (w, g) :: r, b, m, j, h => by
    obtain ⟨a, b', c⟩ := runE_cons.mp h
    show _ :: backs (r ++ b) _ = _ :: (backs r _ ++ _)
    rw [backs_app r c]
theorem img_img : ∀ {ds : List De} {m k : Int}, runE ds m = some k → -1 ≤ m → m ≤ 24 → img (img ds m) k = ds
  | [], m, k, h, _, _ => by cases h; rfl
  | (w, g) :: r, m, k, h, l2, l => by
    obtain ⟨a, b, c⟩ := runE_cons.mp h
    have t := tb_fit a l2
    have l3 := fit_low a l2
    have e : img ((w, g) :: r) m = img r (eb w m) ++ [tb1 (w, g) m] := by unfold img; show (_ :: _).reverse = _; rw [List.reverse_cons]
    rw [e]
    have i := img_img c l3 b
    unfold img at i
    show (backs (img r (eb w m) ++ _) k).reverse = _
    rw [backs_app _ (img_run c l3 b), List.reverse_append]
    show (tb1 (tb1 (w, g) m) (eb w m) :: _).reverse ++ _ = _
    rw [t.2.2]
    show [(w, g)] ++ (backs (backs r (eb w m)).reverse k).reverse = _
    rw [i]
    rfl
end Pl
namespace Pl
open PySem PySem.Spec PyProof.Rows L2 Rp LamX
/-! ### draws -/
theorem ints_py : ∀ ns : List Int, D.pys (ns.map D.int) = some (ns.map PyData.int)
  | [] => pys_nil
  | _ :: r => pys_cons py_int (ints_py r)
theorem ints_shaped (ns : List Int) : SeqAt.shaped (.list (ns.map PyData.int)) = true ∧ SeqAt.shaped (.tuple (ns.map PyData.int)) = true := by
  have h : ∀ ns : List Int, PyData.canLayAll0 (ns.map PyData.int) = true ∧ PyData.depthAll (ns.map PyData.int) ≤ 0 := by
    intro ds
    induction ds with
    | nil => simp [PyData.canLayAll0, PyData.depthAll]
    | cons d r ih => simp [PyData.canLayAll0, PyData.depthAll, PyData.canLay0, PyData.depth, ih.1, ih.2]
  have k := (h ns).2
  have sh : ∀ x : PyData, x.canLay0 = true → x.depth ≤ 2 → SeqAt.shaped x = true := fun x a b => by
    unfold SeqAt.shaped
    rw [a, decide_eq_true (Nat.le_trans b (by decide))]
    rfl
  refine ⟨sh _ (by simp only [PyData.canLay0]; exact (h ns).1) ?_, sh _ (by simp only [PyData.canLay0]; exact (h ns).1) ?_⟩ <;> simp only [PyData.depth]
  · omega
  · omega
theorem ints_eqv : ∀ a b : List Int, PyData.eqvAll (a.map PyData.int) (b.map PyData.int) = decide (a = b)
  | [], [] => by simp [PyData.eqvAll]
  | [], _ :: _ => by simp [PyData.eqvAll]
  | _ :: _, [] => by simp [PyData.eqvAll]
  | g :: r, k :: t => by
    simp only [List.map_cons, PyData.eqvAll, PyData.eqv, ints_eqv r t, Bool.beq_eq_decide_eq, List.cons.injEq]
    by_cases h2 : g = k <;> by_cases h3 : r = t <;> simp [h2, h3]
theorem ints_eq {a b : List Int} : eqP (.lst (a.map .int)) (.lst (b.map .int)) = .ok (.bl (decide (a = b))) := by
  rw [eq_of (py_lst (ints_py a)) (py_lst (ints_py b)) (ints_shaped a).1 (ints_shaped b).1, PyData.eqv, ints_eqv]
theorem ints_ne {a b : List Int} : neP (.lst (a.map .int)) (.lst (b.map .int)) = .ok (.bl (!decide (a = b))) := by
  rw [ne_of (py_lst (ints_py a)) (py_lst (ints_py b)) (ints_shaped a).1 (ints_shaped b).1, PyData.eqv, ints_eqv]
theorem ints_eqT {a b : List Int} : eqP (.tup (a.map .int)) (.tup (b.map .int)) = .ok (.bl (decide (a = b))) := by
  rw [eq_of (py_tup (ints_py a)) (py_tup (ints_py b)) (ints_shaped a).2 (ints_shaped b).2, PyData.eqv, ints_eqv]
theorem ints_neT {a b : List Int} : neP (.tup (a.map .int)) (.tup (b.map .int)) = .ok (.bl (!decide (a = b))) := by
  rw [ne_of (py_tup (ints_py a)) (py_tup (ints_py b)) (ints_shaped a).2 (ints_shaped b).2, PyData.eqv, ints_eqv]
theorem ints_ne0 {a : List Int} : neP (.lst (a.map .int)) (.lst []) = .ok (.bl (!decide (a = []))) := ints_ne (b := [])
/-- what is drawn from, behind n draws at most -/
structure Dn (n : Nat) (δ : DS) : Prop where
  lap : δ.lap ≤ n
  len : δ.ns.length ≤ 60
theorem Dn.le {n m : Nat} {δ : DS} (h : Dn n δ) (k : n ≤ m) : Dn m δ := ⟨Nat.le_trans h.lap k, h.len⟩
/-- a drawn number below m -/
def Drawn (n : Nat) (m : Int) (x : D × DS) : Prop := ∃ r : Int, x.1 = .int r ∧ 0 ≤ r ∧ r < m ∧ Dn n x.2
theorem nat_small {i : Int} {n : Nat} (a : -(n : Int) < i) (b : i < n) : i.natAbs < n := by omega
theorem fmod_bounds {a m : Int} (h : 0 < m) : 0 ≤ a.fmod m ∧ a.fmod m < m := ⟨Int.fmod_nonneg_of_pos a h, Int.fmod_lt_of_pos a h⟩
theorem cMul_l {i j : Int} (h : -(2 ^ 64) < i) (k : i < 2 ^ 64) : cMul i j = true := by
  unfold cMul
  rw [decide_eq_true h, decide_eq_true k]
  rfl
theorem cMul_r {i j : Int} (h : -(2 ^ 64) < j) (k : j < 2 ^ 64) : cMul i j = true := by
  unfold cMul
  rw [decide_eq_true h, decide_eq_true k]
  simp
theorem at_lap {ns : List Int} {lap : Nat} (h : ns ≠ []) : ∃ v : Int, atI (ns.map D.int) ((lap : Int).fmod ((ns.length : Nat) : Int)) = some (.int v) := by
  have hl : 0 < ns.length := List.length_pos_iff.mpr h
  have e : (lap : Int).fmod ((ns.length : Nat) : Int) = ((lap % ns.length : Nat) : Int) := by
    rw [Int.fmod_eq_emod_of_nonneg _ (by omega)]
    rfl
  have lt : lap % ns.length < (ns.map D.int).length := by rw [List.length_map]; exact Nat.mod_lt _ hl
  refine ⟨ns[lap % ns.length]'(Nat.mod_lt _ hl), ?_⟩
  rw [e, at_nat lt, List.getElem_map]
end Pl
local macro_rules | `(tactic| walk_at "re") => `(tactic| with_reducible first
  | refine Rp.r_op ?_ | refine Rp.r_test ?_ | refine Rp.r_if ?_ | refine Rp.r_asg ?_ | refine Rp.r_ret ?_
  | refine Rp.r_cb ?_ | refine Rp.r_cons ?_ | refine Rp.r_nil ?_ | refine Rp.r_c ?_ | refine Rp.r_gname ?_ | refine Rp.r_gsub ?_ | refine Rp.r_next ?_ | refine Rp.r_drop ?_
  | refine Rp.r_I0 ?_ | refine Rp.r_tb ?_ | refine Rp.r_not ?_ | refine Rp.r_and ?_ | refine Rp.r_or ?_ | refine Rp.r_sl ?_ | refine Rp.r_pnone ?_ | refine Rp.r_pint ?_
  | refine Rp.r_lst ?_ | refine Rp.r_tup ?_ | refine Rp.r_lc ?_ | refine Rp.r_ilist ?_ | refine Rp.r_itup ?_ | refine Rp.r_irng1 ?_ | refine Rp.r_irng2 ?_ | refine Rp.r_for ?_ | refine Rp.r_par ?_ | refine Rp.r_go ?_ | refine Rp.r_kw ?_ | refine Rp.r_disp ?_ | refine Rp.r_pair ?_ | refine Rp.r_pair0 ?_ | refine Rp.r_chain ?_ | refine Rp.r_U ?_ | refine Rp.r_gtup ?_ | refine Rp.r_un ?_ | refine Rp.r_ifx ?_ | refine Rp.r_bl ?_ | refine Rp.r_andV ?_ | refine Rp.r_orV ?_ | refine Rp.r_notV ?_ | refine Rp.r_call ?_ | refine Rp.r_yes ?_ | refine Rp.r_true ?_ | refine Rp.r_false ?_ | refine Rp.r_truen ?_ | refine Rp.r_falsen ?_ | refine Rp.r_goE ?_ | refine Rp.r_err ?_ | refine Rp.r_izipA ?_ | refine Rp.r_izip ?_ | refine Rp.r_lam ?_ | refine Rp.r_xt ?_ | refine Rp.r_err2 ?_ | refine Rp.r_make ?_ | refine Rp.r_fld ?_ | refine Rp.r_sfld ?_ | refine Rp.r_lrg ?_ | refine Rp.r_rg1 ?_ | refine Rp.r_rg2 ?_ | refine Rp.r_while ?_ | refine Rp.r_eqS ?_ | refine Rp.r_bm ?_ | refine Rp.r_izipB ?_ | refine Rp.r_makeK ?_ | refine Rp.r_ienumT ?_ | refine Rp.r_irevA ?_ | refine Rp.r_iitems ?_ | refine Rp.r_dget ?_ | refine Rp.r_revL ?_ | refine Rp.r_callBK ?_)
local macro_rules | `(tactic| walk_at "ex") => `(tactic| with_reducible first | refine Rp.r_op ?_ | refine Rp.r_test ?_ | refine Rp.r_cb ?_ | refine Rp.r_cons ?_ | refine Rp.r_nil ?_ | refine Rp.r_c ?_ | refine Rp.r_gname ?_ | refine Rp.r_gsub ?_ | refine Rp.r_I0 ?_ | refine Rp.r_tb ?_ | refine Rp.r_not ?_ | refine Rp.r_and ?_ | refine Rp.r_or ?_ | refine Rp.r_sl ?_ | refine Rp.r_pnone ?_ | refine Rp.r_pint ?_ | refine Rp.r_lst ?_ | refine Rp.r_tup ?_ | refine Rp.r_lc ?_ | refine Rp.r_ilist ?_ | refine Rp.r_itup ?_ | refine Rp.r_irng1 ?_ | refine Rp.r_irng2 ?_ | refine Rp.r_go ?_ | refine Rp.r_kw ?_ | refine Rp.r_disp ?_ | refine Rp.r_pair ?_ | refine Rp.r_pair0 ?_ | refine Rp.r_chain ?_ | refine Rp.r_U ?_ | refine Rp.r_gtup ?_ | refine Rp.r_un ?_ | refine Rp.r_ifx ?_ | refine Rp.r_bl ?_ | refine Rp.r_andV ?_ | refine Rp.r_orV ?_ | refine Rp.r_notV ?_ | refine Rp.r_call ?_ | refine Rp.r_yes ?_ | refine Rp.r_true ?_ | refine Rp.r_false ?_ | refine Rp.r_truen ?_ | refine Rp.r_falsen ?_ | refine Rp.r_goE ?_ | refine Rp.r_err ?_ | refine Rp.r_izipA ?_ | refine Rp.r_izip ?_ | refine Rp.r_lam ?_ | refine Rp.r_xt ?_ | refine Rp.r_err2 ?_ | refine Rp.r_make ?_ | refine Rp.r_fld ?_ | refine Rp.r_sfld ?_ | refine Rp.r_lrg ?_ | refine Rp.r_rg1 ?_ | refine Rp.r_rg2 ?_ | refine Rp.r_while ?_ | refine Rp.r_eqS ?_ | refine Rp.r_bm ?_ | refine Rp.r_izipB ?_ | refine Rp.r_makeK ?_ | refine Rp.r_ienumT ?_ | refine Rp.r_irevA ?_ | refine Rp.r_iitems ?_ | refine Rp.r_dget ?_ | refine Rp.r_revL ?_ | refine Rp.r_callBK ?_)
local macro_rules | `(tactic| walk_at "v") => `(tactic| ((with_reducible refine Rp.r_varE ?_); refine ⟨_, rfl, ?_⟩))
local macro_rules | `(tactic| walk_at "rex") => `(tactic| repeat (first | walk_at "ex" | walk_at "v"))
local macro_rules | `(tactic| walk_at "rd") => `(tactic| first | with_reducible refine Rp.r_seq ?_ | walk_at "re")
local macro_rules | `(tactic| walk_at "res") => `(tactic| repeat (first | walk_at "re" | walk_at "v"))
local macro_rules | `(tactic| walk_at "rds") => `(tactic| repeat (first | walk_at "rd" | walk_at "v"))
local macro_rules | `(tactic| walk_at "T") => `(tactic| (walk_at "rds"; refine L2.iteT ?_; walk_at "rds"))
local macro_rules | `(tactic| walk_at "F") => `(tactic| (walk_at "rds"; refine L2.iteF ?_; walk_at "rds"))
local macro_rules | `(tactic| walk_at "re") => `(tactic| with_reducible first | refine Rp.r_meth ?_ | refine Rp.r_meth0 ?_ | refine Rp.r_fldaug ?_ | refine Rp.r_glst ?_ | refine Rp.r_star ?_ | refine Rp.r_sortSet ?_)
local macro_rules | `(tactic| walk_at "ex") => `(tactic| with_reducible first | refine Rp.r_meth ?_ | refine Rp.r_meth0 ?_ | refine Rp.r_star ?_ | refine Rp.r_sortSet ?_)
local macro_rules | `(tactic| simp_arith [$ls,*]) => `(tactic| simp only [$ls,*, Pl.var_run, Pl.c_run, Pl.up_run, Pl.nerr_ok, Pl.nerr_bad, Pl.nerr_err, Pl.op_run, Pl.cb_run, Pl.nil_run, Pl.cons_run, Pl.tup_run, Pl.fz_run, Pl.lst_run, Pl.test_run, Pl.and_run, Pl.or_run, Pl.not_run, Pl.yes_run, Pl.andv_run, Pl.orv_run, Pl.notv_run, Pl.if_run, Pl.asg_run, Pl.name_run, Pl.seto_run, Pl.gtup_run, Pl.gcons_run, Pl.gnil_run, Pl.next_run, Pl.then_nx, Pl.then_rt, Pl.then_bk, Pl.then_ct, Pl.seq_run, Pl.ifs_run, Pl.ret_run, Pl.retn_run, Pl.brk_run, Pl.cont_run, Pl.drop_run, Pl.turn_nx, Pl.turn_ct, Pl.turn_bk, Pl.turn_rt, Pl.fori_run, Pl.for_nil, Pl.for_cons, Pl.go_run, Pl.go0_run, Pl.kw0_run, Pl.gob_run, Pl.mk_run, Pl.mk0_run, Pl.fld_run, Pl.err_run, Pl.err2_run, Pl.sfld_run, Pl.fldo_run, Pl.guard_run, Pl.app_run, Pl.ext_run, Pl.gsub_run, Pl.ixo_run, Pl.leno_run, Pl.cato_run, Pl.cat_run, Pl.listof_run, Pl.rg1_run, Pl.rg2_run, Pl.rep_run, Pl.par_run, Pl.xv_run, Pl.xo_run, Pl.xnil_run, Pl.xcons_run, Pl.revl_run, Pl.bix_run, Pl.gbox_run, Pl.ise_run, Pl.xt_run, Pl.isi_run, Pl.iso_run, Pl.islt_run, Pl.seqi_run, Pl.li_run, Pl.revi_run, Pl.chain_run, Pl.sl_run, Pl.nop_run, Pl.part_run, Pl.slf_run, Pl.lc_run, Pl.pLc1, Pl.wipeE, Pl.backE, Pl.onlyVal, Pl.putAll, Pl.putE, Pl.setV, Pl.setO, Pl.isL, Pl.putD, Pl.startE, Pl.bk_ok, Pl.bk_err, Pl.bk_bad, Pl.Res.bind_assoc, Pl.add_int, Pl.add_tup, Pl.add_lst, Pl.sub_int, Pl.fdiv_int, Pl.mod_int, Pl.pow18, Pl.lt_int, Pl.le_int, Pl.gt_int, Pl.ge_int, Pl.eq_int, Pl.ne_int, Pl.isN_non, Pl.isN_int, Pl.isN_exc, Pl.isN_ins, Pl.isN_lst, Pl.isN_tup, Pl.len_lst, Pl.len_tup, Pl.abs_int, Pl.max_int, Pl.min_int, Pl.int_int, Pl.int_bl, Pl.tup_lst, Pl.tup_tup, Pl.seq_lst, Pl.seq_tup, Pl.fld_ins, Pl.bx0, Pl.bx1, Pl.bx2, Pl.bs1, Pl.bs2, Pl.ise_non, Pl.ise_exc, Pl.xt_exc, Pl.isi_int_, Pl.isi_bool_, Pl.isi_str_, Pl.islt_tup, Pl.islt_lst, Pl.iso_ins, Pl.ixp_lst, Pl.ixp_tup, Pl.at0, Pl.at1, Pl.at2, Pl.nc0, Pl.nc1, Pl.nc2, Pl.nc3, Pl.nc4, Pl.nc5, List.map_cons, List.map_nil, List.length_cons, List.length_nil, List.cons_append, List.nil_append, List.getElem?_cons_zero, List.getElem?_cons_succ, List.set_cons_zero, List.set_cons_succ, List.replicate_succ, List.replicate_zero, List.lookup_cons, Nat.reduceAdd, Nat.reduceSub, Nat.reduceEqDiff, Nat.reduceLeDiff, Pl.sm0_, Pl.sm1_, Pl.sm2_, Pl.sm3_, Pl.sm4_, Pl.sm5_, Pl.sm6_, Pl.sm7_, Pl.lt0_, Pl.lt1_, Pl.lt2_, Pl.lt3_, Pl.lt4_, Pl.lt5_, Pl.lt6_, Pl.lt7_, Nat.zero_add, decide_true, decide_false, Bool.and_true, Bool.true_and, Bool.false_and, Bool.and_false, Bool.not_true, Bool.not_false, if_true, if_false, ite_true, ite_false, Bool.false_eq_true, ↓reduceIte, ne_eq, not_false_eq_true, not_true_eq_false, Int.reduceEq, Int.reduceNe, Int.reduceAbs, Option.toList, reduceCtorEq, decide_eq_true_eq, Bool.not_eq_true, Bool.not_eq_false])
local macro_rules | `(tactic| walk_at "pdef") => `(tactic| refine (Pl.runF_run (by rfl)).trans ?_)
local macro_rules | `(tactic| walk_at "pdefB") => `(tactic| refine (Pl.runB_run (by rfl)).trans ?_)
local macro_rules | `(tactic| walk_at "pdefI") => `(tactic| refine (Pl.runI_run (by rfl)).trans ?_)
local macro_rules | `(tactic| walk_at "gdef") => `(tactic| refine Pl.Gd.trans (Pl.runF_run (by rfl)) ?_)
local macro_rules | `(tactic| walk_at "gdefB") => `(tactic| refine Pl.Gd.trans (Pl.runB_run (by rfl)) ?_)
local macro_rules | `(tactic| walk_at "gdefI") => `(tactic| refine Pl.Gd.trans (Pl.runI_run (by rfl)) ?_)
namespace K65
open PySem PySem.Spec PyProof.Rows L2 Rp LamX RZ Pl
def top (i : Nat) : Stmt := PySem.Challenge.pw_ropesays_k65_images_and_closed_tangles.main.body.getD i (.Pass ⟨0, 0, 0, 0⟩)
def clsBody (i : Nat) : List Stmt := match top i with | .ClassDef (body := b) .. => b | _ => []
structure Ad where
  k_MOST_DEEDS : Tok
  k_MOST_ENDS : Tok
  k_MOST_AT_RIM : Tok
  t_WORDS : Addr
  c_RopeError : Addr
  c_BadTangle : Addr
  c_Misfit : Addr
  c_TooMany : Addr
  c_BadText : Addr
  c_Items : Addr
  c_Tangle : Addr
structure Txt (K : PySem.W.Frag) (mg : Str → Option Value) (ad : Ad) : Prop where
  g_MOST_DEEDS : mg "MOST_DEEDS" = some (.int 4000 ad.k_MOST_DEEDS)
  g_MOST_ENDS : mg "MOST_ENDS" = some (.int 24 ad.k_MOST_ENDS)
  g_MOST_AT_RIM : mg "MOST_AT_RIM" = some (.int 16 ad.k_MOST_AT_RIM)
  g_WORDS : mg "WORDS" = some (.ref ad.t_WORDS)
  o_WORDS : ∀ {H : Hp}, SqT K H ad.t_WORDS [.str "over", .str "under", .str "join", .str "open", .str "turn"]
  g_RopeError : mg "RopeError" = some (.ref ad.c_RopeError)
  g_BadTangle : mg "BadTangle" = some (.ref ad.c_BadTangle)
  g_Misfit : mg "Misfit" = some (.ref ad.c_Misfit)
  g_TooMany : mg "TooMany" = some (.ref ad.c_TooMany)
  g_BadText : mg "BadText" = some (.ref ad.c_BadText)
  g_Items : mg "Items" = some (.ref ad.c_Items)
  g_Tangle : mg "Tangle" = some (.ref ad.c_Tangle)
  z_abs : mg "abs" = none
  z_all : mg "all" = none
  z_bool : mg "bool" = none
  z_int : mg "int" = none
  z_isinstance : mg "isinstance" = none
  z_len : mg "len" = none
  z_list : mg "list" = none
  z_max : mg "max" = none
  z_range : mg "range" = none
  z_repr : mg "repr" = none
  z_str : mg "str" = none
  z_tuple : mg "tuple" = none
def adA (ad : Ad) : Str → Addr := fun x => if x = "RopeError" then ad.c_RopeError else if x = "BadTangle" then ad.c_BadTangle else if x = "Misfit" then ad.c_Misfit else if x = "TooMany" then ad.c_TooMany else if x = "BadText" then ad.c_BadText else if x = "Items" then ad.c_Items else if x = "Tangle" then ad.c_Tangle else 0
abbrev GX (K : PySem.W.Frag) (ad : Ad) (tb : List (Addr × Str)) : Pl.Cx := ⟨K, adA ad, ["Tangle"], tb, ["BadTangle", "Misfit", "TooMany"], ["Misfit", "TooMany"]⟩
theorem aA_RopeError {K : PySem.W.Frag} {ad : Ad} {tb : List (Addr × Str)} : (GX K ad tb).A "RopeError" = ad.c_RopeError := rfl
theorem aA_BadTangle {K : PySem.W.Frag} {ad : Ad} {tb : List (Addr × Str)} : (GX K ad tb).A "BadTangle" = ad.c_BadTangle := rfl
theorem aA_Misfit {K : PySem.W.Frag} {ad : Ad} {tb : List (Addr × Str)} : (GX K ad tb).A "Misfit" = ad.c_Misfit := rfl
theorem aA_TooMany {K : PySem.W.Frag} {ad : Ad} {tb : List (Addr × Str)} : (GX K ad tb).A "TooMany" = ad.c_TooMany := rfl
theorem aA_BadText {K : PySem.W.Frag} {ad : Ad} {tb : List (Addr × Str)} : (GX K ad tb).A "BadText" = ad.c_BadText := rfl
theorem aA_Items {K : PySem.W.Frag} {ad : Ad} {tb : List (Addr × Str)} : (GX K ad tb).A "Items" = ad.c_Items := rfl
theorem aA_Tangle {K : PySem.W.Frag} {ad : Ad} {tb : List (Addr × Str)} : (GX K ad tb).A "Tangle" = ad.c_Tangle := rfl
theorem me_Misfit {K : PySem.W.Frag} {ad : Ad} {tb : List (Addr × Str)} : (Str.ofString "Misfit") ∈ (GX K ad tb).et := by show _ ∈ [Str.ofString "Misfit", Str.ofString "TooMany"]; simp
theorem me_TooMany {K : PySem.W.Frag} {ad : Ad} {tb : List (Addr × Str)} : (Str.ofString "TooMany") ∈ (GX K ad tb).et := by show _ ∈ [Str.ofString "Misfit", Str.ofString "TooMany"]; simp
theorem mo_Tangle {K : PySem.W.Frag} {ad : Ad} {tb : List (Addr × Str)} : (Str.ofString "Tangle") ∈ (GX K ad tb).own := by show _ ∈ [Str.ofString "Tangle"]; simp
theorem own_all {K : PySem.W.Frag} {ad : Ad} {tb : List (Addr × Str)} {P : Str → Prop} (h0 : P (Str.ofString "Tangle")) : ∀ C ∈ (GX K ad tb).own, P C := by
  intro C m
  have m : C ∈ [Str.ofString "Tangle"] := m
  simp only [List.mem_cons, List.not_mem_nil, or_false] at m
  rcases m with rfl
  · exact h0
theorem er_all {K : PySem.W.Frag} {ad : Ad} {tb : List (Addr × Str)} {P : Str → Prop} (h0 : P (Str.ofString "BadTangle")) (h1 : P (Str.ofString "Misfit")) (h2 : P (Str.ofString "TooMany")) : ∀ C ∈ (GX K ad tb).er, P C := by
  intro C m
  have m : C ∈ [Str.ofString "BadTangle", Str.ofString "Misfit", Str.ofString "TooMany"] := m
  simp only [List.mem_cons, List.not_mem_nil, or_false] at m
  rcases m with rfl | rfl | rfl
  · exact h0
  · exact h1
  · exact h2
theorem et_all {K : PySem.W.Frag} {ad : Ad} {tb : List (Addr × Str)} {P : Str → Prop} (h0 : P (Str.ofString "Misfit")) (h1 : P (Str.ofString "TooMany")) : ∀ C ∈ (GX K ad tb).et, P C := by
  intro C m
  have m : C ∈ [Str.ofString "Misfit", Str.ofString "TooMany"] := m
  simp only [List.mem_cons, List.not_mem_nil, or_false] at m
  rcases m with rfl | rfl
  · exact h0
  · exact h1
theorem bty_all {P : String → Prop} (h0 : P "NoneType") (h1 : P "bool") (h2 : P "int") (h3 : P "str") (h4 : P "list") (h5 : P "tuple") (h6 : P "dict") : ∀ T ∈ BTy, P T := by
  intro T m
  simp only [BTy, List.mem_cons, List.not_mem_nil, or_false] at m
  rcases m with rfl | rfl | rfl | rfl | rfl | rfl | rfl
  · exact h0
  · exact h1
  · exact h2
  · exact h3
  · exact h4
  · exact h5
  · exact h6
def p_is_integer : List D → Res D := runF 1 1
  (pRet (pAndV (pIsi "int" (pVar 0)) (pNotV (pIsi "bool" (pVar 0)))))
def p_is_within : List D → Res D := runF 3 3
  (pSeq (pIfS (pNot (pTest (pGo0 p_is_integer (pCons (pVar 0) pNil))))
  (pRet (pC (.bl false)))
  pNext)
  (pRet (pAndV (pOrV (pOp isNP (pVar 1) (pC .non)) (pOp leP (pVar 1) (pVar 0))) (pOrV (pOp isNP (pVar 2) (pC .non)) (pOp leP (pVar 0) (pVar 2))))))
def p__is_deed : List D → Res D := runF 1 1
  (pSeq (pIfS (pOr (pNot (pTest (pIslt (pVar 0)))) (pTest (pOp neP (pCB lenP (pCons (pVar 0) pNil)) (pC (.int 2)))))
  (pRet (pC (.bl false)))
  pNext)
  (pRet (pAndV (pIsi "str" (pOp ixP (pVar 0) (pC (.int 0)))) (pAndV (pOp (inP false) (pOp ixP (pVar 0) (pC (.int 0))) (pC (.tup [(.str "over"), (.str "under"), (.str "join"), (.str "open"), (.str "turn")]))) (pGo0 p_is_within (pCons (pOp ixP (pVar 0) (pC (.int 1))) (pCons (pC (.int 0)) (pCons (pOp subP (pC (.int 24)) (pC (.int 1))) pNil))))))))
def p_are_deeds : List D → Res D := runF 2 1
  (pSeq (pIfS (pOr (pNot (pTest (pIslt (pVar 0)))) (pTest (pOp gtP (pCB lenP (pCons (pVar 0) pNil)) (pC (.int 4000)))))
  (pRet (pC (.bl false)))
  pNext)
  (pRet (pCB allP (pCons (pFz (pLc (pSeqI (pVar 0)) (pName 1) pYes (pGo0 p__is_deed (pCons (pVar 1) pNil)) [1])) pNil))))
def p__fitting_gaps : List D → Res D := runF 2 2
  (pSeq (pIfS (pTest (pOp eqP (pVar 0) (pC (.str "open"))))
  (pRet (pFz (pRg1 (pCB maxP (pCons (pVar 1) (pCons (pC (.int 1)) pNil))))))
  pNext)
  (pSeq (pIfS (pAnd (pTest (pOp eqP (pVar 0) (pC (.str "join")))) (pTest (pOp gtP (pVar 1) (pC (.int 0)))))
  (pRet (pFz (pRg2 (pC (.int 1)) (pCB maxP (pCons (pOp subP (pVar 1) (pC (.int 1))) (pCons (pC (.int 2)) pNil))))))
  pNext)
  (pRet (pFz (pRg1 (pVar 1))))))
def p_ends_behind : List D → Res D := runF 2 2
  (pSeq (pIfS (pTest (pOp eqP (pVar 0) (pC (.str "join"))))
  (pRet (pOp subP (pVar 1) (pC (.int 2))))
  pNext)
  (pSeq (pIfS (pTest (pOp eqP (pVar 0) (pC (.str "open"))))
  (pRet (pOp addP (pVar 1) (pC (.int 2))))
  pNext)
  (pRet (pVar 1))))
def p_demand_fitting : List D → Res D := runF 6 3
  (pSeq (pAsg (pVar 1) (pName 3))
  (pSeq (pForI (pSeqI (pVar 0)) (pGTup (pGCons (pName 4) (pGCons (pName 5) pGNil)) 2)
  (pSeq (pIfS (pTest (pOp (inP true) (pVar 5) (pGo0 p__fitting_gaps (pCons (pVar 4) (pCons (pVar 3) pNil)))))
  (pErr "Misfit" "part" (pC (.str "deeds")))
  pNext)
  (pSeq (pAsg (pGo0 p_ends_behind (pCons (pVar 4) (pCons (pVar 3) pNil))) (pName 3))
  (pIfS (pTest (pOp gtP (pVar 3) (pC (.int 24))))
  (pErr2 "TooMany" "what" "most" (pC (.str "ends")) (pC (.int 24)))
  pNext))))
  (pIfS (pTest (pOp neP (pVar 3) (pVar 2)))
  (pErr "Misfit" "part" (pC (.str "deeds")))
  pNext)))
def p_Tangle___init__ : List D → Res (List (Str × D)) := runI "Tangle" 4 3
  (pSeq (pIfS (pOr (pNot (pTest (pGo0 p_is_within (pCons (pVar 1) (pCons (pC (.int 0)) (pCons (pC (.int 16)) pNil)))))) (pTest (pOp neP (pOp modP (pVar 1) (pC (.int 2))) (pC (.int 0)))))
  (pErr "BadTangle" "part" (pC (.str "ends")))
  pNext)
  (pSeq (pIfS (pNot (pTest (pGo0 p_are_deeds (pCons (pVar 2) pNil))))
  (pErr "BadTangle" "part" (pC (.str "deeds")))
  pNext)
  (pSeq (pDrop (pGo p_demand_fitting (pCons (pVar 2) (pCons (pVar 1) (pCons (pC (.int 0)) pNil)))))
  (pSeq (pSfld 0 "ends" (pVar 1))
  (pSfld 0 "deeds" (pCB tupP (pCons (pFz (pLc (pSeqI (pVar 2)) (pName 3) pYes (pCB tupP (pCons (pVar 3) pNil)) [3])) pNil)))))))
def p_Tangle___eq__ : List D → Res D := runF 2 2
  (pRet (pAndV (pIso "Tangle" (pVar 1)) (pAndV (pOp eqP (pFld "ends" (pVar 0)) (pFld "ends" (pVar 1))) (pOp eqP (pFld "deeds" (pVar 0)) (pFld "deeds" (pVar 1))))))
def p_demand_tangle : List D → Res D := runF 2 2
  (pIfS (pNot (pTest (pIso "Tangle" (pVar 0))))
  (pErr "BadTangle" "part" (pVar 1))
  pNext)
def p__taken_back : List D → Res D := runF 3 3
  (pSeq (pIfS (pTest (pOp eqP (pVar 0) (pC (.str "over"))))
  (pRet (pTup (pCons (pC (.str "under")) (pCons (pVar 1) pNil))))
  pNext)
  (pSeq (pIfS (pTest (pOp eqP (pVar 0) (pC (.str "under"))))
  (pRet (pTup (pCons (pC (.str "over")) (pCons (pVar 1) pNil))))
  pNext)
  (pSeq (pIfS (pTest (pOp eqP (pVar 0) (pC (.str "join"))))
  (pRet (pTup (pCons (pC (.str "open")) (pCons (pOp subP (pVar 1) (pC (.int 1))) pNil))))
  pNext)
  (pSeq (pIfS (pTest (pOp eqP (pVar 0) (pC (.str "open"))))
  (pRet (pTup (pCons (pC (.str "join")) (pCons (pOp addP (pVar 1) (pC (.int 1))) pNil))))
  pNext)
  (pRet (pTup (pCons (pC (.str "turn")) (pCons (pOp modP (pOp subP (pVar 2) (pVar 1)) (pVar 2)) pNil))))))))
def p_lead_in : List D → Res D := runF 5 1
  (pSeq (pDrop (pGo p_demand_tangle (pCons (pVar 0) (pCons (pC (.str "tangle")) pNil))))
  (pSeq (pSetO 1 (pLst pNil))
  (pSeq (pAsg (pFld "ends" (pVar 0)) (pName 2))
  (pSeq (pForI (pSeqI (pFld "deeds" (pVar 0))) (pGTup (pGCons (pName 3) (pGCons (pName 4) pGNil)) 2)
  (pSeq (guardL 1 (pApp 1 (pGo0 p__taken_back (pCons (pVar 3) (pCons (pVar 4) (pCons (pVar 2) pNil))))))
  (pAsg (pGo0 p_ends_behind (pCons (pVar 3) (pCons (pVar 2) pNil))) (pName 2))))
  (pRet (pCB tupP (pCons (pFz (pRevL (pVar 1))) pNil)))))))
def p__demand_tangles : List D → Res D := runF 2 2
  (pSeq (pDrop (pGo p_demand_tangle (pCons (pVar 0) (pCons (pC (.str "one")) pNil))))
  (pDrop (pGo p_demand_tangle (pCons (pVar 1) (pCons (pC (.str "other")) pNil)))))
def p__demand_one_rim : List D → Res D := runF 2 2
  (pIfS (pTest (pOp neP (pFld "ends" (pVar 0)) (pFld "ends" (pVar 1))))
  (pErr "Misfit" "part" (pC (.str "other")))
  pNext)
def p_closed : List D → Res D := runF 2 2
  (pSeq (pDrop (pGo p__demand_tangles (pCons (pVar 0) (pCons (pVar 1) pNil))))
  (pSeq (pDrop (pGo p__demand_one_rim (pCons (pVar 0) (pCons (pVar 1) pNil))))
  (pSeq (pIfS (pTest (pOp gtP (pOp addP (pCB lenP (pCons (pFld "deeds" (pVar 0)) pNil)) (pCB lenP (pCons (pFld "deeds" (pVar 1)) pNil))) (pC (.int 4000))))
  (pErr2 "TooMany" "what" "most" (pC (.str "deeds")) (pC (.int 4000)))
  pNext)
  (pRet (pMk "Tangle" p_Tangle___init__ (pCons (pC (.int 0)) (pCons (pOp addP (pGo p_lead_in (pCons (pVar 1) pNil)) (pFld "deeds" (pVar 0))) pNil)))))))
section
variable {P : Program} {w : World} {K : PySem.W.Frag} {mg : Str → Option Value} {base : Heap} {ad : Ad} {tb : List (Addr × Str)}
abbrev sIsInteger : Stmt := top 1
theorem scIsInteger : FnScope ["value"] ["value"] (defScope sIsInteger) := ⟨rfl, rfl, rfl, by decide +kernel, rfl, by decide +kernel, by decide +kernel⟩
theorem ok_IsInteger {f : Addr} {fd : FuncData} (F : Fun K "is_integer" "is_integer" sIsInteger f fd) (T : Txt K mg ad) (OW : Own (GX K ad tb))  : FnOk P w K mg base (L2.CX P w) 1 f fd ["value"] (spP (GX K ad tb) p_is_integer) :=
  fnx F scIsInteger (fun {vs H Q E} h => ar_P h) (fun {cdv A fr s H vs Q E} hr h =>
  ⟨_, (PSs.nox (pss_one (ps_ret (pe_and (pe_callB call_isi (by rfl) T.z_isinstance (by decide +kernel) (pa_cons (pv 0) (pa_cons (pe_bltn (by rfl) T.z_int (by decide +kernel) (v := .ty "int") rfl) pa_nil))) (pe_one (pe_not (pe_callB call_isi (by rfl) T.z_isinstance (by decide +kernel) (pa_cons (pv 0) (pa_cons (pe_bltn (by rfl) T.z_bool (by decide +kernel) (v := .ty "bool") rfl) pa_nil))))))))),
  run_P ((m_ret (m_andV (m_isi OW (m_var 0)) (m_notV (m_isi OW (m_var 0)))))) h⟩)
abbrev sIsWithin : Stmt := top 2
theorem scIsWithin : FnScope ["value", "least", "most"] ["value", "least", "most"] (defScope sIsWithin) := ⟨rfl, rfl, rfl, by decide +kernel, rfl, by decide +kernel, by decide +kernel⟩
theorem ok_IsWithin {f : Addr} {fd : FuncData} (F : Fun K "is_within" "is_within" sIsWithin f fd) (T : Txt K mg ad)  {f0 : Addr} {fd0 : FuncData} (cIsInteger : CalX P w K mg base "is_integer" 1 f0 fd0 ["value"] (spP (GX K ad tb) p_is_integer)) : FnOk P w K mg base (L2.CX P w) 2 f fd ["value", "least", "most"] (spP (GX K ad tb) p_is_within) :=
  fnx F scIsWithin (fun {vs H Q E} h => ar_P h) (fun {cdv A fr s H vs Q E} hr h =>
  ⟨_, (PSs.nox (pss_cons (ps_if (pt_not (pt_val (pe_goX cIsInteger (hr.mono (by decide)) (by rfl) (pa_cons (pv 0) pa_nil))))
  (pss_one (ps_ret pe_bl))
  pss_nil)
  (pss_one (ps_ret (pe_and (pe_or (pe_cmpR op_isN (pv 1) pe_non (nomark _)) (pe_one (pe_cmpR op_le (pv 1) (pv 0) (nomark _)))) (pe_one (pe_or (pe_cmpR op_isN (pv 2) pe_non (nomark _)) (pe_one (pe_cmpR op_le (pv 0) (pv 2) (nomark _)))))))))),
  run_P ((m_seq (m_ifS (m_not (m_tb (m_go0 (m_cons (m_var 0) m_nil))))
  (m_ret m_bl)
  m_next)
  (m_ret (m_andV (m_orV (m_op (m_var 1) m_non mr_isN) (m_op (m_var 1) (m_var 0) mr_le)) (m_orV (m_op (m_var 2) m_non mr_isN) (m_op (m_var 0) (m_var 2) mr_le)))))) h⟩)
abbrev sIsDeed : Stmt := top 20
theorem scIsDeed : FnScope ["value"] ["value"] (defScope sIsDeed) := ⟨rfl, rfl, rfl, by decide +kernel, rfl, by decide +kernel, by decide +kernel⟩
theorem ok_IsDeed {f : Addr} {fd : FuncData} (F : Fun K "_is_deed" "_is_deed" sIsDeed f fd) (T : Txt K mg ad) (OW : Own (GX K ad tb)) {f0 : Addr} {fd0 : FuncData} (cIsWithin : CalX P w K mg base "is_within" 2 f0 fd0 ["value", "least", "most"] (spP (GX K ad tb) p_is_within)) : FnOk P w K mg base (L2.CX P w) 3 f fd ["value"] (spP (GX K ad tb) p__is_deed) :=
  fnx F scIsDeed (fun {vs H Q E} h => ar_P h) (fun {cdv A fr s H vs Q E} hr h =>
  ⟨_, (PSs.nox (pss_cons (ps_if (PW.pt (pw_or (pt_not (pt_val (pe_callB call_isiT (by rfl) T.z_isinstance (by decide +kernel) (pa_cons (pv 0) (pa_cons (pe_tup (pa_cons (pe_bltn (by rfl) T.z_list (by decide +kernel) (v := .ty "list") rfl) (pa_cons (pe_bltn (by rfl) T.z_tuple (by decide +kernel) (v := .ty "tuple") rfl) pa_nil))) pa_nil))))) (pw_or1 (pt_cmpR (op_neD hr.units) (pe_callB call_len (by rfl) T.z_len PySem.boot_len (pa_cons (pv 0) pa_nil)) pe_int (nomark _)))))
  (pss_one (ps_ret pe_bl))
  pss_nil)
  (pss_one (ps_ret (pe_and (pe_callB call_isi (by rfl) T.z_isinstance (by decide +kernel) (pa_cons (pe_ix ix_seq (pv 0) pe_int (fun _ _ => rfl)) (pa_cons (pe_bltn (by rfl) T.z_str (by decide +kernel) (v := .ty "str") rfl) pa_nil))) (pe_and (pe_cmpR op_in_seq (pe_ix ix_seq (pv 0) pe_int (fun _ _ => rfl)) (pe_glob (v := .ref ad.t_WORDS) (by rfl) T.g_WORDS rfl) rfl) (pe_one (pe_goX cIsWithin (hr.mono (by decide)) (by rfl) (pa_cons (pe_ix ix_seq (pv 0) pe_int (fun _ _ => rfl)) (pa_cons pe_int (pa_cons (pe_op op_sub (pe_glob (v := .int 24) (by rfl) T.g_MOST_ENDS ⟨_, rfl⟩) pe_int) pa_nil))))))))))),
  run_P ((m_seq (m_ifS (m_or (m_not (m_tb (m_islt OW (m_var 0)))) (m_test (m_op (m_cb (m_cons (m_var 0) m_nil) mb_len) m_int mr_ne)))
  (m_ret m_bl)
  m_next)
  (m_ret (m_andV (m_isi OW (m_op (m_var 0) m_int mr_ix)) (m_andV (m_op (m_op (m_var 0) m_int mr_ix) (m_kt T.o_WORDS fun S H => (.cons (.str _) (.cons (.str _) (.cons (.str _) (.cons (.str _) (.cons (.str _) .nil)))))) (mr_in false)) (m_go0 (m_cons (m_op (m_var 0) m_int mr_ix) (m_cons m_int (m_cons (m_op m_int m_int mr_sub) m_nil))))))))) h⟩)
abbrev sAreDeeds : Stmt := top 19
theorem scAreDeeds : FnScope ["value", "each"] ["value"] (defScope sAreDeeds) := ⟨rfl, rfl, rfl, by decide +kernel, rfl, by decide +kernel, by decide +kernel⟩
theorem ok_AreDeeds {f : Addr} {fd : FuncData} (F : Fun K "are_deeds" "are_deeds" sAreDeeds f fd) (T : Txt K mg ad) (OW : Own (GX K ad tb)) {f0 : Addr} {fd0 : FuncData} (cIsDeed : CalX P w K mg base "_is_deed" 3 f0 fd0 ["value"] (spP (GX K ad tb) p__is_deed)) : FnOk P w K mg base (L2.CX P w) 4 f fd ["value"] (spP (GX K ad tb) p_are_deeds) :=
  fnx F scAreDeeds (fun {vs H Q E} h => ar_P h) (fun {cdv A fr s H vs Q E} hr h =>
  ⟨_, (PSs.nox (pss_cons (ps_if (PW.pt (pw_or (pt_not (pt_val (pe_callB call_isiT (by rfl) T.z_isinstance (by decide +kernel) (pa_cons (pv 0) (pa_cons (pe_tup (pa_cons (pe_bltn (by rfl) T.z_list (by decide +kernel) (v := .ty "list") rfl) (pa_cons (pe_bltn (by rfl) T.z_tuple (by decide +kernel) (v := .ty "tuple") rfl) pa_nil))) pa_nil))))) (pw_or1 (pt_cmpR op_gt (pe_callB call_len (by rfl) T.z_len PySem.boot_len (pa_cons (pv 0) pa_nil)) (pe_glob (v := .int 4000) (by rfl) T.g_MOST_DEEDS ⟨_, rfl⟩) (nomark _)))))
  (pss_one (ps_ret pe_bl))
  pss_nil)
  (pss_one (ps_ret (pe_callB (cr_all rfl) (by rfl) T.z_all (by decide +kernel) (pa_cons (pe_lc (own := [("each", 1)]) rfl scAreDeeds.nd (pi_seq (pv 0)) (blkOk_by (own := [("each", 1)]) (N := ["value", "each"]) (sc := defScope sAreDeeds) (by decide +kernel)) (fun _ _ _ _ _ => (pg_name (i := 1) scAreDeeds.nd rfl (Or.inl rfl))) (fun _ _ _ _ _ => pts_nil) (fun _ _ _ _ _ => (pe_goX cIsDeed (hr.mono (by decide)) (by rfl) (pa_cons (pv 1) pa_nil)))) pa_nil)))))),
  run_P ((m_seq (m_ifS (m_or (m_not (m_tb (m_islt OW (m_var 0)))) (m_test (m_op (m_cb (m_cons (m_var 0) m_nil) mb_len) m_int mr_gt)))
  (m_ret m_bl)
  m_next)
  (m_ret (m_cb (m_cons (m_fz (m_lc (m_seqI (m_var 0)) (m_name 1) (wp_name rfl) mon_name m_yes (m_go0 (m_cons (m_var 1) m_nil)))) m_nil) mb_all)))) h⟩)
abbrev sFittingGaps : Stmt := top 21
theorem scFittingGaps : FnScope ["word", "many"] ["word", "many"] (defScope sFittingGaps) := ⟨rfl, rfl, rfl, by decide +kernel, rfl, by decide +kernel, by decide +kernel⟩
theorem ok_FittingGaps {f : Addr} {fd : FuncData} (F : Fun K "_fitting_gaps" "_fitting_gaps" sFittingGaps f fd) (T : Txt K mg ad)   : FnOk P w K mg base (L2.CX P w) 1 f fd ["word", "many"] (spP (GX K ad tb) p__fitting_gaps) :=
  fnx F scFittingGaps (fun {vs H Q E} h => ar_P h) (fun {cdv A fr s H vs Q E} hr h =>
  ⟨_, (PSs.nox (pss_cons (ps_if (pt_cmpR (op_eqD hr.units) (pv 0) pe_str (nomark _))
  (pss_one (ps_ret (pe_listRg rfl (by rfl) T.z_list (prg_1 (by rfl) T.z_range (pe_callB (call_max2 rfl) (by rfl) T.z_max (by decide +kernel) (pa_cons (pv 1) (pa_cons pe_int pa_nil)))))))
  pss_nil)
  (pss_cons (ps_if (PW.pt (pw_and (pt_cmpR (op_eqD hr.units) (pv 0) pe_str (nomark _)) (pw_and1 (pt_cmpR op_gt (pv 1) pe_int (nomark _)))))
  (pss_one (ps_ret (pe_listRg rfl (by rfl) T.z_list (prg_2 (by rfl) T.z_range pe_int (pe_callB (call_max2 rfl) (by rfl) T.z_max (by decide +kernel) (pa_cons (pe_op op_sub (pv 1) pe_int) (pa_cons pe_int pa_nil)))))))
  pss_nil)
  (pss_one (ps_ret (pe_listRg rfl (by rfl) T.z_list (prg_1 (by rfl) T.z_range (pv 1)))))))),
  run_P ((m_seq (m_ifS (m_test (m_op (m_var 0) m_str mr_eq))
  (m_ret (m_fz (m_lrg1 (m_cb (m_cons (m_var 1) (m_cons m_int m_nil)) mb_max))))
  m_next)
  (m_seq (m_ifS (m_and (m_test (m_op (m_var 0) m_str mr_eq)) (m_test (m_op (m_var 1) m_int mr_gt)))
  (m_ret (m_fz (m_lrg2 m_int (m_cb (m_cons (m_op (m_var 1) m_int mr_sub) (m_cons m_int m_nil)) mb_max))))
  m_next)
  (m_ret (m_fz (m_lrg1 (m_var 1))))))) h⟩)
abbrev sEndsBehind : Stmt := top 22
theorem scEndsBehind : FnScope ["word", "many"] ["word", "many"] (defScope sEndsBehind) := ⟨rfl, rfl, rfl, by decide +kernel, rfl, by decide +kernel, by decide +kernel⟩
theorem ok_EndsBehind {f : Addr} {fd : FuncData} (F : Fun K "ends_behind" "ends_behind" sEndsBehind f fd) (T : Txt K mg ad)   : FnOk P w K mg base (L2.CX P w) 1 f fd ["word", "many"] (spP (GX K ad tb) p_ends_behind) :=
  fnx F scEndsBehind (fun {vs H Q E} h => ar_P h) (fun {cdv A fr s H vs Q E} hr h =>
  ⟨_, (PSs.nox (pss_cons (ps_if (pt_cmpR (op_eqD hr.units) (pv 0) pe_str (nomark _))
  (pss_one (ps_ret (pe_op op_sub (pv 1) pe_int)))
  pss_nil)
  (pss_cons (ps_if (pt_cmpR (op_eqD hr.units) (pv 0) pe_str (nomark _))
  (pss_one (ps_ret (pe_op op_addG (pv 1) pe_int)))
  pss_nil)
  (pss_one (ps_ret (pv 1)))))),
  run_P ((m_seq (m_ifS (m_test (m_op (m_var 0) m_str mr_eq))
  (m_ret (m_op (m_var 1) m_int mr_sub))
  m_next)
  (m_seq (m_ifS (m_test (m_op (m_var 0) m_str mr_eq))
  (m_ret (m_op (m_var 1) m_int mr_add))
  m_next)
  (m_ret (m_var 1))))) h⟩)
abbrev sDemandFitting : Stmt := top 23
theorem scDemandFitting : FnScope ["deeds", "ends", "inner", "many", "word", "gap"] ["deeds", "ends", "inner"] (defScope sDemandFitting) := ⟨rfl, rfl, rfl, by decide +kernel, rfl, by decide +kernel, by decide +kernel⟩
theorem ok_DemandFitting {f : Addr} {fd : FuncData} (F : Fun K "demand_fitting" "demand_fitting" sDemandFitting f fd) (T : Txt K mg ad)  {f0 : Addr} {fd0 : FuncData} (cEndsBehind : CalX P w K mg base "ends_behind" 1 f0 fd0 ["word", "many"] (spP (GX K ad tb) p_ends_behind)) {f1 : Addr} {fd1 : FuncData} (cFittingGaps : CalX P w K mg base "_fitting_gaps" 1 f1 fd1 ["word", "many"] (spP (GX K ad tb) p__fitting_gaps)) (eMisfit : Err1 P w K mg base "Misfit" ad.c_Misfit "part") (eTooMany : Err2 P w K mg base "TooMany" ad.c_TooMany "what" "most") : FnOk P w K mg base (L2.CX P w) 3 f fd ["deeds", "ends", "inner"] (spP (GX K ad tb) p_demand_fitting) :=
  fnx F scDemandFitting (fun {vs H Q E} h => ar_P h) (fun {cdv A fr s H vs Q E} hr h =>
  ⟨_, (pss_cons (ps_set (i := 3) scDemandFitting.nd rfl (Or.inl rfl) (pv 1))
  (pss_cons (ps_for (passes_of rfl) rfl (pi_seq (pv 0)) (pg_tup rfl (pgs_cons (pg_name (i := 4) scDemandFitting.nd rfl (Or.inl rfl)) (pgs_cons (pg_name (i := 5) scDemandFitting.nd rfl (Or.inl rfl)) pgs_nil)))
  (pss_cons (ps_if (pt_cmpR op_notIn_seq (pv 5) (pe_goX cFittingGaps (hr.mono (by decide)) (by rfl) (pa_cons (pv 4) (pa_cons (pv 3) pa_nil))) rfl)
  (pss_one (ps_raise rfl (takes_of rfl rfl rfl rfl) (pmk_err1 eMisfit (hr.mono (by decide)) (by rfl) pe_str)))
  pss_nil)
  (pss_cons (ps_set (i := 3) scDemandFitting.nd rfl (Or.inl rfl) (pe_goX cEndsBehind (hr.mono (by decide)) (by rfl) (pa_cons (pv 4) (pa_cons (pv 3) pa_nil))))
  (pss_one (ps_if (pt_cmpR op_gt (pv 3) (pe_glob (v := .int 24) (by rfl) T.g_MOST_ENDS ⟨_, rfl⟩) (nomark _))
  (pss_one (ps_raise rfl (takes_of rfl rfl rfl rfl) (pmk_err2 eTooMany (hr.mono (by decide)) (by rfl) pe_str (pe_glob (v := .int 24) (by rfl) T.g_MOST_ENDS ⟨_, rfl⟩))))
  pss_nil)))))
  (pss_one (ps_if (pt_cmpR (op_neD hr.units) (pv 3) (pv 2) (nomark _))
  (pss_one (ps_raise rfl (takes_of rfl rfl rfl rfl) (pmk_err1 eMisfit (hr.mono (by decide)) (by rfl) pe_str)))
  pss_nil)))),
  run_P ((m_seq (m_asg (m_var 1) (m_name 3))
  (m_seq (m_for (m_seqI (m_var 0)) (m_gtup (m_gcons (m_name 4) (m_gcons (m_name 5) m_gnil)))
  (m_seq (m_ifS (m_test (m_op (m_var 5) (m_go0 (m_cons (m_var 4) (m_cons (m_var 3) m_nil))) (mr_in true)))
  (m_errC aA_Misfit m_str)
  m_next)
  (m_seq (m_asg (m_go0 (m_cons (m_var 4) (m_cons (m_var 3) m_nil))) (m_name 3))
  (m_ifS (m_test (m_op (m_var 3) m_int mr_gt))
  (m_err2C aA_TooMany m_str m_int)
  m_next))))
  (m_ifS (m_test (m_op (m_var 3) (m_var 2) mr_ne))
  (m_errC aA_Misfit m_str)
  m_next)))) h⟩)
abbrev sTangleInit : Stmt := (clsBody 29).getD 0 (.Pass ⟨0, 0, 0, 0⟩)
theorem scTangleInit : FnScope ["self", "ends", "deeds", "deed"] ["self", "ends", "deeds"] (defScope sTangleInit) := ⟨rfl, rfl, rfl, by decide +kernel, rfl, by decide +kernel, by decide +kernel⟩
theorem ok_TangleInit {f : Addr} {fd : FuncData} (F : Fun K "__init__" "Tangle.__init__" sTangleInit f fd) (T : Txt K mg ad) (OW : Own (GX K ad tb)) (na_ends : ∀ C ∈ (GX K ad tb).own, NoAttr K ((GX K ad tb).A C) "ends") (na_deeds : ∀ C ∈ (GX K ad tb).own, NoAttr K ((GX K ad tb).A C) "deeds") {f0 : Addr} {fd0 : FuncData} (cDemandFitting : CalX P w K mg base "demand_fitting" 3 f0 fd0 ["deeds", "ends", "inner"] (spP (GX K ad tb) p_demand_fitting)) {f1 : Addr} {fd1 : FuncData} (cAreDeeds : CalX P w K mg base "are_deeds" 4 f1 fd1 ["value"] (spP (GX K ad tb) p_are_deeds)) {f2 : Addr} {fd2 : FuncData} (cIsWithin : CalX P w K mg base "is_within" 2 f2 fd2 ["value", "least", "most"] (spP (GX K ad tb) p_is_within)) (eBadTangle : Err1 P w K mg base "BadTangle" ad.c_BadTangle "part") : FnOk P w K mg base (L2.CX P w) 5 f fd ["self", "ends", "deeds"] (spI (GX K ad tb) "Tangle" p_Tangle___init__) :=
  fnx F scTangleInit (fun {vs H Q E} h => ar_I h) (fun {cdv A fr s H vs Q E} hr h =>
  ⟨_, (pss_cons (ps_if (PW.pt (pw_or (pt_not (pt_val (pe_goX cIsWithin (hr.mono (by decide)) (by rfl) (pa_cons (pv 1) (pa_cons pe_int (pa_cons (pe_glob (v := .int 16) (by rfl) T.g_MOST_AT_RIM ⟨_, rfl⟩) pa_nil)))))) (pw_or1 (pt_cmpR (op_neD hr.units) (pe_op op_modN (pv 1) pe_int) pe_int (nomark _)))))
  (pss_one (ps_raise rfl (takes_of rfl rfl rfl rfl) (pmk_err1 eBadTangle (hr.mono (by decide)) (by rfl) pe_str)))
  pss_nil)
  (pss_cons (ps_if (pt_not (pt_val (pe_goX cAreDeeds (hr.mono (by decide)) (by rfl) (pa_cons (pv 2) pa_nil))))
  (pss_one (ps_raise rfl (takes_of rfl rfl rfl rfl) (pmk_err1 eBadTangle (hr.mono (by decide)) (by rfl) pe_str)))
  pss_nil)
  (pss_cons (ps_expr (pe_goE cDemandFitting (hr.mono (by decide)) (takes_of rfl rfl rfl rfl) (by rfl) (pa_cons (pv 2) (pa_cons (pv 1) (pa_cons pe_int pa_nil)))))
  (PSs.nox (pss_cons (ps_fld (pv 0) (pv 1) (by rfl))
  (pss_one (ps_fld (pv 0) (pe_callTy call_tupK (by rfl) T.z_tuple (by decide +kernel) (pa_cons (pe_lc (own := [("deed", 3)]) rfl scTangleInit.nd (pi_seq (pv 2)) (blkOk_by (own := [("deed", 3)]) (N := ["self", "ends", "deeds", "deed"]) (sc := defScope sTangleInit) (by decide +kernel)) (fun _ _ _ _ _ => (pg_name (i := 3) scTangleInit.nd rfl (Or.inl rfl))) (fun _ _ _ _ _ => pts_nil) (fun _ _ _ _ _ => (pe_callTy call_tupK (by rfl) T.z_tuple (by decide +kernel) (pa_cons (pv 3) pa_nil)))) pa_nil)) (by rfl)))))))),
  run_I (G := GX K ad tb) (C := "Tangle") mo_Tangle (by decide) ((m_seq (m_ifS (m_or (m_not (m_tb (m_go0 (m_cons (m_var 1) (m_cons m_int (m_cons m_int m_nil)))))) (m_test (m_op (m_op (m_var 1) m_int mr_mod) m_int mr_ne)))
  (m_errC aA_BadTangle m_str)
  m_next)
  (m_seq (m_ifS (m_not (m_tb (m_go0 (m_cons (m_var 2) m_nil))))
  (m_errC aA_BadTangle m_str)
  m_next)
  (m_seq (m_drop (m_go (m_cons (m_var 2) (m_cons (m_var 1) (m_cons m_int m_nil)))))
  (m_seq (m_sfld OW.cls na_ends (m_var 1))
  (m_sfld OW.cls na_deeds (m_cb (m_cons (m_fz (m_lc (m_seqI (m_var 2)) (m_name 3) (wp_name rfl) mon_name m_yes (m_cb (m_cons (m_var 3) m_nil) mb_tup))) m_nil) mb_tup))))))) h⟩)
abbrev sTangleEq : Stmt := (clsBody 29).getD 1 (.Pass ⟨0, 0, 0, 0⟩)
theorem scTangleEq : FnScope ["self", "other"] ["self", "other"] (defScope sTangleEq) := ⟨rfl, rfl, rfl, by decide +kernel, rfl, by decide +kernel, by decide +kernel⟩
theorem ok_TangleEq {f : Addr} {fd : FuncData} (F : Fun K "__eq__" "Tangle.__eq__" sTangleEq f fd) (T : Txt K mg ad) (OW : Own (GX K ad tb)) (na_ends : ∀ C ∈ (GX K ad tb).own, NoAttr K ((GX K ad tb).A C) "ends") (na_deeds : ∀ C ∈ (GX K ad tb).own, NoAttr K ((GX K ad tb).A C) "deeds")  : FnOk P w K mg base (L2.CX P w) 1 f fd ["self", "other"] (spP (GX K ad tb) p_Tangle___eq__) :=
  fnx F scTangleEq (fun {vs H Q E} h => ar_P h) (fun {cdv A fr s H vs Q E} hr h =>
  ⟨_, (PSs.nox (pss_one (ps_ret (pe_and (pe_callB call_isi (by rfl) T.z_isinstance (by decide +kernel) (pa_cons (pv 1) (pa_cons (pe_glob (v := .ref ad.c_Tangle) (by rfl) T.g_Tangle rfl) pa_nil))) (pe_and (pe_cmpR (op_eqD hr.units) (pe_fld (pv 0) (by rfl)) (pe_fld (pv 1) (by rfl)) (nomark _)) (pe_one (pe_cmpR (op_eqD hr.units) (pe_fld (pv 0) (by rfl)) (pe_fld (pv 1) (by rfl)) (nomark _)))))))),
  run_P ((m_ret (m_andV (m_isoC OW mo_Tangle aA_Tangle (m_var 1)) (m_andV (m_op (m_fld OW na_ends (m_var 0)) (m_fld OW na_ends (m_var 1)) mr_eq) (m_op (m_fld OW na_deeds (m_var 0)) (m_fld OW na_deeds (m_var 1)) mr_eq))))) h⟩)
abbrev sDemandTangle : Stmt := top 30
theorem scDemandTangle : FnScope ["value", "part"] ["value", "part"] (defScope sDemandTangle) := ⟨rfl, rfl, rfl, by decide +kernel, rfl, by decide +kernel, by decide +kernel⟩
theorem ok_DemandTangle {f : Addr} {fd : FuncData} (F : Fun K "demand_tangle" "demand_tangle" sDemandTangle f fd) (T : Txt K mg ad) (OW : Own (GX K ad tb)) (eBadTangle : Err1 P w K mg base "BadTangle" ad.c_BadTangle "part") : FnOk P w K mg base (L2.CX P w) 3 f fd ["value", "part"] (spP (GX K ad tb) p_demand_tangle) :=
  fnx F scDemandTangle (fun {vs H Q E} h => ar_P h) (fun {cdv A fr s H vs Q E} hr h =>
  ⟨_, (pss_one (ps_if (pt_not (pt_val (pe_callB call_isi (by rfl) T.z_isinstance (by decide +kernel) (pa_cons (pv 0) (pa_cons (pe_glob (v := .ref ad.c_Tangle) (by rfl) T.g_Tangle rfl) pa_nil)))))
  (pss_one (ps_raise rfl (takes_of rfl rfl rfl rfl) (pmk_err1 eBadTangle (hr.mono (by decide)) (by rfl) (pv 1))))
  pss_nil)),
  run_P ((m_ifS (m_not (m_tb (m_isoC OW mo_Tangle aA_Tangle (m_var 0))))
  (m_errC aA_BadTangle (m_var 1))
  m_next)) h⟩)
abbrev sTakenBack : Stmt := top 33
theorem scTakenBack : FnScope ["word", "gap", "many"] ["word", "gap", "many"] (defScope sTakenBack) := ⟨rfl, rfl, rfl, by decide +kernel, rfl, by decide +kernel, by decide +kernel⟩
theorem ok_TakenBack {f : Addr} {fd : FuncData} (F : Fun K "_taken_back" "_taken_back" sTakenBack f fd) (T : Txt K mg ad)   : FnOk P w K mg base (L2.CX P w) 1 f fd ["word", "gap", "many"] (spP (GX K ad tb) p__taken_back) :=
  fnx F scTakenBack (fun {vs H Q E} h => ar_P h) (fun {cdv A fr s H vs Q E} hr h =>
  ⟨_, (PSs.nox (pss_cons (ps_if (pt_cmpR (op_eqD hr.units) (pv 0) pe_str (nomark _))
  (pss_one (ps_ret (pe_tup (pa_cons pe_str (pa_cons (pv 1) pa_nil)))))
  pss_nil)
  (pss_cons (ps_if (pt_cmpR (op_eqD hr.units) (pv 0) pe_str (nomark _))
  (pss_one (ps_ret (pe_tup (pa_cons pe_str (pa_cons (pv 1) pa_nil)))))
  pss_nil)
  (pss_cons (ps_if (pt_cmpR (op_eqD hr.units) (pv 0) pe_str (nomark _))
  (pss_one (ps_ret (pe_tup (pa_cons pe_str (pa_cons (pe_op op_sub (pv 1) pe_int) pa_nil)))))
  pss_nil)
  (pss_cons (ps_if (pt_cmpR (op_eqD hr.units) (pv 0) pe_str (nomark _))
  (pss_one (ps_ret (pe_tup (pa_cons pe_str (pa_cons (pe_op op_addG (pv 1) pe_int) pa_nil)))))
  pss_nil)
  (pss_one (ps_ret (pe_tup (pa_cons pe_str (pa_cons (pe_op op_modN (pe_op op_sub (pv 2) (pv 1)) (pv 2)) pa_nil)))))))))),
  run_P ((m_seq (m_ifS (m_test (m_op (m_var 0) m_str mr_eq))
  (m_ret (m_tup (m_cons m_str (m_cons (m_var 1) m_nil))))
  m_next)
  (m_seq (m_ifS (m_test (m_op (m_var 0) m_str mr_eq))
  (m_ret (m_tup (m_cons m_str (m_cons (m_var 1) m_nil))))
  m_next)
  (m_seq (m_ifS (m_test (m_op (m_var 0) m_str mr_eq))
  (m_ret (m_tup (m_cons m_str (m_cons (m_op (m_var 1) m_int mr_sub) m_nil))))
  m_next)
  (m_seq (m_ifS (m_test (m_op (m_var 0) m_str mr_eq))
  (m_ret (m_tup (m_cons m_str (m_cons (m_op (m_var 1) m_int mr_add) m_nil))))
  m_next)
  (m_ret (m_tup (m_cons m_str (m_cons (m_op (m_op (m_var 2) (m_var 1) mr_sub) (m_var 2) mr_mod) m_nil))))))))) h⟩)
abbrev sLeadIn : Stmt := top 32
theorem scLeadIn : FnScope ["tangle", "deeds", "many", "word", "gap"] ["tangle"] (defScope sLeadIn) := ⟨rfl, rfl, rfl, by decide +kernel, rfl, by decide +kernel, by decide +kernel⟩
theorem ok_LeadIn {f : Addr} {fd : FuncData} (F : Fun K "lead_in" "lead_in" sLeadIn f fd) (T : Txt K mg ad) (OW : Own (GX K ad tb)) (na_ends : ∀ C ∈ (GX K ad tb).own, NoAttr K ((GX K ad tb).A C) "ends") (na_deeds : ∀ C ∈ (GX K ad tb).own, NoAttr K ((GX K ad tb).A C) "deeds") {f0 : Addr} {fd0 : FuncData} (cDemandTangle : CalX P w K mg base "demand_tangle" 3 f0 fd0 ["value", "part"] (spP (GX K ad tb) p_demand_tangle)) {f1 : Addr} {fd1 : FuncData} (cEndsBehind : CalX P w K mg base "ends_behind" 1 f1 fd1 ["word", "many"] (spP (GX K ad tb) p_ends_behind)) {f2 : Addr} {fd2 : FuncData} (cTakenBack : CalX P w K mg base "_taken_back" 1 f2 fd2 ["word", "gap", "many"] (spP (GX K ad tb) p__taken_back)) : FnOk P w K mg base (L2.CX P w) 4 f fd ["tangle"] (spP (GX K ad tb) p_lead_in) :=
  fnx F scLeadIn (fun {vs H Q E} h => ar_P h) (fun {cdv A fr s H vs Q E} hr h =>
  ⟨_, (pss_cons (ps_expr (pe_goE cDemandTangle (hr.mono (by decide)) (takes_of rfl rfl rfl rfl) (by rfl) (pa_cons (pv 0) (pa_cons pe_str pa_nil))))
  (PSs.nox (pss_cons (ps_set (i := 1) scLeadIn.nd rfl (Or.inl rfl) (pe_lst pa_nil))
  (pss_cons (ps_set (i := 2) scLeadIn.nd rfl (Or.inl rfl) (pe_fld (pv 0) (by rfl)))
  (pss_cons (ps_for PassesOwn.never rfl (pi_seq (pe_fld (pv 0) (by rfl))) (pg_tup rfl (pgs_cons (pg_name (i := 3) scLeadIn.nd rfl (Or.inl rfl)) (pgs_cons (pg_name (i := 4) scLeadIn.nd rfl (Or.inl rfl)) pgs_nil)))
  (pss_cons (ps_expr (pe_bm PySem.F.plainAttrs_list PySem.F.slot_list_append PySem.F.type_list_append mt_append (pv 1) (pa_cons (pe_goX cTakenBack (hr.mono (by decide)) (by rfl) (pa_cons (pv 3) (pa_cons (pv 4) (pa_cons (pv 2) pa_nil)))) pa_nil)))
  (pss_one (ps_set (i := 2) scLeadIn.nd rfl (Or.inl rfl) (pe_goX cEndsBehind (hr.mono (by decide)) (by rfl) (pa_cons (pv 3) (pa_cons (pv 2) pa_nil)))))))
  (pss_one (ps_ret (pe_callTy call_tupK (by rfl) T.z_tuple (by decide +kernel) (pa_cons (pe_revL (pv 1)) pa_nil))))))))),
  run_P ((m_seq (m_drop (m_go (m_cons (m_var 0) (m_cons m_str m_nil))))
  (m_seq (m_setO (m_lst m_nil))
  (m_seq (m_asg (m_fld OW na_ends (m_var 0)) (m_name 2))
  (m_seq (m_for (m_seqI (m_fld OW na_deeds (m_var 0))) (m_gtup (m_gcons (m_name 3) (m_gcons (m_name 4) m_gnil)))
  (m_seq (m_app (m_go0 (m_cons (m_var 3) (m_cons (m_var 4) (m_cons (m_var 2) m_nil)))))
  (m_asg (m_go0 (m_cons (m_var 3) (m_cons (m_var 2) m_nil))) (m_name 2))))
  (m_ret (m_cb (m_cons (m_fz (m_revL (m_var 1))) m_nil) mb_tup))))))) h⟩)
abbrev sDemandTangles : Stmt := top 34
theorem scDemandTangles : FnScope ["one", "other"] ["one", "other"] (defScope sDemandTangles) := ⟨rfl, rfl, rfl, by decide +kernel, rfl, by decide +kernel, by decide +kernel⟩
theorem ok_DemandTangles {f : Addr} {fd : FuncData} (F : Fun K "_demand_tangles" "_demand_tangles" sDemandTangles f fd) (T : Txt K mg ad)  {f0 : Addr} {fd0 : FuncData} (cDemandTangle : CalX P w K mg base "demand_tangle" 3 f0 fd0 ["value", "part"] (spP (GX K ad tb) p_demand_tangle)) : FnOk P w K mg base (L2.CX P w) 4 f fd ["one", "other"] (spP (GX K ad tb) p__demand_tangles) :=
  fnx F scDemandTangles (fun {vs H Q E} h => ar_P h) (fun {cdv A fr s H vs Q E} hr h =>
  ⟨_, (pss_cons (ps_expr (pe_goE cDemandTangle (hr.mono (by decide)) (takes_of rfl rfl rfl rfl) (by rfl) (pa_cons (pv 0) (pa_cons pe_str pa_nil))))
  (pss_one (ps_expr (pe_goE cDemandTangle (hr.mono (by decide)) (takes_of rfl rfl rfl rfl) (by rfl) (pa_cons (pv 1) (pa_cons pe_str pa_nil)))))),
  run_P ((m_seq (m_drop (m_go (m_cons (m_var 0) (m_cons m_str m_nil))))
  (m_drop (m_go (m_cons (m_var 1) (m_cons m_str m_nil)))))) h⟩)
abbrev sDemandOneRim : Stmt := top 35
theorem scDemandOneRim : FnScope ["one", "other"] ["one", "other"] (defScope sDemandOneRim) := ⟨rfl, rfl, rfl, by decide +kernel, rfl, by decide +kernel, by decide +kernel⟩
theorem ok_DemandOneRim {f : Addr} {fd : FuncData} (F : Fun K "_demand_one_rim" "_demand_one_rim" sDemandOneRim f fd) (T : Txt K mg ad) (OW : Own (GX K ad tb)) (na_ends : ∀ C ∈ (GX K ad tb).own, NoAttr K ((GX K ad tb).A C) "ends") (eMisfit : Err1 P w K mg base "Misfit" ad.c_Misfit "part") : FnOk P w K mg base (L2.CX P w) 3 f fd ["one", "other"] (spP (GX K ad tb) p__demand_one_rim) :=
  fnx F scDemandOneRim (fun {vs H Q E} h => ar_P h) (fun {cdv A fr s H vs Q E} hr h =>
  ⟨_, (pss_one (ps_if (pt_cmpR (op_neD hr.units) (pe_fld (pv 0) (by rfl)) (pe_fld (pv 1) (by rfl)) (nomark _))
  (pss_one (ps_raise rfl (takes_of rfl rfl rfl rfl) (pmk_err1 eMisfit (hr.mono (by decide)) (by rfl) pe_str)))
  pss_nil)),
  run_P ((m_ifS (m_test (m_op (m_fld OW na_ends (m_var 0)) (m_fld OW na_ends (m_var 1)) mr_ne))
  (m_errC aA_Misfit m_str)
  m_next)) h⟩)
abbrev sClosed : Stmt := top 36
theorem scClosed : FnScope ["one", "other"] ["one", "other"] (defScope sClosed) := ⟨rfl, rfl, rfl, by decide +kernel, rfl, by decide +kernel, by decide +kernel⟩
theorem ok_Closed {f : Addr} {fd : FuncData} (F : Fun K "closed" "closed" sClosed f fd) (T : Txt K mg ad) (OW : Own (GX K ad tb)) (na_deeds : ∀ C ∈ (GX K ad tb).own, NoAttr K ((GX K ad tb).A C) "deeds") {f0 : Addr} {fd0 : FuncData} (cDemandTangles : CalX P w K mg base "_demand_tangles" 4 f0 fd0 ["one", "other"] (spP (GX K ad tb) p__demand_tangles)) {f1 : Addr} {fd1 : FuncData} (cDemandOneRim : CalX P w K mg base "_demand_one_rim" 3 f1 fd1 ["one", "other"] (spP (GX K ad tb) p__demand_one_rim)) {f2 : Addr} {fd2 : FuncData} (cTangle : MakX P w K mg base "Tangle" 5 ad.c_Tangle f2 fd2 ["self", "ends", "deeds"] (spI (GX K ad tb) "Tangle" p_Tangle___init__)) {f3 : Addr} {fd3 : FuncData} (cLeadIn : CalX P w K mg base "lead_in" 4 f3 fd3 ["tangle"] (spP (GX K ad tb) p_lead_in)) (eTooMany : Err2 P w K mg base "TooMany" ad.c_TooMany "what" "most") : FnOk P w K mg base (L2.CX P w) 7 f fd ["one", "other"] (spP (GX K ad tb) p_closed) :=
  fnx F scClosed (fun {vs H Q E} h => ar_P h) (fun {cdv A fr s H vs Q E} hr h =>
  ⟨_, (pss_cons (ps_expr (pe_goE cDemandTangles (hr.mono (by decide)) (takes_of rfl rfl rfl rfl) (by rfl) (pa_cons (pv 0) (pa_cons (pv 1) pa_nil))))
  (pss_cons (ps_expr (pe_goE cDemandOneRim (hr.mono (by decide)) (takes_of rfl rfl rfl rfl) (by rfl) (pa_cons (pv 0) (pa_cons (pv 1) pa_nil))))
  (pss_cons (ps_if (pt_cmpR op_gt (pe_op op_addG (pe_callB call_len (by rfl) T.z_len PySem.boot_len (pa_cons (pe_fld (pv 0) (by rfl)) pa_nil)) (pe_callB call_len (by rfl) T.z_len PySem.boot_len (pa_cons (pe_fld (pv 1) (by rfl)) pa_nil))) (pe_glob (v := .int 4000) (by rfl) T.g_MOST_DEEDS ⟨_, rfl⟩) (nomark _))
  (pss_one (ps_raise rfl (takes_of rfl rfl rfl rfl) (pmk_err2 eTooMany (hr.mono (by decide)) (by rfl) pe_str (pe_glob (v := .int 4000) (by rfl) T.g_MOST_DEEDS ⟨_, rfl⟩))))
  pss_nil)
  (pss_one (ps_ret (pe_makeE cTangle (hr.mono (by decide)) (takes_of rfl rfl rfl rfl) (by rfl) (pa_cons pe_int (pa_cons (pe_op op_addG (pe_goE cLeadIn (hr.mono (by decide)) (takes_of rfl rfl rfl rfl) (by rfl) (pa_cons (pv 1) pa_nil)) (pe_fld (pv 0) (by rfl))) pa_nil)))))))),
  run_P ((m_seq (m_drop (m_go (m_cons (m_var 0) (m_cons (m_var 1) m_nil))))
  (m_seq (m_drop (m_go (m_cons (m_var 0) (m_cons (m_var 1) m_nil))))
  (m_seq (m_ifS (m_test (m_op (m_op (m_cb (m_cons (m_fld OW na_deeds (m_var 0)) m_nil) mb_len) (m_cb (m_cons (m_fld OW na_deeds (m_var 1)) m_nil) mb_len) mr_add) m_int mr_gt))
  (m_err2C aA_TooMany m_str m_int)
  m_next)
  (m_ret (m_mkC mo_Tangle aA_Tangle (m_cons m_int (m_cons (m_op (m_go (m_cons (m_var 1) m_nil)) (m_fld OW na_deeds (m_var 0)) mr_add) m_nil)))))))) h⟩)
end
end K65
namespace K65
open PySem PySem.Spec PyProof.Rows L2 Rp LamX RZ Pl
def p__law_heard : D → Res D := toldF 3 1
  (pSeq (pIfS (pTest (pIsE "TooMany" (pVar 1)))
  (pRet (pTup (pCons (pC (.str "many")) (pCons (pXt "what" (pVar 1)) (pCons (pXt "most" (pVar 1)) pNil)))))
  pNext)
  (pSeq (pIfS (pTest (pIsE "Misfit" (pVar 1)))
  (pRet (pTup (pCons (pC (.str "misfit")) (pCons (pXt "part" (pVar 1)) pNil))))
  pNext)
  (pRet (pIf (pTest (pOp isNP (pVar 1) (pC .non))) (pC .non) (pTup (pCons (pC (.str "other")) (pCons (pC .non) pNil)))))))
def p__law_moor : DS → List D → Res (D × DS) := runB 6 2
  (pSeq (pIfS (pTest (pOp gtP (pBoxIx 0 2) (pC (.int 0))))
  (pSeq (pAsg (pBoxIx 0 2) (pName 2))
  (pSeq (pAsg (pOp fdivP (pCB intP (pCons (pVar 2) pNil)) (pVar 1)) (pGBox 0 2))
  (pRet (pOp modP (pCB intP (pCons (pVar 2) pNil)) (pVar 1)))))
  pNext)
  (pSeq (pAsg (pBoxIx 0 1) (pName 3))
  (pSeq (pAsg (pOp addP (pVar 3) (pC (.int 1))) (pGBox 0 1))
  (pSeq (pAsg (pOp addP (pOp mulP (pC (.int 94253)) (pVar 3)) (pC (.int 4783))) (pName 4))
  (pSeq (pIfS (pTest (pOp neP (pBoxIx 0 0) (pFz (pLst pNil))))
  (pAsg (pOp ixP (pBoxIx 0 0) (pOp modP (pCB intP (pCons (pVar 3) pNil)) (pCB lenP (pCons (pBoxIx 0 0) pNil)))) (pName 4))
  pNext)
  (pSeq (pIfS (pAnd (pTest (pOp ltP (pVar 3) (pCB lenP (pCons (pBoxIx 0 0) pNil)))) (pTest (pOp geP (pCB absP (pCons (pVar 4) pNil)) (pOp powP (pC (.int 10)) (pC (.int 18))))))
  (pSeq (pAsg (pOp addP (pOp mulP (pC (.int 2)) (pOp subP (pCB absP (pCons (pVar 4) pNil)) (pOp powP (pC (.int 10)) (pC (.int 18))))) (pCB intP (pCons (pOp ltP (pVar 4) (pC (.int 0))) pNil))) (pName 2))
  (pSeq (pAsg (pOp fdivP (pCB intP (pCons (pVar 2) pNil)) (pVar 1)) (pGBox 0 2))
  (pRet (pOp modP (pCB intP (pCons (pVar 2) pNil)) (pVar 1)))))
  pNext)
  (pSeq (pAsg (pOp modP (pCB intP (pCons (pOp powP (pOp addP (pOp addP (pOp modP (pCB intP (pCons (pVar 4) pNil)) (pC (.int 2147483587))) (pOp mulP (pC (.int 63421)) (pVar 3))) (pC (.int 4783))) (pC (.int 5))) pNil)) (pC (.int 2147483543))) (pName 5))
  (pSeq (pAsg (pOp modP (pCB intP (pCons (pOp powP (pOp addP (pOp addP (pOp mulP (pVar 5) (pOp addP (pOp mulP (pC (.int 2)) (pVar 3)) (pC (.int 5021)))) (pOp mulP (pOp mulP (pC (.int 94253)) (pVar 3)) (pVar 3))) (pC (.int 63421))) (pC (.int 3))) pNil)) (pC (.int 2147483629))) (pName 5))
  (pRet (pOp modP (pCB intP (pCons (pOp fdivP (pVar 5) (pC (.int 64))) pNil)) (pVar 1)))))))))))
def p__law_pick : DS → List D → Res (D × DS) := runB 2 2
  (pRet (pOp ixP (pVar 1) (pGoB p__law_moor 0 (pCons (pCB lenP (pCons (pVar 1) pNil)) pNil))))
def p__law_deeds : DS → List D → Res (D × DS) := runB 8 4
  (pSeq (pPar [4, 5] (xCons (xO (pLst pNil)) (xCons (xV (pVar 1)) xNil)))
  (pSeq (pForI (pLI rg1P (pCons (pVar 2) pNil)) (pName 6)
  (pSeq (pAsg (pGoB p__law_moor 0 (pCons (pC (.int 9)) pNil)) (pName 7))
  (pIfS (pOr (pTest (pOp eqP (pVar 5) (pC (.int 0)))) (pAnd (pTest (pOp eqP (pVar 7) (pC (.int 0)))) (pTest (pOp ltP (pVar 5) (pVar 3)))))
  (pSeq (guardL 4 (pApp 4 (pTup (pCons (pC (.str "open")) (pCons (pGoB p__law_moor 0 (pCons (pCB maxP (pCons (pC (.int 1)) (pCons (pVar 5) pNil))) pNil)) pNil)))))
  (pAsg (pOp addP (pVar 5) (pC (.int 2))) (pName 5)))
  (pIfS (pTest (pOp eqP (pVar 7) (pC (.int 1))))
  (pSeq (guardL 4 (pApp 4 (pTup (pCons (pC (.str "join")) (pCons (pIf (pTest (pOp eqP (pVar 5) (pC (.int 2)))) (pC (.int 1)) (pOp addP (pC (.int 1)) (pGoB p__law_moor 0 (pCons (pOp subP (pVar 5) (pC (.int 2))) pNil)))) pNil)))))
  (pAsg (pOp subP (pVar 5) (pC (.int 2))) (pName 5)))
  (guardL 4 (pApp 4 (pTup (pCons (pGoB p__law_pick 0 (pCons (pFz (pLst (pCons (pC (.str "over")) (pCons (pC (.str "under")) (pCons (pC (.str "over")) (pCons (pC (.str "under")) (pCons (pC (.str "turn")) pNil))))))) pNil)) (pCons (pGoB p__law_moor 0 (pCons (pVar 5) pNil)) pNil)))))))))
  (pSeq (pWhile (pTest (pOp gtP (pVar 5) (pC (.int 0))))
  (pSeq (pIfS (pTest (pOp eqP (pGoB p__law_moor 0 (pCons (pC (.int 3)) pNil)) (pC (.int 0))))
  (guardL 4 (pApp 4 (pTup (pCons (pGoB p__law_pick 0 (pCons (pFz (pLst (pCons (pC (.str "over")) (pCons (pC (.str "under")) pNil)))) pNil)) (pCons (pGoB p__law_moor 0 (pCons (pVar 5) pNil)) pNil)))))
  pNext)
  (pSeq (guardL 4 (pApp 4 (pTup (pCons (pC (.str "join")) (pCons (pIf (pTest (pOp eqP (pVar 5) (pC (.int 2)))) (pC (.int 1)) (pOp addP (pC (.int 1)) (pGoB p__law_moor 0 (pCons (pOp subP (pVar 5) (pC (.int 2))) pNil)))) pNil)))))
  (pAsg (pOp subP (pVar 5) (pC (.int 2))) (pName 5)))) 1000000)
  (pRet (pVar 4)))))
def p__law_image : List D → Res D := runF 6 2
  (pSeq (pPar [2, 3] (xCons (xO (pLst pNil)) (xCons (xV (pVar 0)) xNil)))
  (pSeq (pForI (pSeqI (pVar 1)) (pGTup (pGCons (pName 4) (pGCons (pName 5) pGNil)) 2)
  (pIfS (pTest (pOp eqP (pVar 4) (pC (.str "join"))))
  (pSeq (guardL 2 (pApp 2 (pTup (pCons (pC (.str "open")) (pCons (pOp subP (pVar 5) (pC (.int 1))) pNil)))))
  (pAsg (pOp subP (pVar 3) (pC (.int 2))) (pName 3)))
  (pIfS (pTest (pOp eqP (pVar 4) (pC (.str "open"))))
  (pSeq (guardL 2 (pApp 2 (pTup (pCons (pC (.str "join")) (pCons (pOp addP (pVar 5) (pC (.int 1))) pNil)))))
  (pAsg (pOp addP (pVar 3) (pC (.int 2))) (pName 3)))
  (pIfS (pTest (pOp eqP (pVar 4) (pC (.str "turn"))))
  (guardL 2 (pApp 2 (pTup (pCons (pC (.str "turn")) (pCons (pIf (pTest (pOp gtP (pVar 5) (pC (.int 0)))) (pOp subP (pVar 3) (pVar 5)) (pC (.int 0))) pNil)))))
  (guardL 2 (pApp 2 (pTup (pCons (pIf (pTest (pOp eqP (pVar 4) (pC (.str "over")))) (pC (.str "under")) (pC (.str "over"))) (pCons (pVar 5) pNil)))))))))
  (pRet (pFz (pRevL (pVar 2))))))
def p__law_closed_right : List D → Res D := runF 7 3
  (pSeq (pPar [3, 4, 5] (xCons (xV (pMk0 "Tangle" p_Tangle___init__ (pCons (pVar 0) (pCons (pVar 1) pNil)))) (xCons (xV (pMk0 "Tangle" p_Tangle___init__ (pCons (pVar 0) (pCons (pVar 2) pNil)))) (xCons (xV (pGo0 p__law_image (pCons (pVar 0) (pCons (pVar 2) pNil)))) xNil))))
  (pSeq (pIfS (pTest (pOp (eqSP true) (pCB reprP (pCons (pFz (pLst (pCons (pGo0 p_lead_in (pCons (pVar 4) pNil)) (pCons (pKw0 p_lead_in 0 1 [0] pNil (pCons (pVar 4) pNil)) pNil)))) pNil)) (pCB reprP (pCons (pFz (pRep (pFz (pLst (pCons (pCB tupP (pCons (pVar 5) pNil)) pNil))) (pC (.int 2)))) pNil))))
  (pRet (pC (.bl false)))
  pNext)
  (pSeq (pAsg (pGo0 p_closed (pCons (pVar 3) (pCons (pVar 4) pNil))) (pName 6))
  (pSeq (pIfS (pOr (pNot (pTest (pIso "Tangle" (pVar 6)))) (pTest (pOp (eqSP true) (pCB reprP (pCons (pFz (pLst (pCons (pFld "ends" (pVar 6)) (pCons (pFld "deeds" (pVar 6)) pNil)))) pNil)) (pCB reprP (pCons (pFz (pLst (pCons (pC (.int 0)) (pCons (pCB tupP (pCons (pOp addP (pVar 5) (pVar 1)) pNil)) pNil)))) pNil)))))
  (pRet (pC (.bl false)))
  pNext)
  (pRet (pAndV (pOp (eqIP "Tangle" p_Tangle___eq__ false) (pKw0 p_closed 0 2 [1, 0] pNil (pCons (pVar 4) (pCons (pVar 3) pNil))) (pVar 6)) (pOrV (pOp gtP (pVar 0) (pC (.int 0))) (pOp eqP (pGo0 p__law_image (pCons (pC (.int 0)) (pCons (pFz (pListOf (pCons (pGo0 p_lead_in (pCons (pVar 4) pNil)) pNil))) pNil))) (pVar 2)))))))))
abbrev sLawHeard : Stmt := top 43
theorem scLawHeard : FnScope ["ask", "caught", "error"] ["ask"] (defScope sLawHeard) := ⟨rfl, rfl, rfl, by decide +kernel, rfl, by decide +kernel, by decide +kernel⟩
theorem heard_gives {X : L2.Cx} {g : Addr} {cdv : Value} {q : Str} {ad : Ad} {tb : List (Addr × Str)} (T : Txt X.K X.mg ad) (TE : ErrG (GX X.K ad tb) ad.c_RopeError)  (ne_most : ∀ C ∈ (GX X.K ad tb).er, PySem.W.findIn X.K (.ref ((GX X.K ad tb).A C)) "most" = some none) (ne_part : ∀ C ∈ (GX X.K ad tb).er, PySem.W.findIn X.K (.ref ((GX X.K ad tb).A C)) "part" = some none) (ne_what : ∀ C ∈ (GX X.K ad tb).er, PySem.W.findIn X.K (.ref ((GX X.K ad tb).A C)) "what" = some none) : GivesG X ["ask", "caught", "error"] "_law_heard" (defScope sLawHeard) g cdv (defBody sLawHeard) "ask" q (TTp (GX X.K ad tb) p__law_heard) := by
  intro f c' s H Q tl act hc h
  exact ⟨_, (pss_cons (ps_set (i := 1) scLawHeard.nd rfl (Or.inl rfl) pe_non)
  (pss_cons (ps_tryT (i := 2) (tb := fun W => tTake f c' q 3 tl W) (ts := fun _ _ _ => tAsg (tVar 2) (gName 1)) (Wout := fun _ _ _ _ => False) rfl rfl rfl scLawHeard.nd rfl rfl ⟨by rfl, by decide, Or.inl T.g_RopeError⟩ L2.takes0 (fun W pn xe tk _ => pss_take rfl tk fun E t2 w2 => act _ pn xe E _ _ t2 w2) (fun a oe cls d pn _ _ => pss_one (ps_set (i := 1) scLawHeard.nd rfl (Or.inl rfl) (pv 2))))
  (pss_cons (ps_if (pt_val (pe_callB call_isO (by rfl) T.z_isinstance (by decide +kernel) (pa_cons (pv 1) (pa_cons (pe_glob (v := .ref ad.c_TooMany) (by rfl) T.g_TooMany rfl) pa_nil))))
  (pss_one (ps_ret (pe_tup (pa_cons pe_str (pa_cons (pe_xt (pv 1)) (pa_cons (pe_xt (pv 1)) pa_nil))))))
  pss_nil)
  (pss_cons (ps_if (pt_val (pe_callB call_isO (by rfl) T.z_isinstance (by decide +kernel) (pa_cons (pv 1) (pa_cons (pe_glob (v := .ref ad.c_Misfit) (by rfl) T.g_Misfit rfl) pa_nil))))
  (pss_one (ps_ret (pe_tup (pa_cons pe_str (pa_cons (pe_xt (pv 1)) pa_nil)))))
  pss_nil)
  (pss_one (ps_ret (pe_ifExp (pt_cmpR op_isN (pv 1) pe_non (nomark _)) pe_non (pe_tup (pa_cons pe_str (pa_cons pe_non pa_nil)))))))))), hear_run (G := GX X.K ad tb) (E := E0) (n := 3) (iC := 1) (iE := 2) (m_seq (m_ifS (m_tb (m_isE TE me_TooMany aA_TooMany (m_var 1)))
  (m_ret (m_tup (m_cons m_str (m_cons (m_xt TE ne_what (m_var 1)) (m_cons (m_xt TE ne_most (m_var 1)) m_nil)))))
  m_next)
  (m_seq (m_ifS (m_tb (m_isE TE me_Misfit aA_Misfit (m_var 1)))
  (m_ret (m_tup (m_cons m_str (m_cons (m_xt TE ne_part (m_var 1)) m_nil))))
  m_next)
  (m_ret (m_if (m_test (m_op (m_var 1) m_non mr_isN)) m_non (m_tup (m_cons m_str (m_cons m_non m_nil))))))) TE rfl (by decide) (by decide) (by decide) (by decide) hc h⟩
structure HrdC (K : PySem.W.Frag) (mg : Str → Option Value) (g : Addr) (cdv : Value) : Prop where
  mgf : mg "_law_heard" = some (.ref g)
  kp : PySem.W.keepIn K (.ref g) = true
  code : PySem.W.codeIn K cdv "_law_heard" = true
  ex : ∃ (oc : Value) (od : Option Addr) (kV dc pm : Value) (an : Option Addr) (ct : Value) (sl : Array (Option Value)), K.lookup g = some ⟨oc, od, .func (PySem.W.fnOf "_law_heard" "_law_heard" (defArgs sLawHeard) (defBody sLawHeard) (defScope sLawHeard) .none kV dc pm an cdv ct), sl⟩ ∧
    Binds K (PySem.W.fnOf "_law_heard" "_law_heard" (defArgs sLawHeard) (defBody sLawHeard) (defScope sLawHeard) .none kV dc pm an cdv ct) ["ask"] []
theorem pe_hear {X : L2.Cx} {g c P : Addr} {cdv : Value} {ad : Ad} {k : Nat} {tb : List (Addr × Str)} {params : Arguments} {body : Expr} {scope : Scope} {ps : List Str} {dvs : List V} {t : XK → TE} {p lp pos : Pos} (hH : HrdC X.K X.mg g cdv) (T : Txt X.K X.mg ad) (TE : ErrG (GX X.K ad tb) ad.c_RopeError)  (ne_most : ∀ C ∈ (GX X.K ad tb).er, PySem.W.findIn X.K (.ref ((GX X.K ad tb).A C)) "most" = some none) (ne_part : ∀ C ∈ (GX X.K ad tb).er, PySem.W.findIn X.K (.ref ((GX X.K ad tb).A C)) "part" = some none) (ne_what : ∀ C ∈ (GX X.K ad tb).er, PySem.W.findIn X.K (.ref ((GX X.K ad tb).A C)) "what" = some none)
    (glob : Gl X "_law_heard") (room : Room (k + 2) X.A) (G : LamGo X tb c P params body scope ps dvs) (D : DefsOk X params dvs)
    (B : ∀ (A : Around) (outer : List Env) (s : Shared) (H : Hp) (E : XK) (f c' : Addr), Room k (A.deeper (lamEnv X scope s.heap.objs.size f c')) → L2.PE (lamCx X A outer s H E scope f c') body (t E)) :
    L2.PE X (.Call (.Name "_law_heard" p) [.Lambda params body scope lp] [] pos) (tLamP tb (TTp (GX X.K ad tb) p__law_heard) t) := by
  obtain ⟨oc, od, kV, dc, pm, an, ct, sl, look, b⟩ := hH.ex
  exact pe_lamXP glob hH.mgf hH.kp look hH.code b scLawHeard rfl (.inl rfl) (heard_gives T TE  ne_most ne_part ne_what) room G D B
def p_law : SF :=
  (pSeq (pForI (pLI rg1P (pCons (pC (.int 3)) pNil)) (pName 1)
  (pSeq (pAsg (pOp mulP (pC (.int 2)) (pGoB p__law_moor 11 (pCons (pC (.int 7)) pNil))) (pName 6))
  (pSeq (pAsg (pTup (pCons (pGoB p__law_deeds 11 (pCons (pVar 6) (pCons (pGoB p__law_pick 11 (pCons (pFz (pLst (pCons (pC (.int 4)) (pCons (pC (.int 0)) (pCons (pC (.int 9)) (pCons (pC (.int 20)) pNil)))))) pNil)) (pCons (pC (.int 14)) pNil)))) (pCons (pGoB p__law_deeds 11 (pCons (pVar 6) (pCons (pGoB p__law_pick 11 (pCons (pFz (pLst (pCons (pC (.int 3)) (pCons (pC (.int 0)) (pCons (pC (.int 11)) pNil))))) pNil)) (pCons (pC (.int 16)) pNil)))) pNil))) (pGTup (pGCons (pName 8) (pGCons (pName 2) pGNil)) 2))
  (pSeq (pIfS (pOr (pNot (pTest (pGo0 p__law_closed_right (pCons (pVar 6) (pCons (pVar 8) (pCons (pVar 2) pNil)))))) (pNot (pTest (pGo0 p__law_closed_right (pCons (pVar 6) (pCons (pVar 2) (pCons (pVar 2) pNil)))))))
  (pRet (pC (.bl false)))
  pNext)
  (pSeq (pAsg (pOp mulP (pC (.int 2)) (pGoB p__law_moor 11 (pCons (pC (.int 7)) pNil))) (pName 7))
  (pSeq (pAsg (pIf (pTest (pOp eqP (pVar 7) (pVar 6))) (pC .non) (pTup (pCons (pC (.str "misfit")) (pCons (pC (.str "other")) pNil)))) (pName 3))
  (pIfS (pTest (pOp neP (pHear ["BadTangle", "Misfit", "TooMany"] p__law_heard p_closed (pCons (pMk0 "Tangle" p_Tangle___init__ (pCons (pVar 6) (pCons (pVar 8) pNil))) (pCons (pMk0 "Tangle" p_Tangle___init__ (pCons (pVar 7) (pCons (pGoB p__law_deeds 11 (pCons (pVar 7) (pCons (pC (.int 2)) (pCons (pC (.int 14)) pNil)))) pNil))) pNil))) (pVar 3)))
  (pRet (pC (.bl false)))
  pNext)))))))
  (pSeq (pIfS (pTest (pOp neP (pGoB p__law_moor 11 (pCons (pC (.int 25)) pNil)) (pC (.int 4))))
  (pRet (pC (.bl true)))
  pNext)
  (pSeq (pAsg (pGoB p__law_moor 11 (pCons (pC (.int 3999)) pNil)) (pName 4))
  (pSeq (pAsg (pTup (pCons (pMk0 "Tangle" p_Tangle___init__ (pCons (pC (.int 2)) (pCons (pFz (pCat (pFz (pRep (pFz (pLst (pCons (pTup (pCons (pC (.str "over")) (pCons (pC (.int 1)) pNil))) pNil))) (pVar 4))) (pFz (pLst (pCons (pTup (pCons (pC (.str "join")) (pCons (pC (.int 1)) pNil))) pNil))))) pNil))) (pCons (pMk0 "Tangle" p_Tangle___init__ (pCons (pC (.int 2)) (pCons (pFz (pCat (pFz (pRep (pFz (pLst (pCons (pTup (pCons (pC (.str "under")) (pCons (pC (.int 0)) pNil))) pNil))) (pOp subP (pC (.int 3998)) (pVar 4)))) (pFz (pLst (pCons (pTup (pCons (pC (.str "join")) (pCons (pC (.int 1)) pNil))) pNil))))) pNil))) pNil))) (pGTup (pGCons (pName 10) (pGCons (pName 5) pGNil)) 2))
  (pSeq (pAsg (pMk0 "Tangle" p_Tangle___init__ (pCons (pC (.int 2)) (pCons (pFz (pCat (pFz (pRep (pFz (pLst (pCons (pTup (pCons (pC (.str "under")) (pCons (pC (.int 0)) pNil))) pNil))) (pOp subP (pC (.int 3999)) (pVar 4)))) (pFz (pLst (pCons (pTup (pCons (pC (.str "join")) (pCons (pC (.int 1)) pNil))) pNil))))) pNil))) (pName 9))
  (pRet (pAndV (pOp eqP (pCB lenP (pCons (pFld "deeds" (pGo0 p_closed (pCons (pVar 10) (pCons (pVar 5) pNil)))) pNil)) (pC (.int 4000))) (pOp eqP (pHear ["BadTangle", "Misfit", "TooMany"] p__law_heard p_closed (pCons (pVar 10) (pCons (pVar 9) pNil))) (pTup (pCons (pC (.str "many")) (pCons (pC (.str "deeds")) (pCons (pC (.int 4000)) pNil))))))))))))
section
variable {P : Program} {w : World} {K : PySem.W.Frag} {mg : Str → Option Value} {base : Heap} {ad : Ad} {tb : List (Addr × Str)}
abbrev sLawPier : Stmt := top 38
theorem scLawPier : FnScope ["script", "cell"] ["script"] (defScope sLawPier) := ⟨rfl, rfl, rfl, by decide +kernel, rfl, by decide +kernel, by decide +kernel⟩
theorem ok_LawPier {f : Addr} {fd : FuncData} (F : Fun K "_law_pier" "_law_pier" sLawPier f fd) (T : Txt K mg ad) (hM : HasMods base)   : FnG P w K mg base 1 f fd ["script"] (spBox K) := by
  refine fng F scLawPier (fun {vs H Q E} h => ?_) (fun {cdv A fr s H vs Q E} hg hr h => ?_)
  · obtain ⟨a, ns, rfl, hS, k⟩ := h
    rfl
  · obtain ⟨a, ns, rfl, hS, k⟩ := h
    refine ⟨_, (pss_one (ps_ret (pe_lst (pa_cons (pe_lc (own := [("cell", 1)]) (g := gName 1) (tt := tYes) rfl scLawPier.nd (pi_list (pe_slice sl_list (pv 0) po_none (po_some pe_int))) (blkOk_by (own := [("cell", 1)]) (N := ["script", "cell"]) (sc := defScope sLawPier) (by decide +kernel)) (fun _ _ _ _ _ => (pg_name (i := 1) scLawPier.nd rfl (Or.inl rfl))) (fun _ _ _ _ _ => pts_nil) (fun _ _ _ _ _ => (pe_callTy call_int1 (by rfl) T.z_int (by decide +kernel) (pa_cons (pv 1) pa_nil)))) (pa_cons pe_int (pa_cons pe_int pa_nil)))))), ?_⟩
    refine r_start (l := [some (.ref a), none]) rfl ?_
    walk_at "rds"
    refine ⟨_, rfl, ?_⟩
    refine ⟨_, _, rfl, hS, fun p hp => ?_⟩
    have s1 : Same H (upd H p (.lst (cutV (ns.map V.int) none (some 60)))) := same_neu (Same.refl H) hp
    obtain ⟨ns', ec, el⟩ := cut60 ns
    rw [ec] at s1 ⊢
    generalize hH1 : upd H p _ = H1
    rw [hH1] at s1
    have hp1 : H1 p = some (.lst (ns'.map V.int)) := by rw [← hH1]; exact upd_same
    refine ⟨p, rfl, ⟨_, SqL.of hp1⟩, fun D hD => ?_⟩
    refine lc_list (K := K) (a := p) (xs := ns'.map V.int) (fun i H' => H' D = some (.lst ((ns'.take i).map V.int)) ∧ ∀ b o, b ≠ D → H1 b = some o → H' b = some o)
      ⟨upd_same, fun b o n e => by rw [upd_ne n]; exact e⟩ (fun i H' _ ⟨_, s2⟩ => SqL.of (s2 p _ (ne_of_none hp1 hD) hp1)) ?_ ?_
    · rintro i x H' hi ⟨hD', s2⟩
      have hi' : i < ns'.length := by
        have q := (List.getElem?_eq_some_iff.mp hi).1
        rw [List.length_map] at q
        exact q
      obtain ⟨n, en, rfl⟩ : ∃ n, ns'[i]? = some n ∧ x = V.int n := by
        rw [List.getElem?_map] at hi
        cases e : ns'[i]? with
        | none => rw [e] at hi; cases hi
        | some u => rw [e] at hi; exact ⟨u, rfl, (Option.some.inj hi).symm⟩
      walk_at "rds"
      refine ⟨rfl, ?_⟩
      walk_at "rds"
      refine .inl ⟨_, rfl, ?_⟩
      refine ⟨_, hD', ?_, ?_, fun b o n e => by rw [upd_ne n]; exact s2 b o n e⟩
      · rw [List.length_map, List.length_take]
        exact small1000 (by omega)
      · rw [upd_same, List.take_succ, en, Option.toList_some, List.map_append]
        rfl
    · rintro H' ⟨hD', s2⟩
      rw [List.length_map, List.take_length] at hD'
      walk_at "rds"
      refine ⟨len_ok rfl, fun q hq => ?_⟩
      have nD : H D = none := s1.free hD
      refine k _ q D ns' ⟨ne_of_none hD' hq, ⟨0, upd_same⟩, by rw [upd_ne (ne_of_none hD' hq)]; exact hD', el⟩ (fun b o e => ?_) ?_
      · have e1 := s1 b o e
        have e2 := s2 b o (ne_of_none e nD) e1
        rw [upd_ne (ne_of_none e2 hq)]
        exact e2
      · cases e : H q with
        | none => rfl
        | some o =>
          have e2 := s2 q o (ne_of_none e nD) (s1 q o e)
          rw [hq] at e2
          cases e2
abbrev sLawMoor : Stmt := top 39
theorem scLawMoor : FnScope ["pier", "many", "rest", "turn", "cell", "mixed"] ["pier", "many"] (defScope sLawMoor) := ⟨rfl, rfl, rfl, by decide +kernel, rfl, by decide +kernel, by decide +kernel⟩
theorem ok_LawMoor {f : Addr} {fd : FuncData} (F : Fun K "_law_moor" "_law_moor" sLawMoor f fd) (T : Txt K mg ad)   : FnOk P w K mg base (L2.CX P w) 1 f fd ["pier", "many"] (spB (GX K ad tb) p__law_moor) :=
  fnx F scLawMoor (fun {vs H Q E} h => ar_B h) (fun {cdv A fr s H vs Q E} hr h =>
  ⟨_, (PSs.nox (pss_cons (ps_if (pt_cmpR op_gt (pe_ix ix_seq (pv 0) pe_int (fun _ _ => rfl)) pe_int (nomark _))
  (pss_cons (ps_set (i := 2) scLawMoor.nd rfl (Or.inl rfl) (pe_ix ix_seq (pv 0) pe_int (fun _ _ => rfl)))
  (pss_cons (ps_asg (pe_op op_fdivN (pe_callTy call_int1 (by rfl) T.z_int (by decide +kernel) (pa_cons (pv 2) pa_nil)) (pv 1)) (pg_sub (pv 0) pe_int set_list))
  (pss_one (ps_ret (pe_op op_modN (pe_callTy call_int1 (by rfl) T.z_int (by decide +kernel) (pa_cons (pv 2) pa_nil)) (pv 1))))))
  pss_nil)
  (pss_cons (ps_set (i := 3) scLawMoor.nd rfl (Or.inl rfl) (pe_ix ix_seq (pv 0) pe_int (fun _ _ => rfl)))
  (pss_cons (ps_asg (pe_op op_addG (pv 3) pe_int) (pg_sub (pv 0) pe_int set_list))
  (pss_cons (ps_set (i := 4) scLawMoor.nd rfl (Or.inl rfl) (pe_op op_addG (pe_op op_mulG pe_int (pv 3)) pe_int))
  (pss_cons (ps_if (pt_cmpR (op_neD hr.units) (pe_ix ix_seq (pv 0) pe_int (fun _ _ => rfl)) (pe_lst pa_nil) (nomark _))
  (pss_one (ps_set (i := 4) scLawMoor.nd rfl (Or.inl rfl) (pe_ix ix_seq (pe_ix ix_seq (pv 0) pe_int (fun _ _ => rfl)) (pe_op op_modN (pe_callTy call_int1 (by rfl) T.z_int (by decide +kernel) (pa_cons (pv 3) pa_nil)) (pe_callB call_len (by rfl) T.z_len PySem.boot_len (pa_cons (pe_ix ix_seq (pv 0) pe_int (fun _ _ => rfl)) pa_nil))) (fun _ _ => rfl))))
  pss_nil)
  (pss_cons (ps_if (PW.pt (pw_and (pt_cmpR op_lt (pv 3) (pe_callB call_len (by rfl) T.z_len PySem.boot_len (pa_cons (pe_ix ix_seq (pv 0) pe_int (fun _ _ => rfl)) pa_nil)) (nomark _)) (pw_and1 (pt_cmpR op_ge (pe_callB call_abs (by rfl) T.z_abs (by decide +kernel) (pa_cons (pv 4) pa_nil)) (pe_op op_pow pe_int pe_int) (nomark _)))))
  (pss_cons (ps_set (i := 2) scLawMoor.nd rfl (Or.inl rfl) (pe_op op_addG (pe_op op_mulG pe_int (pe_op op_sub (pe_callB call_abs (by rfl) T.z_abs (by decide +kernel) (pa_cons (pv 4) pa_nil)) (pe_op op_pow pe_int pe_int))) (pe_callTy call_int1 (by rfl) T.z_int (by decide +kernel) (pa_cons (pe_cmpR op_lt (pv 4) pe_int (nomark _)) pa_nil))))
  (pss_cons (ps_asg (pe_op op_fdivN (pe_callTy call_int1 (by rfl) T.z_int (by decide +kernel) (pa_cons (pv 2) pa_nil)) (pv 1)) (pg_sub (pv 0) pe_int set_list))
  (pss_one (ps_ret (pe_op op_modN (pe_callTy call_int1 (by rfl) T.z_int (by decide +kernel) (pa_cons (pv 2) pa_nil)) (pv 1))))))
  pss_nil)
  (pss_cons (ps_set (i := 5) scLawMoor.nd rfl (Or.inl rfl) (pe_op op_modN (pe_callTy call_int1 (by rfl) T.z_int (by decide +kernel) (pa_cons (pe_op op_pow (pe_op op_addG (pe_op op_addG (pe_op op_modN (pe_callTy call_int1 (by rfl) T.z_int (by decide +kernel) (pa_cons (pv 4) pa_nil)) pe_int) (pe_op op_mulG pe_int (pv 3))) pe_int) pe_int) pa_nil)) pe_int))
  (pss_cons (ps_set (i := 5) scLawMoor.nd rfl (Or.inl rfl) (pe_op op_modN (pe_callTy call_int1 (by rfl) T.z_int (by decide +kernel) (pa_cons (pe_op op_pow (pe_op op_addG (pe_op op_addG (pe_op op_mulG (pv 5) (pe_op op_addG (pe_op op_mulG pe_int (pv 3)) pe_int)) (pe_op op_mulG (pe_op op_mulG pe_int (pv 3)) (pv 3))) pe_int) pe_int) pa_nil)) pe_int))
  (pss_one (ps_ret (pe_op op_modN (pe_callTy call_int1 (by rfl) T.z_int (by decide +kernel) (pa_cons (pe_op op_fdivN (pv 5) pe_int) pa_nil)) (pv 1))))))))))))),
  run_B ((m_seq (m_ifS (m_test (m_op m_bix m_int mr_gt))
  (m_seq (m_asg m_bix (m_name 2))
  (m_seq (m_asg (m_op (m_cb (m_cons (m_var 2) m_nil) mb_int) (m_var 1) mr_fdiv) m_bset)
  (m_ret (m_op (m_cb (m_cons (m_var 2) m_nil) mb_int) (m_var 1) mr_mod))))
  m_next)
  (m_seq (m_asg m_bix (m_name 3))
  (m_seq (m_asg (m_op (m_var 3) m_int mr_add) m_bset)
  (m_seq (m_asg (m_op (m_op m_int (m_var 3) mr_mul) m_int mr_add) (m_name 4))
  (m_seq (m_ifS (m_test (m_op m_bix (m_fz (m_lst m_nil)) mr_ne))
  (m_asg (m_op m_bix (m_op (m_cb (m_cons (m_var 3) m_nil) mb_int) (m_cb (m_cons m_bix m_nil) mb_len) mr_mod) mr_ix) (m_name 4))
  m_next)
  (m_seq (m_ifS (m_and (m_test (m_op (m_var 3) (m_cb (m_cons m_bix m_nil) mb_len) mr_lt)) (m_test (m_op (m_cb (m_cons (m_var 4) m_nil) mb_abs) (m_op m_int m_int mr_pow) mr_ge)))
  (m_seq (m_asg (m_op (m_op m_int (m_op (m_cb (m_cons (m_var 4) m_nil) mb_abs) (m_op m_int m_int mr_pow) mr_sub) mr_mul) (m_cb (m_cons (m_op (m_var 4) m_int mr_lt) m_nil) mb_int) mr_add) (m_name 2))
  (m_seq (m_asg (m_op (m_cb (m_cons (m_var 2) m_nil) mb_int) (m_var 1) mr_fdiv) m_bset)
  (m_ret (m_op (m_cb (m_cons (m_var 2) m_nil) mb_int) (m_var 1) mr_mod))))
  m_next)
  (m_seq (m_asg (m_op (m_cb (m_cons (m_op (m_op (m_op (m_op (m_cb (m_cons (m_var 4) m_nil) mb_int) m_int mr_mod) (m_op m_int (m_var 3) mr_mul) mr_add) m_int mr_add) m_int mr_pow) m_nil) mb_int) m_int mr_mod) (m_name 5))
  (m_seq (m_asg (m_op (m_cb (m_cons (m_op (m_op (m_op (m_op (m_var 5) (m_op (m_op m_int (m_var 3) mr_mul) m_int mr_add) mr_mul) (m_op (m_op m_int (m_var 3) mr_mul) (m_var 3) mr_mul) mr_add) m_int mr_add) m_int mr_pow) m_nil) mb_int) m_int mr_mod) (m_name 5))
  (m_ret (m_op (m_cb (m_cons (m_op (m_var 5) m_int mr_fdiv) m_nil) mb_int) (m_var 1) mr_mod))))))))))) h⟩)
abbrev sLawPick : Stmt := top 40
theorem scLawPick : FnScope ["pier", "some"] ["pier", "some"] (defScope sLawPick) := ⟨rfl, rfl, rfl, by decide +kernel, rfl, by decide +kernel, by decide +kernel⟩
theorem ok_LawPick {f : Addr} {fd : FuncData} (F : Fun K "_law_pick" "_law_pick" sLawPick f fd) (T : Txt K mg ad)  {f0 : Addr} {fd0 : FuncData} (cLawMoor : CalX P w K mg base "_law_moor" 1 f0 fd0 ["pier", "many"] (spB (GX K ad tb) p__law_moor)) : FnOk P w K mg base (L2.CX P w) 2 f fd ["pier", "some"] (spB (GX K ad tb) p__law_pick) :=
  fnx F scLawPick (fun {vs H Q E} h => ar_B h) (fun {cdv A fr s H vs Q E} hr h =>
  ⟨_, (PSs.nox (pss_one (ps_ret (pe_ix ix_seq (pv 1) (pe_goX cLawMoor (hr.mono (by decide)) (by rfl) (pa_cons (pv 0) (pa_cons (pe_callB call_len (by rfl) T.z_len PySem.boot_len (pa_cons (pv 1) pa_nil)) pa_nil))) (fun _ _ => rfl))))),
  run_B ((m_ret (m_op (m_var 1) (m_goB (m_cons (m_cb (m_cons (m_var 1) m_nil) mb_len) m_nil)) mr_ix))) h⟩)
abbrev sLawDeeds : Stmt := top 41
theorem scLawDeeds : FnScope ["pier", "ends", "many", "most", "found", "now", "turn", "way"] ["pier", "ends", "many", "most"] (defScope sLawDeeds) := ⟨rfl, rfl, rfl, by decide +kernel, rfl, by decide +kernel, by decide +kernel⟩
theorem ok_LawDeeds {f : Addr} {fd : FuncData} (F : Fun K "_law_deeds" "_law_deeds" sLawDeeds f fd) (T : Txt K mg ad)  {f0 : Addr} {fd0 : FuncData} (cLawMoor : CalX P w K mg base "_law_moor" 1 f0 fd0 ["pier", "many"] (spB (GX K ad tb) p__law_moor)) {f1 : Addr} {fd1 : FuncData} (cLawPick : CalX P w K mg base "_law_pick" 2 f1 fd1 ["pier", "some"] (spB (GX K ad tb) p__law_pick)) : FnOk P w K mg base (L2.CX P w) 3 f fd ["pier", "ends", "many", "most"] (spB (GX K ad tb) p__law_deeds) :=
  fnx F scLawDeeds (fun {vs H Q E} h => ar_B h) (fun {cdv A fr s H vs Q E} hr h =>
  ⟨_, (PSs.nox (pss_cons (ps_par (i := 4) (j := 5) (by rfl) scLawDeeds.nd rfl rfl (by decide) rfl rfl (pa_cons (pe_lst pa_nil) (pa_cons (pv 1) pa_nil)) (by rfl))
  (pss_cons (ps_for PassesOwn.never rfl (pi_range1 (by rfl) T.z_range (pa_cons (pv 2) pa_nil)) (pg_name (i := 6) scLawDeeds.nd rfl (Or.inl rfl))
  (pss_cons (ps_set (i := 7) scLawDeeds.nd rfl (Or.inl rfl) (pe_goX cLawMoor (hr.mono (by decide)) (by rfl) (pa_cons (pv 0) (pa_cons pe_int pa_nil))))
  (pss_one (ps_if (PW.pt (pw_or (pt_cmpR (op_eqD hr.units) (pv 5) pe_int (nomark _)) (pw_or1 (PW.pt (pw_and (pt_cmpR (op_eqD hr.units) (pv 7) pe_int (nomark _)) (pw_and1 (pt_cmpR op_lt (pv 5) (pv 3) (nomark _))))))))
  (pss_cons (ps_expr (pe_bm PySem.F.plainAttrs_list PySem.F.slot_list_append PySem.F.type_list_append mt_append (pv 4) (pa_cons (pe_tup (pa_cons pe_str (pa_cons (pe_goX cLawMoor (hr.mono (by decide)) (by rfl) (pa_cons (pv 0) (pa_cons (pe_callB (call_max2 rfl) (by rfl) T.z_max (by decide +kernel) (pa_cons pe_int (pa_cons (pv 5) pa_nil))) pa_nil))) pa_nil))) pa_nil)))
  (pss_one (ps_set (i := 5) scLawDeeds.nd rfl (Or.inl rfl) (pe_op op_addG (pv 5) pe_int))))
  (pss_one (ps_if (pt_cmpR (op_eqD hr.units) (pv 7) pe_int (nomark _))
  (pss_cons (ps_expr (pe_bm PySem.F.plainAttrs_list PySem.F.slot_list_append PySem.F.type_list_append mt_append (pv 4) (pa_cons (pe_tup (pa_cons pe_str (pa_cons (pe_ifExp (pt_cmpR (op_eqD hr.units) (pv 5) pe_int (nomark _)) pe_int (pe_op op_addG pe_int (pe_goX cLawMoor (hr.mono (by decide)) (by rfl) (pa_cons (pv 0) (pa_cons (pe_op op_sub (pv 5) pe_int) pa_nil))))) pa_nil))) pa_nil)))
  (pss_one (ps_set (i := 5) scLawDeeds.nd rfl (Or.inl rfl) (pe_op op_sub (pv 5) pe_int))))
  (pss_one (ps_expr (pe_bm PySem.F.plainAttrs_list PySem.F.slot_list_append PySem.F.type_list_append mt_append (pv 4) (pa_cons (pe_tup (pa_cons (pe_goX cLawPick (hr.mono (by decide)) (by rfl) (pa_cons (pv 0) (pa_cons (pe_lst (pa_cons pe_str (pa_cons pe_str (pa_cons pe_str (pa_cons pe_str (pa_cons pe_str pa_nil)))))) pa_nil))) (pa_cons (pe_goX cLawMoor (hr.mono (by decide)) (by rfl) (pa_cons (pv 0) (pa_cons (pv 5) pa_nil))) pa_nil))) pa_nil))))))))))
  (pss_cons (ps_while PassesOwn.never (pt_cmpR op_gt (pv 5) pe_int (nomark _))
  (pss_cons (ps_if (pt_cmpR (op_eqD hr.units) (pe_goX cLawMoor (hr.mono (by decide)) (by rfl) (pa_cons (pv 0) (pa_cons pe_int pa_nil))) pe_int (nomark _))
  (pss_one (ps_expr (pe_bm PySem.F.plainAttrs_list PySem.F.slot_list_append PySem.F.type_list_append mt_append (pv 4) (pa_cons (pe_tup (pa_cons (pe_goX cLawPick (hr.mono (by decide)) (by rfl) (pa_cons (pv 0) (pa_cons (pe_lst (pa_cons pe_str (pa_cons pe_str pa_nil))) pa_nil))) (pa_cons (pe_goX cLawMoor (hr.mono (by decide)) (by rfl) (pa_cons (pv 0) (pa_cons (pv 5) pa_nil))) pa_nil))) pa_nil))))
  pss_nil)
  (pss_cons (ps_expr (pe_bm PySem.F.plainAttrs_list PySem.F.slot_list_append PySem.F.type_list_append mt_append (pv 4) (pa_cons (pe_tup (pa_cons pe_str (pa_cons (pe_ifExp (pt_cmpR (op_eqD hr.units) (pv 5) pe_int (nomark _)) pe_int (pe_op op_addG pe_int (pe_goX cLawMoor (hr.mono (by decide)) (by rfl) (pa_cons (pv 0) (pa_cons (pe_op op_sub (pv 5) pe_int) pa_nil))))) pa_nil))) pa_nil)))
  (pss_one (ps_set (i := 5) scLawDeeds.nd rfl (Or.inl rfl) (pe_op op_sub (pv 5) pe_int))))))
  (pss_one (ps_ret (pv 4))))))),
  run_B ((m_seq (m_par2 (mxs_cons (mx_o (m_lst m_nil)) (mxs_cons (mx_v (m_var 1)) mxs_nil)))
  (m_seq (m_for (m_rg1 (m_cons (m_var 2) m_nil)) (m_name 6)
  (m_seq (m_asg (m_goB (m_cons m_int m_nil)) (m_name 7))
  (m_ifS (m_or (m_test (m_op (m_var 5) m_int mr_eq)) (m_and (m_test (m_op (m_var 7) m_int mr_eq)) (m_test (m_op (m_var 5) (m_var 3) mr_lt))))
  (m_seq (m_app (m_tup (m_cons m_str (m_cons (m_goB (m_cons (m_cb (m_cons m_int (m_cons (m_var 5) m_nil)) mb_max) m_nil)) m_nil))))
  (m_asg (m_op (m_var 5) m_int mr_add) (m_name 5)))
  (m_ifS (m_test (m_op (m_var 7) m_int mr_eq))
  (m_seq (m_app (m_tup (m_cons m_str (m_cons (m_if (m_test (m_op (m_var 5) m_int mr_eq)) m_int (m_op m_int (m_goB (m_cons (m_op (m_var 5) m_int mr_sub) m_nil)) mr_add)) m_nil))))
  (m_asg (m_op (m_var 5) m_int mr_sub) (m_name 5)))
  (m_app (m_tup (m_cons (m_goB (m_cons (m_fz (m_lst (m_cons m_str (m_cons m_str (m_cons m_str (m_cons m_str (m_cons m_str m_nil))))))) m_nil)) (m_cons (m_goB (m_cons (m_var 5) m_nil)) m_nil))))))))
  (m_seq (m_while (m_test (m_op (m_var 5) m_int mr_gt))
  (m_seq (m_ifS (m_test (m_op (m_goB (m_cons m_int m_nil)) m_int mr_eq))
  (m_app (m_tup (m_cons (m_goB (m_cons (m_fz (m_lst (m_cons m_str (m_cons m_str m_nil)))) m_nil)) (m_cons (m_goB (m_cons (m_var 5) m_nil)) m_nil))))
  m_next)
  (m_seq (m_app (m_tup (m_cons m_str (m_cons (m_if (m_test (m_op (m_var 5) m_int mr_eq)) m_int (m_op m_int (m_goB (m_cons (m_op (m_var 5) m_int mr_sub) m_nil)) mr_add)) m_nil))))
  (m_asg (m_op (m_var 5) m_int mr_sub) (m_name 5)))))
  (m_ret (m_var 4)))))) h⟩)
abbrev sLawImage : Stmt := top 42
theorem scLawImage : FnScope ["ends", "deeds", "found", "now", "word", "gap"] ["ends", "deeds"] (defScope sLawImage) := ⟨rfl, rfl, rfl, by decide +kernel, rfl, by decide +kernel, by decide +kernel⟩
theorem ok_LawImage {f : Addr} {fd : FuncData} (F : Fun K "_law_image" "_law_image" sLawImage f fd) (T : Txt K mg ad) (hM : HasMods base)   : FnG P w K mg base 1 f fd ["ends", "deeds"] (spP (GX K ad tb) p__law_image) :=
  fng F scLawImage (fun {vs H Q E} h => ar_P h) (fun {cdv A fr s H vs Q E} hg hr h =>
  ⟨_, (pss_cons (ps_par (i := 2) (j := 3) (by rfl) scLawImage.nd rfl rfl (by decide) rfl rfl (pa_cons (pe_lst pa_nil) (pa_cons (pv 0) pa_nil)) (by rfl))
  (pss_cons (ps_for PassesOwn.never rfl (pi_seq (pv 1)) (pg_tup rfl (pgs_cons (pg_name (i := 4) scLawImage.nd rfl (Or.inl rfl)) (pgs_cons (pg_name (i := 5) scLawImage.nd rfl (Or.inl rfl)) pgs_nil)))
  (pss_one (ps_if (pt_cmpR (op_eqD hr.units) (pv 4) pe_str (nomark _))
  (pss_cons (ps_expr (pe_bm PySem.F.plainAttrs_list PySem.F.slot_list_append PySem.F.type_list_append mt_append (pv 2) (pa_cons (pe_tup (pa_cons pe_str (pa_cons (pe_op op_sub (pv 5) pe_int) pa_nil))) pa_nil)))
  (pss_one (ps_set (i := 3) scLawImage.nd rfl (Or.inl rfl) (pe_op op_sub (pv 3) pe_int))))
  (pss_one (ps_if (pt_cmpR (op_eqD hr.units) (pv 4) pe_str (nomark _))
  (pss_cons (ps_expr (pe_bm PySem.F.plainAttrs_list PySem.F.slot_list_append PySem.F.type_list_append mt_append (pv 2) (pa_cons (pe_tup (pa_cons pe_str (pa_cons (pe_op op_addG (pv 5) pe_int) pa_nil))) pa_nil)))
  (pss_one (ps_set (i := 3) scLawImage.nd rfl (Or.inl rfl) (pe_op op_addG (pv 3) pe_int))))
  (pss_one (ps_if (pt_cmpR (op_eqD hr.units) (pv 4) pe_str (nomark _))
  (pss_one (ps_expr (pe_bm PySem.F.plainAttrs_list PySem.F.slot_list_append PySem.F.type_list_append mt_append (pv 2) (pa_cons (pe_tup (pa_cons pe_str (pa_cons (pe_ifExp (pt_cmpR op_gt (pv 5) pe_int (nomark _)) (pe_op op_sub (pv 3) (pv 5)) pe_int) pa_nil))) pa_nil))))
  (pss_one (ps_expr (pe_bm PySem.F.plainAttrs_list PySem.F.slot_list_append PySem.F.type_list_append mt_append (pv 2) (pa_cons (pe_tup (pa_cons (pe_ifExp (pt_cmpR (op_eqD hr.units) (pv 4) pe_str (nomark _)) pe_str pe_str) (pa_cons (pv 5) pa_nil))) pa_nil)))))))))))
  (pss_one (ps_ret (pe_revL (pv 2)))))),
  run_P ((m_seq (m_par2 (mxs_cons (mx_o (m_lst m_nil)) (mxs_cons (mx_v (m_var 0)) mxs_nil)))
  (m_seq (m_for (m_seqI (m_var 1)) (m_gtup (m_gcons (m_name 4) (m_gcons (m_name 5) m_gnil)))
  (m_ifS (m_test (m_op (m_var 4) m_str mr_eq))
  (m_seq (m_app (m_tup (m_cons m_str (m_cons (m_op (m_var 5) m_int mr_sub) m_nil))))
  (m_asg (m_op (m_var 3) m_int mr_sub) (m_name 3)))
  (m_ifS (m_test (m_op (m_var 4) m_str mr_eq))
  (m_seq (m_app (m_tup (m_cons m_str (m_cons (m_op (m_var 5) m_int mr_add) m_nil))))
  (m_asg (m_op (m_var 3) m_int mr_add) (m_name 3)))
  (m_ifS (m_test (m_op (m_var 4) m_str mr_eq))
  (m_app (m_tup (m_cons m_str (m_cons (m_if (m_test (m_op (m_var 5) m_int mr_gt)) (m_op (m_var 3) (m_var 5) mr_sub) m_int) m_nil))))
  (m_app (m_tup (m_cons (m_if (m_test (m_op (m_var 4) m_str mr_eq)) m_str m_str) (m_cons (m_var 5) m_nil))))))))
  (m_ret (m_fz (m_revL (m_var 2))))))) h⟩)
abbrev sLawClosedRight : Stmt := top 44
theorem scLawClosedRight : FnScope ["ends", "mine", "its", "one", "other", "image", "told"] ["ends", "mine", "its"] (defScope sLawClosedRight) := ⟨rfl, rfl, rfl, by decide +kernel, rfl, by decide +kernel, by decide +kernel⟩
theorem ok_LawClosedRight {f : Addr} {fd : FuncData} (F : Fun K "_law_closed_right" "_law_closed_right" sLawClosedRight f fd) (T : Txt K mg ad) (hM : HasMods base) (OW : Own (GX K ad tb)) (na_ends : ∀ C ∈ (GX K ad tb).own, NoAttr K ((GX K ad tb).A C) "ends") (na_deeds : ∀ C ∈ (GX K ad tb).own, NoAttr K ((GX K ad tb).A C) "deeds") {fe_Tangle : Addr} {fde_Tangle : FuncData} (eq_Tangle : EqX P w K mg base 1 ad.c_Tangle fe_Tangle fde_Tangle (spP (GX K ad tb) p_Tangle___eq__)) {f0 : Addr} {fd0 : FuncData} (cClosed : CalX P w K mg base "closed" 7 f0 fd0 ["one", "other"] (spP (GX K ad tb) p_closed)) (kClosed_other_one : KBx K fd0 ["one", "other"] 0 ["other", "one"] [1, 0]) {f1 : Addr} {fd1 : FuncData} (cTangle : MakX P w K mg base "Tangle" 5 ad.c_Tangle f1 fd1 ["self", "ends", "deeds"] (spI (GX K ad tb) "Tangle" p_Tangle___init__)) {f2 : Addr} {fd2 : FuncData} (cLawImage : Cal P w K mg base "_law_image" 1 f2 fd2 ["ends", "deeds"] (spP (GX K ad tb) p__law_image)) {f3 : Addr} {fd3 : FuncData} (cLeadIn : CalX P w K mg base "lead_in" 4 f3 fd3 ["tangle"] (spP (GX K ad tb) p_lead_in)) (kLeadIn_tangle : KBx K fd3 ["tangle"] 0 ["tangle"] [0]) : FnG P w K mg base 8 f fd ["ends", "mine", "its"] (spP (GX K ad tb) p__law_closed_right) :=
  fng F scLawClosedRight (fun {vs H Q E} h => ar_P h) (fun {cdv A fr s H vs Q E} hg hr h =>
  ⟨_, (pss_cons (ps_par3 (i := 3) (j := 4) (l := 5) (by rfl) scLawClosedRight.nd rfl rfl rfl (by decide) (by decide) (by decide) rfl rfl rfl (pa_cons (pe_makeX cTangle (hr.mono (by decide)) (by rfl) (pa_cons (pv 0) (pa_cons (pv 1) pa_nil))) (pa_cons (pe_makeX cTangle (hr.mono (by decide)) (by rfl) (pa_cons (pv 0) (pa_cons (pv 2) pa_nil))) (pa_cons (pe_go cLawImage hg (hr.mono (by decide)) (by rfl) (pa_cons (pv 0) (pa_cons (pv 2) pa_nil))) pa_nil))) (by rfl))
  (pss_cons (ps_if (pt_cmpR op_ne (pe_callB (call_reprA hr hg hM) (by rfl) T.z_repr (by decide +kernel) (pa_cons (pe_lst (pa_cons (pe_goX cLeadIn (hr.mono (by decide)) (by rfl) (pa_cons (pv 4) pa_nil)) (pa_cons (pe_kwX cLeadIn kLeadIn_tangle (hr.mono (by decide)) (by rfl) (pk_cons (pv 4) pk_nil)) pa_nil))) pa_nil)) (pe_callB (call_reprA hr hg hM) (by rfl) T.z_repr (by decide +kernel) (pa_cons (pe_op op_mulG (pe_lst (pa_cons (pe_callTy call_tupK (by rfl) T.z_tuple (by decide +kernel) (pa_cons (pv 5) pa_nil)) pa_nil)) pe_int) pa_nil)) (nomark _))
  (pss_one (ps_ret pe_bl))
  pss_nil)
  (pss_cons (ps_set (i := 6) scLawClosedRight.nd rfl (Or.inl rfl) (pe_goX cClosed (hr.mono (by decide)) (by rfl) (pa_cons (pv 3) (pa_cons (pv 4) pa_nil))))
  (pss_cons (ps_if (PW.pt (pw_or (pt_not (pt_val (pe_callB call_isi (by rfl) T.z_isinstance (by decide +kernel) (pa_cons (pv 6) (pa_cons (pe_glob (v := .ref ad.c_Tangle) (by rfl) T.g_Tangle rfl) pa_nil))))) (pw_or1 (pt_cmpR op_ne (pe_callB (call_reprA hr hg hM) (by rfl) T.z_repr (by decide +kernel) (pa_cons (pe_lst (pa_cons (pe_fld (pv 6) (by rfl)) (pa_cons (pe_fld (pv 6) (by rfl)) pa_nil))) pa_nil)) (pe_callB (call_reprA hr hg hM) (by rfl) T.z_repr (by decide +kernel) (pa_cons (pe_lst (pa_cons pe_int (pa_cons (pe_callTy call_tupK (by rfl) T.z_tuple (by decide +kernel) (pa_cons (pe_op op_addG (pv 5) (pv 1)) pa_nil)) pa_nil))) pa_nil)) (nomark _)))))
  (pss_one (ps_ret pe_bl))
  pss_nil)
  (pss_one (ps_ret (pe_and (pe_cmpR (op_eqS eq_Tangle (hr.mono (by decide))) (pe_kwX cClosed kClosed_other_one (hr.mono (by decide)) (by rfl) (pk_cons (pv 4) (pk_cons (pv 3) pk_nil))) (pv 6) (nomark _)) (pe_one (pe_or (pe_cmpR op_gt (pv 0) pe_int (nomark _)) (pe_one (pe_cmpR (op_eqD hr.units) (pe_go cLawImage hg (hr.mono (by decide)) (by rfl) (pa_cons pe_int (pa_cons (pe_callTy call_list_of (by rfl) T.z_list (by decide +kernel) (pa_cons (pe_goX cLeadIn (hr.mono (by decide)) (by rfl) (pa_cons (pv 4) pa_nil)) pa_nil)) pa_nil))) (pv 2) (nomark _)))))))))))),
  run_P ((m_seq (m_par3 (mxs_cons (mx_v (m_mk0C mo_Tangle aA_Tangle (m_cons (m_var 0) (m_cons (m_var 1) m_nil)))) (mxs_cons (mx_v (m_mk0C mo_Tangle aA_Tangle (m_cons (m_var 0) (m_cons (m_var 2) m_nil)))) (mxs_cons (mx_v (m_go0 (m_cons (m_var 0) (m_cons (m_var 2) m_nil)))) mxs_nil))))
  (m_seq (m_ifS (m_test (m_op (m_cb (m_cons (m_fz (m_lst (m_cons (m_go0 (m_cons (m_var 4) m_nil)) (m_cons (m_kw0 m_nil (m_cons (m_var 4) m_nil)) m_nil)))) m_nil) mb_repr) (m_cb (m_cons (m_fz (m_rep (m_fz (m_lst (m_cons (m_cb (m_cons (m_var 5) m_nil) mb_tup) m_nil))) m_int)) m_nil) mb_repr) mr_neS))
  (m_ret m_bl)
  m_next)
  (m_seq (m_asg (m_go0 (m_cons (m_var 3) (m_cons (m_var 4) m_nil))) (m_name 6))
  (m_seq (m_ifS (m_or (m_not (m_tb (m_isoC OW mo_Tangle aA_Tangle (m_var 6)))) (m_test (m_op (m_cb (m_cons (m_fz (m_lst (m_cons (m_fld OW na_ends (m_var 6)) (m_cons (m_fld OW na_deeds (m_var 6)) m_nil)))) m_nil) mb_repr) (m_cb (m_cons (m_fz (m_lst (m_cons m_int (m_cons (m_cb (m_cons (m_op (m_var 5) (m_var 1) mr_add) m_nil) mb_tup) m_nil)))) m_nil) mb_repr) mr_neS)))
  (m_ret m_bl)
  m_next)
  (m_ret (m_andV (m_eqI aA_Tangle (m_kw0 m_nil (m_cons (m_var 4) (m_cons (m_var 3) m_nil))) (m_var 6)) (m_orV (m_op (m_var 0) m_int mr_gt) (m_op (m_go0 (m_cons m_int (m_cons (m_fz (m_listOf (m_cons (m_go0 (m_cons (m_var 4) m_nil)) m_nil))) m_nil))) (m_var 2) mr_eq))))))))) h⟩)
abbrev sLaw : Stmt := top 45
theorem scLaw : FnScope ["script", "turn", "its", "due", "many", "other", "ends", "far", "mine", "more", "one", "pier"] ["script"] (defScope sLaw) := ⟨rfl, rfl, rfl, by decide +kernel, rfl, by decide +kernel, by decide +kernel⟩
abbrev qLaw : Str := ("law" : Str) ++ ".<locals>."
theorem ok_Law {f : Addr} {fd : FuncData} {gh cc Pt : Addr} {cdh : Value} (hH : HrdC K mg gh cdh) (TE : ErrG (GX K ad tb) ad.c_RopeError) (ne_most : ∀ C ∈ (GX K ad tb).er, PySem.W.findIn K (.ref ((GX K ad tb).A C)) "most" = some none) (ne_part : ∀ C ∈ (GX K ad tb).er, PySem.W.findIn K (.ref ((GX K ad tb).A C)) "part" = some none) (ne_what : ∀ C ∈ (GX K ad tb).er, PySem.W.findIn K (.ref ((GX K ad tb).A C)) "what" = some none) (TB : TabB base mg cc Pt) (mem : (Pt, qLaw ++ "<lambda>") ∈ tb) (one : ∀ p ∈ tb, p.1 = Pt → p.2 = qLaw ++ "<lambda>") (F : FunC K "law" "law" sLaw f fd cc) (T : Txt K mg ad) (hM : HasMods base) (OW : Own (GX K ad tb)) (na_deeds : ∀ C ∈ (GX K ad tb).own, NoAttr K ((GX K ad tb).A C) "deeds") {f0 : Addr} {fd0 : FuncData} (cLawPier : Cal P w K mg base "_law_pier" 1 f0 fd0 ["script"] (spBox K)) {f1 : Addr} {fd1 : FuncData} (cLawMoor : CalX P w K mg base "_law_moor" 1 f1 fd1 ["pier", "many"] (spB (GX K ad tb) p__law_moor)) {f2 : Addr} {fd2 : FuncData} (cTangle : MakX P w K mg base "Tangle" 5 ad.c_Tangle f2 fd2 ["self", "ends", "deeds"] (spI (GX K ad tb) "Tangle" p_Tangle___init__)) {f3 : Addr} {fd3 : FuncData} (cLawDeeds : CalX P w K mg base "_law_deeds" 3 f3 fd3 ["pier", "ends", "many", "most"] (spB (GX K ad tb) p__law_deeds)) {f4 : Addr} {fd4 : FuncData} (cLawPick : CalX P w K mg base "_law_pick" 2 f4 fd4 ["pier", "some"] (spB (GX K ad tb) p__law_pick)) {f5 : Addr} {fd5 : FuncData} (cLawClosedRight : Cal P w K mg base "_law_closed_right" 8 f5 fd5 ["ends", "mine", "its"] (spP (GX K ad tb) p__law_closed_right)) {f6 : Addr} {fd6 : FuncData} (cClosed : CalX P w K mg base "closed" 7 f6 fd6 ["one", "other"] (spP (GX K ad tb) p_closed)) (good : ∀ (ns : List Int) (rest : Int), ns.length ≤ 60 → ∃ δ, p_law ⟨lawE 12 11, ⟨ns, 0, rest⟩⟩ = .ok (.rt (.bl true) δ)) : FnG P w K mg base 15 f fd ["script"] (spLawP tb K) :=
  fngC F scLaw (fun {vs H Q E} h => by obtain ⟨a, ns, rfl, _⟩ := h; rfl) (fun {A fr s H vs Q E} hg hr h => by
    obtain ⟨a, ns, rfl, hS, hT, q⟩ := h
    exact ⟨_, (pss_cons (ps_set (i := 11) scLaw.nd rfl (Or.inr rfl) (pe_go cLawPier hg (hr.mono (by decide)) (by rfl) (pa_cons (pv 0) pa_nil)))
  (pss_cons (ps_for PassesOwn.never rfl (pi_range1 (by rfl) T.z_range (pa_cons pe_int pa_nil)) (pg_name (i := 1) scLaw.nd rfl (Or.inl rfl))
  (pss_cons (ps_set (i := 6) scLaw.nd rfl (Or.inr rfl) (pe_op op_mulG pe_int (pe_goX cLawMoor (hr.mono (by decide)) (by rfl) (pa_cons (pv 11) (pa_cons pe_int pa_nil)))))
  (pss_cons (ps_asg (pe_tup (pa_cons (pe_goX cLawDeeds (hr.mono (by decide)) (by rfl) (pa_cons (pv 11) (pa_cons (pv 6) (pa_cons (pe_goX cLawPick (hr.mono (by decide)) (by rfl) (pa_cons (pv 11) (pa_cons (pe_lst (pa_cons pe_int (pa_cons pe_int (pa_cons pe_int (pa_cons pe_int pa_nil))))) pa_nil))) (pa_cons pe_int pa_nil))))) (pa_cons (pe_goX cLawDeeds (hr.mono (by decide)) (by rfl) (pa_cons (pv 11) (pa_cons (pv 6) (pa_cons (pe_goX cLawPick (hr.mono (by decide)) (by rfl) (pa_cons (pv 11) (pa_cons (pe_lst (pa_cons pe_int (pa_cons pe_int (pa_cons pe_int pa_nil)))) pa_nil))) (pa_cons pe_int pa_nil))))) pa_nil))) (pg_tup rfl (pgs_cons (pg_name (i := 8) scLaw.nd rfl (Or.inr rfl)) (pgs_cons (pg_name (i := 2) scLaw.nd rfl (Or.inl rfl)) pgs_nil))))
  (pss_cons (ps_if (PW.pt (pw_or (pt_not (pt_val (pe_go cLawClosedRight hg (hr.mono (by decide)) (by rfl) (pa_cons (pv 6) (pa_cons (pv 8) (pa_cons (pv 2) pa_nil)))))) (pw_or1 (pt_not (pt_val (pe_go cLawClosedRight hg (hr.mono (by decide)) (by rfl) (pa_cons (pv 6) (pa_cons (pv 2) (pa_cons (pv 2) pa_nil)))))))))
  (pss_one (ps_ret pe_bl))
  pss_nil)
  (pss_cons (ps_set (i := 7) scLaw.nd rfl (Or.inr rfl) (pe_op op_mulG pe_int (pe_goX cLawMoor (hr.mono (by decide)) (by rfl) (pa_cons (pv 11) (pa_cons pe_int pa_nil)))))
  (pss_cons (ps_set (i := 3) scLaw.nd rfl (Or.inl rfl) (pe_ifExp (pt_cmpR (op_eqD hr.units) (pv 7) (pv 6) (nomark _)) pe_non (pe_tup (pa_cons pe_str (pa_cons pe_str pa_nil)))))
  (pss_one (ps_if (pt_cmpR (op_neD hr.units) (pe_hear hH T TE  ne_most ne_part ne_what (k := 12) (by rfl) (hr.mono (by decide)) ⟨TB, rfl, mem, one, lamT_by (N := ["script", "turn", "its", "due", "many", "other", "ends", "far", "mine", "more", "one", "pier"]) (sc := defScope sLaw) (by decide +kernel), lamBinds0, (fun _ z => nomatch z)⟩ (dvs := []) (ps := []) (Or.inl ⟨rfl, rfl⟩) (fun A outer s H E f c' hr2 => (pe_goE cClosed (hr2.mono (by decide)) (takes_of rfl rfl rfl rfl) (by rfl) (pa_cons (pe_makeX cTangle (hr2.mono (by decide)) (by rfl) (pa_cons (pv 6) (pa_cons (pv 8) pa_nil))) (pa_cons (pe_makeX cTangle (hr2.mono (by decide)) (by rfl) (pa_cons (pv 7) (pa_cons (pe_goX cLawDeeds (hr2.mono (by decide)) (by rfl) (pa_cons (pv 11) (pa_cons (pv 7) (pa_cons pe_int (pa_cons pe_int pa_nil))))) pa_nil))) pa_nil))))) (pv 3) (nomark _))
  (pss_one (ps_ret pe_bl))
  pss_nil))))))))
  (pss_cons (ps_if (pt_cmpR (op_neD hr.units) (pe_goX cLawMoor (hr.mono (by decide)) (by rfl) (pa_cons (pv 11) (pa_cons pe_int pa_nil))) pe_int (nomark _))
  (pss_one (ps_ret pe_bl))
  pss_nil)
  (pss_cons (ps_set (i := 4) scLaw.nd rfl (Or.inl rfl) (pe_goX cLawMoor (hr.mono (by decide)) (by rfl) (pa_cons (pv 11) (pa_cons pe_int pa_nil))))
  (pss_cons (ps_asg (pe_tup (pa_cons (pe_makeX cTangle (hr.mono (by decide)) (by rfl) (pa_cons pe_int (pa_cons (pe_op op_addG (pe_op op_mulG (pe_lst (pa_cons (pe_tup (pa_cons pe_str (pa_cons pe_int pa_nil))) pa_nil)) (pv 4)) (pe_lst (pa_cons (pe_tup (pa_cons pe_str (pa_cons pe_int pa_nil))) pa_nil))) pa_nil))) (pa_cons (pe_makeX cTangle (hr.mono (by decide)) (by rfl) (pa_cons pe_int (pa_cons (pe_op op_addG (pe_op op_mulG (pe_lst (pa_cons (pe_tup (pa_cons pe_str (pa_cons pe_int pa_nil))) pa_nil)) (pe_op op_sub pe_int (pv 4))) (pe_lst (pa_cons (pe_tup (pa_cons pe_str (pa_cons pe_int pa_nil))) pa_nil))) pa_nil))) pa_nil))) (pg_tup rfl (pgs_cons (pg_name (i := 10) scLaw.nd rfl (Or.inr rfl)) (pgs_cons (pg_name (i := 5) scLaw.nd rfl (Or.inl rfl)) pgs_nil))))
  (pss_cons (ps_set (i := 9) scLaw.nd rfl (Or.inr rfl) (pe_makeX cTangle (hr.mono (by decide)) (by rfl) (pa_cons pe_int (pa_cons (pe_op op_addG (pe_op op_mulG (pe_lst (pa_cons (pe_tup (pa_cons pe_str (pa_cons pe_int pa_nil))) pa_nil)) (pe_op op_sub pe_int (pv 4))) (pe_lst (pa_cons (pe_tup (pa_cons pe_str (pa_cons pe_int pa_nil))) pa_nil))) pa_nil))))
  (pss_one (ps_ret (pe_and (pe_cmpR (op_eqD hr.units) (pe_callB call_len (by rfl) T.z_len PySem.boot_len (pa_cons (pe_fld (pe_goX cClosed (hr.mono (by decide)) (by rfl) (pa_cons (pv 10) (pa_cons (pv 5) pa_nil))) (by rfl)) pa_nil)) pe_int (nomark _)) (pe_one (pe_cmpR (op_eqD hr.units) (pe_hear hH T TE  ne_most ne_part ne_what (k := 12) (by rfl) (hr.mono (by decide)) ⟨TB, rfl, mem, one, lamT_by (N := ["script", "turn", "its", "due", "many", "other", "ends", "far", "mine", "more", "one", "pier"]) (sc := defScope sLaw) (by decide +kernel), lamBinds0, (fun _ z => nomatch z)⟩ (dvs := []) (ps := []) (Or.inl ⟨rfl, rfl⟩) (fun A outer s H E f c' hr2 => (pe_goE cClosed (hr2.mono (by decide)) (takes_of rfl rfl rfl rfl) (by rfl) (pa_cons (pv 10) (pa_cons (pv 9) pa_nil))))) (pe_tup (pa_cons pe_str (pa_cons pe_str (pa_cons pe_int pa_nil)))) (nomark _)))))))))))), run_law (K := K) (A := adA ad) (tb := tb) (E := E0) (k := 11) (by decide) (by decide) (m_seq (m_for (m_rg1 (m_cons m_int m_nil)) (m_name 1)
  (m_seq (m_asg (m_op m_int (m_goB (m_cons m_int m_nil)) mr_mul) (m_name 6))
  (m_seq (m_asg (m_tup (m_cons (m_goB (m_cons (m_var 6) (m_cons (m_goB (m_cons (m_fz (m_lst (m_cons m_int (m_cons m_int (m_cons m_int (m_cons m_int m_nil)))))) m_nil)) (m_cons m_int m_nil)))) (m_cons (m_goB (m_cons (m_var 6) (m_cons (m_goB (m_cons (m_fz (m_lst (m_cons m_int (m_cons m_int (m_cons m_int m_nil))))) m_nil)) (m_cons m_int m_nil)))) m_nil))) (m_gtup (m_gcons (m_name 8) (m_gcons (m_name 2) m_gnil))))
  (m_seq (m_ifS (m_or (m_not (m_tb (m_go0 (m_cons (m_var 6) (m_cons (m_var 8) (m_cons (m_var 2) m_nil)))))) (m_not (m_tb (m_go0 (m_cons (m_var 6) (m_cons (m_var 2) (m_cons (m_var 2) m_nil)))))))
  (m_ret m_bl)
  m_next)
  (m_seq (m_asg (m_op m_int (m_goB (m_cons m_int m_nil)) mr_mul) (m_name 7))
  (m_seq (m_asg (m_if (m_test (m_op (m_var 7) (m_var 6) mr_eq)) m_non (m_tup (m_cons m_str (m_cons m_str m_nil)))) (m_name 3))
  (m_ifS (m_test (m_op (m_hear (ers := ["BadTangle", "Misfit", "TooMany"]) rfl fun _ => (m_cons (m_mk0C mo_Tangle aA_Tangle (m_cons (m_var 6) (m_cons (m_var 8) m_nil))) (m_cons (m_mk0C mo_Tangle aA_Tangle (m_cons (m_var 7) (m_cons (m_goB (m_cons (m_var 7) (m_cons m_int (m_cons m_int m_nil)))) m_nil))) m_nil))) (m_var 3) mr_ne))
  (m_ret m_bl)
  m_next)))))))
  (m_seq (m_ifS (m_test (m_op (m_goB (m_cons m_int m_nil)) m_int mr_ne))
  (m_ret m_bl)
  m_next)
  (m_seq (m_asg (m_goB (m_cons m_int m_nil)) (m_name 4))
  (m_seq (m_asg (m_tup (m_cons (m_mk0C mo_Tangle aA_Tangle (m_cons m_int (m_cons (m_fz (m_cat (m_fz (m_rep (m_fz (m_lst (m_cons (m_tup (m_cons m_str (m_cons m_int m_nil))) m_nil))) (m_var 4))) (m_fz (m_lst (m_cons (m_tup (m_cons m_str (m_cons m_int m_nil))) m_nil))))) m_nil))) (m_cons (m_mk0C mo_Tangle aA_Tangle (m_cons m_int (m_cons (m_fz (m_cat (m_fz (m_rep (m_fz (m_lst (m_cons (m_tup (m_cons m_str (m_cons m_int m_nil))) m_nil))) (m_op m_int (m_var 4) mr_sub))) (m_fz (m_lst (m_cons (m_tup (m_cons m_str (m_cons m_int m_nil))) m_nil))))) m_nil))) m_nil))) (m_gtup (m_gcons (m_name 10) (m_gcons (m_name 5) m_gnil))))
  (m_seq (m_asg (m_mk0C mo_Tangle aA_Tangle (m_cons m_int (m_cons (m_fz (m_cat (m_fz (m_rep (m_fz (m_lst (m_cons (m_tup (m_cons m_str (m_cons m_int m_nil))) m_nil))) (m_op m_int (m_var 4) mr_sub))) (m_fz (m_lst (m_cons (m_tup (m_cons m_str (m_cons m_int m_nil))) m_nil))))) m_nil))) (m_name 9))
  (m_ret (m_andV (m_op (m_cb (m_cons (m_fld OW na_deeds (m_go0 (m_cons (m_var 10) (m_cons (m_var 5) m_nil)))) m_nil) mb_len) m_int mr_eq) (m_op (m_hear (ers := ["BadTangle", "Misfit", "TooMany"]) rfl fun _ => (m_cons (m_var 10) (m_cons (m_var 9) m_nil))) (m_tup (m_cons m_str (m_cons m_str (m_cons m_int m_nil)))) mr_eq)))))))) hT hS q good⟩)
end
end K65
namespace K65
open PySem PySem.Spec PyProof.Rows L2 Rp LamX RZ Pl
theorem ends_behind_ (w : Wd) (m : Int) : p_ends_behind [.str w.s, .int m] = .ok (.int (eb w m)) := by
  unfold p_ends_behind
  walk_at "pdef"
  cases w <;> simp_arith [wd_join, wd_open] <;> rfl
theorem fitting_gaps_ (w : Wd) {m : Int} (h : -1000 ≤ m) (k : m ≤ 1000) : p__fitting_gaps [.str w.s, .int m] = .ok (.lst (rangeD (gapL w m) (gapR w m))) := by
  unfold p__fitting_gaps
  walk_at "pdef"
  have r1 : rgOk 0 m = true := rgOk_ok (by omega) (by omega) (by omega) (by omega)
  have r2 : rgOk 0 (if 1 > m then 1 else m) = true := rgOk_ok (by omega) (by omega) (by split <;> omega) (by split <;> omega)
  have r3 : rgOk 1 (if 2 > m - 1 then 2 else m - 1) = true := rgOk_ok (by omega) (by omega) (by split <;> omega) (by split <;> omega)
  by_cases z : 0 < m <;> cases w <;> simp_arith [wd_join, wd_open, z, r1, r2, r3, gapL, gapR]
theorem is_integer_ (i : Int) : p_is_integer [.int i] = .ok (.bl true) := by
  unfold p_is_integer
  walk_at "pdef"
  simp_arith [Pl.var_run]
theorem is_within_ (i a b : Int) : p_is_within [.int i, .int a, .int b] = .ok (.bl (decide (a ≤ i) && decide (i ≤ b))) := by
  unfold p_is_within
  walk_at "pdef"
  by_cases h : a ≤ i <;> simp_arith [is_integer_, h]
theorem is_deed_ (d : De) : p__is_deed [deD d] = .ok (.bl (decide (0 ≤ d.2) && decide (d.2 ≤ 23))) := by
  unfold p__is_deed
  walk_at "pdef"
  simp_arith [deD, is_within_, wd_in]
  rfl
theorem are_deeds_ {v : D} {ds : List De} (hv : IsSeq v (ds.map deD)) (hl : ds.length ≤ 4000) : p_are_deeds [v] = .ok (.bl (ds.all fun d => decide (0 ≤ d.2) && decide (d.2 ≤ 23))) := by
  have e1 : pLcs (pName 1) pYes (pGo0 p__is_deed (pCons (pVar 1) pNil)) [1] (ds.map deD) ⟨[some (EV.val v), none], δ0⟩ = .ok (ds.map fun d => .bl (decide (0 ≤ d.2) && decide (d.2 ≤ 23)), ⟨[some (EV.val v), none], δ0⟩) := lcs_maps fun d _ => by simp_arith [is_deed_]
  have sm : small (ds.map deD).length = true := small_ok (by rw [List.length_map]; omega)
  have ll : ¬ (4000 : Int) < (((ds.map deD).length : Nat) : Int) := by rw [List.length_map]; omega
  unfold p_are_deeds
  walk_at "pdef"
  simp_arith [hv.islt, hv.len, hv.seq, ll, sm, e1, allP, blsOf_map (fun _ => rfl) ds, List.all_map]
  rfl
theorem demand_fitting_ {v : D} {ds : List De} {e k : Int} (hv : IsSeq v (ds.map deD)) (h : runE ds e = some k) (l : -1 ≤ e) (u : e ≤ 24) : p_demand_fitting [v, .int e, .int k] = .ok .non := by
  unfold p_demand_fitting
  walk_at "pdef"
  refine Gd.eq ?_
  simp_arith [hv.seq]
  refine Gd.bind (for_inv (fun r s => ∃ m a c rs, r = rs.map deD ∧ s = ⟨[some (.val v), some (.val (.int e)), some (.val (.int k)), some (.val (.int m)), a, c], δ0⟩ ∧ runE rs m = some k ∧ -1 ≤ m ∧ m ≤ 24) ?_ ⟨e, none, none, ds, rfl, rfl, h, l, u⟩) ?_
  · rintro d r s ⟨m, a, c, rs, e1, rfl, h1, h2, h3⟩
    match rs, e1 with
    | (w, g) :: rs, e1 =>
      rw [List.map_cons] at e1
      injection e1 with e1 e2
      subst e1 e2
      obtain ⟨f1, f2, f3⟩ := runE_cons.mp h1
      have f4 : ¬ (24 : Int) < eb w m := by omega
      have f5 := f1
      unfold fitB at f5
      simp_arith [deD, fitting_gaps_ w (show -1000 ≤ m by omega) (show m ≤ 1000 by omega), in_rg, f5, ends_behind_, f4]
      exact Gd.ok ⟨_, .inl rfl, _, _, _, _, rfl, rfl, f3, fit_low f1 h2, f2⟩
  · rintro o ⟨s', rfl, m, a, c, rs, e1, rfl, h1, _⟩
    match rs, e1 with
    | [], _ =>
      cases h1
      simp_arith [Pl.var_run]
      exact Gd.ok rfl
theorem ne_ED : (Str.ofString "ends" = Str.ofString "deeds") = False := by decide +kernel
theorem tangle_init_ {v : D} {ds : List De} {e : Int} (hv : IsSeq v (ds.map deD)) (hl : ds.length ≤ 4000) (h : runE ds e = some 0) (l : 0 ≤ e) (u : e ≤ 16) (ev : e.fmod 2 = 0) : p_Tangle___init__ [.int e, v] = .ok [("ends", .int e), ("deeds", .tup (ds.map deD))] := by
  have sm : small (ds.map deD).length = true := small_ok (by rw [List.length_map]; omega)
  have al : (ds.all fun d => decide (0 ≤ d.2) && decide (d.2 ≤ 23)) = true := by
    rw [List.all_eq_true]
    intro d m
    obtain ⟨a, b⟩ := runE_gaps h (by omega) d m
    rw [decide_eq_true a, decide_eq_true b]
    rfl
  have e1 : ∀ x y z : Option EV, pLcs (pName 3) pYes (pCB tupP (pCons (pVar 3) pNil)) [3] (ds.map deD) ⟨[x, y, z, none], δ0⟩ = .ok (ds.map deD, ⟨[x, y, z, none], δ0⟩) := fun x y z => lcs_maps fun d _ => by simp_arith [deD]
  unfold p_Tangle___init__
  walk_at "pdefI"
  simp_arith [is_within_, l, u, ev, are_deeds_ hv hl, al, demand_fitting_ hv h (show -1 ≤ e by omega) (show e ≤ 24 by omega), hv.seq, sm, e1, ne_ED]
def tgD (e : Int) (ds : List De) : D := .ins "Tangle" [("ends", .int e), ("deeds", .tup (ds.map deD))]
theorem tg_eq {e : Int} {ds : List De} : D.ins (Str.ofString "Tangle") [(Str.ofString "ends", .int e), (Str.ofString "deeds", .tup (ds.map deD))] = tgD e ds := rfl
theorem fld_ends {e : Int} {ds : List De} : fldP "ends" (tgD e ds) = .ok (.int e) := rfl
theorem fld_deeds {e : Int} {ds : List De} : fldP "deeds" (tgD e ds) = .ok (.tup (ds.map deD)) := rfl
theorem iso_tg {e : Int} {ds : List De} : isoP "Tangle" (tgD e ds) = .ok (.bl true) := rfl
theorem tangle_eq_ {e f : Int} {a b : List De} : p_Tangle___eq__ [tgD e a, tgD f b] = .ok (.bl (decide (e = f) && decide (a = b))) := by
  unfold p_Tangle___eq__
  walk_at "pdef"
  by_cases h : e = f <;> simp_arith [iso_tg, fld_ends, fld_deeds, des_eq, h]
theorem demand_tangle_ {e : Int} {a : List De} {s : Str} : p_demand_tangle [tgD e a, .str s] = .ok .non := by
  unfold p_demand_tangle
  walk_at "pdef"
  simp_arith [iso_tg]
theorem taken_back_ {w : Wd} {g m : Int} (h : fitB w m g = true) : p__taken_back [.str w.s, .int g, .int m] = .ok (deD (tb1 (w, g) m)) := by
  unfold p__taken_back
  walk_at "pdef"
  rw [fit_iff] at h
  have sm : small 2 = true := by decide
  cases w
  · simp_arith [wd_over, sm]; rfl
  · simp_arith [wd_over, wd_under, sm]; rfl
  · simp_arith [wd_over, wd_under, wd_join, sm]; rfl
  · simp_arith [wd_over, wd_under, wd_join, wd_open, sm]; rfl
  · have h : (0 : Int) ≤ g ∧ g < m := h
    have n : (m = 0) = False := eq_false (by omega)
    have e : (m - g).fmod m = if g > 0 then m - g else 0 := by
      rw [Int.fmod_eq_emod_of_nonneg _ (by omega)]
      split
      · rw [Int.emod_eq_of_lt (by omega) (by omega)]
      · have : g = 0 := by omega
        rw [this, Int.sub_zero, Int.emod_self]
    simp_arith [wd_over, wd_under, wd_join, wd_open, sm, n, e]
    rfl
theorem lead_in_ {e k : Int} {ds : List De} (hl : ds.length ≤ 4000) (h : runE ds e = some k) (l : -1 ≤ e) (u : e ≤ 24) : p_lead_in [tgD e ds] = .ok (.tup ((img ds e).map deD)) := by
  unfold p_lead_in
  walk_at "pdef"
  refine Gd.eq ?_
  have s0 : small 0 = true := by decide
  simp_arith [demand_tangle_, fld_ends, fld_deeds, s0]
  refine Gd.bind (for_inv (fun r s => ∃ m a c rs xs, r = rs.map deD ∧ s = ⟨[some (.val (tgD e ds)), some (.own (xs.map deD)), some (.val (.int m)), a, c], δ0⟩ ∧ runE rs m = some k ∧ -1 ≤ m ∧ m ≤ 24 ∧ xs ++ backs rs m = backs ds e ∧ xs.length + rs.length = ds.length) ?_ ⟨e, none, none, ds, [], rfl, rfl, h, l, u, rfl, Nat.zero_add _⟩) ?_
  · rintro d r s ⟨m, a, c, rs, xs, e1, rfl, h1, h2, h3, h4, h5⟩
    match rs, e1 with
    | (w, g) :: rs, e1 =>
      rw [List.map_cons] at e1
      injection e1 with e1 e2
      subst e1 e2
      obtain ⟨f1, f2, f3⟩ := runE_cons.mp h1
      have sm : small ((xs.map deD).length + 1) = true := small_ok (by rw [List.length_map]; rw [List.length_cons] at h5; omega)
      simp_arith [deD_tup, taken_back_ f1, ends_behind_, sm]
      refine Gd.ok ⟨_, .inl rfl, eb w m, some (.val (.str w.s)), some (.val (.int g)), rs, xs ++ [tb1 (w, g) m], rfl, ?_, f3, fit_low f1 h2, f2, ?_, ?_⟩
      · rw [List.map_append]
        rfl
      · rw [List.append_assoc]
        exact h4
      · rw [List.length_append, ← h5, List.length_cons]
        simp only [List.length_cons, List.length_nil]
        omega
  · rintro o ⟨s', rfl, m, a, c, rs, xs, e1, rfl, h1, h2, h3, h4, h5⟩
    match rs, e1 with
    | [], _ =>
      have h4 : xs = backs ds e := by rw [← h4]; exact (List.append_nil _).symm
      simp_arith [Pl.var_run]
      refine Gd.ok ?_
      rw [h4, ← List.map_reverse]
      rfl
theorem demand_tangles_ {e f : Int} {a b : List De} : p__demand_tangles [tgD e a, tgD f b] = .ok .non := by
  unfold p__demand_tangles
  walk_at "pdef"
  simp_arith [demand_tangle_]
theorem demand_one_rim_ {e f : Int} {a b : List De} : p__demand_one_rim [tgD e a, tgD f b] = if e = f then .ok .non else .err ⟨"Misfit", [("part", .str "other")]⟩ := by
  unfold p__demand_one_rim
  walk_at "pdef"
  by_cases h : e = f <;> simp_arith [fld_ends, h]
theorem closed_ {e f k : Int} {a b : List De} (ha : runE a e = some 0) (hb : runE b f = some 0) (la : 0 ≤ e) (ua : e ≤ 24) : p_closed [tgD e a, tgD f b] = if e = f then (if a.length + b.length ≤ 4000 then .ok (tgD 0 (img b e ++ a)) else .err ⟨"TooMany", [("most", .int 4000), ("what", .str "deeds")]⟩) else .err ⟨"Misfit", [("part", .str "other")]⟩ := by
  unfold p_closed
  walk_at "pdef"
  by_cases h : e = f
  · subst h
    by_cases h2 : a.length + b.length ≤ 4000
    · have h3 : ¬ (4000 : Int) < ((a.length : Nat) : Int) + ((b.length : Nat) : Int) := by omega
      have r : runE (img b e ++ a) 0 = some 0 := runE_app (img_run hb (by omega) ua) ha
      have ln : (img b e ++ a).length ≤ 4000 := by rw [List.length_append, img_len]; omega
      have sm : small (((img b e).map deD).length + (a.map deD).length) = true := small_ok (by rw [List.length_map, List.length_map, img_len]; omega)
      have ti := tangle_init_ (v := .tup ((img b e).map deD ++ a.map deD)) (.inr (by rw [List.map_append])) ln r (by decide) (by decide) (by decide)
      simp_arith [demand_tangles_, demand_one_rim_, fld_deeds, h2, h3, List.length_map, lead_in_ (show b.length ≤ 4000 by omega) hb (show -1 ≤ e by omega) ua, ti]
      rw [if_pos (by rw [List.length_map, List.length_map] at sm; exact sm)]
      simp_arith [ti]
      rfl
    · have h3 : (4000 : Int) < ((a.length : Nat) : Int) + ((b.length : Nat) : Int) := by omega
      simp_arith [demand_tangles_, demand_one_rim_, fld_deeds, h2, h3, List.length_map]
  · simp_arith [demand_tangles_, demand_one_rim_, h]
end K65
namespace K65
open PySem PySem.Spec PyProof.Rows L2 Rp LamX RZ Pl
theorem draw_p1 {l : Nat} (h : l ≤ 1000000) (v : Int) : powP (.int (v.fmod 2147483587 + 63421 * (l : Int) + 4783)) (.int 5) = .ok (.int ((v.fmod 2147483587 + 63421 * (l : Int) + 4783) ^ 5)) := by
  have := fmod_bounds (a := v) (m := 2147483587) (by decide)
  have k : (v.fmod 2147483587 + 63421 * (l : Int) + 4783).natAbs < 18446744073709551616 := by omega
  exact pow_of (k := 5) k (by decide)
theorem draw_p2 {l : Nat} (h : l ≤ 1000000) (v : Int) : powP (.int (v.fmod 2147483543 * (2 * (l : Int) + 5021) + 94253 * (l : Int) * (l : Int) + 63421)) (.int 3) = .ok (.int ((v.fmod 2147483543 * (2 * (l : Int) + 5021) + 94253 * (l : Int) * (l : Int) + 63421) ^ 3)) := by
  have a := fmod_bounds (a := v) (m := 2147483543) (by decide)
  have b1 : 0 ≤ v.fmod 2147483543 * (2 * (l : Int) + 5021) := Int.mul_nonneg a.1 (by omega)
  have b2 : v.fmod 2147483543 * (2 * (l : Int) + 5021) ≤ 2147483543 * 3000000 := Int.mul_le_mul (by omega) (by omega) (by omega) (by omega)
  have b3 : 0 ≤ 94253 * (l : Int) * (l : Int) := Int.mul_nonneg (by omega) (by omega)
  have b4 : 94253 * (l : Int) * (l : Int) ≤ 94253000000 * 1000000 := Int.mul_le_mul (by omega) (by omega) (by omega) (by omega)
  have k : (v.fmod 2147483543 * (2 * (l : Int) + 5021) + 94253 * (l : Int) * (l : Int) + 63421).natAbs < 18446744073709551616 := by
    generalize v.fmod 2147483543 * (2 * (l : Int) + 5021) = X at *
    generalize 94253 * (l : Int) * (l : Int) = Y at *
    omega
  exact pow_of (k := 3) k (by decide)
theorem draw_ {δ : DS} {m : Int} {n : Nat} (h1 : 0 < m) (h2 : m < 1073741824) (hd : Dn n δ) (hn : n ≤ 1000000) : Gd (p__law_moor δ [.int m]) (Drawn (n + 1) m) := by
  unfold p__law_moor
  have m0 : (m = 0) = False := eq_false (by omega)
  have ma : m.natAbs < 1073741824 := by omega
  have hlap := hd.lap
  have fin : ∀ (v : Int) (x : DS), Dn (n + 1) x → Gd (Res.ok (D.int (v.fmod m), x)) (Drawn (n + 1) m) := fun v x hx => Gd.ok ⟨_, rfl, (fmod_bounds h1).1, (fmod_bounds h1).2, hx⟩
  walk_at "gdefB"
  by_cases z : 0 < δ.rest
  · simp_arith [z, m0, ma]
    exact fin _ _ ⟨by show δ.lap ≤ _; omega, hd.len⟩
  · have c1 : ∀ j : Int, cMul 94253 j = true := fun j => cMul_l (by decide) (by decide)
    have c2 : ∀ j : Int, cMul 63421 j = true := fun j => cMul_l (by decide) (by decide)
    have c3 : ∀ j : Int, cMul 2 j = true := fun j => cMul_l (by decide) (by decide)
    have c4 : ∀ v j : Int, cMul (v.fmod 2147483543) j = true := fun v j => by
      have := fmod_bounds (a := v) (m := 2147483543) (by decide)
      exact cMul_l (by omega) (by omega)
    have c5 : ∀ j : Int, cMul j (δ.lap : Int) = true := fun j => cMul_r (by omega) (by omega)
    have p1 := draw_p1 (Nat.le_trans hlap hn)
    have p2 := draw_p2 (Nat.le_trans hlap hn)
    have ne0 : neP (.lst []) (.lst []) = .ok (.bl false) := ints_ne (a := []) (b := [])
    have l0 : (0 : Int) ≤ (δ.lap : Int) + 1 := by omega
    have s0 : small 0 = true := by decide
    have tn : ((δ.lap : Int) + 1).toNat ≤ n + 1 := by omega
    have f64 : ((64 : Nat) < 1073741824) = True := eq_true (by decide)
    have ln : ((δ.lap : Int) < 0) = False := eq_false (by omega)
    by_cases w : δ.ns = []
    · have fin2 : ∀ v : Int, Gd (Res.ok (D.int (v.fmod m), (⟨[], ((δ.lap : Int) + 1).toNat, δ.rest⟩ : DS))) (Drawn (n + 1) m) := fun v => fin v _ ⟨tn, Nat.zero_le _⟩
      simp_arith [z, m0, ma, ints_ne0, ne0, w, s0, Pl.mul_int, c1, c2, c3, c4, c5, p1, p2, l0, ln, f64]
      exact fin2 _
    · have nl : (((δ.ns.length : Nat) : Int) = 0) = False := eq_false (by have := List.length_pos_iff.mpr w; omega)
      obtain ⟨v, ev⟩ := at_lap (lap := δ.lap) w
      have fin2 : ∀ v r : Int, Gd (Res.ok (D.int (v.fmod m), (⟨δ.ns, ((δ.lap : Int) + 1).toNat, r⟩ : DS))) (Drawn (n + 1) m) := fun v r => fin v _ ⟨tn, hd.len⟩
      by_cases y : (δ.lap : Int) < ((δ.ns.length : Nat) : Int)
      · by_cases x : 1000000000000000000 ≤ (if v < 0 then -v else v)
        · simp_arith [z, m0, ma, ints_ne0, w, s0, Pl.mul_int, c1, c3, l0, nl, ev, List.length_map, y, x]
          exact fin2 _ _
        · simp_arith [z, m0, ma, ints_ne0, w, s0, Pl.mul_int, c1, c2, c3, c4, c5, p1, p2, l0, nl, ev, List.length_map, y, x, f64]
          exact fin2 _ _
      · simp_arith [z, m0, ma, ints_ne0, w, s0, Pl.mul_int, c1, c2, c3, c4, c5, p1, p2, l0, nl, ev, List.length_map, y, f64]
        exact fin2 _ _
end K65
namespace K65
open PySem PySem.Spec PyProof.Rows L2 Rp LamX RZ Pl
theorem pick_ {δ : DS} {xs : List D} {n : Nat} (hx : xs ≠ []) (hl : xs.length ≤ 1000) (hd : Dn n δ) (hn : n ≤ 1000000) : Gd (p__law_pick δ [.lst xs]) fun x => x.1 ∈ xs ∧ Dn (n + 1) x.2 := by
  have hp := List.length_pos_iff.mpr hx
  obtain ⟨⟨d, δ'⟩, e, r, er, r0, r1, d'⟩ := draw_ (m := (xs.length : Int)) (by omega) (by omega) hd hn
  have er : d = .int r := er
  subst er
  unfold p__law_pick
  walk_at "gdefB"
  have lt : r.toNat < xs.length := by omega
  have ea : atI xs r = some xs[r.toNat] := by
    have := at_nat lt
    rwa [Int.toNat_of_nonneg r0] at this
  simp_arith [e, ea]
  exact Gd.ok ⟨List.getElem_mem lt, d'⟩
theorem heard_none : p__law_heard .non = .ok .non := by
  unfold p__law_heard
  simp_arith [toldF]
theorem heard_misfit {x : D} : p__law_heard (.exc "Misfit" [("part", x)]) = .ok (.tup [.str "misfit", x]) := by
  unfold p__law_heard
  simp_arith [toldF, (eq_false (by decide +kernel) : (Str.ofString "Misfit" = Str.ofString "TooMany") = False), (by decide +kernel : (Str.ofString "part" == Str.ofString "part") = true)]
theorem heard_many {x y : D} : p__law_heard (.exc "TooMany" [("most", y), ("what", x)]) = .ok (.tup [.str "many", x, y]) := by
  unfold p__law_heard
  simp_arith [toldF, (by decide +kernel : (Str.ofString "what" == Str.ofString "most") = false), (by decide +kernel : (Str.ofString "what" == Str.ofString "what") = true), (by decide +kernel : (Str.ofString "most" == Str.ofString "most") = true)]
theorem image_ {e k : Int} {v : D} {ds : List De} (hv : IsSeq v (ds.map deD)) (hl : ds.length ≤ 4000) (h : runE ds e = some k) (l : -1 ≤ e) (u : e ≤ 24) : p__law_image [.int e, v] = .ok (.lst ((img ds e).map deD)) := by
  unfold p__law_image
  walk_at "pdef"
  refine Gd.eq ?_
  have s0 : small 0 = true := by decide
  have s2 : small 2 = true := by decide
  simp_arith [s0, hv.seq]
  refine Gd.bind (for_inv (fun r s => ∃ m a c rs xs, r = rs.map deD ∧ s = ⟨[some (.val (.int e)), some (.val v), some (.own (xs.map deD)), some (.val (.int m)), a, c], δ0⟩ ∧ runE rs m = some k ∧ -1 ≤ m ∧ m ≤ 24 ∧ xs ++ backs rs m = backs ds e ∧ xs.length + rs.length = ds.length) ?_ ⟨e, none, none, ds, [], rfl, rfl, h, l, u, rfl, Nat.zero_add _⟩) ?_
  · rintro d r s ⟨m, a, c, rs, xs, e1, rfl, h1, h2, h3, h4, h5⟩
    match rs, e1 with
    | (w, g) :: rs, e1 =>
      rw [List.map_cons] at e1
      injection e1 with e1 e2
      subst e1 e2
      obtain ⟨f1, f2, f3⟩ := runE_cons.mp h1
      have sm : small ((xs.map deD).length + 1) = true := small_ok (by rw [List.length_map]; rw [List.length_cons] at h5; omega)
      have fin : Gd (Res.ok (Out.nx ⟨[some (.val (.int e)), some (.val v), some (.own (xs.map deD ++ [deD (tb1 (w, g) m)])), some (.val (.int (eb w m))), some (.val (.str w.s)), some (.val (.int g))], δ0⟩)) fun o => ∃ s', (o = .nx s' ∨ o = .ct s') ∧ ∃ m a c rs' xs, rs.map deD = rs'.map deD ∧ s' = ⟨[some (.val (.int e)), some (.val v), some (.own (xs.map deD)), some (.val (.int m)), a, c], δ0⟩ ∧ runE rs' m = some k ∧ -1 ≤ m ∧ m ≤ 24 ∧ xs ++ backs rs' m = backs ds e ∧ xs.length + rs'.length = ds.length := by
        refine Gd.ok ⟨_, .inl rfl, eb w m, some (.val (.str w.s)), some (.val (.int g)), rs, xs ++ [tb1 (w, g) m], rfl, ?_, f3, fit_low f1 h2, f2, ?_, ?_⟩
        · rw [List.map_append]
          rfl
        · rw [List.append_assoc]
          exact h4
        · rw [List.length_append, ← h5, List.length_cons]
          simp only [List.length_cons, List.length_nil]
          omega
      cases w
      · simp_arith [deD_tup, wd_join, wd_open, wd_turn, wd_over, sm, s2]
        exact fin
      · simp_arith [deD_tup, wd_join, wd_open, wd_turn, wd_over, sm, s2]
        exact fin
      · simp_arith [deD_tup, wd_join, wd_open, wd_turn, wd_over, sm, s2]
        exact fin
      · simp_arith [deD_tup, wd_join, wd_open, wd_turn, wd_over, sm, s2]
        exact fin
      · by_cases z : (0 : Int) < g
        · have t : tb1 (.turn, g) m = (.turn, m - g) := by show (Wd.turn, if g > 0 then m - g else 0) = _; rw [if_pos z]
          rw [t] at fin
          simp_arith [deD_tup, wd_join, wd_open, wd_turn, wd_over, sm, s2, z]
          exact fin
        · have t : tb1 (.turn, g) m = (.turn, 0) := by show (Wd.turn, if g > 0 then m - g else 0) = _; rw [if_neg z]
          rw [t] at fin
          simp_arith [deD_tup, wd_join, wd_open, wd_turn, wd_over, sm, s2, z]
          exact fin
  · rintro o ⟨s', rfl, m, a, c, rs, xs, e1, rfl, h1, h2, h3, h4, h5⟩
    match rs, e1 with
    | [], _ =>
      have h4 : xs = backs ds e := by rw [← h4]; exact (List.append_nil _).symm
      simp_arith [Pl.var_run]
      refine Gd.ok ?_
      rw [h4, ← List.map_reverse]
      rfl
end K65
namespace K65
open PySem PySem.Spec PyProof.Rows L2 Rp LamX RZ Pl
theorem eb_cr {w : Wd} (h : w = .over ∨ w = .under ∨ w = .turn) {m g : Int} (h0 : 0 ≤ g) (h1 : g < m) : fitB w m g = true ∧ eb w m = m := by
  rcases h with rfl | rfl | rfl <;> exact ⟨fit_iff.mpr ⟨h0, h1⟩, rfl⟩
/-- a deed is put behind -/
theorem runE_snoc {xs : List De} {w : Wd} {e m g k : Int} (h : runE xs e = some m) (f : fitB w m g = true) (e2 : eb w m = k) (l : k ≤ 24) : runE (xs ++ [(w, g)]) e = some k := runE_app h (runE_one f e2 l)
theorem map_snoc {xs : List De} {d : De} : xs.map deD ++ [deD d] = (xs ++ [d]).map deD := by rw [List.map_append]; rfl
/-- the gap of a join is drawn -/
theorem join_gap {m r : Int} (hm : m ≠ 2) (h2 : 2 ≤ m) (h0 : 0 ≤ r) (h1 : r < m - 2) : fitB .join m (1 + r) = true := by
  refine fit_iff.mpr ?_
  show (if 0 < m then (1 : Int) else 0) ≤ 1 + r ∧ 1 + r < (if 0 < m then (if 2 > m - 1 then 2 else m - 1) else m)
  rw [if_pos (by omega), if_pos (by omega)]
  split <;> omega
theorem deeds_ {δ : DS} {n : Nat} {e many most : Int} (h0 : 0 ≤ e) (h1 : e ≤ 16) (ev : e % 2 = 0) (k0 : 0 ≤ many) (k1 : many ≤ 20) (j1 : most ≤ 16) (hd : Dn n δ) (hn : n ≤ 900000) :
    Gd (p__law_deeds δ [.int e, .int many, .int most]) fun x => ∃ ds : List De, x.1 = .lst (ds.map deD) ∧ runE ds e = some 0 ∧ ds.length ≤ 50 ∧ Dn (n + 120) x.2 := by
  unfold p__law_deeds
  walk_at "gdefB"
  have rk : inR many = true := inR_ok (by omega) (by omega)
  simp_arith [rg1_, rk]
  refine Gd.bind (for_inv (fun r s => ∃ xs m x y δ, s = ⟨[some .box, some (.val (.int e)), some (.val (.int many)), some (.val (.int most)), some (.own (xs.map deD)), some (.val (.int m)), x, y], δ⟩ ∧ runE xs e = some m ∧ 0 ≤ m ∧ m ≤ 24 ∧ m % 2 = 0 ∧ xs.length + r.length ≤ 20 ∧ Dn (n + 3 * (20 - r.length)) δ) ?_ ⟨[], e, none, none, δ, rfl, rfl, h0, by omega, ev, by
      unfold rangeD; rw [List.length_map, List.length_range]; simp only [List.length_nil]; omega, hd.le (by omega)⟩) ?_
  · rintro d r s ⟨xs, m, x, y, δ, rfl, c1, c2, c3, c4, c5, c6⟩
    rw [List.length_cons] at c5 c6
    have sm : small ((xs.map deD).length + 1) = true := small_ok (by rw [List.length_map]; omega)
    obtain ⟨⟨v, δ1⟩, e1, q, rfl, q0, q1, d1⟩ := draw_ (m := 9) (by decide) (by decide) c6 (by omega)
    have fin : ∀ {w : Wd} {g k : Int} {x y : Option EV} {δ : DS}, fitB w m g = true → eb w m = k → 0 ≤ k → k ≤ 24 → Dn (n + 3 * (20 - r.length)) δ →
        Gd (Res.ok (Out.nx ⟨[some .box, some (.val (.int e)), some (.val (.int many)), some (.val (.int most)), some (.own (xs.map deD ++ [deD (w, g)])), some (.val (.int k)), x, y], δ⟩)) fun o => ∃ s', (o = .nx s' ∨ o = .ct s') ∧ ∃ xs m x y δ, s' = ⟨[some .box, some (.val (.int e)), some (.val (.int many)), some (.val (.int most)), some (.own (xs.map deD)), some (.val (.int m)), x, y], δ⟩ ∧ runE xs e = some m ∧ 0 ≤ m ∧ m ≤ 24 ∧ m % 2 = 0 ∧ xs.length + r.length ≤ 20 ∧ Dn (n + 3 * (20 - r.length)) δ := by
      intro w g k x y δ f1 f2 f3 f4 f5
      refine Gd.ok ⟨_, .inl rfl, xs ++ [(w, g)], k, x, y, δ, by rw [map_snoc], runE_snoc c1 f1 f2 f4, f3, f4, ?_, by rw [List.length_append]; simp only [List.length_cons, List.length_nil]; omega, f5⟩
      subst f2
      cases w <;> simp only [eb] <;> omega
    by_cases z : m = 0 ∨ (q = 0 ∧ m < most)
    · obtain ⟨⟨v, δ2⟩, e2, g, rfl, g0, g1, d2⟩ := draw_ (m := if m > 1 then m else 1) (by split <;> omega) (by split <;> omega) d1 (by omega)
      have f : fitB .open_ m g = true := fit_iff.mpr ⟨g0, by show g < (if 1 > m then 1 else m); (repeat' split at g1) <;> (repeat' split) <;> omega⟩
      have goal := fin (w := .open_) (x := some (.val d)) (y := some (.val (.int q))) f rfl (show 0 ≤ m + 2 by omega) (show m + 2 ≤ 24 by rcases z with z | z <;> omega) (d2.le (by omega))
      by_cases z1 : m = 0
      · subst z1
        simp_arith [e1, e2, sm]
        exact goal
      · obtain ⟨z2, z3⟩ := z.resolve_left z1
        subst z2
        simp_arith [e1, e2, sm, z1, z3]
        exact goal
    · have z1 : m ≠ 0 := fun w => z (.inl w)
      have m2 : 2 ≤ m := by omega
      by_cases z4 : q = 1
      · subst z4
        by_cases z5 : m = 2
        · subst z5
          have goal := fin (w := .join) (g := 1) (x := some (.val d)) (y := some (.val (.int 1))) (δ := δ1) (by decide) rfl (show (0 : Int) ≤ 2 - 2 by decide) (show (2 : Int) - 2 ≤ 24 by decide) (d1.le (by omega))
          simp_arith [e1, sm]
          exact goal
        · obtain ⟨⟨v, δ2⟩, e2, g, rfl, g0, g1, d2⟩ := draw_ (m := m - 2) (by omega) (by omega) d1 (by omega)
          have goal := fin (w := .join) (g := 1 + g) (x := some (.val d)) (y := some (.val (.int 1))) (δ := δ2) (join_gap z5 m2 g0 g1) rfl (show 0 ≤ m - 2 by omega) (show m - 2 ≤ 24 by omega) (d2.le (by omega))
          simp_arith [e1, e2, sm, z1, z5]
          exact goal
      · obtain ⟨⟨wd, δ2⟩, e2, mem, d2⟩ := pick_ (xs := [.str "over", .str "under", .str "over", .str "under", .str "turn"]) (by simp) (by decide) d1 (by omega)
        obtain ⟨w, hw, rfl⟩ : ∃ w : Wd, (w = .over ∨ w = .under ∨ w = .turn) ∧ wd = .str w.s := by
          simp only [List.mem_cons, List.not_mem_nil, or_false] at mem
          rcases mem with rfl | rfl | rfl | rfl | rfl
          · exact ⟨.over, .inl rfl, rfl⟩
          · exact ⟨.under, .inr (.inl rfl), rfl⟩
          · exact ⟨.over, .inl rfl, rfl⟩
          · exact ⟨.under, .inr (.inl rfl), rfl⟩
          · exact ⟨.turn, .inr (.inr rfl), rfl⟩
        obtain ⟨⟨v, δ3⟩, e3, g, rfl, g0, g1, d3⟩ := draw_ (m := m) (by omega) (by omega) d2 (by omega)
        obtain ⟨f1, f2⟩ := eb_cr hw g0 g1
        have goal := fin (w := w) (g := g) (k := m) (x := some (.val d)) (y := some (.val (.int q))) (δ := δ3) f1 f2 c2 c3 (d3.le (by omega))
        by_cases z6 : q = 0
        · subst z6
          have z7 : ¬ m < most := fun w => z (.inr ⟨rfl, w⟩)
          simp_arith [e1, e2, e3, sm, z1, z7]
          exact goal
        · simp_arith [e1, e2, e3, sm, z1, z4, z6]
          exact goal
  · rintro o ⟨s', rfl, xs, m, x, y, δ, rfl, c1, c2, c3, c4, c5, c6⟩
    simp_arith [Pl.var_run]
    refine Gd.bind (while_inv (fun j s => ∃ xs m x y δ, s = ⟨[some .box, some (.val (.int e)), some (.val (.int many)), some (.val (.int most)), some (.own (xs.map deD)), some (.val (.int m)), x, y], δ⟩ ∧ runE xs e = some m ∧ m = 2 * (j : Int) ∧ j ≤ 12 ∧ xs.length ≤ 20 + 2 * (12 - j) ∧ Dn (n + 60 + 4 * (12 - j)) δ) ?_ (n := (m / 2).toNat) (by omega) ⟨xs, m, x, y, δ, rfl, c1, by omega, by omega, by rw [List.length_nil] at c5; omega, c6.le (by rw [List.length_nil]; omega)⟩) ?_
    · rintro j s ⟨xs, m, x, y, δ, rfl, c1, rfl, c3, c4, c5⟩
      by_cases z : j = 0
      · subst z
        simp_arith [Pl.var_run]
        exact Gd.ok ⟨fun w => (nomatch w), fun _ => ⟨xs, _, x, y, δ, rfl, c1, rfl, trivial, c4, c5⟩⟩
      · obtain ⟨k, rfl⟩ : ∃ k, j = k + 1 := ⟨j - 1, by omega⟩
        have z1 : (0 : Int) < 2 * ((k + 1 : Nat) : Int) := by omega
        simp_arith [z1]
        refine Gd.ok ⟨fun _ => ⟨k, rfl, ?_⟩, fun w => (nomatch w)⟩
        generalize hm : 2 * ((k + 1 : Nat) : Int) = m at *
        obtain ⟨⟨v, δ1⟩, e1, q, rfl, q0, q1, d1⟩ := draw_ (m := 3) (by decide) (by decide) c5 (by omega)
        have fin : ∀ {xs : List De} {g k2 : Int} {x y : Option EV} {δ : DS}, runE xs e = some m → fitB .join m g = true → k2 = m - 2 → xs.length ≤ 20 + 2 * (12 - (k + 1)) + 1 → Dn (n + 60 + 4 * (12 - (k + 1)) + 4) δ →
            Gd (Res.ok (Out.nx ⟨[some .box, some (.val (.int e)), some (.val (.int many)), some (.val (.int most)), some (.own (xs.map deD ++ [deD (.join, g)])), some (.val (.int k2)), x, y], δ⟩)) fun o => ∃ s' j, (o = .nx s' ∨ o = .ct s') ∧ j ≤ k ∧ ∃ xs m x y δ, s' = ⟨[some .box, some (.val (.int e)), some (.val (.int many)), some (.val (.int most)), some (.own (xs.map deD)), some (.val (.int m)), x, y], δ⟩ ∧ runE xs e = some m ∧ m = 2 * (j : Int) ∧ j ≤ 12 ∧ xs.length ≤ 20 + 2 * (12 - j) ∧ Dn (n + 60 + 4 * (12 - j)) δ := by
          intro xs g k2 x y δ r1 r2 r3 r4 r5
          subst r3
          exact Gd.ok ⟨_, k, .inl rfl, Nat.le_refl _, xs ++ [(.join, g)], m - 2, x, y, δ, by rw [map_snoc], runE_snoc r1 r2 rfl (show m - 2 ≤ 24 by omega), by omega, by omega, by rw [List.length_append]; simp only [List.length_cons, List.length_nil]; omega, r5.le (by omega)⟩
        by_cases z6 : q = 0
        · subst z6
          obtain ⟨⟨wd, δ2⟩, e2, mem, d2⟩ := pick_ (xs := [.str "over", .str "under"]) (by simp) (by decide) d1 (by omega)
          obtain ⟨w, hw, rfl⟩ : ∃ w : Wd, (w = .over ∨ w = .under ∨ w = .turn) ∧ wd = .str w.s := by
            simp only [List.mem_cons, List.not_mem_nil, or_false] at mem
            rcases mem with rfl | rfl
            · exact ⟨.over, .inl rfl, rfl⟩
            · exact ⟨.under, .inr (.inl rfl), rfl⟩
          obtain ⟨⟨v, δ3⟩, e3, g, rfl, g0, g1, d3⟩ := draw_ (m := m) (by omega) (by omega) d2 (by omega)
          obtain ⟨f1, f2⟩ := eb_cr hw g0 g1
          have sm : small ((xs.map deD).length + 1) = true := small_ok (by rw [List.length_map]; omega)
          have sm2 : small (((xs ++ [(w, g)]).map deD).length + 1) = true := small_ok (by rw [List.length_map, List.length_append]; simp only [List.length_cons, List.length_nil]; omega)
          have mm : xs.map deD ++ [D.tup [.str w.s, .int g]] = (xs ++ [(w, g)]).map deD := map_snoc (d := (w, g))
          have ln : (xs ++ [(w, g)]).length ≤ 20 + 2 * (12 - (k + 1)) + 1 := by rw [List.length_append]; simp only [List.length_cons, List.length_nil]; omega
          have rr := runE_snoc c1 f1 f2 (by omega)
          by_cases z5 : m = 2
          · have goal := fin (g := 1) (x := x) (y := y) (k2 := 2 - 2) rr (by rw [z5]; decide) (by omega) ln (d3.le (by omega))
            subst z5
            simp_arith [e1, e2, e3, sm, sm2, mm]
            exact goal
          · obtain ⟨⟨v, δ4⟩, e4, g2, rfl, g20, g21, d4⟩ := draw_ (m := m - 2) (by omega) (by omega) d3 (by omega)
            have goal := fin (g := 1 + g2) (x := x) (y := y) rr (join_gap z5 (by omega) g20 g21) rfl ln (d4.le (by omega))
            simp_arith [e1, e2, e3, e4, sm, sm2, mm, z5]
            exact goal
        · have sm : small ((xs.map deD).length + 1) = true := small_ok (by rw [List.length_map]; omega)
          by_cases z5 : m = 2
          · have goal := fin (g := 1) (x := x) (y := y) (k2 := 2 - 2) c1 (by rw [z5]; decide) (by omega) (by omega) (d1.le (by omega))
            subst z5
            simp_arith [e1, z6, sm]
            exact goal
          · obtain ⟨⟨v, δ4⟩, e4, g2, rfl, g20, g21, d4⟩ := draw_ (m := m - 2) (by omega) (by omega) d1 (by omega)
            have goal := fin (g := 1 + g2) (x := x) (y := y) c1 (join_gap z5 (by omega) g20 g21) rfl (by omega) (d4.le (by omega))
            simp_arith [e1, e4, z5, z6, sm]
            exact goal
    · rintro o ⟨s', rfl, xs, m, x, y, δ, rfl, c1, rfl, c3, c4, c5⟩
      simp_arith [Pl.var_run]
      have c4 : xs.length ≤ 20 + 2 * (12 - 0) := c4
      have c4 : xs.length ≤ 50 := by omega
      exact Gd.ok ⟨xs, rfl, c1, c4, c5.le (by omega)⟩
end K65
namespace K65
open PySem PySem.Spec PyProof.Rows L2 Rp LamX RZ Pl
theorem eqI_ {e f : Int} {a b : List De} : eqIP "Tangle" p_Tangle___eq__ false (tgD e a) (tgD f b) = .ok (.bl (decide (e = f) && decide (a = b))) := by
  show (if (decide ((Str.ofString "Tangle") = (Str.ofString "Tangle")) && decide ((Str.ofString "Tangle") = (Str.ofString "Tangle"))) = true then (match p_Tangle___eq__ [tgD e a, tgD f b] with | .ok (.bl z) => Res.ok (D.bl (if false then !z else z)) | _ => Res.bad) else Res.bad) = _
  rw [if_pos (by decide +kernel)]
  rw [tangle_eq_]
  rfl
theorem rep2_ {d : D} : repD [d] 2 = [d, d] := rfl
theorem ixs10_ {a b : D} : ixs [1, 0] [a, b] = [b, a] := rfl
theorem ixs0_ {a : D} : ixs [0] [a] = [a] := rfl
theorem fit_two {a : List De} (ha : ∀ d ∈ a, -100000 ≤ d.2 ∧ d.2 ≤ 100000) (hl : a.length ≤ 100) : Fit 64 15000000 (.list [.tuple (a.map dePy), .tuple (a.map dePy)]) := by
  have f := (fit_des ha hl).tuple
  exact ((FitA.cons f (FitA.cons (e := 0) f FitA.nil)).list).le (by decide) (by decide)
theorem fit_end {a : List De} (ha : ∀ d ∈ a, -100000 ≤ d.2 ∧ d.2 ≤ 100000) (hl : a.length ≤ 100) : Fit 64 15000000 (.list [.int 0, .tuple (a.map dePy)]) := by
  have f := (fit_des ha hl).tuple
  have g : Fit 2 60 (.int 0) := (fit_int (n := 0) (i := 0) (by decide)).le (by decide) (by decide)
  exact ((FitA.cons g (FitA.cons (e := 0) f FitA.nil)).list).le (by decide) (by decide)
theorem closed_right_ {e : Int} {a b : List De} (h0 : 0 ≤ e) (h1 : e ≤ 16) (ev : e % 2 = 0) (ha : runE a e = some 0) (hb : runE b e = some 0) (la : a.length ≤ 50) (lb : b.length ≤ 50) : p__law_closed_right [.int e, .lst (a.map deD), .lst (b.map deD)] = .ok (.bl true) := by
  have fm : e.fmod 2 = 0 := by rw [Int.fmod_eq_emod_of_nonneg _ (by decide)]; exact ev
  have ta := tangle_init_ (v := .lst (a.map deD)) (.inl rfl) (by omega) ha h0 h1 fm
  have tb := tangle_init_ (v := .lst (b.map deD)) (.inl rfl) (by omega) hb h0 h1 fm
  have ib := image_ (v := .lst (b.map deD)) (.inl rfl) (by omega) hb (by omega) (by omega)
  have lb' := lead_in_ (by omega) hb (show -1 ≤ e by omega) (by omega)
  have cl : p_closed [tgD e a, tgD e b] = .ok (tgD 0 (img b e ++ a)) := by rw [closed_ (k := 0) ha hb h0 (by omega), if_pos rfl, if_pos (by omega)]
  have gi : ∀ d ∈ img b e, -100000 ≤ d.2 ∧ d.2 ≤ 100000 := fun d m => by
    have := runE_gaps (img_run hb (by omega) (by omega)) (by decide) d m
    omega
  have ga : ∀ d ∈ img b e ++ a, -100000 ≤ d.2 ∧ d.2 ≤ 100000 := fun d m => by
    rcases List.mem_append.mp m with m | m
    · exact gi d m
    · have := runE_gaps ha (by omega) d m
      omega
  have r1 := repr_of (py_lst (pys_cons (py_tup (des_py (img b e))) (pys_cons (py_tup (des_py (img b e))) pys_nil))) (fit_two gi (by rw [img_len]; omega))
  have r2 := repr_of (py_lst (pys_cons (py_int (i := 0)) (pys_cons (py_tup (des_py (img b e ++ a))) pys_nil))) (fit_end ga (by rw [List.length_append, img_len]; omega))
  have ma : (img b e).map deD ++ a.map deD = (img b e ++ a).map deD := (List.map_append ..).symm
  have sm : small (((img b e).map deD).length + (a.map deD).length) = true := small_ok (by rw [List.length_map, List.length_map, img_len]; omega)
  have last : (0 : Int) < e ∨ p__law_image [.int 0, .lst ((img b e).map deD)] = .ok (.lst (b.map deD)) := by
    by_cases z : 0 < e
    · exact .inl z
    · have z : e = 0 := by omega
      subst z
      have i2 := image_ (v := .lst ((img b 0).map deD)) (.inl rfl) (by rw [img_len]; omega) (img_run hb (by omega) (by omega)) (by decide) (by decide)
      rw [img_img hb (by decide) (by decide)] at i2
      exact .inr i2
  unfold p__law_closed_right
  walk_at "pdef"
  have rp : (decide (-(2 ^ 63) ≤ (2 : Int)) && decide ((2 : Int) < 2 ^ 63) && small (1 * Int.toNat 2)) = true := by decide
  rcases last with last | last
  · simp_arith [ta, tb, ib, tg_eq, lb', ixs0_, ixs10_, rep2_, r1, r2, rp, neS_str, cl, iso_tg, fld_ends, fld_deeds, ma, sm, eqI_, last]
  · by_cases z : (0 : Int) < e <;> simp_arith [ta, tb, ib, tg_eq, lb', ixs0_, ixs10_, rep2_, r1, r2, rp, neS_str, cl, iso_tg, fld_ends, fld_deeds, ma, sm, eqI_, last, z, des_eqL]
end K65
namespace K65
open PySem PySem.Spec PyProof.Rows L2 Rp LamX RZ Pl
theorem hear_go {ers : List Str} {told : D → Res D} {f : List D → Res D} {a : LF} {s : PS} : pHear ers told f a s = (nerr (a s)).bind fun x => match f x.1 with
  | .ok _ => up x.2 (nerr (told .non))
  | .err e => up x.2 (nerr (if ers.contains e.cls then told (.exc e.cls e.fs) else .bad))
  | .bad => .bad := (rfl)
theorem ne_non : neP .non .non = .ok (.bl false) := by rw [Pl.ne_of py_non py_non shaped_none shaped_none, PyData.eqv]; rfl
theorem two_py {a b : Str} : D.py (.tup [.str a, .str b]) = some (.tuple [.str a, .str b]) := py_tup (pys_cons py_str (pys_cons py_str pys_nil))
theorem many_py {a b : Str} {i : Int} : D.py (.tup [.str a, .str b, .int i]) = some (.tuple [.str a, .str b, .int i]) := py_tup (pys_cons py_str (pys_cons py_str (pys_cons py_int pys_nil)))
theorem ne_mis : neP (.tup [.str "misfit", .str "other"]) (.tup [.str "misfit", .str "other"]) = .ok (.bl false) := by
  rw [Pl.ne_of two_py two_py (by decide +kernel) (by decide +kernel)]
  exact congrArg (fun b => Res.ok (D.bl b)) (by decide +kernel)
theorem eq_many : eqP (.tup [.str "many", .str "deeds", .int 4000]) (.tup [.str "many", .str "deeds", .int 4000]) = .ok (.bl true) := by
  rw [eq_of many_py many_py (by decide +kernel) (by decide +kernel)]
  exact congrArg (fun b => Res.ok (D.bl b)) (by decide +kernel)
theorem rep_map {d : De} {k : Int} : repD [deD d] k = (List.replicate k.toNat d).map deD := by
  unfold repD
  generalize k.toNat = n
  induction n with
  | zero => rfl
  | succ n ih =>
    rw [List.replicate_succ, List.flatten_cons, ih, List.replicate_succ, List.map_cons]
    rfl
theorem runE_rep {w : Wd} {g m : Int} (f : fitB w m g = true) (e : eb w m = m) (l : m ≤ 24) : ∀ k : Nat, runE (List.replicate k (w, g)) m = some m
  | 0 => rfl
  | k + 1 => runE_cons.mpr ⟨f, by rw [e]; exact l, by rw [e]; exact runE_rep f e l k⟩
theorem cn1 : [Str.ofString "BadTangle", Str.ofString "Misfit", Str.ofString "TooMany"].contains (Str.ofString "Misfit") = true := by decide +kernel
theorem cn2 : [Str.ofString "BadTangle", Str.ofString "Misfit", Str.ofString "TooMany"].contains (Str.ofString "TooMany") = true := by decide +kernel
theorem good (ns : List Int) (rest : Int) (hns : ns.length ≤ 60) : ∃ δ, p_law ⟨lawE 12 11, ⟨ns, 0, rest⟩⟩ = .ok (.rt (.bl true) δ) := by
  have goal : Gd (p_law ⟨lawE 12 11, ⟨ns, 0, rest⟩⟩) fun o => ∃ δ, o = .rt (.bl true) δ := by
    have st : lawE 12 11 = [none, none, none, none, none, none, none, none, none, none, none, some .box] := rfl
    rw [st]
    unfold p_law
    have rk : Pl.inR 3 = true := by decide
    have c2 : ∀ j : Int, cMul 2 j = true := fun j => cMul_l (by decide) (by decide)
    simp_arith [rg1_, rk]
    refine Gd.bind (for_inv (fun r s => ∃ x1 x2 x3 x6 x7 x8 δ, s = ⟨[none, x1, x2, x3, none, none, x6, x7, x8, none, none, some .box], δ⟩ ∧ r.length ≤ 3 ∧ Dn (400 * (3 - r.length)) δ) ?_ ⟨none, none, none, none, none, none, ⟨ns, 0, rest⟩, rfl, by decide, ⟨Nat.zero_le _, hns⟩⟩) ?_
    · rintro d r s ⟨x1, x2, x3, x6, x7, x8, δ, rfl, c1, c3⟩
      rw [List.length_cons] at c1 c3
      obtain ⟨⟨v, δ1⟩, e1, q, rfl, q0, q1, d1⟩ := draw_ (m := 7) (by decide) (by decide) c3 (by omega)
      obtain ⟨⟨v, δ2⟩, e2, m2, d2⟩ := pick_ (xs := [.int 4, .int 0, .int 9, .int 20]) (by simp) (by decide) d1 (by omega)
      obtain ⟨k, rfl, k0, k1⟩ : ∃ k : Int, v = .int k ∧ 0 ≤ k ∧ k ≤ 20 := by
        simp only [List.mem_cons, List.not_mem_nil, or_false] at m2
        rcases m2 with rfl | rfl | rfl | rfl <;> exact ⟨_, rfl, by decide, by decide⟩
      obtain ⟨⟨v, δ3⟩, e3, a, rfl, ra, la, d3⟩ := deeds_ (e := 2 * q) (many := k) (most := 14) (by omega) (by omega) (by omega) k0 k1 (by decide) d2 (by omega)
      obtain ⟨⟨v, δ4⟩, e4, m4, d4⟩ := pick_ (xs := [.int 3, .int 0, .int 11]) (by simp) (by decide) d3 (by omega)
      obtain ⟨k2, rfl, k20, k21⟩ : ∃ k : Int, v = .int k ∧ 0 ≤ k ∧ k ≤ 20 := by
        simp only [List.mem_cons, List.not_mem_nil, or_false] at m4
        rcases m4 with rfl | rfl | rfl <;> exact ⟨_, rfl, by decide, by decide⟩
      obtain ⟨⟨v, δ5⟩, e5, b, rfl, rb, lb, d5⟩ := deeds_ (e := 2 * q) (many := k2) (most := 16) (by omega) (by omega) (by omega) k20 k21 (by decide) d4 (by omega)
      have t1 := closed_right_ (e := 2 * q) (by omega) (by omega) (by omega) ra rb la lb
      have t2 := closed_right_ (e := 2 * q) (by omega) (by omega) (by omega) rb rb lb lb
      obtain ⟨⟨v, δ6⟩, e6, p, rfl, p0, p1, d6⟩ := draw_ (m := 7) (by decide) (by decide) d5 (by omega)
      obtain ⟨⟨v, δ7⟩, e7, c, rfl, rc, lc, d7⟩ := deeds_ (e := 2 * p) (many := 2) (most := 14) (by omega) (by omega) (by omega) (by decide) (by decide) (by decide) d6 (by omega)
      have ti := tangle_init_ (v := .lst (a.map deD)) (e := 2 * q) (.inl rfl) (by omega) ra (by omega) (by omega) (by rw [Int.fmod_eq_emod_of_nonneg _ (by decide)]; omega)
      have tj := tangle_init_ (v := .lst (c.map deD)) (e := 2 * p) (.inl rfl) (by omega) rc (by omega) (by omega) (by rw [Int.fmod_eq_emod_of_nonneg _ (by decide)]; omega)
      have cl := closed_ (k := 0) ra rc (by omega) (by omega)
      have fin : ∀ {x1 x2 x3 x6 x7 x8 : Option EV}, Gd (Res.ok (Out.nx ⟨[none, x1, x2, x3, none, none, x6, x7, x8, none, none, some .box], δ7⟩)) fun o => ∃ s', (o = .nx s' ∨ o = .ct s') ∧ ∃ x1 x2 x3 x6 x7 x8 δ, s' = ⟨[none, x1, x2, x3, none, none, x6, x7, x8, none, none, some .box], δ⟩ ∧ r.length ≤ 3 ∧ Dn (400 * (3 - r.length)) δ :=
        Gd.ok ⟨_, .inl rfl, _, _, _, _, _, _, _, rfl, by omega, d7.le (by omega)⟩
      by_cases z : 2 * p = 2 * q
      · rw [if_pos z.symm, if_pos (by omega)] at cl
        have zz : p = q := by omega
        subst zz
        have z : (2 * p = 2 * p) = True := eq_true rfl
        simp_arith [e1, e2, e3, e4, e5, e6, e7, Pl.mul_int, c2, t1, t2, z, hear_go, ti, tj, tg_eq, cl, heard_none, ne_non]
        exact fin
      · rw [if_neg (fun w => z w.symm)] at cl
        simp_arith [e1, e2, e3, e4, e5, e6, e7, Pl.mul_int, c2, t1, t2, z, hear_go, ti, tj, tg_eq, cl, heard_misfit, ne_mis, cn1]
        exact fin
    · rintro o ⟨s', rfl, x1, x2, x3, x6, x7, x8, δ, rfl, c1, c3⟩
      obtain ⟨⟨v, δ1⟩, e1, q, rfl, q0, q1, d1⟩ := draw_ (m := 25) (by decide) (by decide) c3 (by decide)
      by_cases z : q = 4
      · subst z
        obtain ⟨⟨v, δ2⟩, e2, k, rfl, k0, k1, d2⟩ := draw_ (m := 3999) (by decide) (by decide) d1 (by decide)
        have go : ∀ (w : Wd) (g : Int) (n : Nat), fitB w 2 g = true → eb w 2 = 2 → n ≤ 3999 → ∀ ds, ds = List.replicate n (w, g) ++ [((.join, 1) : De)] → runE ds 2 = some 0 ∧ ds.length = n + 1 ∧ p_Tangle___init__ [.int 2, .lst (ds.map deD)] = .ok [("ends", .int 2), ("deeds", .tup (ds.map deD))] := by
          intro w g n f1 f2 f3 ds e
          have r : runE ds 2 = some 0 := by rw [e]; exact runE_app (runE_rep f1 f2 (by decide) n) (runE_one (by decide) (by decide) (by decide))
          have l : ds.length = n + 1 := by rw [e, List.length_append, List.length_replicate]; rfl
          exact ⟨r, l, tangle_init_ (.inl rfl) (by omega) r (by decide) (by decide) (by decide)⟩
        obtain ⟨ra, la, ta⟩ := go .over 1 k.toNat (by decide) rfl (by omega) _ rfl
        obtain ⟨rb, lb, tb⟩ := go .under 0 (3998 - k).toNat (by decide) rfl (by omega) _ rfl
        obtain ⟨rc, lc, tc⟩ := go .under 0 (3999 - k).toNat (by decide) rfl (by omega) _ rfl
        have cl := closed_ (k := 0) (e := 2) (f := 2) ra rb (by decide) (by decide)
        have cm := closed_ (k := 0) (e := 2) (f := 2) ra rc (by decide) (by decide)
        rw [if_pos rfl, if_pos (by omega)] at cl
        rw [if_pos rfl, if_neg (by omega)] at cm
        generalize hA : List.replicate k.toNat ((.over, 1) : De) ++ [(.join, 1)] = A at *
        generalize hB : List.replicate (3998 - k).toNat ((.under, 0) : De) ++ [(.join, 1)] = B at *
        generalize hC : List.replicate (3999 - k).toNat ((.under, 0) : De) ++ [(.join, 1)] = C at *
        have rp : ∀ j : Int, 0 ≤ j → j ≤ 4000 → (decide (-(2 ^ 63) ≤ j) && decide (j < 2 ^ 63) && small (1 * j.toNat)) = true := fun j a b => by
          rw [decide_eq_true (by omega), decide_eq_true (by omega), small_ok (by omega)]
          rfl
        have rl : ∀ (s : Str) (g j : Int), 0 ≤ j → j ≤ 4000 → small ((repD [D.tup [.str s, .int g]] j).length + 1) = true := fun s g j a b => small_ok (by
          unfold repD
          rw [List.length_flatten, List.map_replicate, List.sum_replicate_nat]
          simp only [List.length_cons, List.length_nil]
          omega)
        have aA : repD [D.tup [.str "over", .int 1]] k ++ [D.tup [.str "join", .int 1]] = A.map deD := by
          rw [← hA, List.map_append]
          exact congrArg (· ++ _) (rep_map (d := (.over, 1)))
        have aB : repD [D.tup [.str "under", .int 0]] (3998 - k) ++ [D.tup [.str "join", .int 1]] = B.map deD := by
          rw [← hB, List.map_append]
          exact congrArg (· ++ _) (rep_map (d := (.under, 0)))
        have aC : repD [D.tup [.str "under", .int 0]] (3999 - k) ++ [D.tup [.str "join", .int 1]] = C.map deD := by
          rw [← hC, List.map_append]
          exact congrArg (· ++ _) (rep_map (d := (.under, 0)))
        have ll : (((((img B 2 ++ A).map deD).length : Nat) : Int) = 4000) = True := eq_true (by rw [List.length_map, List.length_append, img_len]; omega)
        simp_arith [e1, e2, rp k (by omega) (by omega), rp (3998 - k) (by omega) (by omega), rp (3999 - k) (by omega) (by omega), rl "over" 1 k (by omega) (by omega), rl "under" 0 (3998 - k) (by omega) (by omega), rl "under" 0 (3999 - k) (by omega) (by omega), aA, aB, aC, ta, tb, tc, tg_eq, cl, cm, fld_deeds, ll, hear_go, cn2, heard_many, eq_many]
        exact Gd.ok ⟨_, rfl⟩
      · simp_arith [e1, z]
        exact Gd.ok ⟨_, rfl⟩
  obtain ⟨o, e, δ, rfl⟩ := goal
  exact ⟨δ, e⟩
end K65
namespace K65
open PySem PySem.Spec PyProof.Rows L2 Rp LamX RZ Pl
abbrev sIniBadTangle : Stmt := (clsBody 5).getD 0 (.Pass ⟨0, 0, 0, 0⟩)
theorem scIniBadTangle : FnScope ["self", "part"] ["self", "part"] (defScope sIniBadTangle) := ⟨rfl, rfl, rfl, by decide +kernel, rfl, by decide +kernel, by decide +kernel⟩
theorem ok_IniBadTangle {P : Program} {w : World} {K : PySem.W.Frag} {mg : Str → Option Value} {base : Heap} {C f : Addr} {fd : FuncData} (F : Fun K "__init__" "BadTangle.__init__" sIniBadTangle f fd) (O : OexC K C) (no : PySem.W.findIn K (.ref C) "part" = some none) : FnOk P w K mg base CX0 1 f fd ["self", "part"] (spIni1 C "part") := by
  refine F.ok scIniBadTangle (fun vs H Q E h => ?_) fun cdv A outer s H vs Q E hr h => ?_
  · obtain ⟨a, v, rfl, _⟩ := h
    rfl
  · obtain ⟨a, v, rfl, ha, k⟩ := h
    refine ⟨_, pss_one (ps_ost (pv 0) (pv 1)), ?_⟩
    refine r_start (l := [some (.ref a), some v]) rfl ?_
    refine ⟨_, rfl, ?_⟩
    refine ⟨_, rfl, ?_⟩
    exact ⟨a, C, rfl, O, no, .inl ⟨ha, fun dx n ne => k dx n ne⟩⟩
abbrev sIniMisfit : Stmt := (clsBody 6).getD 0 (.Pass ⟨0, 0, 0, 0⟩)
theorem scIniMisfit : FnScope ["self", "part"] ["self", "part"] (defScope sIniMisfit) := ⟨rfl, rfl, rfl, by decide +kernel, rfl, by decide +kernel, by decide +kernel⟩
theorem ok_IniMisfit {P : Program} {w : World} {K : PySem.W.Frag} {mg : Str → Option Value} {base : Heap} {C f : Addr} {fd : FuncData} (F : Fun K "__init__" "Misfit.__init__" sIniMisfit f fd) (O : OexC K C) (no : PySem.W.findIn K (.ref C) "part" = some none) : FnOk P w K mg base CX0 1 f fd ["self", "part"] (spIni1 C "part") := by
  refine F.ok scIniMisfit (fun vs H Q E h => ?_) fun cdv A outer s H vs Q E hr h => ?_
  · obtain ⟨a, v, rfl, _⟩ := h
    rfl
  · obtain ⟨a, v, rfl, ha, k⟩ := h
    refine ⟨_, pss_one (ps_ost (pv 0) (pv 1)), ?_⟩
    refine r_start (l := [some (.ref a), some v]) rfl ?_
    refine ⟨_, rfl, ?_⟩
    refine ⟨_, rfl, ?_⟩
    exact ⟨a, C, rfl, O, no, .inl ⟨ha, fun dx n ne => k dx n ne⟩⟩
abbrev sIniTooMany : Stmt := (clsBody 7).getD 0 (.Pass ⟨0, 0, 0, 0⟩)
theorem scIniTooMany : FnScope ["self", "what", "most"] ["self", "what", "most"] (defScope sIniTooMany) := ⟨rfl, rfl, rfl, by decide +kernel, rfl, by decide +kernel, by decide +kernel⟩
theorem ok_IniTooMany {P : Program} {w : World} {K : PySem.W.Frag} {mg : Str → Option Value} {base : Heap} {C f : Addr} {fd : FuncData} (F : Fun K "__init__" "TooMany.__init__" sIniTooMany f fd) (O : OexC K C) (no : PySem.W.findIn K (.ref C) "what" = some none) (no2 : PySem.W.findIn K (.ref C) "most" = some none) : FnOk P w K mg base CX0 1 f fd ["self", "what", "most"] (spIni2 C "what" "most") := by
  refine F.ok scIniTooMany (fun vs H Q E h => ?_) fun cdv A outer s H vs Q E hr h => ?_
  · obtain ⟨a, v, u, rfl, _⟩ := h
    rfl
  · obtain ⟨a, v, u, rfl, ha, k⟩ := h
    refine ⟨_, pss_cons (ps_ost (pv 0) (pv 1)) (pss_one (ps_ost (pv 0) (pv 2))), ?_⟩
    refine r_start (l := [some (.ref a), some v, some u]) rfl ?_
    refine r_seq ?_
    refine ⟨_, rfl, ?_⟩
    refine ⟨_, rfl, ?_⟩
    refine ⟨a, C, rfl, O, no, .inl ⟨ha, fun dx n ne => ?_⟩⟩
    refine ⟨_, rfl, ?_⟩
    refine ⟨_, rfl, ?_⟩
    refine ⟨a, C, rfl, O, no2, .inr ⟨dx, [("what", v)], upd_same, by rw [upd_ne ne, upd_same], by show 1 ≤ 900; decide, k dx n ne⟩⟩
theorem all_mk {l : PySem.W.OpenLaw} {w : World} {K : PySem.W.Frag} {h : Heap} {mg : Str → Option Value} {fa : Addr} {P0_ : Addr}  (X : K.In h) (G : h.Ns mainGlobals mg) (hfa : mg "law" = some (.ref fa))
    {A_BadTangle : Addr}
    {A_Misfit : Addr}
    {A_TooMany : Addr}
    {A_RopeError : Addr}
    {A_BadText : Addr}
    {A_Items : Addr}
    {A_Tangle : Addr}
    {f0 : Addr} {od0 an0 : Option Addr} {sl0 : Array (Option Value)} {oc0 kV0 dc0 pm0 cd0 ct0 : Value}
    {f1 : Addr} {od1 an1 : Option Addr} {sl1 : Array (Option Value)} {oc1 kV1 dc1 pm1 cd1 ct1 : Value}
    {f2 : Addr} {od2 an2 : Option Addr} {sl2 : Array (Option Value)} {oc2 kV2 dc2 pm2 cd2 ct2 : Value}
    {f3 : Addr} {od3 an3 : Option Addr} {sl3 : Array (Option Value)} {oc3 kV3 dc3 pm3 cd3 ct3 : Value}
    {f4 : Addr} {od4 an4 : Option Addr} {sl4 : Array (Option Value)} {oc4 kV4 dc4 pm4 cd4 ct4 : Value}
    {f5 : Addr} {od5 an5 : Option Addr} {sl5 : Array (Option Value)} {oc5 kV5 dc5 pm5 cd5 ct5 : Value}
    {f6 : Addr} {od6 an6 : Option Addr} {sl6 : Array (Option Value)} {oc6 kV6 dc6 pm6 cd6 ct6 : Value}
    {f7 : Addr} {od7 an7 : Option Addr} {sl7 : Array (Option Value)} {oc7 kV7 dc7 pm7 cd7 ct7 : Value}
    {f8 : Addr} {od8 an8 : Option Addr} {sl8 : Array (Option Value)} {oc8 kV8 dc8 pm8 cd8 ct8 : Value}
    {f9 : Addr} {od9 an9 : Option Addr} {sl9 : Array (Option Value)} {oc9 kV9 dc9 pm9 cd9 ct9 : Value}
    {f10 : Addr} {od10 an10 : Option Addr} {sl10 : Array (Option Value)} {oc10 kV10 dc10 pm10 cd10 ct10 : Value}
    {f11 : Addr} {od11 an11 : Option Addr} {sl11 : Array (Option Value)} {oc11 kV11 dc11 pm11 cd11 ct11 : Value}
    {f12 : Addr} {od12 an12 : Option Addr} {sl12 : Array (Option Value)} {oc12 kV12 dc12 pm12 cd12 ct12 : Value}
    {f13 : Addr} {od13 an13 : Option Addr} {sl13 : Array (Option Value)} {oc13 kV13 dc13 pm13 cd13 ct13 : Value}
    {f14 : Addr} {od14 an14 : Option Addr} {sl14 : Array (Option Value)} {oc14 kV14 dc14 pm14 cd14 ct14 : Value}
    {f15 : Addr} {od15 an15 : Option Addr} {sl15 : Array (Option Value)} {oc15 kV15 dc15 pm15 cd15 ct15 : Value}
    {f16 : Addr} {od16 an16 : Option Addr} {sl16 : Array (Option Value)} {oc16 kV16 dc16 pm16 cd16 ct16 : Value}
    {f17 : Addr} {od17 an17 : Option Addr} {sl17 : Array (Option Value)} {oc17 kV17 dc17 pm17 cd17 ct17 : Value}
    {f18 : Addr} {od18 an18 : Option Addr} {sl18 : Array (Option Value)} {oc18 kV18 dc18 pm18 cd18 ct18 : Value}
    {f19 : Addr} {od19 an19 : Option Addr} {sl19 : Array (Option Value)} {oc19 kV19 dc19 pm19 cd19 ct19 : Value}
    {f20 : Addr} {od20 an20 : Option Addr} {sl20 : Array (Option Value)} {oc20 kV20 dc20 pm20 cd20 ct20 : Value}
    {f21 : Addr} {od21 an21 : Option Addr} {sl21 : Array (Option Value)} {oc21 kV21 dc21 pm21 cd21 ct21 : Value}
    {f22 cc22 : Addr} {od22 an22 : Option Addr} {sl22 : Array (Option Value)} {oc22 kV22 dc22 pm22 ct22 : Value}
    {k_MOST_DEEDS : Tok}
    {k_MOST_ENDS : Tok}
    {k_MOST_AT_RIM : Tok}
    {t_WORDS : Addr} {od_WORDS : Option Addr} {n_WORDS : Nat} {sl_WORDS : Array (Option Value)} {tk_WORDS_0 tk_WORDS_1 tk_WORDS_2 tk_WORDS_3 tk_WORDS_4 : Tok}
    {fi_BadTangle : Addr} {nm_BadTangle q_BadTangle : Str} {N_BadTangle : Addr} {bs_BadTangle bm_BadTangle : List Value} {sn_BadTangle : List Str} {sub_BadTangle : List Value} {ab_BadTangle : Bool} {col_BadTangle : Option Bool} {dd_BadTangle : Option Addr} {k0_BadTangle k1_BadTangle k2_BadTangle k3_BadTangle k5_BadTangle : Option Value} {od_BadTangle an_BadTangle : Option Addr} {sl_BadTangle : Array (Option Value)} {oc_BadTangle kV_BadTangle dc_BadTangle pm_BadTangle cd_BadTangle ct_BadTangle : Value}
    {fi_Misfit : Addr} {nm_Misfit q_Misfit : Str} {N_Misfit : Addr} {bs_Misfit bm_Misfit : List Value} {sn_Misfit : List Str} {sub_Misfit : List Value} {ab_Misfit : Bool} {col_Misfit : Option Bool} {dd_Misfit : Option Addr} {k0_Misfit k1_Misfit k2_Misfit k3_Misfit k5_Misfit : Option Value} {od_Misfit an_Misfit : Option Addr} {sl_Misfit : Array (Option Value)} {oc_Misfit kV_Misfit dc_Misfit pm_Misfit cd_Misfit ct_Misfit : Value}
    {fi_TooMany : Addr} {nm_TooMany q_TooMany : Str} {N_TooMany : Addr} {bs_TooMany bm_TooMany : List Value} {sn_TooMany : List Str} {sub_TooMany : List Value} {ab_TooMany : Bool} {col_TooMany : Option Bool} {dd_TooMany : Option Addr} {k0_TooMany k1_TooMany k2_TooMany k3_TooMany k5_TooMany : Option Value} {od_TooMany an_TooMany : Option Addr} {sl_TooMany : Array (Option Value)} {oc_TooMany kV_TooMany dc_TooMany pm_TooMany cd_TooMany ct_TooMany : Value}
    (g_BadTangle : PySem.W.nsIn K mainGlobals "BadTangle" = some (some (.ref A_BadTangle)))
    (g_Misfit : PySem.W.nsIn K mainGlobals "Misfit" = some (some (.ref A_Misfit)))
    (g_TooMany : PySem.W.nsIn K mainGlobals "TooMany" = some (some (.ref A_TooMany)))
    (g_RopeError : PySem.W.nsIn K mainGlobals "RopeError" = some (some (.ref A_RopeError)))
    (g_BadText : PySem.W.nsIn K mainGlobals "BadText" = some (some (.ref A_BadText)))
    (g_Items : PySem.W.nsIn K mainGlobals "Items" = some (some (.ref A_Items)))
    (g_Tangle : PySem.W.nsIn K mainGlobals "Tangle" = some (some (.ref A_Tangle)))
    (mk_Tangle : PySem.W.makesIn K A_Tangle = true)
    (kp_Tangle : PySem.W.keepIn K (.ref A_Tangle) = true)
    (pg_Tangle : PySem.W.plainGet K A_Tangle Str.empty = true)
    (hd_Tangle : PySem.W.hasDictIn K A_Tangle = true)
    (po_Tangle : PySem.W.plainOver K A_Tangle = true)
    (sa_Tangle : PySem.W.findIn K (.ref A_Tangle) "__setattr__" = some (some (.builtin "object.__setattr__")))
    (na_Tangle_deeds : PySem.W.findIn K (.ref A_Tangle) "deeds" = some none)
    (na_Tangle_ends : PySem.W.findIn K (.ref A_Tangle) "ends" = some none)
    (ha_Tangle : PySem.W.findIn K (.ref A_Tangle) "__class__" = some (some (.builtin "object.__class__")))
    (hm_Tangle : PySem.W.mroIn K A_Tangle (.type "object") = some true)
    (oo_Tangle_Tangle : PySem.W.kitOne K (.ref A_Tangle) (.ref A_Tangle) = some true)
    (bo_Tangle_NoneType : PySem.W.kitOne K (.type "NoneType") (.ref A_Tangle) = some false)
    (ob_Tangle_NoneType : PySem.W.kitOne K (.ref A_Tangle) (.type "NoneType") = some false)
    (bo_Tangle_bool : PySem.W.kitOne K (.type "bool") (.ref A_Tangle) = some false)
    (ob_Tangle_bool : PySem.W.kitOne K (.ref A_Tangle) (.type "bool") = some false)
    (bo_Tangle_int : PySem.W.kitOne K (.type "int") (.ref A_Tangle) = some false)
    (ob_Tangle_int : PySem.W.kitOne K (.ref A_Tangle) (.type "int") = some false)
    (bo_Tangle_str : PySem.W.kitOne K (.type "str") (.ref A_Tangle) = some false)
    (ob_Tangle_str : PySem.W.kitOne K (.ref A_Tangle) (.type "str") = some false)
    (bo_Tangle_list : PySem.W.kitOne K (.type "list") (.ref A_Tangle) = some false)
    (ob_Tangle_list : PySem.W.kitOne K (.ref A_Tangle) (.type "list") = some false)
    (bo_Tangle_tuple : PySem.W.kitOne K (.type "tuple") (.ref A_Tangle) = some false)
    (ob_Tangle_tuple : PySem.W.kitOne K (.ref A_Tangle) (.type "tuple") = some false)
    (bo_Tangle_dict : PySem.W.kitOne K (.type "dict") (.ref A_Tangle) = some false)
    (ob_Tangle_dict : PySem.W.kitOne K (.ref A_Tangle) (.type "dict") = some false)
    (ne_Tangle : PySem.W.findIn K (.ref A_Tangle) "__ne__" = some (some (.builtin "object.__ne__")))
    (a0 : PySem.W.nsIn K mainGlobals "is_integer" = some (some (.ref f0)))
    (l0 : K.lookup f0 = some ⟨oc0, od0, .func (PySem.W.fnOf "is_integer" "is_integer" (defArgs sIsInteger) (defBody sIsInteger) (defScope sIsInteger) .none kV0 dc0 pm0 an0 cd0 ct0), sl0⟩)
    (c0 : PySem.W.codeIn K cd0 "is_integer" = true)
    (k0 : PySem.W.keepIn K (.ref f0) = true)
    (a1 : PySem.W.nsIn K mainGlobals "is_within" = some (some (.ref f1)))
    (l1 : K.lookup f1 = some ⟨oc1, od1, .func (PySem.W.fnOf "is_within" "is_within" (defArgs sIsWithin) (defBody sIsWithin) (defScope sIsWithin) .none kV1 dc1 pm1 an1 cd1 ct1), sl1⟩)
    (c1 : PySem.W.codeIn K cd1 "is_within" = true)
    (k1 : PySem.W.keepIn K (.ref f1) = true)
    (a2 : PySem.W.nsIn K mainGlobals "_is_deed" = some (some (.ref f2)))
    (l2 : K.lookup f2 = some ⟨oc2, od2, .func (PySem.W.fnOf "_is_deed" "_is_deed" (defArgs sIsDeed) (defBody sIsDeed) (defScope sIsDeed) .none kV2 dc2 pm2 an2 cd2 ct2), sl2⟩)
    (c2 : PySem.W.codeIn K cd2 "_is_deed" = true)
    (k2 : PySem.W.keepIn K (.ref f2) = true)
    (a3 : PySem.W.nsIn K mainGlobals "are_deeds" = some (some (.ref f3)))
    (l3 : K.lookup f3 = some ⟨oc3, od3, .func (PySem.W.fnOf "are_deeds" "are_deeds" (defArgs sAreDeeds) (defBody sAreDeeds) (defScope sAreDeeds) .none kV3 dc3 pm3 an3 cd3 ct3), sl3⟩)
    (c3 : PySem.W.codeIn K cd3 "are_deeds" = true)
    (k3 : PySem.W.keepIn K (.ref f3) = true)
    (a4 : PySem.W.nsIn K mainGlobals "_fitting_gaps" = some (some (.ref f4)))
    (l4 : K.lookup f4 = some ⟨oc4, od4, .func (PySem.W.fnOf "_fitting_gaps" "_fitting_gaps" (defArgs sFittingGaps) (defBody sFittingGaps) (defScope sFittingGaps) .none kV4 dc4 pm4 an4 cd4 ct4), sl4⟩)
    (c4 : PySem.W.codeIn K cd4 "_fitting_gaps" = true)
    (k4 : PySem.W.keepIn K (.ref f4) = true)
    (a5 : PySem.W.nsIn K mainGlobals "ends_behind" = some (some (.ref f5)))
    (l5 : K.lookup f5 = some ⟨oc5, od5, .func (PySem.W.fnOf "ends_behind" "ends_behind" (defArgs sEndsBehind) (defBody sEndsBehind) (defScope sEndsBehind) .none kV5 dc5 pm5 an5 cd5 ct5), sl5⟩)
    (c5 : PySem.W.codeIn K cd5 "ends_behind" = true)
    (k5 : PySem.W.keepIn K (.ref f5) = true)
    (a6 : PySem.W.nsIn K mainGlobals "demand_fitting" = some (some (.ref f6)))
    (l6 : K.lookup f6 = some ⟨oc6, od6, .func (PySem.W.fnOf "demand_fitting" "demand_fitting" (defArgs sDemandFitting) (defBody sDemandFitting) (defScope sDemandFitting) .none kV6 dc6 pm6 an6 cd6 ct6), sl6⟩)
    (c6 : PySem.W.codeIn K cd6 "demand_fitting" = true)
    (k6 : PySem.W.keepIn K (.ref f6) = true)
    (a7 : PySem.W.findIn K (.ref A_Tangle) "__init__" = some (some (.ref f7)))
    (l7 : K.lookup f7 = some ⟨oc7, od7, .func (PySem.W.fnOf "__init__" "Tangle.__init__" (defArgs sTangleInit) (defBody sTangleInit) (defScope sTangleInit) .none kV7 dc7 pm7 an7 cd7 ct7), sl7⟩)
    (c7 : PySem.W.codeIn K cd7 "Tangle.__init__" = true)
    (k7 : PySem.W.keepIn K (.ref f7) = true)
    (fn7 : PySem.W.isFn K (.ref f7) = true)
    (a8 : PySem.W.findIn K (.ref A_Tangle) "__eq__" = some (some (.ref f8)))
    (l8 : K.lookup f8 = some ⟨oc8, od8, .func (PySem.W.fnOf "__eq__" "Tangle.__eq__" (defArgs sTangleEq) (defBody sTangleEq) (defScope sTangleEq) .none kV8 dc8 pm8 an8 cd8 ct8), sl8⟩)
    (c8 : PySem.W.codeIn K cd8 "Tangle.__eq__" = true)
    (k8 : PySem.W.keepIn K (.ref f8) = true)
    (fn8 : PySem.W.isFn K (.ref f8) = true)
    (a9 : PySem.W.nsIn K mainGlobals "demand_tangle" = some (some (.ref f9)))
    (l9 : K.lookup f9 = some ⟨oc9, od9, .func (PySem.W.fnOf "demand_tangle" "demand_tangle" (defArgs sDemandTangle) (defBody sDemandTangle) (defScope sDemandTangle) .none kV9 dc9 pm9 an9 cd9 ct9), sl9⟩)
    (c9 : PySem.W.codeIn K cd9 "demand_tangle" = true)
    (k9 : PySem.W.keepIn K (.ref f9) = true)
    (a10 : PySem.W.nsIn K mainGlobals "_taken_back" = some (some (.ref f10)))
    (l10 : K.lookup f10 = some ⟨oc10, od10, .func (PySem.W.fnOf "_taken_back" "_taken_back" (defArgs sTakenBack) (defBody sTakenBack) (defScope sTakenBack) .none kV10 dc10 pm10 an10 cd10 ct10), sl10⟩)
    (c10 : PySem.W.codeIn K cd10 "_taken_back" = true)
    (k10 : PySem.W.keepIn K (.ref f10) = true)
    (a11 : PySem.W.nsIn K mainGlobals "lead_in" = some (some (.ref f11)))
    (l11 : K.lookup f11 = some ⟨oc11, od11, .func (PySem.W.fnOf "lead_in" "lead_in" (defArgs sLeadIn) (defBody sLeadIn) (defScope sLeadIn) .none kV11 dc11 pm11 an11 cd11 ct11), sl11⟩)
    (c11 : PySem.W.codeIn K cd11 "lead_in" = true)
    (k11 : PySem.W.keepIn K (.ref f11) = true)
    (a12 : PySem.W.nsIn K mainGlobals "_demand_tangles" = some (some (.ref f12)))
    (l12 : K.lookup f12 = some ⟨oc12, od12, .func (PySem.W.fnOf "_demand_tangles" "_demand_tangles" (defArgs sDemandTangles) (defBody sDemandTangles) (defScope sDemandTangles) .none kV12 dc12 pm12 an12 cd12 ct12), sl12⟩)
    (c12 : PySem.W.codeIn K cd12 "_demand_tangles" = true)
    (k12 : PySem.W.keepIn K (.ref f12) = true)
    (a13 : PySem.W.nsIn K mainGlobals "_demand_one_rim" = some (some (.ref f13)))
    (l13 : K.lookup f13 = some ⟨oc13, od13, .func (PySem.W.fnOf "_demand_one_rim" "_demand_one_rim" (defArgs sDemandOneRim) (defBody sDemandOneRim) (defScope sDemandOneRim) .none kV13 dc13 pm13 an13 cd13 ct13), sl13⟩)
    (c13 : PySem.W.codeIn K cd13 "_demand_one_rim" = true)
    (k13 : PySem.W.keepIn K (.ref f13) = true)
    (a14 : PySem.W.nsIn K mainGlobals "closed" = some (some (.ref f14)))
    (l14 : K.lookup f14 = some ⟨oc14, od14, .func (PySem.W.fnOf "closed" "closed" (defArgs sClosed) (defBody sClosed) (defScope sClosed) .none kV14 dc14 pm14 an14 cd14 ct14), sl14⟩)
    (c14 : PySem.W.codeIn K cd14 "closed" = true)
    (k14 : PySem.W.keepIn K (.ref f14) = true)
    (a15 : PySem.W.nsIn K mainGlobals "_law_pier" = some (some (.ref f15)))
    (l15 : K.lookup f15 = some ⟨oc15, od15, .func (PySem.W.fnOf "_law_pier" "_law_pier" (defArgs sLawPier) (defBody sLawPier) (defScope sLawPier) .none kV15 dc15 pm15 an15 cd15 ct15), sl15⟩)
    (c15 : PySem.W.codeIn K cd15 "_law_pier" = true)
    (k15 : PySem.W.keepIn K (.ref f15) = true)
    (a16 : PySem.W.nsIn K mainGlobals "_law_moor" = some (some (.ref f16)))
    (l16 : K.lookup f16 = some ⟨oc16, od16, .func (PySem.W.fnOf "_law_moor" "_law_moor" (defArgs sLawMoor) (defBody sLawMoor) (defScope sLawMoor) .none kV16 dc16 pm16 an16 cd16 ct16), sl16⟩)
    (c16 : PySem.W.codeIn K cd16 "_law_moor" = true)
    (k16 : PySem.W.keepIn K (.ref f16) = true)
    (a17 : PySem.W.nsIn K mainGlobals "_law_pick" = some (some (.ref f17)))
    (l17 : K.lookup f17 = some ⟨oc17, od17, .func (PySem.W.fnOf "_law_pick" "_law_pick" (defArgs sLawPick) (defBody sLawPick) (defScope sLawPick) .none kV17 dc17 pm17 an17 cd17 ct17), sl17⟩)
    (c17 : PySem.W.codeIn K cd17 "_law_pick" = true)
    (k17 : PySem.W.keepIn K (.ref f17) = true)
    (a18 : PySem.W.nsIn K mainGlobals "_law_deeds" = some (some (.ref f18)))
    (l18 : K.lookup f18 = some ⟨oc18, od18, .func (PySem.W.fnOf "_law_deeds" "_law_deeds" (defArgs sLawDeeds) (defBody sLawDeeds) (defScope sLawDeeds) .none kV18 dc18 pm18 an18 cd18 ct18), sl18⟩)
    (c18 : PySem.W.codeIn K cd18 "_law_deeds" = true)
    (k18 : PySem.W.keepIn K (.ref f18) = true)
    (a19 : PySem.W.nsIn K mainGlobals "_law_image" = some (some (.ref f19)))
    (l19 : K.lookup f19 = some ⟨oc19, od19, .func (PySem.W.fnOf "_law_image" "_law_image" (defArgs sLawImage) (defBody sLawImage) (defScope sLawImage) .none kV19 dc19 pm19 an19 cd19 ct19), sl19⟩)
    (c19 : PySem.W.codeIn K cd19 "_law_image" = true)
    (k19 : PySem.W.keepIn K (.ref f19) = true)
    (a20 : PySem.W.nsIn K mainGlobals "_law_closed_right" = some (some (.ref f20)))
    (l20 : K.lookup f20 = some ⟨oc20, od20, .func (PySem.W.fnOf "_law_closed_right" "_law_closed_right" (defArgs sLawClosedRight) (defBody sLawClosedRight) (defScope sLawClosedRight) .none kV20 dc20 pm20 an20 cd20 ct20), sl20⟩)
    (c20 : PySem.W.codeIn K cd20 "_law_closed_right" = true)
    (k20 : PySem.W.keepIn K (.ref f20) = true)
    (a21 : PySem.W.nsIn K mainGlobals "_law_heard" = some (some (.ref f21)))
    (l21 : K.lookup f21 = some ⟨oc21, od21, .func (PySem.W.fnOf "_law_heard" "_law_heard" (defArgs sLawHeard) (defBody sLawHeard) (defScope sLawHeard) .none kV21 dc21 pm21 an21 cd21 ct21), sl21⟩)
    (c21 : PySem.W.codeIn K cd21 "_law_heard" = true)
    (k21 : PySem.W.keepIn K (.ref f21) = true)
    (a22 : PySem.W.nsIn K mainGlobals "law" = some (some (.ref f22)))
    (l22 : K.lookup f22 = some ⟨oc22, od22, .func (PySem.W.fnOf "law" "law" (defArgs sLaw) (defBody sLaw) (defScope sLaw) .none kV22 dc22 pm22 an22 (.ref cc22) ct22), sl22⟩)
    (c22 : PySem.W.codeIn K (.ref cc22) "law" = true)
    (k22 : PySem.W.keepIn K (.ref f22) = true)
    (z_abs : PySem.W.nsIn K mainGlobals "abs" = some none)
    (z_all : PySem.W.nsIn K mainGlobals "all" = some none)
    (z_bool : PySem.W.nsIn K mainGlobals "bool" = some none)
    (z_int : PySem.W.nsIn K mainGlobals "int" = some none)
    (z_isinstance : PySem.W.nsIn K mainGlobals "isinstance" = some none)
    (z_len : PySem.W.nsIn K mainGlobals "len" = some none)
    (z_list : PySem.W.nsIn K mainGlobals "list" = some none)
    (z_max : PySem.W.nsIn K mainGlobals "max" = some none)
    (z_range : PySem.W.nsIn K mainGlobals "range" = some none)
    (z_repr : PySem.W.nsIn K mainGlobals "repr" = some none)
    (z_str : PySem.W.nsIn K mainGlobals "str" = some none)
    (z_tuple : PySem.W.nsIn K mainGlobals "tuple" = some none)
    (q_MOST_DEEDS : PySem.W.nsIn K mainGlobals "MOST_DEEDS" = some (some (.int 4000 k_MOST_DEEDS)))
    (q_MOST_ENDS : PySem.W.nsIn K mainGlobals "MOST_ENDS" = some (some (.int 24 k_MOST_ENDS)))
    (q_MOST_AT_RIM : PySem.W.nsIn K mainGlobals "MOST_AT_RIM" = some (some (.int 16 k_MOST_AT_RIM)))
    (q_WORDS : PySem.W.nsIn K mainGlobals "WORDS" = some (some (.ref t_WORDS)))
    (lq_WORDS : K.lookup t_WORDS = some ⟨.type "tuple", od_WORDS, .seq #[.str "over" tk_WORDS_0, .str "under" tk_WORDS_1, .str "join" tk_WORDS_2, .str "open" tk_WORDS_3, .str "turn" tk_WORDS_4] n_WORDS, sl_WORDS⟩)
    (o_BadTangle : K.lookup A_BadTangle = some (excClassObj nm_BadTangle q_BadTangle A_BadTangle N_BadTangle bs_BadTangle bm_BadTangle true sn_BadTangle sub_BadTangle ab_BadTangle col_BadTangle dd_BadTangle k0_BadTangle k1_BadTangle k2_BadTangle k3_BadTangle k5_BadTangle "ValueError.__new__"))
    (r_BadTangle : PySem.HandSPX.refsVE bm_BadTangle = true)
    (sa_BadTangle : PySem.W.findIn K (.ref A_BadTangle) "__setattr__" = some (some (.builtin "object.__setattr__")))
    (ex_BadTangle : PySem.W.subIn K (.ref A_BadTangle) (.type "BaseException") = some true)
    (ty_BadTangle : PySem.W.typeIn K (.ref A_BadTangle) = some (.type "type"))
    (kc_BadTangle : PySem.W.keepIn K (.ref A_BadTangle) = true)
    (no_BadTangle_most : PySem.W.findIn K (.ref A_BadTangle) "most" = some none)
    (no_BadTangle_part : PySem.W.findIn K (.ref A_BadTangle) "part" = some none)
    (no_BadTangle_what : PySem.W.findIn K (.ref A_BadTangle) "what" = some none)
    (ga_BadTangle : PySem.W.findIn K (.ref A_BadTangle) "__getattribute__" = some (some (.builtin "BaseException.__getattribute__")))
    (gg_BadTangle : PySem.W.findIn K (.ref A_BadTangle) "__getattr__" = some none)
    (hd_BadTangle : PySem.W.hasDictIn K A_BadTangle = true)
    (ha_BadTangle : PySem.W.findIn K (.ref A_BadTangle) "__class__" = some (some (.builtin "object.__class__")))
    (hm_BadTangle : PySem.W.mroIn K A_BadTangle (.type "object") = some true)
    (in_BadTangle : PySem.W.findIn K (.ref A_BadTangle) "__init__" = some (some (.ref fi_BadTangle)))
    (it_BadTangle : PySem.W.typeIn K (.ref fi_BadTangle) = some (.type "function"))
    (il_BadTangle : K.lookup fi_BadTangle = some ⟨oc_BadTangle, od_BadTangle, .func (PySem.W.fnOf "__init__" "BadTangle.__init__" (defArgs sIniBadTangle) (defBody sIniBadTangle) (defScope sIniBadTangle) .none kV_BadTangle dc_BadTangle pm_BadTangle an_BadTangle cd_BadTangle ct_BadTangle), sl_BadTangle⟩)
    (ic_BadTangle : PySem.W.codeIn K cd_BadTangle "BadTangle.__init__" = true)
    (ik_BadTangle : PySem.W.keepIn K (.ref fi_BadTangle) = true)
    (up_BadTangle : PySem.W.exmOne K (.ref A_BadTangle) (.ref A_RopeError) = some true)
    (o_Misfit : K.lookup A_Misfit = some (excClassObj nm_Misfit q_Misfit A_Misfit N_Misfit bs_Misfit bm_Misfit true sn_Misfit sub_Misfit ab_Misfit col_Misfit dd_Misfit k0_Misfit k1_Misfit k2_Misfit k3_Misfit k5_Misfit "ValueError.__new__"))
    (r_Misfit : PySem.HandSPX.refsVE bm_Misfit = true)
    (sa_Misfit : PySem.W.findIn K (.ref A_Misfit) "__setattr__" = some (some (.builtin "object.__setattr__")))
    (ex_Misfit : PySem.W.subIn K (.ref A_Misfit) (.type "BaseException") = some true)
    (ty_Misfit : PySem.W.typeIn K (.ref A_Misfit) = some (.type "type"))
    (kc_Misfit : PySem.W.keepIn K (.ref A_Misfit) = true)
    (no_Misfit_most : PySem.W.findIn K (.ref A_Misfit) "most" = some none)
    (no_Misfit_part : PySem.W.findIn K (.ref A_Misfit) "part" = some none)
    (no_Misfit_what : PySem.W.findIn K (.ref A_Misfit) "what" = some none)
    (ga_Misfit : PySem.W.findIn K (.ref A_Misfit) "__getattribute__" = some (some (.builtin "BaseException.__getattribute__")))
    (gg_Misfit : PySem.W.findIn K (.ref A_Misfit) "__getattr__" = some none)
    (hd_Misfit : PySem.W.hasDictIn K A_Misfit = true)
    (ha_Misfit : PySem.W.findIn K (.ref A_Misfit) "__class__" = some (some (.builtin "object.__class__")))
    (hm_Misfit : PySem.W.mroIn K A_Misfit (.type "object") = some true)
    (in_Misfit : PySem.W.findIn K (.ref A_Misfit) "__init__" = some (some (.ref fi_Misfit)))
    (it_Misfit : PySem.W.typeIn K (.ref fi_Misfit) = some (.type "function"))
    (il_Misfit : K.lookup fi_Misfit = some ⟨oc_Misfit, od_Misfit, .func (PySem.W.fnOf "__init__" "Misfit.__init__" (defArgs sIniMisfit) (defBody sIniMisfit) (defScope sIniMisfit) .none kV_Misfit dc_Misfit pm_Misfit an_Misfit cd_Misfit ct_Misfit), sl_Misfit⟩)
    (ic_Misfit : PySem.W.codeIn K cd_Misfit "Misfit.__init__" = true)
    (ik_Misfit : PySem.W.keepIn K (.ref fi_Misfit) = true)
    (up_Misfit : PySem.W.exmOne K (.ref A_Misfit) (.ref A_RopeError) = some true)
    (o_TooMany : K.lookup A_TooMany = some (excClassObj nm_TooMany q_TooMany A_TooMany N_TooMany bs_TooMany bm_TooMany true sn_TooMany sub_TooMany ab_TooMany col_TooMany dd_TooMany k0_TooMany k1_TooMany k2_TooMany k3_TooMany k5_TooMany "ValueError.__new__"))
    (r_TooMany : PySem.HandSPX.refsVE bm_TooMany = true)
    (sa_TooMany : PySem.W.findIn K (.ref A_TooMany) "__setattr__" = some (some (.builtin "object.__setattr__")))
    (ex_TooMany : PySem.W.subIn K (.ref A_TooMany) (.type "BaseException") = some true)
    (ty_TooMany : PySem.W.typeIn K (.ref A_TooMany) = some (.type "type"))
    (kc_TooMany : PySem.W.keepIn K (.ref A_TooMany) = true)
    (no_TooMany_most : PySem.W.findIn K (.ref A_TooMany) "most" = some none)
    (no_TooMany_part : PySem.W.findIn K (.ref A_TooMany) "part" = some none)
    (no_TooMany_what : PySem.W.findIn K (.ref A_TooMany) "what" = some none)
    (ga_TooMany : PySem.W.findIn K (.ref A_TooMany) "__getattribute__" = some (some (.builtin "BaseException.__getattribute__")))
    (gg_TooMany : PySem.W.findIn K (.ref A_TooMany) "__getattr__" = some none)
    (hd_TooMany : PySem.W.hasDictIn K A_TooMany = true)
    (ha_TooMany : PySem.W.findIn K (.ref A_TooMany) "__class__" = some (some (.builtin "object.__class__")))
    (hm_TooMany : PySem.W.mroIn K A_TooMany (.type "object") = some true)
    (in_TooMany : PySem.W.findIn K (.ref A_TooMany) "__init__" = some (some (.ref fi_TooMany)))
    (it_TooMany : PySem.W.typeIn K (.ref fi_TooMany) = some (.type "function"))
    (il_TooMany : K.lookup fi_TooMany = some ⟨oc_TooMany, od_TooMany, .func (PySem.W.fnOf "__init__" "TooMany.__init__" (defArgs sIniTooMany) (defBody sIniTooMany) (defScope sIniTooMany) .none kV_TooMany dc_TooMany pm_TooMany an_TooMany cd_TooMany ct_TooMany), sl_TooMany⟩)
    (ic_TooMany : PySem.W.codeIn K cd_TooMany "TooMany.__init__" = true)
    (ik_TooMany : PySem.W.keepIn K (.ref fi_TooMany) = true)
    (up_TooMany : PySem.W.exmOne K (.ref A_TooMany) (.ref A_RopeError) = some true)
    (nn_BadTangle : PySem.W.kitOne K (.type "NoneType") (.ref A_BadTangle) = some false)
    (nn_Misfit : PySem.W.kitOne K (.type "NoneType") (.ref A_Misfit) = some false)
    (nn_TooMany : PySem.W.kitOne K (.type "NoneType") (.ref A_TooMany) = some false)
    (k_BadTangle_BadTangle : PySem.W.kitOne K (.ref A_BadTangle) (.ref A_BadTangle) = some true)
    (k_BadTangle_Misfit : PySem.W.kitOne K (.ref A_BadTangle) (.ref A_Misfit) = some false)
    (k_BadTangle_TooMany : PySem.W.kitOne K (.ref A_BadTangle) (.ref A_TooMany) = some false)
    (k_Misfit_BadTangle : PySem.W.kitOne K (.ref A_Misfit) (.ref A_BadTangle) = some false)
    (k_Misfit_Misfit : PySem.W.kitOne K (.ref A_Misfit) (.ref A_Misfit) = some true)
    (k_Misfit_TooMany : PySem.W.kitOne K (.ref A_Misfit) (.ref A_TooMany) = some false)
    (k_TooMany_BadTangle : PySem.W.kitOne K (.ref A_TooMany) (.ref A_BadTangle) = some false)
    (k_TooMany_Misfit : PySem.W.kitOne K (.ref A_TooMany) (.ref A_Misfit) = some false)
    (k_TooMany_TooMany : PySem.W.kitOne K (.ref A_TooMany) (.ref A_TooMany) = some true)
    (hn_ : PySem.W.specialIn K (.builtin "object.__class__") "__get__" = some (some (.builtin "getset_descriptor.__get__")))
    (ht_ : PySem.W.takesIn K (.builtin "object.__class__") = some true) :
    ∃ fd : FuncData, (∀ (t : Shared) (v : Value), BindsTo t fd ⟨[v], []⟩ [("script", v)]) ∧ ∀ base : Heap, K.In base → base.Ns mainGlobals mg → HasMods base → (∀ p ∈ [(cc22, P0_)], TabB base mg p.1 p.2) → FnG l.prog w K mg base 15 fa fd ["script"] (spLawP [(P0_, qLaw ++ "<lambda>")] K) := by
  have e := hfa.symm.trans (PySem.W.mg_of X G a22)
  cases e
  have CT_WORDS : ∀ {H : Hp}, SqT K H t_WORDS [.str "over", .str "under", .str "join", .str "open", .str "turn"] := .inr ⟨_, _, _, lq_WORDS, rfl, rfl, len_ok rfl, (.cons ⟨_, rfl⟩ (.cons ⟨_, rfl⟩ (.cons ⟨_, rfl⟩ (.cons ⟨_, rfl⟩ (.cons ⟨_, rfl⟩ .nil)))))⟩
  have T : Txt K mg (Ad.mk k_MOST_DEEDS k_MOST_ENDS k_MOST_AT_RIM t_WORDS A_RopeError A_BadTangle A_Misfit A_TooMany A_BadText A_Items A_Tangle) := ⟨PySem.W.mg_of X G q_MOST_DEEDS, PySem.W.mg_of X G q_MOST_ENDS, PySem.W.mg_of X G q_MOST_AT_RIM, PySem.W.mg_of X G q_WORDS, CT_WORDS, PySem.W.mg_of X G g_RopeError, PySem.W.mg_of X G g_BadTangle, PySem.W.mg_of X G g_Misfit, PySem.W.mg_of X G g_TooMany, PySem.W.mg_of X G g_BadText, PySem.W.mg_of X G g_Items, PySem.W.mg_of X G g_Tangle, PySem.W.mg_none_of X G z_abs, PySem.W.mg_none_of X G z_all, PySem.W.mg_none_of X G z_bool, PySem.W.mg_none_of X G z_int, PySem.W.mg_none_of X G z_isinstance, PySem.W.mg_none_of X G z_len, PySem.W.mg_none_of X G z_list, PySem.W.mg_none_of X G z_max, PySem.W.mg_none_of X G z_range, PySem.W.mg_none_of X G z_repr, PySem.W.mg_none_of X G z_str, PySem.W.mg_none_of X G z_tuple⟩
  have O_BadTangle : OexC K A_BadTangle := ⟨⟨_, _, _, _, _, _, _, _, _, _, _, _, _, _, _, o_BadTangle, r_BadTangle⟩, sa_BadTangle, ex_BadTangle, ty_BadTangle, kc_BadTangle⟩
  have xf_BadTangle : XfC K A_BadTangle := ⟨ga_BadTangle, gg_BadTangle, ex_BadTangle, hd_BadTangle⟩
  have ec_BadTangle : ExcC K A_BadTangle := ⟨ga_BadTangle, gg_BadTangle, ex_BadTangle, hd_BadTangle, ha_BadTangle, hn_, ht_, hm_BadTangle⟩
  have FI_BadTangle := fun_mk (st := sIniBadTangle) il_BadTangle ic_BadTangle ik_BadTangle
  have bI_BadTangle := FI_BadTangle.binds (ps := ["self", "part"]) fun _ _ _ _ _ _ us hl => match us, hl with | [_, _], _ => rfl
  have O_Misfit : OexC K A_Misfit := ⟨⟨_, _, _, _, _, _, _, _, _, _, _, _, _, _, _, o_Misfit, r_Misfit⟩, sa_Misfit, ex_Misfit, ty_Misfit, kc_Misfit⟩
  have xf_Misfit : XfC K A_Misfit := ⟨ga_Misfit, gg_Misfit, ex_Misfit, hd_Misfit⟩
  have ec_Misfit : ExcC K A_Misfit := ⟨ga_Misfit, gg_Misfit, ex_Misfit, hd_Misfit, ha_Misfit, hn_, ht_, hm_Misfit⟩
  have FI_Misfit := fun_mk (st := sIniMisfit) il_Misfit ic_Misfit ik_Misfit
  have bI_Misfit := FI_Misfit.binds (ps := ["self", "part"]) fun _ _ _ _ _ _ us hl => match us, hl with | [_, _], _ => rfl
  have O_TooMany : OexC K A_TooMany := ⟨⟨_, _, _, _, _, _, _, _, _, _, _, _, _, _, _, o_TooMany, r_TooMany⟩, sa_TooMany, ex_TooMany, ty_TooMany, kc_TooMany⟩
  have xf_TooMany : XfC K A_TooMany := ⟨ga_TooMany, gg_TooMany, ex_TooMany, hd_TooMany⟩
  have ec_TooMany : ExcC K A_TooMany := ⟨ga_TooMany, gg_TooMany, ex_TooMany, hd_TooMany, ha_TooMany, hn_, ht_, hm_TooMany⟩
  have FI_TooMany := fun_mk (st := sIniTooMany) il_TooMany ic_TooMany ik_TooMany
  have bI_TooMany := FI_TooMany.binds (ps := ["self", "what", "most"]) fun _ _ _ _ _ _ us hl => match us, hl with | [_, _, _], _ => rfl
  have F0 : Fun K "is_integer" "is_integer" sIsInteger f0 _ := fun_mk (st := sIsInteger) l0 c0 k0
  have b0 := F0.binds (ps := ["value"]) fun _ _ _ _ _ _ us hl => match us, hl with | [_], _ => rfl
  have F1 : Fun K "is_within" "is_within" sIsWithin f1 _ := fun_mk (st := sIsWithin) l1 c1 k1
  have b1 := F1.binds (ps := ["value", "least", "most"]) fun _ _ _ _ _ _ us hl => match us, hl with | [_, _, _], _ => rfl
  have F2 : Fun K "_is_deed" "_is_deed" sIsDeed f2 _ := fun_mk (st := sIsDeed) l2 c2 k2
  have b2 := F2.binds (ps := ["value"]) fun _ _ _ _ _ _ us hl => match us, hl with | [_], _ => rfl
  have F3 : Fun K "are_deeds" "are_deeds" sAreDeeds f3 _ := fun_mk (st := sAreDeeds) l3 c3 k3
  have b3 := F3.binds (ps := ["value"]) fun _ _ _ _ _ _ us hl => match us, hl with | [_], _ => rfl
  have F4 : Fun K "_fitting_gaps" "_fitting_gaps" sFittingGaps f4 _ := fun_mk (st := sFittingGaps) l4 c4 k4
  have b4 := F4.binds (ps := ["word", "many"]) fun _ _ _ _ _ _ us hl => match us, hl with | [_, _], _ => rfl
  have F5 : Fun K "ends_behind" "ends_behind" sEndsBehind f5 _ := fun_mk (st := sEndsBehind) l5 c5 k5
  have b5 := F5.binds (ps := ["word", "many"]) fun _ _ _ _ _ _ us hl => match us, hl with | [_, _], _ => rfl
  have F6 : Fun K "demand_fitting" "demand_fitting" sDemandFitting f6 _ := fun_mk (st := sDemandFitting) l6 c6 k6
  have b6 := F6.binds (ps := ["deeds", "ends", "inner"]) fun _ _ _ _ _ _ us hl => match us, hl with | [_, _, _], _ => rfl
  have F7 : Fun K "__init__" "Tangle.__init__" sTangleInit f7 _ := fun_mk (st := sTangleInit) l7 c7 k7
  have b7 := F7.binds (ps := ["self", "ends", "deeds"]) fun _ _ _ _ _ _ us hl => match us, hl with | [_, _, _], _ => rfl
  have F8 : Fun K "__eq__" "Tangle.__eq__" sTangleEq f8 _ := fun_mk (st := sTangleEq) l8 c8 k8
  have b8 := F8.binds (ps := ["self", "other"]) fun _ _ _ _ _ _ us hl => match us, hl with | [_, _], _ => rfl
  have F9 : Fun K "demand_tangle" "demand_tangle" sDemandTangle f9 _ := fun_mk (st := sDemandTangle) l9 c9 k9
  have b9 := F9.binds (ps := ["value", "part"]) fun _ _ _ _ _ _ us hl => match us, hl with | [_, _], _ => rfl
  have F10 : Fun K "_taken_back" "_taken_back" sTakenBack f10 _ := fun_mk (st := sTakenBack) l10 c10 k10
  have b10 := F10.binds (ps := ["word", "gap", "many"]) fun _ _ _ _ _ _ us hl => match us, hl with | [_, _, _], _ => rfl
  have F11 : Fun K "lead_in" "lead_in" sLeadIn f11 _ := fun_mk (st := sLeadIn) l11 c11 k11
  have b11 := F11.binds (ps := ["tangle"]) fun _ _ _ _ _ _ us hl => match us, hl with | [_], _ => rfl
  have F12 : Fun K "_demand_tangles" "_demand_tangles" sDemandTangles f12 _ := fun_mk (st := sDemandTangles) l12 c12 k12
  have b12 := F12.binds (ps := ["one", "other"]) fun _ _ _ _ _ _ us hl => match us, hl with | [_, _], _ => rfl
  have F13 : Fun K "_demand_one_rim" "_demand_one_rim" sDemandOneRim f13 _ := fun_mk (st := sDemandOneRim) l13 c13 k13
  have b13 := F13.binds (ps := ["one", "other"]) fun _ _ _ _ _ _ us hl => match us, hl with | [_, _], _ => rfl
  have F14 : Fun K "closed" "closed" sClosed f14 _ := fun_mk (st := sClosed) l14 c14 k14
  have b14 := F14.binds (ps := ["one", "other"]) fun _ _ _ _ _ _ us hl => match us, hl with | [_, _], _ => rfl
  have F15 : Fun K "_law_pier" "_law_pier" sLawPier f15 _ := fun_mk (st := sLawPier) l15 c15 k15
  have b15 := F15.binds (ps := ["script"]) fun _ _ _ _ _ _ us hl => match us, hl with | [_], _ => rfl
  have F16 : Fun K "_law_moor" "_law_moor" sLawMoor f16 _ := fun_mk (st := sLawMoor) l16 c16 k16
  have b16 := F16.binds (ps := ["pier", "many"]) fun _ _ _ _ _ _ us hl => match us, hl with | [_, _], _ => rfl
  have F17 : Fun K "_law_pick" "_law_pick" sLawPick f17 _ := fun_mk (st := sLawPick) l17 c17 k17
  have b17 := F17.binds (ps := ["pier", "some"]) fun _ _ _ _ _ _ us hl => match us, hl with | [_, _], _ => rfl
  have F18 : Fun K "_law_deeds" "_law_deeds" sLawDeeds f18 _ := fun_mk (st := sLawDeeds) l18 c18 k18
  have b18 := F18.binds (ps := ["pier", "ends", "many", "most"]) fun _ _ _ _ _ _ us hl => match us, hl with | [_, _, _, _], _ => rfl
  have F19 : Fun K "_law_image" "_law_image" sLawImage f19 _ := fun_mk (st := sLawImage) l19 c19 k19
  have b19 := F19.binds (ps := ["ends", "deeds"]) fun _ _ _ _ _ _ us hl => match us, hl with | [_, _], _ => rfl
  have F20 : Fun K "_law_closed_right" "_law_closed_right" sLawClosedRight f20 _ := fun_mk (st := sLawClosedRight) l20 c20 k20
  have b20 := F20.binds (ps := ["ends", "mine", "its"]) fun _ _ _ _ _ _ us hl => match us, hl with | [_, _, _], _ => rfl
  have F21 : Fun K "_law_heard" "_law_heard" sLawHeard f21 _ := fun_mk (st := sLawHeard) l21 c21 k21
  have b21 := F21.binds (ps := ["ask"]) fun _ _ _ _ _ _ us hl => match us, hl with | [_], _ => rfl
  have F22 : FunC K "law" "law" sLaw _ _ cc22 := ⟨⟨_, _, _, _, _, _, _, _, rfl, l22, c22⟩⟩
  have kClosed_other_one : KBx K _ ["one", "other"] 0 ["other", "one"] [1, 0] := kb_of F14 fun _ _ _ _ _ _ us ws h1 h2 => match us, ws, h1, h2 with | [], [_, _], _, _ => rfl
  have kLeadIn_tangle : KBx K _ ["tangle"] 0 ["tangle"] [0] := kb_of F11 fun _ _ _ _ _ _ us ws h1 h2 => match us, ws, h1, h2 with | [], [_], _, _ => rfl
  refine ⟨PySem.W.fnOf "law" "law" (defArgs sLaw) (defBody sLaw) (defScope sLaw) .none kV22 dc22 pm22 an22 (.ref cc22) ct22, fun t v => .of_eq rfl, fun base kin gl hM TBs => ?_⟩
  have TB_0 : TabB base mg cc22 P0_ := TBs (cc22, P0_) (by simp)
  have mem_0 : (P0_, qLaw ++ "<lambda>") ∈ [(P0_, qLaw ++ "<lambda>")] := by simp
  have one_0 : ∀ p ∈ [(P0_, qLaw ++ "<lambda>")], p.1 = P0_ → p.2 = qLaw ++ "<lambda>" := by
    intro p m e
    simp only [List.mem_cons, List.not_mem_nil, or_false] at m
    rcases m with rfl
    · rfl
  have hH : HrdC K mg f21 cd21 := ⟨PySem.W.mg_of X G a21, k21, c21, ⟨_, _, _, _, _, _, _, _, l21, b21⟩⟩
  have eBadTangle : Err1 l.prog w K mg base "BadTangle" A_BadTangle "part" := ⟨PySem.W.mg_of X G g_BadTangle, O_BadTangle, no_BadTangle_part, xf_BadTangle, ⟨_, _, _, in_BadTangle, it_BadTangle, bI_BadTangle, ok_IniBadTangle FI_BadTangle O_BadTangle no_BadTangle_part⟩⟩
  have eMisfit : Err1 l.prog w K mg base "Misfit" A_Misfit "part" := ⟨PySem.W.mg_of X G g_Misfit, O_Misfit, no_Misfit_part, xf_Misfit, ⟨_, _, _, in_Misfit, it_Misfit, bI_Misfit, ok_IniMisfit FI_Misfit O_Misfit no_Misfit_part⟩⟩
  have eTooMany : Err2 l.prog w K mg base "TooMany" A_TooMany "what" "most" := ⟨PySem.W.mg_of X G g_TooMany, O_TooMany, no_TooMany_what, no_TooMany_most, xf_TooMany, ⟨_, _, _, in_TooMany, it_TooMany, bI_TooMany, ok_IniTooMany FI_TooMany O_TooMany no_TooMany_what no_TooMany_most⟩⟩
  have TC_Tangle : Cls K A_Tangle := ⟨pg_Tangle, hd_Tangle, po_Tangle, sa_Tangle⟩
  have OW : Own (GX K (Ad.mk k_MOST_DEEDS k_MOST_ENDS k_MOST_AT_RIM t_WORDS A_RopeError A_BadTangle A_Misfit A_TooMany A_BadText A_Items A_Tangle) [(P0_, qLaw ++ "<lambda>")]) := ⟨(own_all (K := K) (ad := (Ad.mk k_MOST_DEEDS k_MOST_ENDS k_MOST_AT_RIM t_WORDS A_RopeError A_BadTangle A_Misfit A_TooMany A_BadText A_Items A_Tangle)) (tb := [(P0_, qLaw ++ "<lambda>")]) (P := fun C => Cls K ((GX K (Ad.mk k_MOST_DEEDS k_MOST_ENDS k_MOST_AT_RIM t_WORDS A_RopeError A_BadTangle A_Misfit A_TooMany A_BadText A_Items A_Tangle) [(P0_, qLaw ++ "<lambda>")]).A C)) TC_Tangle), (own_all (K := K) (ad := (Ad.mk k_MOST_DEEDS k_MOST_ENDS k_MOST_AT_RIM t_WORDS A_RopeError A_BadTangle A_Misfit A_TooMany A_BadText A_Items A_Tangle)) (tb := [(P0_, qLaw ++ "<lambda>")]) (P := fun C => PySem.W.findIn K (.ref ((GX K (Ad.mk k_MOST_DEEDS k_MOST_ENDS k_MOST_AT_RIM t_WORDS A_RopeError A_BadTangle A_Misfit A_TooMany A_BadText A_Items A_Tangle) [(P0_, qLaw ++ "<lambda>")]).A C)) "__class__" = some (some (.builtin "object.__class__"))) ha_Tangle), hn_, ht_, (own_all (K := K) (ad := (Ad.mk k_MOST_DEEDS k_MOST_ENDS k_MOST_AT_RIM t_WORDS A_RopeError A_BadTangle A_Misfit A_TooMany A_BadText A_Items A_Tangle)) (tb := [(P0_, qLaw ++ "<lambda>")]) (P := fun C => PySem.W.mroIn K ((GX K (Ad.mk k_MOST_DEEDS k_MOST_ENDS k_MOST_AT_RIM t_WORDS A_RopeError A_BadTangle A_Misfit A_TooMany A_BadText A_Items A_Tangle) [(P0_, qLaw ++ "<lambda>")]).A C) (.type "object") = some true) hm_Tangle), (own_all (K := K) (ad := (Ad.mk k_MOST_DEEDS k_MOST_ENDS k_MOST_AT_RIM t_WORDS A_RopeError A_BadTangle A_Misfit A_TooMany A_BadText A_Items A_Tangle)) (tb := [(P0_, qLaw ++ "<lambda>")]) (P := fun C => ∀ C' ∈ (GX K (Ad.mk k_MOST_DEEDS k_MOST_ENDS k_MOST_AT_RIM t_WORDS A_RopeError A_BadTangle A_Misfit A_TooMany A_BadText A_Items A_Tangle) [(P0_, qLaw ++ "<lambda>")]).own, PySem.W.kitOne K (.ref ((GX K (Ad.mk k_MOST_DEEDS k_MOST_ENDS k_MOST_AT_RIM t_WORDS A_RopeError A_BadTangle A_Misfit A_TooMany A_BadText A_Items A_Tangle) [(P0_, qLaw ++ "<lambda>")]).A C)) (.ref ((GX K (Ad.mk k_MOST_DEEDS k_MOST_ENDS k_MOST_AT_RIM t_WORDS A_RopeError A_BadTangle A_Misfit A_TooMany A_BadText A_Items A_Tangle) [(P0_, qLaw ++ "<lambda>")]).A C')) = some (decide (C = C'))) (own_all (K := K) (ad := (Ad.mk k_MOST_DEEDS k_MOST_ENDS k_MOST_AT_RIM t_WORDS A_RopeError A_BadTangle A_Misfit A_TooMany A_BadText A_Items A_Tangle)) (tb := [(P0_, qLaw ++ "<lambda>")]) (P := fun C' => PySem.W.kitOne K (.ref ((GX K (Ad.mk k_MOST_DEEDS k_MOST_ENDS k_MOST_AT_RIM t_WORDS A_RopeError A_BadTangle A_Misfit A_TooMany A_BadText A_Items A_Tangle) [(P0_, qLaw ++ "<lambda>")]).A "Tangle")) (.ref ((GX K (Ad.mk k_MOST_DEEDS k_MOST_ENDS k_MOST_AT_RIM t_WORDS A_RopeError A_BadTangle A_Misfit A_TooMany A_BadText A_Items A_Tangle) [(P0_, qLaw ++ "<lambda>")]).A C')) = some (decide (Str.ofString "Tangle" = C'))) oo_Tangle_Tangle)), (bty_all (P := fun T => ∀ C ∈ (GX K (Ad.mk k_MOST_DEEDS k_MOST_ENDS k_MOST_AT_RIM t_WORDS A_RopeError A_BadTangle A_Misfit A_TooMany A_BadText A_Items A_Tangle) [(P0_, qLaw ++ "<lambda>")]).own, PySem.W.kitOne K (.type T) (.ref ((GX K (Ad.mk k_MOST_DEEDS k_MOST_ENDS k_MOST_AT_RIM t_WORDS A_RopeError A_BadTangle A_Misfit A_TooMany A_BadText A_Items A_Tangle) [(P0_, qLaw ++ "<lambda>")]).A C)) = some false) (own_all (K := K) (ad := (Ad.mk k_MOST_DEEDS k_MOST_ENDS k_MOST_AT_RIM t_WORDS A_RopeError A_BadTangle A_Misfit A_TooMany A_BadText A_Items A_Tangle)) (tb := [(P0_, qLaw ++ "<lambda>")]) (P := fun C => PySem.W.kitOne K (.type "NoneType") (.ref ((GX K (Ad.mk k_MOST_DEEDS k_MOST_ENDS k_MOST_AT_RIM t_WORDS A_RopeError A_BadTangle A_Misfit A_TooMany A_BadText A_Items A_Tangle) [(P0_, qLaw ++ "<lambda>")]).A C)) = some false) bo_Tangle_NoneType) (own_all (K := K) (ad := (Ad.mk k_MOST_DEEDS k_MOST_ENDS k_MOST_AT_RIM t_WORDS A_RopeError A_BadTangle A_Misfit A_TooMany A_BadText A_Items A_Tangle)) (tb := [(P0_, qLaw ++ "<lambda>")]) (P := fun C => PySem.W.kitOne K (.type "bool") (.ref ((GX K (Ad.mk k_MOST_DEEDS k_MOST_ENDS k_MOST_AT_RIM t_WORDS A_RopeError A_BadTangle A_Misfit A_TooMany A_BadText A_Items A_Tangle) [(P0_, qLaw ++ "<lambda>")]).A C)) = some false) bo_Tangle_bool) (own_all (K := K) (ad := (Ad.mk k_MOST_DEEDS k_MOST_ENDS k_MOST_AT_RIM t_WORDS A_RopeError A_BadTangle A_Misfit A_TooMany A_BadText A_Items A_Tangle)) (tb := [(P0_, qLaw ++ "<lambda>")]) (P := fun C => PySem.W.kitOne K (.type "int") (.ref ((GX K (Ad.mk k_MOST_DEEDS k_MOST_ENDS k_MOST_AT_RIM t_WORDS A_RopeError A_BadTangle A_Misfit A_TooMany A_BadText A_Items A_Tangle) [(P0_, qLaw ++ "<lambda>")]).A C)) = some false) bo_Tangle_int) (own_all (K := K) (ad := (Ad.mk k_MOST_DEEDS k_MOST_ENDS k_MOST_AT_RIM t_WORDS A_RopeError A_BadTangle A_Misfit A_TooMany A_BadText A_Items A_Tangle)) (tb := [(P0_, qLaw ++ "<lambda>")]) (P := fun C => PySem.W.kitOne K (.type "str") (.ref ((GX K (Ad.mk k_MOST_DEEDS k_MOST_ENDS k_MOST_AT_RIM t_WORDS A_RopeError A_BadTangle A_Misfit A_TooMany A_BadText A_Items A_Tangle) [(P0_, qLaw ++ "<lambda>")]).A C)) = some false) bo_Tangle_str) (own_all (K := K) (ad := (Ad.mk k_MOST_DEEDS k_MOST_ENDS k_MOST_AT_RIM t_WORDS A_RopeError A_BadTangle A_Misfit A_TooMany A_BadText A_Items A_Tangle)) (tb := [(P0_, qLaw ++ "<lambda>")]) (P := fun C => PySem.W.kitOne K (.type "list") (.ref ((GX K (Ad.mk k_MOST_DEEDS k_MOST_ENDS k_MOST_AT_RIM t_WORDS A_RopeError A_BadTangle A_Misfit A_TooMany A_BadText A_Items A_Tangle) [(P0_, qLaw ++ "<lambda>")]).A C)) = some false) bo_Tangle_list) (own_all (K := K) (ad := (Ad.mk k_MOST_DEEDS k_MOST_ENDS k_MOST_AT_RIM t_WORDS A_RopeError A_BadTangle A_Misfit A_TooMany A_BadText A_Items A_Tangle)) (tb := [(P0_, qLaw ++ "<lambda>")]) (P := fun C => PySem.W.kitOne K (.type "tuple") (.ref ((GX K (Ad.mk k_MOST_DEEDS k_MOST_ENDS k_MOST_AT_RIM t_WORDS A_RopeError A_BadTangle A_Misfit A_TooMany A_BadText A_Items A_Tangle) [(P0_, qLaw ++ "<lambda>")]).A C)) = some false) bo_Tangle_tuple) (own_all (K := K) (ad := (Ad.mk k_MOST_DEEDS k_MOST_ENDS k_MOST_AT_RIM t_WORDS A_RopeError A_BadTangle A_Misfit A_TooMany A_BadText A_Items A_Tangle)) (tb := [(P0_, qLaw ++ "<lambda>")]) (P := fun C => PySem.W.kitOne K (.type "dict") (.ref ((GX K (Ad.mk k_MOST_DEEDS k_MOST_ENDS k_MOST_AT_RIM t_WORDS A_RopeError A_BadTangle A_Misfit A_TooMany A_BadText A_Items A_Tangle) [(P0_, qLaw ++ "<lambda>")]).A C)) = some false) bo_Tangle_dict)), (own_all (K := K) (ad := (Ad.mk k_MOST_DEEDS k_MOST_ENDS k_MOST_AT_RIM t_WORDS A_RopeError A_BadTangle A_Misfit A_TooMany A_BadText A_Items A_Tangle)) (tb := [(P0_, qLaw ++ "<lambda>")]) (P := fun C => ∀ T ∈ BTy, PySem.W.kitOne K (.ref ((GX K (Ad.mk k_MOST_DEEDS k_MOST_ENDS k_MOST_AT_RIM t_WORDS A_RopeError A_BadTangle A_Misfit A_TooMany A_BadText A_Items A_Tangle) [(P0_, qLaw ++ "<lambda>")]).A C)) (.type T) = some false) (bty_all (P := fun T => PySem.W.kitOne K (.ref A_Tangle) (.type T) = some false) ob_Tangle_NoneType ob_Tangle_bool ob_Tangle_int ob_Tangle_str ob_Tangle_list ob_Tangle_tuple ob_Tangle_dict))⟩
  have na_deeds : ∀ C ∈ (GX K (Ad.mk k_MOST_DEEDS k_MOST_ENDS k_MOST_AT_RIM t_WORDS A_RopeError A_BadTangle A_Misfit A_TooMany A_BadText A_Items A_Tangle) [(P0_, qLaw ++ "<lambda>")]).own, NoAttr K ((GX K (Ad.mk k_MOST_DEEDS k_MOST_ENDS k_MOST_AT_RIM t_WORDS A_RopeError A_BadTangle A_Misfit A_TooMany A_BadText A_Items A_Tangle) [(P0_, qLaw ++ "<lambda>")]).A C) "deeds" := (own_all (K := K) (ad := (Ad.mk k_MOST_DEEDS k_MOST_ENDS k_MOST_AT_RIM t_WORDS A_RopeError A_BadTangle A_Misfit A_TooMany A_BadText A_Items A_Tangle)) (tb := [(P0_, qLaw ++ "<lambda>")]) (P := fun C => NoAttr K ((GX K (Ad.mk k_MOST_DEEDS k_MOST_ENDS k_MOST_AT_RIM t_WORDS A_RopeError A_BadTangle A_Misfit A_TooMany A_BadText A_Items A_Tangle) [(P0_, qLaw ++ "<lambda>")]).A C) "deeds") na_Tangle_deeds)
  have na_ends : ∀ C ∈ (GX K (Ad.mk k_MOST_DEEDS k_MOST_ENDS k_MOST_AT_RIM t_WORDS A_RopeError A_BadTangle A_Misfit A_TooMany A_BadText A_Items A_Tangle) [(P0_, qLaw ++ "<lambda>")]).own, NoAttr K ((GX K (Ad.mk k_MOST_DEEDS k_MOST_ENDS k_MOST_AT_RIM t_WORDS A_RopeError A_BadTangle A_Misfit A_TooMany A_BadText A_Items A_Tangle) [(P0_, qLaw ++ "<lambda>")]).A C) "ends" := (own_all (K := K) (ad := (Ad.mk k_MOST_DEEDS k_MOST_ENDS k_MOST_AT_RIM t_WORDS A_RopeError A_BadTangle A_Misfit A_TooMany A_BadText A_Items A_Tangle)) (tb := [(P0_, qLaw ++ "<lambda>")]) (P := fun C => NoAttr K ((GX K (Ad.mk k_MOST_DEEDS k_MOST_ENDS k_MOST_AT_RIM t_WORDS A_RopeError A_BadTangle A_Misfit A_TooMany A_BadText A_Items A_Tangle) [(P0_, qLaw ++ "<lambda>")]).A C) "ends") na_Tangle_ends)
  have TE : ErrG (GX K (Ad.mk k_MOST_DEEDS k_MOST_ENDS k_MOST_AT_RIM t_WORDS A_RopeError A_BadTangle A_Misfit A_TooMany A_BadText A_Items A_Tangle) [(P0_, qLaw ++ "<lambda>")]) A_RopeError := ⟨(er_all (K := K) (ad := (Ad.mk k_MOST_DEEDS k_MOST_ENDS k_MOST_AT_RIM t_WORDS A_RopeError A_BadTangle A_Misfit A_TooMany A_BadText A_Items A_Tangle)) (tb := [(P0_, qLaw ++ "<lambda>")]) (P := fun C => ExcC K ((GX K (Ad.mk k_MOST_DEEDS k_MOST_ENDS k_MOST_AT_RIM t_WORDS A_RopeError A_BadTangle A_Misfit A_TooMany A_BadText A_Items A_Tangle) [(P0_, qLaw ++ "<lambda>")]).A C)) ec_BadTangle ec_Misfit ec_TooMany), (er_all (K := K) (ad := (Ad.mk k_MOST_DEEDS k_MOST_ENDS k_MOST_AT_RIM t_WORDS A_RopeError A_BadTangle A_Misfit A_TooMany A_BadText A_Items A_Tangle)) (tb := [(P0_, qLaw ++ "<lambda>")]) (P := fun C => XfC K ((GX K (Ad.mk k_MOST_DEEDS k_MOST_ENDS k_MOST_AT_RIM t_WORDS A_RopeError A_BadTangle A_Misfit A_TooMany A_BadText A_Items A_Tangle) [(P0_, qLaw ++ "<lambda>")]).A C)) xf_BadTangle xf_Misfit xf_TooMany), (er_all (K := K) (ad := (Ad.mk k_MOST_DEEDS k_MOST_ENDS k_MOST_AT_RIM t_WORDS A_RopeError A_BadTangle A_Misfit A_TooMany A_BadText A_Items A_Tangle)) (tb := [(P0_, qLaw ++ "<lambda>")]) (P := fun C => PySem.W.exmOne K (.ref ((GX K (Ad.mk k_MOST_DEEDS k_MOST_ENDS k_MOST_AT_RIM t_WORDS A_RopeError A_BadTangle A_Misfit A_TooMany A_BadText A_Items A_Tangle) [(P0_, qLaw ++ "<lambda>")]).A C)) (.ref A_RopeError) = some true) up_BadTangle up_Misfit up_TooMany), (et_all (K := K) (ad := (Ad.mk k_MOST_DEEDS k_MOST_ENDS k_MOST_AT_RIM t_WORDS A_RopeError A_BadTangle A_Misfit A_TooMany A_BadText A_Items A_Tangle)) (tb := [(P0_, qLaw ++ "<lambda>")]) (P := fun C => PySem.W.kitOne K (.type "NoneType") (.ref ((GX K (Ad.mk k_MOST_DEEDS k_MOST_ENDS k_MOST_AT_RIM t_WORDS A_RopeError A_BadTangle A_Misfit A_TooMany A_BadText A_Items A_Tangle) [(P0_, qLaw ++ "<lambda>")]).A C)) = some false) nn_Misfit nn_TooMany), (er_all (K := K) (ad := (Ad.mk k_MOST_DEEDS k_MOST_ENDS k_MOST_AT_RIM t_WORDS A_RopeError A_BadTangle A_Misfit A_TooMany A_BadText A_Items A_Tangle)) (tb := [(P0_, qLaw ++ "<lambda>")]) (P := fun C => ∀ C' ∈ (GX K (Ad.mk k_MOST_DEEDS k_MOST_ENDS k_MOST_AT_RIM t_WORDS A_RopeError A_BadTangle A_Misfit A_TooMany A_BadText A_Items A_Tangle) [(P0_, qLaw ++ "<lambda>")]).et, PySem.W.kitOne K (.ref ((GX K (Ad.mk k_MOST_DEEDS k_MOST_ENDS k_MOST_AT_RIM t_WORDS A_RopeError A_BadTangle A_Misfit A_TooMany A_BadText A_Items A_Tangle) [(P0_, qLaw ++ "<lambda>")]).A C)) (.ref ((GX K (Ad.mk k_MOST_DEEDS k_MOST_ENDS k_MOST_AT_RIM t_WORDS A_RopeError A_BadTangle A_Misfit A_TooMany A_BadText A_Items A_Tangle) [(P0_, qLaw ++ "<lambda>")]).A C')) = some (decide (C = C'))) (et_all (K := K) (ad := (Ad.mk k_MOST_DEEDS k_MOST_ENDS k_MOST_AT_RIM t_WORDS A_RopeError A_BadTangle A_Misfit A_TooMany A_BadText A_Items A_Tangle)) (tb := [(P0_, qLaw ++ "<lambda>")]) (P := fun C' => PySem.W.kitOne K (.ref ((GX K (Ad.mk k_MOST_DEEDS k_MOST_ENDS k_MOST_AT_RIM t_WORDS A_RopeError A_BadTangle A_Misfit A_TooMany A_BadText A_Items A_Tangle) [(P0_, qLaw ++ "<lambda>")]).A "BadTangle")) (.ref ((GX K (Ad.mk k_MOST_DEEDS k_MOST_ENDS k_MOST_AT_RIM t_WORDS A_RopeError A_BadTangle A_Misfit A_TooMany A_BadText A_Items A_Tangle) [(P0_, qLaw ++ "<lambda>")]).A C')) = some (decide (Str.ofString "BadTangle" = C'))) k_BadTangle_Misfit k_BadTangle_TooMany) (et_all (K := K) (ad := (Ad.mk k_MOST_DEEDS k_MOST_ENDS k_MOST_AT_RIM t_WORDS A_RopeError A_BadTangle A_Misfit A_TooMany A_BadText A_Items A_Tangle)) (tb := [(P0_, qLaw ++ "<lambda>")]) (P := fun C' => PySem.W.kitOne K (.ref ((GX K (Ad.mk k_MOST_DEEDS k_MOST_ENDS k_MOST_AT_RIM t_WORDS A_RopeError A_BadTangle A_Misfit A_TooMany A_BadText A_Items A_Tangle) [(P0_, qLaw ++ "<lambda>")]).A "Misfit")) (.ref ((GX K (Ad.mk k_MOST_DEEDS k_MOST_ENDS k_MOST_AT_RIM t_WORDS A_RopeError A_BadTangle A_Misfit A_TooMany A_BadText A_Items A_Tangle) [(P0_, qLaw ++ "<lambda>")]).A C')) = some (decide (Str.ofString "Misfit" = C'))) k_Misfit_Misfit k_Misfit_TooMany) (et_all (K := K) (ad := (Ad.mk k_MOST_DEEDS k_MOST_ENDS k_MOST_AT_RIM t_WORDS A_RopeError A_BadTangle A_Misfit A_TooMany A_BadText A_Items A_Tangle)) (tb := [(P0_, qLaw ++ "<lambda>")]) (P := fun C' => PySem.W.kitOne K (.ref ((GX K (Ad.mk k_MOST_DEEDS k_MOST_ENDS k_MOST_AT_RIM t_WORDS A_RopeError A_BadTangle A_Misfit A_TooMany A_BadText A_Items A_Tangle) [(P0_, qLaw ++ "<lambda>")]).A "TooMany")) (.ref ((GX K (Ad.mk k_MOST_DEEDS k_MOST_ENDS k_MOST_AT_RIM t_WORDS A_RopeError A_BadTangle A_Misfit A_TooMany A_BadText A_Items A_Tangle) [(P0_, qLaw ++ "<lambda>")]).A C')) = some (decide (Str.ofString "TooMany" = C'))) k_TooMany_Misfit k_TooMany_TooMany))⟩
  have ne_most : ∀ C ∈ (GX K (Ad.mk k_MOST_DEEDS k_MOST_ENDS k_MOST_AT_RIM t_WORDS A_RopeError A_BadTangle A_Misfit A_TooMany A_BadText A_Items A_Tangle) [(P0_, qLaw ++ "<lambda>")]).er, PySem.W.findIn K (.ref ((GX K (Ad.mk k_MOST_DEEDS k_MOST_ENDS k_MOST_AT_RIM t_WORDS A_RopeError A_BadTangle A_Misfit A_TooMany A_BadText A_Items A_Tangle) [(P0_, qLaw ++ "<lambda>")]).A C)) "most" = some none := (er_all (K := K) (ad := (Ad.mk k_MOST_DEEDS k_MOST_ENDS k_MOST_AT_RIM t_WORDS A_RopeError A_BadTangle A_Misfit A_TooMany A_BadText A_Items A_Tangle)) (tb := [(P0_, qLaw ++ "<lambda>")]) (P := fun C => PySem.W.findIn K (.ref ((GX K (Ad.mk k_MOST_DEEDS k_MOST_ENDS k_MOST_AT_RIM t_WORDS A_RopeError A_BadTangle A_Misfit A_TooMany A_BadText A_Items A_Tangle) [(P0_, qLaw ++ "<lambda>")]).A C)) "most" = some none) no_BadTangle_most no_Misfit_most no_TooMany_most)
  have ne_part : ∀ C ∈ (GX K (Ad.mk k_MOST_DEEDS k_MOST_ENDS k_MOST_AT_RIM t_WORDS A_RopeError A_BadTangle A_Misfit A_TooMany A_BadText A_Items A_Tangle) [(P0_, qLaw ++ "<lambda>")]).er, PySem.W.findIn K (.ref ((GX K (Ad.mk k_MOST_DEEDS k_MOST_ENDS k_MOST_AT_RIM t_WORDS A_RopeError A_BadTangle A_Misfit A_TooMany A_BadText A_Items A_Tangle) [(P0_, qLaw ++ "<lambda>")]).A C)) "part" = some none := (er_all (K := K) (ad := (Ad.mk k_MOST_DEEDS k_MOST_ENDS k_MOST_AT_RIM t_WORDS A_RopeError A_BadTangle A_Misfit A_TooMany A_BadText A_Items A_Tangle)) (tb := [(P0_, qLaw ++ "<lambda>")]) (P := fun C => PySem.W.findIn K (.ref ((GX K (Ad.mk k_MOST_DEEDS k_MOST_ENDS k_MOST_AT_RIM t_WORDS A_RopeError A_BadTangle A_Misfit A_TooMany A_BadText A_Items A_Tangle) [(P0_, qLaw ++ "<lambda>")]).A C)) "part" = some none) no_BadTangle_part no_Misfit_part no_TooMany_part)
  have ne_what : ∀ C ∈ (GX K (Ad.mk k_MOST_DEEDS k_MOST_ENDS k_MOST_AT_RIM t_WORDS A_RopeError A_BadTangle A_Misfit A_TooMany A_BadText A_Items A_Tangle) [(P0_, qLaw ++ "<lambda>")]).er, PySem.W.findIn K (.ref ((GX K (Ad.mk k_MOST_DEEDS k_MOST_ENDS k_MOST_AT_RIM t_WORDS A_RopeError A_BadTangle A_Misfit A_TooMany A_BadText A_Items A_Tangle) [(P0_, qLaw ++ "<lambda>")]).A C)) "what" = some none := (er_all (K := K) (ad := (Ad.mk k_MOST_DEEDS k_MOST_ENDS k_MOST_AT_RIM t_WORDS A_RopeError A_BadTangle A_Misfit A_TooMany A_BadText A_Items A_Tangle)) (tb := [(P0_, qLaw ++ "<lambda>")]) (P := fun C => PySem.W.findIn K (.ref ((GX K (Ad.mk k_MOST_DEEDS k_MOST_ENDS k_MOST_AT_RIM t_WORDS A_RopeError A_BadTangle A_Misfit A_TooMany A_BadText A_Items A_Tangle) [(P0_, qLaw ++ "<lambda>")]).A C)) "what" = some none) no_BadTangle_what no_Misfit_what no_TooMany_what)
  have cIsInteger : CalX l.prog w K mg base "is_integer" 1 f0 _ ["value"] (spP (GX K (Ad.mk k_MOST_DEEDS k_MOST_ENDS k_MOST_AT_RIM t_WORDS A_RopeError A_BadTangle A_Misfit A_TooMany A_BadText A_Items A_Tangle) [(P0_, qLaw ++ "<lambda>")]) p_is_integer) := ⟨ok_IsInteger F0 T  OW , PySem.W.mg_of X G a0, k0, b0⟩
  have cFittingGaps : CalX l.prog w K mg base "_fitting_gaps" 1 f4 _ ["word", "many"] (spP (GX K (Ad.mk k_MOST_DEEDS k_MOST_ENDS k_MOST_AT_RIM t_WORDS A_RopeError A_BadTangle A_Misfit A_TooMany A_BadText A_Items A_Tangle) [(P0_, qLaw ++ "<lambda>")]) p__fitting_gaps) := ⟨ok_FittingGaps F4 T   , PySem.W.mg_of X G a4, k4, b4⟩
  have cEndsBehind : CalX l.prog w K mg base "ends_behind" 1 f5 _ ["word", "many"] (spP (GX K (Ad.mk k_MOST_DEEDS k_MOST_ENDS k_MOST_AT_RIM t_WORDS A_RopeError A_BadTangle A_Misfit A_TooMany A_BadText A_Items A_Tangle) [(P0_, qLaw ++ "<lambda>")]) p_ends_behind) := ⟨ok_EndsBehind F5 T   , PySem.W.mg_of X G a5, k5, b5⟩
  have eq_Tangle : EqX l.prog w K mg base 1 A_Tangle f8 _ (spP (GX K (Ad.mk k_MOST_DEEDS k_MOST_ENDS k_MOST_AT_RIM t_WORDS A_RopeError A_BadTangle A_Misfit A_TooMany A_BadText A_Items A_Tangle) [(P0_, qLaw ++ "<lambda>")]) p_Tangle___eq__) := ⟨ok_TangleEq F8 T  OW na_ends na_deeds , b8, a8, fn8, ne_Tangle, hm_Tangle⟩
  have cTakenBack : CalX l.prog w K mg base "_taken_back" 1 f10 _ ["word", "gap", "many"] (spP (GX K (Ad.mk k_MOST_DEEDS k_MOST_ENDS k_MOST_AT_RIM t_WORDS A_RopeError A_BadTangle A_Misfit A_TooMany A_BadText A_Items A_Tangle) [(P0_, qLaw ++ "<lambda>")]) p__taken_back) := ⟨ok_TakenBack F10 T   , PySem.W.mg_of X G a10, k10, b10⟩
  have cLawPier : Cal l.prog w K mg base "_law_pier" 1 f15 _ ["script"] (spBox K) := ⟨ok_LawPier F15 T hM  , PySem.W.mg_of X G a15, k15, b15⟩
  have cLawMoor : CalX l.prog w K mg base "_law_moor" 1 f16 _ ["pier", "many"] (spB (GX K (Ad.mk k_MOST_DEEDS k_MOST_ENDS k_MOST_AT_RIM t_WORDS A_RopeError A_BadTangle A_Misfit A_TooMany A_BadText A_Items A_Tangle) [(P0_, qLaw ++ "<lambda>")]) p__law_moor) := ⟨ok_LawMoor F16 T   , PySem.W.mg_of X G a16, k16, b16⟩
  have cLawImage : Cal l.prog w K mg base "_law_image" 1 f19 _ ["ends", "deeds"] (spP (GX K (Ad.mk k_MOST_DEEDS k_MOST_ENDS k_MOST_AT_RIM t_WORDS A_RopeError A_BadTangle A_Misfit A_TooMany A_BadText A_Items A_Tangle) [(P0_, qLaw ++ "<lambda>")]) p__law_image) := ⟨ok_LawImage F19 T hM  , PySem.W.mg_of X G a19, k19, b19⟩
  have cIsWithin : CalX l.prog w K mg base "is_within" 2 f1 _ ["value", "least", "most"] (spP (GX K (Ad.mk k_MOST_DEEDS k_MOST_ENDS k_MOST_AT_RIM t_WORDS A_RopeError A_BadTangle A_Misfit A_TooMany A_BadText A_Items A_Tangle) [(P0_, qLaw ++ "<lambda>")]) p_is_within) := ⟨ok_IsWithin F1 T   cIsInteger, PySem.W.mg_of X G a1, k1, b1⟩
  have cLawPick : CalX l.prog w K mg base "_law_pick" 2 f17 _ ["pier", "some"] (spB (GX K (Ad.mk k_MOST_DEEDS k_MOST_ENDS k_MOST_AT_RIM t_WORDS A_RopeError A_BadTangle A_Misfit A_TooMany A_BadText A_Items A_Tangle) [(P0_, qLaw ++ "<lambda>")]) p__law_pick) := ⟨ok_LawPick F17 T   cLawMoor, PySem.W.mg_of X G a17, k17, b17⟩
  have cIsDeed : CalX l.prog w K mg base "_is_deed" 3 f2 _ ["value"] (spP (GX K (Ad.mk k_MOST_DEEDS k_MOST_ENDS k_MOST_AT_RIM t_WORDS A_RopeError A_BadTangle A_Misfit A_TooMany A_BadText A_Items A_Tangle) [(P0_, qLaw ++ "<lambda>")]) p__is_deed) := ⟨ok_IsDeed F2 T  OW cIsWithin, PySem.W.mg_of X G a2, k2, b2⟩
  have cDemandFitting : CalX l.prog w K mg base "demand_fitting" 3 f6 _ ["deeds", "ends", "inner"] (spP (GX K (Ad.mk k_MOST_DEEDS k_MOST_ENDS k_MOST_AT_RIM t_WORDS A_RopeError A_BadTangle A_Misfit A_TooMany A_BadText A_Items A_Tangle) [(P0_, qLaw ++ "<lambda>")]) p_demand_fitting) := ⟨ok_DemandFitting F6 T   cEndsBehind cFittingGaps eMisfit eTooMany, PySem.W.mg_of X G a6, k6, b6⟩
  have cDemandTangle : CalX l.prog w K mg base "demand_tangle" 3 f9 _ ["value", "part"] (spP (GX K (Ad.mk k_MOST_DEEDS k_MOST_ENDS k_MOST_AT_RIM t_WORDS A_RopeError A_BadTangle A_Misfit A_TooMany A_BadText A_Items A_Tangle) [(P0_, qLaw ++ "<lambda>")]) p_demand_tangle) := ⟨ok_DemandTangle F9 T  OW eBadTangle, PySem.W.mg_of X G a9, k9, b9⟩
  have cDemandOneRim : CalX l.prog w K mg base "_demand_one_rim" 3 f13 _ ["one", "other"] (spP (GX K (Ad.mk k_MOST_DEEDS k_MOST_ENDS k_MOST_AT_RIM t_WORDS A_RopeError A_BadTangle A_Misfit A_TooMany A_BadText A_Items A_Tangle) [(P0_, qLaw ++ "<lambda>")]) p__demand_one_rim) := ⟨ok_DemandOneRim F13 T  OW na_ends eMisfit, PySem.W.mg_of X G a13, k13, b13⟩
  have cLawDeeds : CalX l.prog w K mg base "_law_deeds" 3 f18 _ ["pier", "ends", "many", "most"] (spB (GX K (Ad.mk k_MOST_DEEDS k_MOST_ENDS k_MOST_AT_RIM t_WORDS A_RopeError A_BadTangle A_Misfit A_TooMany A_BadText A_Items A_Tangle) [(P0_, qLaw ++ "<lambda>")]) p__law_deeds) := ⟨ok_LawDeeds F18 T   cLawMoor cLawPick, PySem.W.mg_of X G a18, k18, b18⟩
  have cAreDeeds : CalX l.prog w K mg base "are_deeds" 4 f3 _ ["value"] (spP (GX K (Ad.mk k_MOST_DEEDS k_MOST_ENDS k_MOST_AT_RIM t_WORDS A_RopeError A_BadTangle A_Misfit A_TooMany A_BadText A_Items A_Tangle) [(P0_, qLaw ++ "<lambda>")]) p_are_deeds) := ⟨ok_AreDeeds F3 T  OW cIsDeed, PySem.W.mg_of X G a3, k3, b3⟩
  have cLeadIn : CalX l.prog w K mg base "lead_in" 4 f11 _ ["tangle"] (spP (GX K (Ad.mk k_MOST_DEEDS k_MOST_ENDS k_MOST_AT_RIM t_WORDS A_RopeError A_BadTangle A_Misfit A_TooMany A_BadText A_Items A_Tangle) [(P0_, qLaw ++ "<lambda>")]) p_lead_in) := ⟨ok_LeadIn F11 T  OW na_ends na_deeds cDemandTangle cEndsBehind cTakenBack, PySem.W.mg_of X G a11, k11, b11⟩
  have cDemandTangles : CalX l.prog w K mg base "_demand_tangles" 4 f12 _ ["one", "other"] (spP (GX K (Ad.mk k_MOST_DEEDS k_MOST_ENDS k_MOST_AT_RIM t_WORDS A_RopeError A_BadTangle A_Misfit A_TooMany A_BadText A_Items A_Tangle) [(P0_, qLaw ++ "<lambda>")]) p__demand_tangles) := ⟨ok_DemandTangles F12 T   cDemandTangle, PySem.W.mg_of X G a12, k12, b12⟩
  have cTangle : MakX l.prog w K mg base "Tangle" 5 A_Tangle f7 _ ["self", "ends", "deeds"] (spI (GX K (Ad.mk k_MOST_DEEDS k_MOST_ENDS k_MOST_AT_RIM t_WORDS A_RopeError A_BadTangle A_Misfit A_TooMany A_BadText A_Items A_Tangle) [(P0_, qLaw ++ "<lambda>")]) "Tangle" p_Tangle___init__) := ⟨⟨mk_Tangle, a7, fn7, kp_Tangle⟩, ok_TangleInit F7 T  OW na_ends na_deeds cDemandFitting cAreDeeds cIsWithin eBadTangle, PySem.W.mg_of X G g_Tangle, b7⟩
  have cClosed : CalX l.prog w K mg base "closed" 7 f14 _ ["one", "other"] (spP (GX K (Ad.mk k_MOST_DEEDS k_MOST_ENDS k_MOST_AT_RIM t_WORDS A_RopeError A_BadTangle A_Misfit A_TooMany A_BadText A_Items A_Tangle) [(P0_, qLaw ++ "<lambda>")]) p_closed) := ⟨ok_Closed F14 T  OW na_deeds cDemandTangles cDemandOneRim cTangle cLeadIn eTooMany, PySem.W.mg_of X G a14, k14, b14⟩
  have cLawClosedRight : Cal l.prog w K mg base "_law_closed_right" 8 f20 _ ["ends", "mine", "its"] (spP (GX K (Ad.mk k_MOST_DEEDS k_MOST_ENDS k_MOST_AT_RIM t_WORDS A_RopeError A_BadTangle A_Misfit A_TooMany A_BadText A_Items A_Tangle) [(P0_, qLaw ++ "<lambda>")]) p__law_closed_right) := ⟨ok_LawClosedRight F20 T hM OW na_ends na_deeds eq_Tangle cClosed kClosed_other_one cTangle cLawImage cLeadIn kLeadIn_tangle, PySem.W.mg_of X G a20, k20, b20⟩
  exact ok_Law hH TE ne_most ne_part ne_what TB_0 mem_0 one_0 F22 T hM OW na_deeds cLawPier cLawMoor cTangle cLawDeeds cLawPick cLawClosedRight cClosed good
theorem walk {l : PySem.W.OpenLaw} {q : Program} {loose : List Str} {XP : (Str → Option Value) → Heap → Prop} {YP : World → Heap → Prop} {d : DefRec} {K : Params → PySem.W.Frag} {cc0 P0_ : Addr} (none : importsNone q = true) (hn : l.most = some 63) (hdf : d.params.defaults = [])
    (hY : ∀ (w : World) (h : Heap), YP w h → (K w.params).In h) (hT0 : ∀ (w : World) (h : Heap), YP w h → h.get? P0_ = some (PySem.W.tabObj #[])) (hC0 : ∀ w : World, PySem.W.codeHdIn (K w.params) cc0 P0_ = true) (nT0 : ∀ w : World, (K w.params).lookup P0_ = .none)
    (F : ∀ (w : World) (mg : Str → Option Value) (fa : Addr) (h : Heap), (K w.params).In h → h.Ns mainGlobals mg → mg d.name = some (.ref fa) →
      ∃ fd : FuncData, (∀ (t : Shared) (u : Value), BindsTo t fd ⟨[u], []⟩ [("script", u)]) ∧ ∀ base : Heap, (K w.params).In base → base.Ns mainGlobals mg → HasMods base → (∀ p ∈ [(cc0, P0_)], TabB base mg p.1 p.2) → FnG l.prog w (K w.params) mg base 15 fa fd ["script"] ((spLawP [(P0_, qLaw ++ "<lambda>")]) (K w.params))) :
    PySem.W.WalkO q loose XP YP l.row.toRowW d [] (fun f vs => PySem.call f vs) :=
  Rp.walk_GT (n := 63) (k := 15) (x := "script") (cs := [(cc0, P0_)]) (sp := (spLawP [(P0_, qLaw ++ "<lambda>")])) none hn (by decide) hdf ⟨rfl, by decide, by decide⟩ hY
    (fun w h y p m => by
      simp only [List.mem_cons, List.not_mem_nil, or_false] at m
      rcases m with rfl
      · exact hT0 w h y)
    (fun w h y p m => by
      simp only [List.mem_cons, List.not_mem_nil, or_false] at m
      rcases m with rfl
      · exact PySem.W.codeHd_of_K (hY w h y) (hC0 w))
    (fun w p m => by
      simp only [List.mem_cons, List.not_mem_nil, or_false] at m
      rcases m with rfl
      · exact nT0 w) F
    (fun _ H a ns _ ht hS => ⟨a, ns, rfl, hS, fun p m => by
      simp only [List.mem_cons, List.not_mem_nil, or_false] at m
      rcases m with rfl
      · exact ⟨#[], ht (cc0, P0_) (by simp), trivial, fun pos cv hc => by cases hc⟩, fun _ => rfl⟩)
end K65
open PySem PySem.W PyProof.Rows in
set_option maxRecDepth 100000 in
set_option maxHeartbeats 0 in
theorem PySem.Challenge.cw_ropesays_k65_images_and_closed_tangles_holds : PySem.Challenge.rw_ropesays_k65_images_and_closed_tangles.Holds := by
  w_on; o_law; k_head; (case hw => w_witness2)
  k_fill
  refine' K65.walk (l := PySem.Challenge.rw_ropesays_k65_images_and_closed_tangles) (cc0 := ?cc0) (P0_ := 380) (by decide +kernel) rfl rfl (fun w h Y => PySem.W.km_in_of Y) (fun w h Y => PySem.W.km_tabs_of Y _ (by k_mem)) ?hC0 (fun w => by kernel_rfl) ?F
  case F =>
    intro w mg fa h KX G hmg
    refine' K65.all_mk  KX G hmg ?g_BadTangle ?g_Misfit ?g_TooMany ?g_RopeError ?g_BadText ?g_Items ?g_Tangle ?mk_Tangle ?kp_Tangle ?pg_Tangle ?hd_Tangle ?po_Tangle ?sa_Tangle ?na_Tangle_deeds ?na_Tangle_ends ?ha_Tangle ?hm_Tangle ?oo_Tangle_Tangle ?bo_Tangle_NoneType ?ob_Tangle_NoneType ?bo_Tangle_bool ?ob_Tangle_bool ?bo_Tangle_int ?ob_Tangle_int ?bo_Tangle_str ?ob_Tangle_str ?bo_Tangle_list ?ob_Tangle_list ?bo_Tangle_tuple ?ob_Tangle_tuple ?bo_Tangle_dict ?ob_Tangle_dict ?ne_Tangle ?a0 ?l0 ?c0 ?k0 ?a1 ?l1 ?c1 ?k1 ?a2 ?l2 ?c2 ?k2 ?a3 ?l3 ?c3 ?k3 ?a4 ?l4 ?c4 ?k4 ?a5 ?l5 ?c5 ?k5 ?a6 ?l6 ?c6 ?k6 ?a7 ?l7 ?c7 ?k7 ?fn7 ?a8 ?l8 ?c8 ?k8 ?fn8 ?a9 ?l9 ?c9 ?k9 ?a10 ?l10 ?c10 ?k10 ?a11 ?l11 ?c11 ?k11 ?a12 ?l12 ?c12 ?k12 ?a13 ?l13 ?c13 ?k13 ?a14 ?l14 ?c14 ?k14 ?a15 ?l15 ?c15 ?k15 ?a16 ?l16 ?c16 ?k16 ?a17 ?l17 ?c17 ?k17 ?a18 ?l18 ?c18 ?k18 ?a19 ?l19 ?c19 ?k19 ?a20 ?l20 ?c20 ?k20 ?a21 ?l21 ?c21 ?k21 ?a22 ?l22 ?c22 ?k22 ?z_abs ?z_all ?z_bool ?z_int ?z_isinstance ?z_len ?z_list ?z_max ?z_range ?z_repr ?z_str ?z_tuple ?q_MOST_DEEDS ?q_MOST_ENDS ?q_MOST_AT_RIM ?q_WORDS ?lq_WORDS ?o_BadTangle ?r_BadTangle ?sa_BadTangle ?ex_BadTangle ?ty_BadTangle ?kc_BadTangle ?no_BadTangle_most ?no_BadTangle_part ?no_BadTangle_what ?ga_BadTangle ?gg_BadTangle ?hd_BadTangle ?ha_BadTangle ?hm_BadTangle ?in_BadTangle ?it_BadTangle ?il_BadTangle ?ic_BadTangle ?ik_BadTangle ?up_BadTangle ?o_Misfit ?r_Misfit ?sa_Misfit ?ex_Misfit ?ty_Misfit ?kc_Misfit ?no_Misfit_most ?no_Misfit_part ?no_Misfit_what ?ga_Misfit ?gg_Misfit ?hd_Misfit ?ha_Misfit ?hm_Misfit ?in_Misfit ?it_Misfit ?il_Misfit ?ic_Misfit ?ik_Misfit ?up_Misfit ?o_TooMany ?r_TooMany ?sa_TooMany ?ex_TooMany ?ty_TooMany ?kc_TooMany ?no_TooMany_most ?no_TooMany_part ?no_TooMany_what ?ga_TooMany ?gg_TooMany ?hd_TooMany ?ha_TooMany ?hm_TooMany ?in_TooMany ?it_TooMany ?il_TooMany ?ic_TooMany ?ik_TooMany ?up_TooMany ?nn_BadTangle ?nn_Misfit ?nn_TooMany ?k_BadTangle_BadTangle ?k_BadTangle_Misfit ?k_BadTangle_TooMany ?k_Misfit_BadTangle ?k_Misfit_Misfit ?k_Misfit_TooMany ?k_TooMany_BadTangle ?k_TooMany_Misfit ?k_TooMany_TooMany ?hn_ ?ht_
    (case g_BadTangle => k_is)
    (case g_Misfit => k_is)
    (case g_TooMany => k_is)
    (case g_RopeError => k_is)
    (case g_BadText => k_is)
    (case g_Items => k_is)
    (case g_Tangle => k_is)
    (case mk_Tangle => first | k_is | kernel_rfl)
    (case kp_Tangle => first | k_is | kernel_rfl)
    (case pg_Tangle => first | k_is | kernel_rfl)
    (case hd_Tangle => first | k_is | kernel_rfl)
    (case po_Tangle => first | k_is | kernel_rfl)
    (case sa_Tangle => first | k_is | kernel_rfl)
    (case na_Tangle_deeds => first | k_is | kernel_rfl)
    (case na_Tangle_ends => first | k_is | kernel_rfl)
    (case ha_Tangle => first | k_is | kernel_rfl)
    (case hm_Tangle => first | k_is | kernel_rfl)
    (case oo_Tangle_Tangle => kernel_rfl)
    (case bo_Tangle_NoneType => kernel_rfl)
    (case ob_Tangle_NoneType => kernel_rfl)
    (case bo_Tangle_bool => kernel_rfl)
    (case ob_Tangle_bool => kernel_rfl)
    (case bo_Tangle_int => kernel_rfl)
    (case ob_Tangle_int => kernel_rfl)
    (case bo_Tangle_str => kernel_rfl)
    (case ob_Tangle_str => kernel_rfl)
    (case bo_Tangle_list => kernel_rfl)
    (case ob_Tangle_list => kernel_rfl)
    (case bo_Tangle_tuple => kernel_rfl)
    (case ob_Tangle_tuple => kernel_rfl)
    (case bo_Tangle_dict => kernel_rfl)
    (case ob_Tangle_dict => kernel_rfl)
    (case ne_Tangle => first | k_is | kernel_rfl)
    (case a0 => k_is)
    (case l0 => k_is)
    (case c0 => k_is)
    (case k0 => k_is)
    (case a1 => k_is)
    (case l1 => k_is)
    (case c1 => k_is)
    (case k1 => k_is)
    (case a2 => k_is)
    (case l2 => k_is)
    (case c2 => k_is)
    (case k2 => k_is)
    (case a3 => k_is)
    (case l3 => k_is)
    (case c3 => k_is)
    (case k3 => k_is)
    (case a4 => k_is)
    (case l4 => k_is)
    (case c4 => k_is)
    (case k4 => k_is)
    (case a5 => k_is)
    (case l5 => k_is)
    (case c5 => k_is)
    (case k5 => k_is)
    (case a6 => k_is)
    (case l6 => k_is)
    (case c6 => k_is)
    (case k6 => k_is)
    (case a7 => k_is)
    (case l7 => k_is)
    (case c7 => k_is)
    (case k7 => k_is)
    (case fn7 => first | k_is | kernel_rfl)
    (case a8 => k_is)
    (case l8 => k_is)
    (case c8 => k_is)
    (case k8 => k_is)
    (case fn8 => first | k_is | kernel_rfl)
    (case a9 => k_is)
    (case l9 => k_is)
    (case c9 => k_is)
    (case k9 => k_is)
    (case a10 => k_is)
    (case l10 => k_is)
    (case c10 => k_is)
    (case k10 => k_is)
    (case a11 => k_is)
    (case l11 => k_is)
    (case c11 => k_is)
    (case k11 => k_is)
    (case a12 => k_is)
    (case l12 => k_is)
    (case c12 => k_is)
    (case k12 => k_is)
    (case a13 => k_is)
    (case l13 => k_is)
    (case c13 => k_is)
    (case k13 => k_is)
    (case a14 => k_is)
    (case l14 => k_is)
    (case c14 => k_is)
    (case k14 => k_is)
    (case a15 => k_is)
    (case l15 => k_is)
    (case c15 => k_is)
    (case k15 => k_is)
    (case a16 => k_is)
    (case l16 => k_is)
    (case c16 => k_is)
    (case k16 => k_is)
    (case a17 => k_is)
    (case l17 => k_is)
    (case c17 => k_is)
    (case k17 => k_is)
    (case a18 => k_is)
    (case l18 => k_is)
    (case c18 => k_is)
    (case k18 => k_is)
    (case a19 => k_is)
    (case l19 => k_is)
    (case c19 => k_is)
    (case k19 => k_is)
    (case a20 => k_is)
    (case l20 => k_is)
    (case c20 => k_is)
    (case k20 => k_is)
    (case a21 => k_is)
    (case l21 => k_is)
    (case c21 => k_is)
    (case k21 => k_is)
    (case a22 => k_is)
    (case l22 => k_is)
    (case c22 => k_is)
    (case k22 => k_is)
    (case z_abs => k_is)
    (case z_all => k_is)
    (case z_bool => k_is)
    (case z_int => k_is)
    (case z_isinstance => k_is)
    (case z_len => k_is)
    (case z_list => k_is)
    (case z_max => k_is)
    (case z_range => k_is)
    (case z_repr => k_is)
    (case z_str => k_is)
    (case z_tuple => k_is)
    (case q_MOST_DEEDS => k_is)
    (case q_MOST_ENDS => k_is)
    (case q_MOST_AT_RIM => k_is)
    (case q_WORDS => k_is)
    (case lq_WORDS => k_is)
    (case o_BadTangle => k_is)
    (case r_BadTangle => kernel_rfl)
    (case sa_BadTangle => k_is)
    (case ex_BadTangle => k_is)
    (case ty_BadTangle => k_is)
    (case kc_BadTangle => k_is)
    (case no_BadTangle_most => k_is)
    (case no_BadTangle_part => k_is)
    (case no_BadTangle_what => k_is)
    (case ga_BadTangle => k_is)
    (case gg_BadTangle => k_is)
    (case hd_BadTangle => k_is)
    (case ha_BadTangle => k_is)
    (case hm_BadTangle => k_is)
    (case in_BadTangle => k_is)
    (case it_BadTangle => k_is)
    (case il_BadTangle => k_is)
    (case ic_BadTangle => k_is)
    (case ik_BadTangle => k_is)
    (case up_BadTangle => kernel_rfl)
    (case o_Misfit => k_is)
    (case r_Misfit => kernel_rfl)
    (case sa_Misfit => k_is)
    (case ex_Misfit => k_is)
    (case ty_Misfit => k_is)
    (case kc_Misfit => k_is)
    (case no_Misfit_most => k_is)
    (case no_Misfit_part => k_is)
    (case no_Misfit_what => k_is)
    (case ga_Misfit => k_is)
    (case gg_Misfit => k_is)
    (case hd_Misfit => k_is)
    (case ha_Misfit => k_is)
    (case hm_Misfit => k_is)
    (case in_Misfit => k_is)
    (case it_Misfit => k_is)
    (case il_Misfit => k_is)
    (case ic_Misfit => k_is)
    (case ik_Misfit => k_is)
    (case up_Misfit => kernel_rfl)
    (case o_TooMany => k_is)
    (case r_TooMany => kernel_rfl)
    (case sa_TooMany => k_is)
    (case ex_TooMany => k_is)
    (case ty_TooMany => k_is)
    (case kc_TooMany => k_is)
    (case no_TooMany_most => k_is)
    (case no_TooMany_part => k_is)
    (case no_TooMany_what => k_is)
    (case ga_TooMany => k_is)
    (case gg_TooMany => k_is)
    (case hd_TooMany => k_is)
    (case ha_TooMany => k_is)
    (case hm_TooMany => k_is)
    (case in_TooMany => k_is)
    (case it_TooMany => k_is)
    (case il_TooMany => k_is)
    (case ic_TooMany => k_is)
    (case ik_TooMany => k_is)
    (case up_TooMany => kernel_rfl)
    (case nn_BadTangle => kernel_rfl)
    (case nn_Misfit => kernel_rfl)
    (case nn_TooMany => kernel_rfl)
    (case k_BadTangle_BadTangle => kernel_rfl)
    (case k_BadTangle_Misfit => kernel_rfl)
    (case k_BadTangle_TooMany => kernel_rfl)
    (case k_Misfit_BadTangle => kernel_rfl)
    (case k_Misfit_Misfit => kernel_rfl)
    (case k_Misfit_TooMany => kernel_rfl)
    (case k_TooMany_BadTangle => kernel_rfl)
    (case k_TooMany_Misfit => kernel_rfl)
    (case k_TooMany_TooMany => kernel_rfl)
    (case hn_ => k_is)
    (case ht_ => k_is)
  case hC0 => intro w; kernel_rfl
